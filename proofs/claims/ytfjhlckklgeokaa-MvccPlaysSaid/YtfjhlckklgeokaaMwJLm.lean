/- MvccPlays. Conditions: none. -/
import Derived.Test.YtfjhlckklgeokaaMwILm
namespace Go.Proofs.Ytfjhlckklgeokaa
open Go.RowKit Go.PlainAid
set_option linter.unusedVariables false
set_option linter.unusedSimpArgs false

set_option maxRecDepth 100000 in
set_option maxHeartbeats 6400000 in
theorem mvccPlays_law (v : Value) (l : List MActT) (w : World) (hs : SliceOf mactE 6 w v l) (hok : ∀ z ∈ l, MActOk w z) :
    Calls Try.prog 3 #[v] w fun e w' => e = .returned (.bool true) ∧ Below w.heap.size w w' := by
 have hB0 := Below.refl w.heap.size w
 have hl_hs := sl_len hs
 by_cases hfew : Few l 40
 · skip
   refine co_enter (n := 101) Try.func3 rfl rfl rfl [(0, v)] rfl (fun a h0 => ?_)
   refine co_seq ?_
   refine co_reg ?_
   refine pk0 (v := .bool false) h0 rfl fun a1 h1 => ?_; clear h0
   refine pl_nil ?_
   refine co_then ?_
   refine co_seq ?_
   refine co_seq ?_
   refine co_reg ?_
   refine pk0 (v := v) h1 rfl fun a2 h2 => ?_; clear h1
   refine pw h2 rfl (op_call (args := #[v]) (R := fun res xw => res = .bool (decide (Few l 40)) ∧ Below w.heap.size w xw) rfl rfl rfl (by kernel_rfl) (by kernel_rfl) (Try.call8 _ _) (few16_any v l w (hs.below hB0) (fun z hz => (hok z hz).below hB0)) (by rintro e x ⟨rfl, h⟩; exact ⟨_, rfl, rfl, h⟩)) ?_; clear h2
   rintro _ w4 a3 ⟨rfl, hb5⟩ h3
   have hz6 := hb5.size
   have hc7 : (decide (Few l 40)) = true := by simp [hfew]
   rw [hc7] at h3; clear hc7
   refine pk0 (v := .bool false) h3 rfl fun a8 h8 => ?_; clear h3
   refine pl_nil ?_
   refine co_then ?_
   refine co_false h8 rfl ?_
   refine wp_skip ?_
   refine co_then ?_
   refine co_seq ?_
   refine co_reg ?_
   have hB11 := hb_call hB0 hb5
   refine pw h8 rfl (op_call (args := #[]) (R := fun res xw => ∃ N S, res = pt N 0 ∧ MvO S xw N (fun _ => []) 0 0 0 ∧ (∀ q, S q → w4.heap.size ≤ q) ∧ Below w4.heap.size w4 xw) rfl rfl rfl (by kernel_rfl) (by kernel_rfl) (Try.call10 _ _) (mvNew w4) (by rintro e x ⟨N, S, rfl, h⟩; exact ⟨_, rfl, N, S, rfl, h⟩)) ?_; clear h8
   rintro _ w10 a9 ⟨N12, S13, rfl, hO14, hlo15, hb16⟩ h9
   have hz17 := hb16.size
   have hlo18 : ∀ q, S13 q → w.heap.size ≤ q := fun q hq => by have := hlo15 q hq; omega
   refine pk0 (v := pt N12 0) h9 rfl fun a19 h19 => ?_; clear h9
   refine pl_nil ?_
   refine co_then ?_
   refine co_seq ?_
   refine co_reg ?_
   refine pk0 (v := .agg #[.slice none 0 0, .int .u64 0]) h19 rfl fun a20 h20 => ?_; clear h19
   refine pw h20 rfl (op_new (v := fun N => pt N 0) (T := 31) (cs := #[.slice none 0 0, .int .u64 0]) (by kernel_rfl) (by kernel_rfl) (by kernel_rfl)) ?_; clear h20
   rintro _ w22 a21 ⟨N23, rfl, hN26, hz27, hk25, hg24⟩ h21
   have hz28 := hg24.size
   have ho29 := off_new (MvO.ofS hO14) hN26
   try dsimp only at h21
   refine pk0 (v := pt N23 0) h21 rfl fun a30 h30 => ?_; clear h21
   refine pl_nil ?_
   refine co_then ?_
   refine co_seq ?_
   refine co_seq ?_
   refine co_reg ?_
   refine pk0 (v := .int .i64 0) h30 rfl fun a31 h31 => ?_; clear h30
   refine pl_nil ?_
   refine co_then ?_
   refine wp_block ?_
   have hlo9 := hlo18
   have hlp9 : ∀ q, (fun q => q = N23) q → w.heap.size ≤ q := fun q hq => by have e : q = N23 := hq; omega
   have hap9 : ∀ q, S13 q → (fun q => q = N23) q → False := fun q h1 h2 => by have e : q = N23 := h2; subst e; exact ho29 h1
   have hcs9 := cs_0
   have h32 : Slots 101 [(0, v), (3, pt N12 0), (4, pt N23 0), (5, .int .i64 0)] _ := h31.sub ⟨rfl, rfl, rfl, rfl, trivial⟩; clear h31
   refine co_loop (fun mm a x => ∃ (i : Nat) (SA : Nat → Prop) (SB : Nat → Prop) (fA : Fv) (lA : Int) (cA : Int), Slots 101 [(0, v), (3, pt N12 0), (4, pt N23 0), (5, .int .i64 ((i : Nat) : Int))] a ∧ mm = l.length - i ∧ (i ≤ l.length) ∧ (i ≤ 40) ∧ (∀ q, SA q → w.heap.size ≤ q) ∧ (∀ q, SB q → w.heap.size ≤ q) ∧ (∀ q, SA q → SB q → False) ∧ (cA = ((csK fA (ksOf fA) : Nat) : Int)) ∧ MvO SA x N12 fA lA cA i ∧ RsO SB x N23 fA lA i ∧ Below w.heap.size w x) (l.length - 0) ?_ ?_
   have hO33 := MvO.gr hO14 hg24 (fun k e => by cases e)
   have hB34 := hb_call hB11 hb16
   have hB35 := hb_new hB34 hg24
   · exact ⟨0, S13, (fun q => q = N23), (fun _ => []), 0, 0, h32.sub ⟨rfl, rfl, rfl, (slot_eq rfl (congrArg (Value.int .i64) (by first | rfl | omega))), trivial⟩, rfl, by omega, by omega, by exact hlo9, by exact hlp9, by exact hap9, by exact hcs9, hO33, (RsO.mk0 hk25), hB35⟩
   · rintro k36 a37 w38 ⟨i, SA, SB, fA, lA, cA, h37, rfl, hi39, hi40, hi41, hi42, hi43, hi44, hf45, hf46, hB47⟩
     have hz48 := hB47.size
     have hlo49 : ∀ q, SA q → w.heap.size ≤ q := by assumption
     have hlo50 : ∀ q, SB q → w.heap.size ≤ q := by assumption
     have hapA : ∀ q, SA q → SB q → False := by assumption
     have hcA : cA = ((csK fA (ksOf fA) : Nat) : Int) := by assumption
     refine co_seq ?_
     refine co_seq ?_
     refine co_reg ?_
     refine pk0 (v := .int .i64 ((i : Nat) : Int)) h37 rfl fun a51 h51 => ?_; clear h37
     refine pk0 (v := v) h51 rfl fun a52 h52 => ?_; clear h51
     refine pk (v := .int .i64 ((l.length : Nat) : Int)) h52 rfl (rn_len rfl rfl Try.underlying22 (hs.below hB47)) fun a53 h53 => ?_; clear h52
     refine pk0 (v := .bool (decide (((i : Nat) : Int) < ((l.length : Nat) : Int)))) h53 rfl fun a54 h54 => ?_; clear h53
     refine pk0 (v := .bool (decide (((i : Nat) : Int) < ((l.length : Nat) : Int)))) h54 rfl fun a55 h55 => ?_; clear h54
     cases hc56 : (decide (((i : Nat) : Int) < ((l.length : Nat) : Int)))
     ·
      rw [hc56] at h55
      have hp57 : ¬ (((i : Nat) : Int) < ((l.length : Nat) : Int)) := of_decide_eq_false hc56
      clear hc56
      refine psk h55 rfl fun a58 h58 => ?_; clear h55
      refine psk h58 rfl fun a59 h59 => ?_; clear h58
      refine pk0 (v := .bool false) h59 rfl fun a60 h60 => ?_; clear h59
      refine pl_nil ?_
      refine co_then ?_
      refine co_false h60 rfl ?_
      refine wp_exit ?_
      refine co_thenX ?_
      refine co_thenX ?_
      refine co_blockX ?_
      refine co_then ?_
      refine co_seq ?_
      refine co_reg ?_
      refine pw h60 rfl (op_call (args := #[]) (R := fun res xw => res = .bool true ∧ Below w38.heap.size w38 xw) rfl rfl rfl (by kernel_rfl) (by kernel_rfl) (Try.call9 _ _) (awake16 w38) (by rintro e x ⟨rfl, h⟩; exact ⟨_, rfl, rfl, h⟩)) ?_; clear h60
      rintro _ w62 a61 ⟨rfl, hb63⟩ h61
      have hz64 := hb63.size
      have ho65 := MvO.ofS hf45
      have ho66 := RsO.ofS hf46
      refine pk0 (v := .bool true) h61 rfl fun a67 h67 => ?_; clear h61
      refine pl_nil ?_
      refine co_then ?_
      refine wp_ret ?_
      refine co_ret1 h67 rfl rfl ?_
      have hB68 := hb_call hB47 hb63
      exact ⟨rfl, hB68⟩
     ·
      rw [hc56] at h55
      have hp69 : ((i : Nat) : Int) < ((l.length : Nat) : Int) := of_decide_eq_true hc56
      clear hc56
      refine pk0 (v := .int .i64 ((i : Nat) : Int)) h55 rfl fun a70 h70 => ?_; clear h55
      refine pk0 (v := .bool (decide (((i : Nat) : Int) < 40))) h70 rfl fun a71 h71 => ?_; clear h70
      refine pk0 (v := .bool (decide (((i : Nat) : Int) < 40))) h71 rfl fun a72 h72 => ?_; clear h71
      refine pl_nil ?_
      refine co_then ?_
      cases hc73 : (decide (((i : Nat) : Int) < 40))
      ·
       rw [hc73] at h72
       have hp74 : ¬ (((i : Nat) : Int) < 40) := of_decide_eq_false hc73
       clear hc73
       refine co_false h72 rfl ?_
       refine wp_exit ?_
       refine co_thenX ?_
       refine co_thenX ?_
       refine co_blockX ?_
       refine co_then ?_
       refine co_seq ?_
       refine co_reg ?_
       refine pw h72 rfl (op_call (args := #[]) (R := fun res xw => res = .bool true ∧ Below w38.heap.size w38 xw) rfl rfl rfl (by kernel_rfl) (by kernel_rfl) (Try.call9 _ _) (awake16 w38) (by rintro e x ⟨rfl, h⟩; exact ⟨_, rfl, rfl, h⟩)) ?_; clear h72
       rintro _ w76 a75 ⟨rfl, hb77⟩ h75
       have hz78 := hb77.size
       have ho79 := MvO.ofS hf45
       have ho80 := RsO.ofS hf46
       refine pk0 (v := .bool true) h75 rfl fun a81 h81 => ?_; clear h75
       refine pl_nil ?_
       refine co_then ?_
       refine wp_ret ?_
       refine co_ret1 h81 rfl rfl ?_
       have hB82 := hb_call hB47 hb77
       exact ⟨rfl, hB82⟩
      ·
       rw [hc73] at h72
       have hp83 : ((i : Nat) : Int) < 40 := of_decide_eq_true hc73
       clear hc73
       refine co_true h72 rfl ?_
       refine wp_skip ?_
       refine co_then ?_
       refine co_seq ?_
       refine wp_block ?_
       refine co_seq ?_
       refine co_reg ?_
       refine pk0 (v := .bool true) h72 rfl fun a84 h84 => ?_; clear h72
       refine pl_nil ?_
       refine co_then ?_
       refine co_seq ?_
       refine co_seq ?_
       refine co_reg ?_
       refine pk0 (v := v) h84 rfl fun a85 h85 => ?_; clear h84
       refine pk0 (v := .int .i64 ((i : Nat) : Int)) h85 rfl fun a86 h86 => ?_; clear h85
       obtain ⟨y87, hy87⟩ : ∃ z, l[i]? = some z := ⟨_, List.getElem?_eq_getElem (by first | omega | (simp; done) | (simp; omega))⟩
       have oky87 := hok _ (List.mem_of_getElem? hy87)
       have k88 : 0 ≤ y87.ts := oky87.t0
       have k89 : y87.ts < 18446744073709551616 := oky87.t1
       refine pk (v := pt (blkOf v) (offOf v + i * 6)) h86 rfl (rn_index rfl rfl rfl Try.underlying22 Try.sizeOf34 (hs.below hB47) (by omega) (by first | omega | (simp; done) | (simp; omega))) fun a90 h90 => ?_; clear h86
       refine pk0 (v := pt (blkOf v) (offOf v + i * 6)) h90 rfl fun a91 h91 => ?_; clear h90
       refine pk (v := .int .i64 y87.c) h91 rfl (rn_load1 rfl rfl Try.isAgg3 ((sl_at (hs.below hB47) hy87) 0 _ rfl)) fun a92 h92 => ?_; clear h91
       refine pl_nil ?_
       refine co_then ?_
       refine wp_block ?_
       refine co_seq ?_
       refine co_seq ?_
       refine co_reg ?_
       refine pk0 (v := .bool (y87.c == 0)) h92 rfl fun a93 h93 => ?_; clear h92
       refine pk0 (v := .bool (y87.c == 0)) h93 rfl fun a94 h94 => ?_; clear h93
       refine pl_nil ?_
       refine co_then ?_
       cases hc95 : (y87.c == 0)
       ·
        rw [hc95] at h94
        have hp96 : ¬ (y87.c = 0) := by first | simpa using hc95 | simpa [and_assoc] using hc95
        clear hc95
        refine co_false h94 rfl ?_
        refine co_seq ?_
        refine co_reg ?_
        refine pk0 (v := .bool (y87.c == 1)) h94 rfl fun a97 h97 => ?_; clear h94
        refine pk0 (v := .bool (y87.c == 1)) h97 rfl fun a98 h98 => ?_; clear h97
        refine pl_nil ?_
        refine co_then ?_
        cases hc99 : (y87.c == 1)
        ·
         rw [hc99] at h98
         have hp100 : ¬ (y87.c = 1) := by first | simpa using hc99 | simpa [and_assoc] using hc99
         clear hc99
         refine co_false h98 rfl ?_
         refine co_reg ?_
         refine pk0 (v := .bool (y87.c == 2)) h98 rfl fun a101 h101 => ?_; clear h98
         refine pk0 (v := .bool (y87.c == 2)) h101 rfl fun a102 h102 => ?_; clear h101
         refine pl_nil ?_
         refine co_then ?_
         cases hc103 : (y87.c == 2)
         ·
          rw [hc103] at h102
          have hp104 : ¬ (y87.c = 2) := by first | simpa using hc103 | simpa [and_assoc] using hc103
          clear hc103
          refine co_false h102 rfl ?_
          refine co_seq ?_
          refine co_reg ?_
          refine pk0 (v := .bool (y87.c == 3)) h102 rfl fun a105 h105 => ?_; clear h102
          refine pk0 (v := .bool (y87.c == 3)) h105 rfl fun a106 h106 => ?_; clear h105
          refine pl_nil ?_
          refine co_then ?_
          cases hc107 : (y87.c == 3)
          ·
           rw [hc107] at h106
           have hp108 : ¬ (y87.c = 3) := by first | simpa using hc107 | simpa [and_assoc] using hc107
           clear hc107
           refine co_false h106 rfl ?_
           refine co_reg ?_
           refine pk0 (v := pt N12 0) h106 rfl fun a109 h109 => ?_; clear h106
           refine pk0 (v := pt N23 0) h109 rfl fun a110 h110 => ?_; clear h109
           refine pk0 (v := v) h110 rfl fun a111 h111 => ?_; clear h110
           refine pk0 (v := .int .i64 ((i : Nat) : Int)) h111 rfl fun a112 h112 => ?_; clear h111
           refine pk (v := pt (blkOf v) (offOf v + i * 6)) h112 rfl (rn_index rfl rfl rfl Try.underlying22 Try.sizeOf34 (hs.below hB47) (by omega) (by first | omega | (simp; done) | (simp; omega))) fun a113 h113 => ?_; clear h112
           refine pk (v := .agg #[.int .i64 y87.c, .int .u64 y87.ts, y87.v, .string y87.k, .string y87.to, .int .i64 y87.n]) h113 rfl (rn_loadN rfl rfl Try.underlying34 rfl (by kernel_rfl) (sl_at (hs.below hB47) hy87)) fun a114 h114 => ?_; clear h113
           have ho117 := MvO.ofS hf45
           have ho118 := RsO.ofS hf46
           refine pw h114 rfl (op_call (args := #[pt N12 0, pt N23 0, .agg #[.int .i64 y87.c, .int .u64 y87.ts, y87.v, .string y87.k, .string y87.to, .int .i64 y87.n]]) (R := fun res xw => res = .bool true ∧ Below w38.heap.size w38 xw) rfl rfl rfl (by kernel_rfl) (by kernel_rfl) (Try.call15 _ _) (same16_any SA SB N12 N23 fA lA cA i y87.c y87.ts (y87.v) y87.l y87.k y87.to y87.n w38 (oky87.ops.below hB47) hf45 hf46 (by omega) (wf_i64 oky87.n0)) (by rintro e x ⟨rfl, h⟩; exact ⟨_, rfl, rfl, h⟩)) ?_; clear h114
           rintro _ w116 a115 ⟨rfl, hb119⟩ h115
           have hz120 := hb119.size
           have ho121 := MvO.ofS hf45
           have ho122 := RsO.ofS hf46
           have hB125 := hb_call hB47 hb119
           have hO126 := RsO.gr hf46 (below_grown hb119) (fun k e => by cases e)
           obtain ⟨u123, hb124⟩ := RsO.blk hO126
           refine pk0 (v := .bool true) h115 rfl fun a127 h127 => ?_; clear h115
           refine pl_nil ?_
           refine co_blockN ?_
           refine co_then ?_
           refine co_seq ?_
           refine dr_gen (fun x => Below w.heap.size w x ∧ Blk x N23 31 #[u123, .int .u64 lA]) (by kernel_rfl) (fun w128 hg129 => ?_) (fun w128 hg129 => ?_)
           ·
            have hz130 := hg129.size
            have hB131 := hb_new hB125 hg129
            have hk132 := hb124.kept hg129 (by simp)
            exact ⟨hB131, hk132⟩
           have hz133 := hg129.size
           have hB134 := hb_new hB125 hg129
           have hk135 := hb124.kept hg129 (by simp)
           refine dk0 0 (v := .bool true) h127 rfl rfl ⟨hB134, hk135⟩ fun a136 h136 => ?_; clear h127
           refine dk0 1 (v := .bool false) h136 rfl rfl ⟨hB134, hk135⟩ fun a137 h137 => ?_; clear h136
           refine dk0 2 (v := .bool false) h137 rfl rfl ⟨hB134, hk135⟩ fun a138 h138 => ?_; clear h137
           refine dk0 3 (v := pt N12 0) h138 rfl rfl ⟨hB134, hk135⟩ fun a139 h139 => ?_; clear h138
           refine dk0 5 (v := pt N23 0) h139 rfl rfl ⟨hB134, hk135⟩ fun a140 h140 => ?_; clear h139
           refine dk0 6 (v := pt N23 0) h140 rfl rfl ⟨hB134, hk135⟩ fun a141 h141 => ?_; clear h140
           refine dk0 7 (v := pt N23 1) h141 rfl rfl ⟨hB134, hk135⟩ fun a142 h142 => ?_; clear h141
           refine dk 8 (v := .int .u64 lA) h142 rfl rfl ⟨hB134, hk135⟩ (fun x hx => (rn_load1 rfl rfl Try.isAgg29 (hx.2.cell rfl))) fun a143 h143 => ?_; clear h142
           have hO146 := MvO.gr hf45 (below_grown hb119) (fun k e => by cases e)
           have hO147 := MvO.gr hO146 hg129 (fun k e => by cases e)
           refine d1 4 h143 rfl rfl (op_call (args := #[pt N12 0]) (R := fun res xw => res = .int .u64 lA ∧ w128 = xw) rfl rfl rfl (by kernel_rfl) (by kernel_rfl) (Try.call16 _ _) (mvLast w128 hO147) (by rintro e x ⟨rfl, rfl⟩; exact ⟨_, rfl, rfl, rfl⟩)) ?_ ?_; clear h143
           ·
            rintro _ _ ⟨rfl, rfl⟩
            exact ⟨hB134, hk135⟩
           rintro _ _ a144 ⟨rfl, rfl⟩ h144
           refine dk0 9 (v := .bool (lA != lA)) h144 rfl rfl ⟨hB134, hk135⟩ fun a148 h148 => ?_; clear h144
           refine dk0 10 (v := .bool (lA != lA)) h148 rfl rfl ⟨hB134, hk135⟩ fun a149 h149 => ?_; clear h148
           refine dk0 11 (v := .bool (lA != lA)) h149 rfl rfl ⟨hB134, hk135⟩ fun a150 h150 => ?_; clear h149
           have hc151 : (lA != lA) = false := by first | (simp; done) | (simp; omega) | (rw [bne_eq_false_iff_eq]; omega)
           rw [hc151] at h150; clear hc151
           refine dk0 12 (v := pt N12 0) h150 rfl rfl ⟨hB134, hk135⟩ fun a152 h152 => ?_; clear h150
           refine dk0 14 (v := pt N23 0) h152 rfl rfl ⟨hB134, hk135⟩ fun a153 h153 => ?_; clear h152
           refine d1 13 h153 rfl rfl (op_call (args := #[pt N12 0]) (R := fun res xw => res = .int .i64 cA ∧ w128 = xw) rfl rfl rfl (by kernel_rfl) (by kernel_rfl) (Try.call17 _ _) (mvCells w128 hO147) (by rintro e x ⟨rfl, rfl⟩; exact ⟨_, rfl, rfl, rfl⟩)) ?_ ?_; clear h153
           ·
            rintro _ _ ⟨rfl, rfl⟩
            exact ⟨hB134, hk135⟩
           rintro _ _ a154 ⟨rfl, rfl⟩ h154
           have ho158 := MvO.ofS hO147
           have hO160 := RsO.gr hO126 hg129 (fun k e => by cases e)
           have ho159 := RsO.ofS hO160
           refine d1 15 h154 rfl rfl (op_call (args := #[pt N23 0]) (R := fun res xw => res = .int .i64 ((csK fA (ksOf fA) : Nat) : Int) ∧ Below w128.heap.size w128 xw) rfl rfl rfl (by kernel_rfl) (by kernel_rfl) (Try.call18 _ _) (rsCells w128 hO160 (by omega)) (by rintro e x ⟨rfl, h⟩; exact ⟨_, rfl, rfl, h⟩)) ?_ ?_; clear h154
           ·
            rintro _ w157 ⟨rfl, hb161⟩
            have hz162 := hb161.size
            have ho163 := MvO.ofS hO147
            have ho164 := RsO.ofS hO160
            have hB165 := hb_call hB134 hb161
            have hk166 := hk135.below hb161
            exact ⟨hB165, hk166⟩
           rintro _ w157 a156 ⟨rfl, hb161⟩ h156
           have hz162 := hb161.size
           have ho163 := MvO.ofS hO147
           have ho164 := RsO.ofS hO160
           have hB165 := hb_call hB134 hb161
           have hk166 := hk135.below hb161
           refine dk0 16 (v := .bool (cA != ((csK fA (ksOf fA) : Nat) : Int))) h156 rfl rfl ⟨hB165, hk166⟩ fun a167 h167 => ?_; clear h156
           refine dk0 17 (v := .bool (cA != ((csK fA (ksOf fA) : Nat) : Int))) h167 rfl rfl ⟨hB165, hk166⟩ fun a168 h168 => ?_; clear h167
           refine dr_done (by kernel_rfl) ?_
           refine co_then ?_
           have hc169 : (cA != ((csK fA (ksOf fA) : Nat) : Int)) = false := by first | (simp; done) | (simp; omega) | (rw [bne_eq_false_iff_eq]; omega)
           rw [hc169] at h168; clear hc169
           refine co_false h168 rfl ?_
           refine wp_skip ?_
           refine co_blockN ?_
           refine co_then ?_
           refine co_reg ?_
           refine pk0 (v := .int .i64 ((i : Nat) : Int)) h168 rfl fun a170 h170 => ?_; clear h168
           refine pk (v := .int .i64 ((i + 1 : Nat) : Int)) h170 rfl (rn_arith' rfl rfl rfl rfl rfl rfl (IntWalk.i64_in _ (by omega)) (by omega)) fun a171 h171 => ?_; clear h170
           refine pk0 (v := .int .i64 ((i + 1 : Nat) : Int)) h171 rfl fun a172 h172 => ?_; clear h171
           refine pl_nil ?_
           refine co_then ?_
           refine ⟨(l.length - (i + 1)), by omega, ?_⟩
           have hlo9 := hlo49
           have hlp9 := hlo50
           have hap9 := hapA
           have hcs9 := hcA
           have hO173 := MvO.gr hO147 (below_grown hb161) (fun k e => by cases e)
           have hO174 := RsO.gr hO160 (below_grown hb161) (fun k e => by cases e)
           exact ⟨i + 1, SA, SB, fA, lA, cA, h172.sub ⟨rfl, rfl, rfl, rfl, trivial⟩, rfl, by omega, by omega, by exact hlo9, by exact hlp9, by exact hap9, by exact hcs9, (MvO.more hO173), (RsO.more hO174), hB165⟩
          ·
           rw [hc107] at h106
           have hp175 : y87.c = 3 := by first | simpa using hc107 | simpa [and_assoc] using hc107
           clear hc107
           refine co_true h106 rfl ?_
           refine dr_gen (fun x => Below w.heap.size w x) (by kernel_rfl) (fun w176 hg177 => ?_) (fun w176 hg177 => ?_)
           ·
            have hz178 := hg177.size
            have hB179 := hb_new hB47 hg177
            exact hB179
           have hz180 := hg177.size
           have hB181 := hb_new hB47 hg177
           refine dk0 0 (v := pt N12 0) h106 rfl rfl hB181 fun a182 h182 => ?_; clear h106
           refine dk0 1 (v := v) h182 rfl rfl hB181 fun a183 h183 => ?_; clear h182
           refine dk0 2 (v := .int .i64 ((i : Nat) : Int)) h183 rfl rfl hB181 fun a184 h184 => ?_; clear h183
           refine dk 3 (v := pt (blkOf v) (offOf v + i * 6)) h184 rfl rfl hB181 (fun x hx => (rn_index rfl rfl rfl Try.underlying22 Try.sizeOf34 (hs.below hx) (by omega) (by first | omega | (simp; done) | (simp; omega)))) fun a185 h185 => ?_; clear h184
           refine dk0 4 (v := pt (blkOf v) (offOf v + i * 6 + 1)) h185 rfl rfl hB181 fun a186 h186 => ?_; clear h185
           refine dk 5 (v := .int .u64 y87.ts) h186 rfl rfl hB181 (fun x hx => (rn_load1 rfl rfl Try.isAgg29 ((sl_at (hs.below hx) hy87) 1 _ rfl))) fun a187 h187 => ?_; clear h186
           refine dk0 7 (v := pt N23 0) h187 rfl rfl hB181 fun a188 h188 => ?_; clear h187
           refine dk0 8 (v := v) h188 rfl rfl hB181 fun a189 h189 => ?_; clear h188
           refine dk0 9 (v := .int .i64 ((i : Nat) : Int)) h189 rfl rfl hB181 fun a190 h190 => ?_; clear h189
           refine dk 10 (v := pt (blkOf v) (offOf v + i * 6)) h190 rfl rfl hB181 (fun x hx => (rn_index rfl rfl rfl Try.underlying22 Try.sizeOf34 (hs.below hx) (by omega) (by first | omega | (simp; done) | (simp; omega)))) fun a191 h191 => ?_; clear h190
           refine dk0 11 (v := pt (blkOf v) (offOf v + i * 6 + 1)) h191 rfl rfl hB181 fun a192 h192 => ?_; clear h191
           refine dk 12 (v := .int .u64 y87.ts) h192 rfl rfl hB181 (fun x hx => (rn_load1 rfl rfl Try.isAgg29 ((sl_at (hs.below hx) hy87) 1 _ rfl))) fun a193 h193 => ?_; clear h192
           have hO197 := MvO.gr hf45 hg177 (fun k e => by cases e)
           have ho196 := MvO.ofS hO197
           have hO199 := RsO.gr hf46 hg177 (fun k e => by cases e)
           have ho198 := RsO.ofS hO199
           refine d1 6 h193 rfl rfl (op_call (args := #[pt N12 0, .int .u64 y87.ts]) (R := fun res xw => ∃ S' : Nat → Prop, res = .int .i64 ((goneK fA y87.ts (ksOf fA) : Nat) : Int) ∧ MvO S' xw N12 (pruneF fA y87.ts) lA (cA - ((goneK fA y87.ts (ksOf fA) : Nat) : Int)) (i + 1) ∧ Grew SA S' w176 xw) rfl rfl rfl (by kernel_rfl) (by kernel_rfl) (Try.call13 _ _) (mvPruneY w176 y87.ts hO197 ⟨by omega, by omega⟩ (by omega)) (by rintro e x ⟨S', h0, h⟩; exact ⟨_, h0, S', rfl, h⟩)) ?_ ?_; clear h193
           ·
            rintro _ w195 ⟨S200, rfl, hO201, hx202⟩
            have hlo204 : ∀ q, S200 q → w.heap.size ≤ q := hx202.lo hlo49 (by omega)
            have hB203 := hbL hB181 hlo49 hx202.but
            have hz205 := hB203.size
            have hz206 := hx202.but.size
            have hcs207 := ce_prune (MvO.kof hO197) hcA y87.ts
            exact hB203
           rintro _ w195 a194 ⟨S200, rfl, hO201, hx202⟩ h194
           have hlo204 : ∀ q, S200 q → w.heap.size ≤ q := hx202.lo hlo49 (by omega)
           have hB203 := hbL hB181 hlo49 hx202.but
           have hz205 := hB203.size
           have hz206 := hx202.but.size
           have hcs207 := ce_prune (MvO.kof hO197) hcA y87.ts
           have hO211 := RsO.butG hO199 hx202.but (ap_symm hapA)
           have ho210 := RsO.ofS hO211
           have ho212 := MvO.ofS hO201
           refine d1 13 h194 rfl rfl (op_call (args := #[pt N23 0, .int .u64 y87.ts]) (R := fun res xw => ∃ S' : Nat → Prop, res = .int .i64 ((goneK fA y87.ts (ksOf fA) : Nat) : Int) ∧ RsO S' xw N23 (pruneF fA y87.ts) lA (i + 1) ∧ Grew SB S' w195 xw) rfl rfl rfl (by kernel_rfl) (by kernel_rfl) (Try.call14 _ _) (rsPruneX w195 y87.ts hO211 ⟨by omega, by omega⟩ (by omega)) (by rintro e x ⟨S', h0, h⟩; exact ⟨_, h0, S', rfl, h⟩)) ?_ ?_; clear h194
           ·
            rintro _ w209 ⟨S213, rfl, hO214, hx215⟩
            have hlo217 : ∀ q, S213 q → w.heap.size ≤ q := hx215.lo hlo50 (by omega)
            have hB216 := hbL hB203 hlo50 hx215.but
            have hz218 := hB216.size
            have hz219 := hx215.but.size
            obtain ⟨u220, hb221⟩ := RsO.blk hO214
            exact hB216
           rintro _ w209 a208 ⟨S213, rfl, hO214, hx215⟩ h208
           have hlo217 : ∀ q, S213 q → w.heap.size ≤ q := hx215.lo hlo50 (by omega)
           have hB216 := hbL hB203 hlo50 hx215.but
           have hz218 := hB216.size
           have hz219 := hx215.but.size
           obtain ⟨u220, hb221⟩ := RsO.blk hO214
           refine dk0 14 (v := .bool (((goneK fA y87.ts (ksOf fA) : Nat) : Int) == ((goneK fA y87.ts (ksOf fA) : Nat) : Int))) h208 rfl rfl hB216 fun a222 h222 => ?_; clear h208
           refine dk0 15 (v := .bool (((goneK fA y87.ts (ksOf fA) : Nat) : Int) == ((goneK fA y87.ts (ksOf fA) : Nat) : Int))) h222 rfl rfl hB216 fun a223 h223 => ?_; clear h222
           refine dr_done (by kernel_rfl) ?_
           refine co_blockN ?_
           refine co_then ?_
           refine co_seq ?_
           refine dr_gen (fun x => Below w.heap.size w x ∧ Blk x N23 31 #[u220, .int .u64 lA]) (by kernel_rfl) (fun w224 hg225 => ?_) (fun w224 hg225 => ?_)
           ·
            have hz226 := hg225.size
            have hB227 := hb_new hB216 hg225
            have hk228 := hb221.kept hg225 (by simp)
            exact ⟨hB227, hk228⟩
           have hz229 := hg225.size
           have hB230 := hb_new hB216 hg225
           have hk231 := hb221.kept hg225 (by simp)
           refine dk0 0 (v := .bool (((goneK fA y87.ts (ksOf fA) : Nat) : Int) == ((goneK fA y87.ts (ksOf fA) : Nat) : Int))) h223 rfl rfl ⟨hB230, hk231⟩ fun a232 h232 => ?_; clear h223
           have hc233 : (((goneK fA y87.ts (ksOf fA) : Nat) : Int) == ((goneK fA y87.ts (ksOf fA) : Nat) : Int)) = true := by first | (simp; done) | (simp; omega) | (rw [bne_eq_false_iff_eq]; omega)
           rw [hc233] at h232; clear hc233
           refine dk0 1 (v := .bool false) h232 rfl rfl ⟨hB230, hk231⟩ fun a234 h234 => ?_; clear h232
           refine dk0 2 (v := .bool false) h234 rfl rfl ⟨hB230, hk231⟩ fun a235 h235 => ?_; clear h234
           refine dk0 3 (v := pt N12 0) h235 rfl rfl ⟨hB230, hk231⟩ fun a236 h236 => ?_; clear h235
           refine dk0 5 (v := pt N23 0) h236 rfl rfl ⟨hB230, hk231⟩ fun a237 h237 => ?_; clear h236
           refine dk0 6 (v := pt N23 0) h237 rfl rfl ⟨hB230, hk231⟩ fun a238 h238 => ?_; clear h237
           refine dk0 7 (v := pt N23 1) h238 rfl rfl ⟨hB230, hk231⟩ fun a239 h239 => ?_; clear h238
           refine dk 8 (v := .int .u64 lA) h239 rfl rfl ⟨hB230, hk231⟩ (fun x hx => (rn_load1 rfl rfl Try.isAgg29 (hx.2.cell rfl))) fun a240 h240 => ?_; clear h239
           have hO243 := MvO.butG hO201 hx215.but (ap_symm (ap_symm (Grew.ap hx202 (ap_symm (ap_symm hapA)) (RsO.ofS hO199))))
           have hO244 := MvO.gr hO243 hg225 (fun k e => by cases e)
           refine d1 4 h240 rfl rfl (op_call (args := #[pt N12 0]) (R := fun res xw => res = .int .u64 lA ∧ w224 = xw) rfl rfl rfl (by kernel_rfl) (by kernel_rfl) (Try.call16 _ _) (mvLast w224 hO244) (by rintro e x ⟨rfl, rfl⟩; exact ⟨_, rfl, rfl, rfl⟩)) ?_ ?_; clear h240
           ·
            rintro _ _ ⟨rfl, rfl⟩
            exact ⟨hB230, hk231⟩
           rintro _ _ a241 ⟨rfl, rfl⟩ h241
           refine dk0 9 (v := .bool (lA != lA)) h241 rfl rfl ⟨hB230, hk231⟩ fun a245 h245 => ?_; clear h241
           refine dk0 10 (v := .bool (lA != lA)) h245 rfl rfl ⟨hB230, hk231⟩ fun a246 h246 => ?_; clear h245
           refine dk0 11 (v := .bool (lA != lA)) h246 rfl rfl ⟨hB230, hk231⟩ fun a247 h247 => ?_; clear h246
           have hc248 : (lA != lA) = false := by first | (simp; done) | (simp; omega) | (rw [bne_eq_false_iff_eq]; omega)
           rw [hc248] at h247; clear hc248
           refine dk0 12 (v := pt N12 0) h247 rfl rfl ⟨hB230, hk231⟩ fun a249 h249 => ?_; clear h247
           refine dk0 14 (v := pt N23 0) h249 rfl rfl ⟨hB230, hk231⟩ fun a250 h250 => ?_; clear h249
           refine d1 13 h250 rfl rfl (op_call (args := #[pt N12 0]) (R := fun res xw => res = .int .i64 (cA - ((goneK fA y87.ts (ksOf fA) : Nat) : Int)) ∧ w224 = xw) rfl rfl rfl (by kernel_rfl) (by kernel_rfl) (Try.call17 _ _) (mvCells w224 hO244) (by rintro e x ⟨rfl, rfl⟩; exact ⟨_, rfl, rfl, rfl⟩)) ?_ ?_; clear h250
           ·
            rintro _ _ ⟨rfl, rfl⟩
            exact ⟨hB230, hk231⟩
           rintro _ _ a251 ⟨rfl, rfl⟩ h251
           have ho255 := MvO.ofS hO244
           have hO257 := RsO.gr hO214 hg225 (fun k e => by cases e)
           have ho256 := RsO.ofS hO257
           refine d1 15 h251 rfl rfl (op_call (args := #[pt N23 0]) (R := fun res xw => res = .int .i64 ((csK (pruneF fA y87.ts) (ksOf (pruneF fA y87.ts)) : Nat) : Int) ∧ Below w224.heap.size w224 xw) rfl rfl rfl (by kernel_rfl) (by kernel_rfl) (Try.call18 _ _) (rsCells w224 hO257 (by omega)) (by rintro e x ⟨rfl, h⟩; exact ⟨_, rfl, rfl, h⟩)) ?_ ?_; clear h251
           ·
            rintro _ w254 ⟨rfl, hb258⟩
            have hz259 := hb258.size
            have ho260 := MvO.ofS hO244
            have ho261 := RsO.ofS hO257
            have hB262 := hb_call hB230 hb258
            have hk263 := hk231.below hb258
            exact ⟨hB262, hk263⟩
           rintro _ w254 a253 ⟨rfl, hb258⟩ h253
           have hz259 := hb258.size
           have ho260 := MvO.ofS hO244
           have ho261 := RsO.ofS hO257
           have hB262 := hb_call hB230 hb258
           have hk263 := hk231.below hb258
           refine dk0 16 (v := .bool ((cA - ((goneK fA y87.ts (ksOf fA) : Nat) : Int)) != ((csK (pruneF fA y87.ts) (ksOf (pruneF fA y87.ts)) : Nat) : Int))) h253 rfl rfl ⟨hB262, hk263⟩ fun a264 h264 => ?_; clear h253
           refine dk0 17 (v := .bool ((cA - ((goneK fA y87.ts (ksOf fA) : Nat) : Int)) != ((csK (pruneF fA y87.ts) (ksOf (pruneF fA y87.ts)) : Nat) : Int))) h264 rfl rfl ⟨hB262, hk263⟩ fun a265 h265 => ?_; clear h264
           refine dr_done (by kernel_rfl) ?_
           refine co_then ?_
           have hc266 : ((cA - ((goneK fA y87.ts (ksOf fA) : Nat) : Int)) != ((csK (pruneF fA y87.ts) (ksOf (pruneF fA y87.ts)) : Nat) : Int)) = false := by first | (simp; done) | (simp; omega) | (rw [bne_eq_false_iff_eq]; omega)
           rw [hc266] at h265; clear hc266
           refine co_false h265 rfl ?_
           refine wp_skip ?_
           refine co_blockN ?_
           refine co_then ?_
           refine co_reg ?_
           refine pk0 (v := .int .i64 ((i : Nat) : Int)) h265 rfl fun a267 h267 => ?_; clear h265
           refine pk (v := .int .i64 ((i + 1 : Nat) : Int)) h267 rfl (rn_arith' rfl rfl rfl rfl rfl rfl (IntWalk.i64_in _ (by omega)) (by omega)) fun a268 h268 => ?_; clear h267
           refine pk0 (v := .int .i64 ((i + 1 : Nat) : Int)) h268 rfl fun a269 h269 => ?_; clear h268
           refine pl_nil ?_
           refine co_then ?_
           refine ⟨(l.length - (i + 1)), by omega, ?_⟩
           have hlo9 := hlo204
           have hlp9 := hlo217
           have hap9 := (ap_symm (Grew.ap hx215 (ap_symm (ap_symm (ap_symm (Grew.ap hx202 (ap_symm (ap_symm hapA)) (RsO.ofS hO199))))) (MvO.ofS hO201)))
           have hcs9 := hcs207
           have hO270 := MvO.gr hO244 (below_grown hb258) (fun k e => by cases e)
           have hO271 := RsO.gr hO257 (below_grown hb258) (fun k e => by cases e)
           exact ⟨i + 1, S200, S213, (pruneF fA y87.ts), lA, (cA - ((goneK fA y87.ts (ksOf fA) : Nat) : Int)), h269.sub ⟨rfl, rfl, rfl, rfl, trivial⟩, rfl, by omega, by omega, by exact hlo9, by exact hlp9, by exact hap9, by exact hcs9, hO270, hO271, hB262⟩
         ·
          rw [hc103] at h102
          have hp272 : y87.c = 2 := by first | simpa using hc103 | simpa [and_assoc] using hc103
          clear hc103
          refine co_true h102 rfl ?_
          refine dr_gen (fun x => Below w.heap.size w x) (by kernel_rfl) (fun w273 hg274 => ?_) (fun w273 hg274 => ?_)
          ·
           have hz275 := hg274.size
           have hB276 := hb_new hB47 hg274
           exact hB276
          have hz277 := hg274.size
          have hB278 := hb_new hB47 hg274
          refine dk0 0 (v := pt N12 0) h102 rfl rfl hB278 fun a279 h279 => ?_; clear h102
          refine dk0 1 (v := v) h279 rfl rfl hB278 fun a280 h280 => ?_; clear h279
          refine dk0 2 (v := .int .i64 ((i : Nat) : Int)) h280 rfl rfl hB278 fun a281 h281 => ?_; clear h280
          refine dk 3 (v := pt (blkOf v) (offOf v + i * 6)) h281 rfl rfl hB278 (fun x hx => (rn_index rfl rfl rfl Try.underlying22 Try.sizeOf34 (hs.below hx) (by omega) (by first | omega | (simp; done) | (simp; omega)))) fun a282 h282 => ?_; clear h281
          refine dk0 4 (v := pt (blkOf v) (offOf v + i * 6 + 1)) h282 rfl rfl hB278 fun a283 h283 => ?_; clear h282
          refine dk 5 (v := .int .u64 y87.ts) h283 rfl rfl hB278 (fun x hx => (rn_load1 rfl rfl Try.isAgg29 ((sl_at (hs.below hx) hy87) 1 _ rfl))) fun a284 h284 => ?_; clear h283
          refine dk0 6 (v := v) h284 rfl rfl hB278 fun a285 h285 => ?_; clear h284
          refine dk0 7 (v := .int .i64 ((i : Nat) : Int)) h285 rfl rfl hB278 fun a286 h286 => ?_; clear h285
          refine dk 8 (v := pt (blkOf v) (offOf v + i * 6)) h286 rfl rfl hB278 (fun x hx => (rn_index rfl rfl rfl Try.underlying22 Try.sizeOf34 (hs.below hx) (by omega) (by first | omega | (simp; done) | (simp; omega)))) fun a287 h287 => ?_; clear h286
          refine dk0 9 (v := pt (blkOf v) (offOf v + i * 6 + 2)) h287 rfl rfl hB278 fun a288 h288 => ?_; clear h287
          refine dk 10 (v := y87.v) h288 rfl rfl hB278 (fun x hx => (rn_load1 rfl rfl Try.isAgg32 ((sl_at (hs.below hx) hy87) 2 _ rfl))) fun a289 h289 => ?_; clear h288
          refine dk0 12 (v := pt N23 0) h289 rfl rfl hB278 fun a290 h290 => ?_; clear h289
          refine dk0 13 (v := v) h290 rfl rfl hB278 fun a291 h291 => ?_; clear h290
          refine dk0 14 (v := .int .i64 ((i : Nat) : Int)) h291 rfl rfl hB278 fun a292 h292 => ?_; clear h291
          refine dk 15 (v := pt (blkOf v) (offOf v + i * 6)) h292 rfl rfl hB278 (fun x hx => (rn_index rfl rfl rfl Try.underlying22 Try.sizeOf34 (hs.below hx) (by omega) (by first | omega | (simp; done) | (simp; omega)))) fun a293 h293 => ?_; clear h292
          refine dk0 16 (v := pt (blkOf v) (offOf v + i * 6 + 1)) h293 rfl rfl hB278 fun a294 h294 => ?_; clear h293
          refine dk 17 (v := .int .u64 y87.ts) h294 rfl rfl hB278 (fun x hx => (rn_load1 rfl rfl Try.isAgg29 ((sl_at (hs.below hx) hy87) 1 _ rfl))) fun a295 h295 => ?_; clear h294
          refine dk0 18 (v := v) h295 rfl rfl hB278 fun a296 h296 => ?_; clear h295
          refine dk0 19 (v := .int .i64 ((i : Nat) : Int)) h296 rfl rfl hB278 fun a297 h297 => ?_; clear h296
          refine dk 20 (v := pt (blkOf v) (offOf v + i * 6)) h297 rfl rfl hB278 (fun x hx => (rn_index rfl rfl rfl Try.underlying22 Try.sizeOf34 (hs.below hx) (by omega) (by first | omega | (simp; done) | (simp; omega)))) fun a298 h298 => ?_; clear h297
          refine dk0 21 (v := pt (blkOf v) (offOf v + i * 6 + 2)) h298 rfl rfl hB278 fun a299 h299 => ?_; clear h298
          refine dk 22 (v := y87.v) h299 rfl rfl hB278 (fun x hx => (rn_load1 rfl rfl Try.isAgg32 ((sl_at (hs.below hx) hy87) 2 _ rfl))) fun a300 h300 => ?_; clear h299
          have hO304 := MvO.gr hf45 hg274 (fun k e => by cases e)
          have ho303 := MvO.ofS hO304
          have hO306 := RsO.gr hf46 hg274 (fun k e => by cases e)
          have ho305 := RsO.ofS hO306
          have hfly87 : y87.l.length ≤ 20 := by first | exact Few.at hfew hy87 (by omega) | exact Few.at hfew2 hy87 (by omega)
          refine d1 11 h300 rfl rfl (op_call (args := #[pt N12 0, .int .u64 y87.ts, y87.v]) (R := fun res xw => ∃ S' : Nat → Prop, res = .int .i64 (mvE lA y87.ts y87.l) ∧ MvO S' xw N12 (mvF fA lA y87.ts y87.l) (mvLa lA y87.ts y87.l) (mvCe lA y87.ts cA y87.l) (i + 1) ∧ Grew SA S' w273 xw) rfl rfl rfl (by kernel_rfl) (by kernel_rfl) (Try.call11 _ _) (mvPut w273 y87.ts (y87.v) y87.l hO304 (oky87.ops.below hB278) (sl_off oky87.ops (opE_ne _) hlo49) (by omega) ⟨by omega, by omega⟩ (by omega)) (by rintro e x ⟨S', h0, h⟩; exact ⟨_, h0, S', rfl, h⟩)) ?_ ?_; clear h300
          ·
           rintro _ w302 ⟨S307, rfl, hO308, hx309⟩
           have hlo311 : ∀ q, S307 q → w.heap.size ≤ q := hx309.lo hlo49 (by omega)
           have hB310 := hbL hB278 hlo49 hx309.but
           have hz312 := hB310.size
           have hz313 := hx309.but.size
           have hcs314 := cs_put (la := lA) (ts := y87.ts) (l := y87.l) (MvO.kof hO304) hcA
           exact hB310
          rintro _ w302 a301 ⟨S307, rfl, hO308, hx309⟩ h301
          have hlo311 : ∀ q, S307 q → w.heap.size ≤ q := hx309.lo hlo49 (by omega)
          have hB310 := hbL hB278 hlo49 hx309.but
          have hz312 := hB310.size
          have hz313 := hx309.but.size
          have hcs314 := cs_put (la := lA) (ts := y87.ts) (l := y87.l) (MvO.kof hO304) hcA
          have hO318 := RsO.butG hO306 hx309.but (ap_symm hapA)
          have ho317 := RsO.ofS hO318
          have ho319 := MvO.ofS hO308
          have hfly87 : y87.l.length ≤ 20 := by first | exact Few.at hfew hy87 (by omega) | exact Few.at hfew2 hy87 (by omega)
          refine d1 23 h301 rfl rfl (op_call (args := #[pt N23 0, .int .u64 y87.ts, y87.v]) (R := fun res xw => ∃ S' : Nat → Prop, res = .int .i64 (mvE lA y87.ts y87.l) ∧ RsO S' xw N23 (mvF fA lA y87.ts y87.l) (mvLa lA y87.ts y87.l) (i + 1) ∧ Grew SB S' w302 xw) rfl rfl rfl (by kernel_rfl) (by kernel_rfl) (Try.call12 _ _) (rsPut w302 y87.ts (y87.v) y87.l hO318 (oky87.ops.below hB310) (sl_off oky87.ops (opE_ne _) hlo50) (by omega) ⟨by omega, by omega⟩ (by omega)) (by rintro e x ⟨S', h0, h⟩; exact ⟨_, h0, S', rfl, h⟩)) ?_ ?_; clear h301
          ·
           rintro _ w316 ⟨S320, rfl, hO321, hx322⟩
           have hlo324 : ∀ q, S320 q → w.heap.size ≤ q := hx322.lo hlo50 (by omega)
           have hB323 := hbL hB310 hlo50 hx322.but
           have hz325 := hB323.size
           have hz326 := hx322.but.size
           obtain ⟨u327, hb328⟩ := RsO.blk hO321
           exact hB323
          rintro _ w316 a315 ⟨S320, rfl, hO321, hx322⟩ h315
          have hlo324 : ∀ q, S320 q → w.heap.size ≤ q := hx322.lo hlo50 (by omega)
          have hB323 := hbL hB310 hlo50 hx322.but
          have hz325 := hB323.size
          have hz326 := hx322.but.size
          obtain ⟨u327, hb328⟩ := RsO.blk hO321
          refine dk0 24 (v := .bool ((mvE lA y87.ts y87.l) == (mvE lA y87.ts y87.l))) h315 rfl rfl hB323 fun a329 h329 => ?_; clear h315
          refine dk0 25 (v := .bool ((mvE lA y87.ts y87.l) == (mvE lA y87.ts y87.l))) h329 rfl rfl hB323 fun a330 h330 => ?_; clear h329
          refine dr_done (by kernel_rfl) ?_
          refine co_blockN ?_
          refine co_then ?_
          refine co_seq ?_
          refine dr_gen (fun x => Below w.heap.size w x ∧ Blk x N23 31 #[u327, .int .u64 (mvLa lA y87.ts y87.l)]) (by kernel_rfl) (fun w331 hg332 => ?_) (fun w331 hg332 => ?_)
          ·
           have hz333 := hg332.size
           have hB334 := hb_new hB323 hg332
           have hk335 := hb328.kept hg332 (by simp)
           exact ⟨hB334, hk335⟩
          have hz336 := hg332.size
          have hB337 := hb_new hB323 hg332
          have hk338 := hb328.kept hg332 (by simp)
          refine dk0 0 (v := .bool ((mvE lA y87.ts y87.l) == (mvE lA y87.ts y87.l))) h330 rfl rfl ⟨hB337, hk338⟩ fun a339 h339 => ?_; clear h330
          have hc340 : ((mvE lA y87.ts y87.l) == (mvE lA y87.ts y87.l)) = true := by first | (simp; done) | (simp; omega) | (rw [bne_eq_false_iff_eq]; omega)
          rw [hc340] at h339; clear hc340
          refine dk0 1 (v := .bool false) h339 rfl rfl ⟨hB337, hk338⟩ fun a341 h341 => ?_; clear h339
          refine dk0 2 (v := .bool false) h341 rfl rfl ⟨hB337, hk338⟩ fun a342 h342 => ?_; clear h341
          refine dk0 3 (v := pt N12 0) h342 rfl rfl ⟨hB337, hk338⟩ fun a343 h343 => ?_; clear h342
          refine dk0 5 (v := pt N23 0) h343 rfl rfl ⟨hB337, hk338⟩ fun a344 h344 => ?_; clear h343
          refine dk0 6 (v := pt N23 0) h344 rfl rfl ⟨hB337, hk338⟩ fun a345 h345 => ?_; clear h344
          refine dk0 7 (v := pt N23 1) h345 rfl rfl ⟨hB337, hk338⟩ fun a346 h346 => ?_; clear h345
          refine dk 8 (v := .int .u64 (mvLa lA y87.ts y87.l)) h346 rfl rfl ⟨hB337, hk338⟩ (fun x hx => (rn_load1 rfl rfl Try.isAgg29 (hx.2.cell rfl))) fun a347 h347 => ?_; clear h346
          have hO350 := MvO.butG hO308 hx322.but (ap_symm (ap_symm (Grew.ap hx309 (ap_symm (ap_symm hapA)) (RsO.ofS hO306))))
          have hO351 := MvO.gr hO350 hg332 (fun k e => by cases e)
          refine d1 4 h347 rfl rfl (op_call (args := #[pt N12 0]) (R := fun res xw => res = .int .u64 (mvLa lA y87.ts y87.l) ∧ w331 = xw) rfl rfl rfl (by kernel_rfl) (by kernel_rfl) (Try.call16 _ _) (mvLast w331 hO351) (by rintro e x ⟨rfl, rfl⟩; exact ⟨_, rfl, rfl, rfl⟩)) ?_ ?_; clear h347
          ·
           rintro _ _ ⟨rfl, rfl⟩
           exact ⟨hB337, hk338⟩
          rintro _ _ a348 ⟨rfl, rfl⟩ h348
          refine dk0 9 (v := .bool ((mvLa lA y87.ts y87.l) != (mvLa lA y87.ts y87.l))) h348 rfl rfl ⟨hB337, hk338⟩ fun a352 h352 => ?_; clear h348
          refine dk0 10 (v := .bool ((mvLa lA y87.ts y87.l) != (mvLa lA y87.ts y87.l))) h352 rfl rfl ⟨hB337, hk338⟩ fun a353 h353 => ?_; clear h352
          refine dk0 11 (v := .bool ((mvLa lA y87.ts y87.l) != (mvLa lA y87.ts y87.l))) h353 rfl rfl ⟨hB337, hk338⟩ fun a354 h354 => ?_; clear h353
          have hc355 : ((mvLa lA y87.ts y87.l) != (mvLa lA y87.ts y87.l)) = false := by first | (simp; done) | (simp; omega) | (rw [bne_eq_false_iff_eq]; omega)
          rw [hc355] at h354; clear hc355
          refine dk0 12 (v := pt N12 0) h354 rfl rfl ⟨hB337, hk338⟩ fun a356 h356 => ?_; clear h354
          refine dk0 14 (v := pt N23 0) h356 rfl rfl ⟨hB337, hk338⟩ fun a357 h357 => ?_; clear h356
          refine d1 13 h357 rfl rfl (op_call (args := #[pt N12 0]) (R := fun res xw => res = .int .i64 (mvCe lA y87.ts cA y87.l) ∧ w331 = xw) rfl rfl rfl (by kernel_rfl) (by kernel_rfl) (Try.call17 _ _) (mvCells w331 hO351) (by rintro e x ⟨rfl, rfl⟩; exact ⟨_, rfl, rfl, rfl⟩)) ?_ ?_; clear h357
          ·
           rintro _ _ ⟨rfl, rfl⟩
           exact ⟨hB337, hk338⟩
          rintro _ _ a358 ⟨rfl, rfl⟩ h358
          have ho362 := MvO.ofS hO351
          have hO364 := RsO.gr hO321 hg332 (fun k e => by cases e)
          have ho363 := RsO.ofS hO364
          refine d1 15 h358 rfl rfl (op_call (args := #[pt N23 0]) (R := fun res xw => res = .int .i64 ((csK (mvF fA lA y87.ts y87.l) (ksOf (mvF fA lA y87.ts y87.l)) : Nat) : Int) ∧ Below w331.heap.size w331 xw) rfl rfl rfl (by kernel_rfl) (by kernel_rfl) (Try.call18 _ _) (rsCells w331 hO364 (by omega)) (by rintro e x ⟨rfl, h⟩; exact ⟨_, rfl, rfl, h⟩)) ?_ ?_; clear h358
          ·
           rintro _ w361 ⟨rfl, hb365⟩
           have hz366 := hb365.size
           have ho367 := MvO.ofS hO351
           have ho368 := RsO.ofS hO364
           have hB369 := hb_call hB337 hb365
           have hk370 := hk338.below hb365
           exact ⟨hB369, hk370⟩
          rintro _ w361 a360 ⟨rfl, hb365⟩ h360
          have hz366 := hb365.size
          have ho367 := MvO.ofS hO351
          have ho368 := RsO.ofS hO364
          have hB369 := hb_call hB337 hb365
          have hk370 := hk338.below hb365
          refine dk0 16 (v := .bool ((mvCe lA y87.ts cA y87.l) != ((csK (mvF fA lA y87.ts y87.l) (ksOf (mvF fA lA y87.ts y87.l)) : Nat) : Int))) h360 rfl rfl ⟨hB369, hk370⟩ fun a371 h371 => ?_; clear h360
          refine dk0 17 (v := .bool ((mvCe lA y87.ts cA y87.l) != ((csK (mvF fA lA y87.ts y87.l) (ksOf (mvF fA lA y87.ts y87.l)) : Nat) : Int))) h371 rfl rfl ⟨hB369, hk370⟩ fun a372 h372 => ?_; clear h371
          refine dr_done (by kernel_rfl) ?_
          refine co_then ?_
          have hc373 : ((mvCe lA y87.ts cA y87.l) != ((csK (mvF fA lA y87.ts y87.l) (ksOf (mvF fA lA y87.ts y87.l)) : Nat) : Int)) = false := by first | (simp; done) | (simp; omega) | (rw [bne_eq_false_iff_eq]; omega)
          rw [hc373] at h372; clear hc373
          refine co_false h372 rfl ?_
          refine wp_skip ?_
          refine co_blockN ?_
          refine co_then ?_
          refine co_reg ?_
          refine pk0 (v := .int .i64 ((i : Nat) : Int)) h372 rfl fun a374 h374 => ?_; clear h372
          refine pk (v := .int .i64 ((i + 1 : Nat) : Int)) h374 rfl (rn_arith' rfl rfl rfl rfl rfl rfl (IntWalk.i64_in _ (by omega)) (by omega)) fun a375 h375 => ?_; clear h374
          refine pk0 (v := .int .i64 ((i + 1 : Nat) : Int)) h375 rfl fun a376 h376 => ?_; clear h375
          refine pl_nil ?_
          refine co_then ?_
          refine ⟨(l.length - (i + 1)), by omega, ?_⟩
          have hlo9 := hlo311
          have hlp9 := hlo324
          have hap9 := (ap_symm (Grew.ap hx322 (ap_symm (ap_symm (ap_symm (Grew.ap hx309 (ap_symm (ap_symm hapA)) (RsO.ofS hO306))))) (MvO.ofS hO308)))
          have hcs9 := hcs314
          have hO377 := MvO.gr hO351 (below_grown hb365) (fun k e => by cases e)
          have hO378 := RsO.gr hO364 (below_grown hb365) (fun k e => by cases e)
          exact ⟨i + 1, S307, S320, (mvF fA lA y87.ts y87.l), (mvLa lA y87.ts y87.l), (mvCe lA y87.ts cA y87.l), h376.sub ⟨rfl, rfl, rfl, rfl, trivial⟩, rfl, by omega, by omega, by exact hlo9, by exact hlp9, by exact hap9, by exact hcs9, hO377, hO378, hB369⟩
        ·
         rw [hc99] at h98
         have hp379 : y87.c = 1 := by first | simpa using hc99 | simpa [and_assoc] using hc99
         clear hc99
         refine co_true h98 rfl ?_
         refine wp_skip ?_
         refine co_then ?_
         refine co_true h98 rfl ?_
         refine dr_gen (fun x => Below w.heap.size w x) (by kernel_rfl) (fun w380 hg381 => ?_) (fun w380 hg381 => ?_)
         ·
          have hz382 := hg381.size
          have hB383 := hb_new hB47 hg381
          exact hB383
         have hz384 := hg381.size
         have hB385 := hb_new hB47 hg381
         refine dk0 0 (v := pt N12 0) h98 rfl rfl hB385 fun a386 h386 => ?_; clear h98
         refine dk0 1 (v := v) h386 rfl rfl hB385 fun a387 h387 => ?_; clear h386
         refine dk0 2 (v := .int .i64 ((i : Nat) : Int)) h387 rfl rfl hB385 fun a388 h388 => ?_; clear h387
         refine dk 3 (v := pt (blkOf v) (offOf v + i * 6)) h388 rfl rfl hB385 (fun x hx => (rn_index rfl rfl rfl Try.underlying22 Try.sizeOf34 (hs.below hx) (by omega) (by first | omega | (simp; done) | (simp; omega)))) fun a389 h389 => ?_; clear h388
         refine dk0 4 (v := pt (blkOf v) (offOf v + i * 6 + 1)) h389 rfl rfl hB385 fun a390 h390 => ?_; clear h389
         refine dk 5 (v := .int .u64 y87.ts) h390 rfl rfl hB385 (fun x hx => (rn_load1 rfl rfl Try.isAgg29 ((sl_at (hs.below hx) hy87) 1 _ rfl))) fun a391 h391 => ?_; clear h390
         refine dk0 6 (v := v) h391 rfl rfl hB385 fun a392 h392 => ?_; clear h391
         refine dk0 7 (v := .int .i64 ((i : Nat) : Int)) h392 rfl rfl hB385 fun a393 h393 => ?_; clear h392
         refine dk 8 (v := pt (blkOf v) (offOf v + i * 6)) h393 rfl rfl hB385 (fun x hx => (rn_index rfl rfl rfl Try.underlying22 Try.sizeOf34 (hs.below hx) (by omega) (by first | omega | (simp; done) | (simp; omega)))) fun a394 h394 => ?_; clear h393
         refine dk0 9 (v := pt (blkOf v) (offOf v + i * 6 + 2)) h394 rfl rfl hB385 fun a395 h395 => ?_; clear h394
         refine dk 10 (v := y87.v) h395 rfl rfl hB385 (fun x hx => (rn_load1 rfl rfl Try.isAgg32 ((sl_at (hs.below hx) hy87) 2 _ rfl))) fun a396 h396 => ?_; clear h395
         refine dk0 12 (v := pt N23 0) h396 rfl rfl hB385 fun a397 h397 => ?_; clear h396
         refine dk0 13 (v := v) h397 rfl rfl hB385 fun a398 h398 => ?_; clear h397
         refine dk0 14 (v := .int .i64 ((i : Nat) : Int)) h398 rfl rfl hB385 fun a399 h399 => ?_; clear h398
         refine dk 15 (v := pt (blkOf v) (offOf v + i * 6)) h399 rfl rfl hB385 (fun x hx => (rn_index rfl rfl rfl Try.underlying22 Try.sizeOf34 (hs.below hx) (by omega) (by first | omega | (simp; done) | (simp; omega)))) fun a400 h400 => ?_; clear h399
         refine dk0 16 (v := pt (blkOf v) (offOf v + i * 6 + 1)) h400 rfl rfl hB385 fun a401 h401 => ?_; clear h400
         refine dk 17 (v := .int .u64 y87.ts) h401 rfl rfl hB385 (fun x hx => (rn_load1 rfl rfl Try.isAgg29 ((sl_at (hs.below hx) hy87) 1 _ rfl))) fun a402 h402 => ?_; clear h401
         refine dk0 18 (v := v) h402 rfl rfl hB385 fun a403 h403 => ?_; clear h402
         refine dk0 19 (v := .int .i64 ((i : Nat) : Int)) h403 rfl rfl hB385 fun a404 h404 => ?_; clear h403
         refine dk 20 (v := pt (blkOf v) (offOf v + i * 6)) h404 rfl rfl hB385 (fun x hx => (rn_index rfl rfl rfl Try.underlying22 Try.sizeOf34 (hs.below hx) (by omega) (by first | omega | (simp; done) | (simp; omega)))) fun a405 h405 => ?_; clear h404
         refine dk0 21 (v := pt (blkOf v) (offOf v + i * 6 + 2)) h405 rfl rfl hB385 fun a406 h406 => ?_; clear h405
         refine dk 22 (v := y87.v) h406 rfl rfl hB385 (fun x hx => (rn_load1 rfl rfl Try.isAgg32 ((sl_at (hs.below hx) hy87) 2 _ rfl))) fun a407 h407 => ?_; clear h406
         have hO411 := MvO.gr hf45 hg381 (fun k e => by cases e)
         have ho410 := MvO.ofS hO411
         have hO413 := RsO.gr hf46 hg381 (fun k e => by cases e)
         have ho412 := RsO.ofS hO413
         have hfly87 : y87.l.length ≤ 20 := by first | exact Few.at hfew hy87 (by omega) | exact Few.at hfew2 hy87 (by omega)
         refine d1 11 h407 rfl rfl (op_call (args := #[pt N12 0, .int .u64 y87.ts, y87.v]) (R := fun res xw => ∃ S' : Nat → Prop, res = .int .i64 (mvE lA y87.ts y87.l) ∧ MvO S' xw N12 (mvF fA lA y87.ts y87.l) (mvLa lA y87.ts y87.l) (mvCe lA y87.ts cA y87.l) (i + 1) ∧ Grew SA S' w380 xw) rfl rfl rfl (by kernel_rfl) (by kernel_rfl) (Try.call11 _ _) (mvPut w380 y87.ts (y87.v) y87.l hO411 (oky87.ops.below hB385) (sl_off oky87.ops (opE_ne _) hlo49) (by omega) ⟨by omega, by omega⟩ (by omega)) (by rintro e x ⟨S', h0, h⟩; exact ⟨_, h0, S', rfl, h⟩)) ?_ ?_; clear h407
         ·
          rintro _ w409 ⟨S414, rfl, hO415, hx416⟩
          have hlo418 : ∀ q, S414 q → w.heap.size ≤ q := hx416.lo hlo49 (by omega)
          have hB417 := hbL hB385 hlo49 hx416.but
          have hz419 := hB417.size
          have hz420 := hx416.but.size
          have hcs421 := cs_put (la := lA) (ts := y87.ts) (l := y87.l) (MvO.kof hO411) hcA
          exact hB417
         rintro _ w409 a408 ⟨S414, rfl, hO415, hx416⟩ h408
         have hlo418 : ∀ q, S414 q → w.heap.size ≤ q := hx416.lo hlo49 (by omega)
         have hB417 := hbL hB385 hlo49 hx416.but
         have hz419 := hB417.size
         have hz420 := hx416.but.size
         have hcs421 := cs_put (la := lA) (ts := y87.ts) (l := y87.l) (MvO.kof hO411) hcA
         have hO425 := RsO.butG hO413 hx416.but (ap_symm hapA)
         have ho424 := RsO.ofS hO425
         have ho426 := MvO.ofS hO415
         have hfly87 : y87.l.length ≤ 20 := by first | exact Few.at hfew hy87 (by omega) | exact Few.at hfew2 hy87 (by omega)
         refine d1 23 h408 rfl rfl (op_call (args := #[pt N23 0, .int .u64 y87.ts, y87.v]) (R := fun res xw => ∃ S' : Nat → Prop, res = .int .i64 (mvE lA y87.ts y87.l) ∧ RsO S' xw N23 (mvF fA lA y87.ts y87.l) (mvLa lA y87.ts y87.l) (i + 1) ∧ Grew SB S' w409 xw) rfl rfl rfl (by kernel_rfl) (by kernel_rfl) (Try.call12 _ _) (rsPut w409 y87.ts (y87.v) y87.l hO425 (oky87.ops.below hB417) (sl_off oky87.ops (opE_ne _) hlo50) (by omega) ⟨by omega, by omega⟩ (by omega)) (by rintro e x ⟨S', h0, h⟩; exact ⟨_, h0, S', rfl, h⟩)) ?_ ?_; clear h408
         ·
          rintro _ w423 ⟨S427, rfl, hO428, hx429⟩
          have hlo431 : ∀ q, S427 q → w.heap.size ≤ q := hx429.lo hlo50 (by omega)
          have hB430 := hbL hB417 hlo50 hx429.but
          have hz432 := hB430.size
          have hz433 := hx429.but.size
          obtain ⟨u434, hb435⟩ := RsO.blk hO428
          exact hB430
         rintro _ w423 a422 ⟨S427, rfl, hO428, hx429⟩ h422
         have hlo431 : ∀ q, S427 q → w.heap.size ≤ q := hx429.lo hlo50 (by omega)
         have hB430 := hbL hB417 hlo50 hx429.but
         have hz432 := hB430.size
         have hz433 := hx429.but.size
         obtain ⟨u434, hb435⟩ := RsO.blk hO428
         refine dk0 24 (v := .bool ((mvE lA y87.ts y87.l) == (mvE lA y87.ts y87.l))) h422 rfl rfl hB430 fun a436 h436 => ?_; clear h422
         refine dk0 25 (v := .bool ((mvE lA y87.ts y87.l) == (mvE lA y87.ts y87.l))) h436 rfl rfl hB430 fun a437 h437 => ?_; clear h436
         refine dr_done (by kernel_rfl) ?_
         refine co_blockN ?_
         refine co_then ?_
         refine co_seq ?_
         refine dr_gen (fun x => Below w.heap.size w x ∧ Blk x N23 31 #[u434, .int .u64 (mvLa lA y87.ts y87.l)]) (by kernel_rfl) (fun w438 hg439 => ?_) (fun w438 hg439 => ?_)
         ·
          have hz440 := hg439.size
          have hB441 := hb_new hB430 hg439
          have hk442 := hb435.kept hg439 (by simp)
          exact ⟨hB441, hk442⟩
         have hz443 := hg439.size
         have hB444 := hb_new hB430 hg439
         have hk445 := hb435.kept hg439 (by simp)
         refine dk0 0 (v := .bool ((mvE lA y87.ts y87.l) == (mvE lA y87.ts y87.l))) h437 rfl rfl ⟨hB444, hk445⟩ fun a446 h446 => ?_; clear h437
         have hc447 : ((mvE lA y87.ts y87.l) == (mvE lA y87.ts y87.l)) = true := by first | (simp; done) | (simp; omega) | (rw [bne_eq_false_iff_eq]; omega)
         rw [hc447] at h446; clear hc447
         refine dk0 1 (v := .bool false) h446 rfl rfl ⟨hB444, hk445⟩ fun a448 h448 => ?_; clear h446
         refine dk0 2 (v := .bool false) h448 rfl rfl ⟨hB444, hk445⟩ fun a449 h449 => ?_; clear h448
         refine dk0 3 (v := pt N12 0) h449 rfl rfl ⟨hB444, hk445⟩ fun a450 h450 => ?_; clear h449
         refine dk0 5 (v := pt N23 0) h450 rfl rfl ⟨hB444, hk445⟩ fun a451 h451 => ?_; clear h450
         refine dk0 6 (v := pt N23 0) h451 rfl rfl ⟨hB444, hk445⟩ fun a452 h452 => ?_; clear h451
         refine dk0 7 (v := pt N23 1) h452 rfl rfl ⟨hB444, hk445⟩ fun a453 h453 => ?_; clear h452
         refine dk 8 (v := .int .u64 (mvLa lA y87.ts y87.l)) h453 rfl rfl ⟨hB444, hk445⟩ (fun x hx => (rn_load1 rfl rfl Try.isAgg29 (hx.2.cell rfl))) fun a454 h454 => ?_; clear h453
         have hO457 := MvO.butG hO415 hx429.but (ap_symm (ap_symm (Grew.ap hx416 (ap_symm (ap_symm hapA)) (RsO.ofS hO413))))
         have hO458 := MvO.gr hO457 hg439 (fun k e => by cases e)
         refine d1 4 h454 rfl rfl (op_call (args := #[pt N12 0]) (R := fun res xw => res = .int .u64 (mvLa lA y87.ts y87.l) ∧ w438 = xw) rfl rfl rfl (by kernel_rfl) (by kernel_rfl) (Try.call16 _ _) (mvLast w438 hO458) (by rintro e x ⟨rfl, rfl⟩; exact ⟨_, rfl, rfl, rfl⟩)) ?_ ?_; clear h454
         ·
          rintro _ _ ⟨rfl, rfl⟩
          exact ⟨hB444, hk445⟩
         rintro _ _ a455 ⟨rfl, rfl⟩ h455
         refine dk0 9 (v := .bool ((mvLa lA y87.ts y87.l) != (mvLa lA y87.ts y87.l))) h455 rfl rfl ⟨hB444, hk445⟩ fun a459 h459 => ?_; clear h455
         refine dk0 10 (v := .bool ((mvLa lA y87.ts y87.l) != (mvLa lA y87.ts y87.l))) h459 rfl rfl ⟨hB444, hk445⟩ fun a460 h460 => ?_; clear h459
         refine dk0 11 (v := .bool ((mvLa lA y87.ts y87.l) != (mvLa lA y87.ts y87.l))) h460 rfl rfl ⟨hB444, hk445⟩ fun a461 h461 => ?_; clear h460
         have hc462 : ((mvLa lA y87.ts y87.l) != (mvLa lA y87.ts y87.l)) = false := by first | (simp; done) | (simp; omega) | (rw [bne_eq_false_iff_eq]; omega)
         rw [hc462] at h461; clear hc462
         refine dk0 12 (v := pt N12 0) h461 rfl rfl ⟨hB444, hk445⟩ fun a463 h463 => ?_; clear h461
         refine dk0 14 (v := pt N23 0) h463 rfl rfl ⟨hB444, hk445⟩ fun a464 h464 => ?_; clear h463
         refine d1 13 h464 rfl rfl (op_call (args := #[pt N12 0]) (R := fun res xw => res = .int .i64 (mvCe lA y87.ts cA y87.l) ∧ w438 = xw) rfl rfl rfl (by kernel_rfl) (by kernel_rfl) (Try.call17 _ _) (mvCells w438 hO458) (by rintro e x ⟨rfl, rfl⟩; exact ⟨_, rfl, rfl, rfl⟩)) ?_ ?_; clear h464
         ·
          rintro _ _ ⟨rfl, rfl⟩
          exact ⟨hB444, hk445⟩
         rintro _ _ a465 ⟨rfl, rfl⟩ h465
         have ho469 := MvO.ofS hO458
         have hO471 := RsO.gr hO428 hg439 (fun k e => by cases e)
         have ho470 := RsO.ofS hO471
         refine d1 15 h465 rfl rfl (op_call (args := #[pt N23 0]) (R := fun res xw => res = .int .i64 ((csK (mvF fA lA y87.ts y87.l) (ksOf (mvF fA lA y87.ts y87.l)) : Nat) : Int) ∧ Below w438.heap.size w438 xw) rfl rfl rfl (by kernel_rfl) (by kernel_rfl) (Try.call18 _ _) (rsCells w438 hO471 (by omega)) (by rintro e x ⟨rfl, h⟩; exact ⟨_, rfl, rfl, h⟩)) ?_ ?_; clear h465
         ·
          rintro _ w468 ⟨rfl, hb472⟩
          have hz473 := hb472.size
          have ho474 := MvO.ofS hO458
          have ho475 := RsO.ofS hO471
          have hB476 := hb_call hB444 hb472
          have hk477 := hk445.below hb472
          exact ⟨hB476, hk477⟩
         rintro _ w468 a467 ⟨rfl, hb472⟩ h467
         have hz473 := hb472.size
         have ho474 := MvO.ofS hO458
         have ho475 := RsO.ofS hO471
         have hB476 := hb_call hB444 hb472
         have hk477 := hk445.below hb472
         refine dk0 16 (v := .bool ((mvCe lA y87.ts cA y87.l) != ((csK (mvF fA lA y87.ts y87.l) (ksOf (mvF fA lA y87.ts y87.l)) : Nat) : Int))) h467 rfl rfl ⟨hB476, hk477⟩ fun a478 h478 => ?_; clear h467
         refine dk0 17 (v := .bool ((mvCe lA y87.ts cA y87.l) != ((csK (mvF fA lA y87.ts y87.l) (ksOf (mvF fA lA y87.ts y87.l)) : Nat) : Int))) h478 rfl rfl ⟨hB476, hk477⟩ fun a479 h479 => ?_; clear h478
         refine dr_done (by kernel_rfl) ?_
         refine co_then ?_
         have hc480 : ((mvCe lA y87.ts cA y87.l) != ((csK (mvF fA lA y87.ts y87.l) (ksOf (mvF fA lA y87.ts y87.l)) : Nat) : Int)) = false := by first | (simp; done) | (simp; omega) | (rw [bne_eq_false_iff_eq]; omega)
         rw [hc480] at h479; clear hc480
         refine co_false h479 rfl ?_
         refine wp_skip ?_
         refine co_blockN ?_
         refine co_then ?_
         refine co_reg ?_
         refine pk0 (v := .int .i64 ((i : Nat) : Int)) h479 rfl fun a481 h481 => ?_; clear h479
         refine pk (v := .int .i64 ((i + 1 : Nat) : Int)) h481 rfl (rn_arith' rfl rfl rfl rfl rfl rfl (IntWalk.i64_in _ (by omega)) (by omega)) fun a482 h482 => ?_; clear h481
         refine pk0 (v := .int .i64 ((i + 1 : Nat) : Int)) h482 rfl fun a483 h483 => ?_; clear h482
         refine pl_nil ?_
         refine co_then ?_
         refine ⟨(l.length - (i + 1)), by omega, ?_⟩
         have hlo9 := hlo418
         have hlp9 := hlo431
         have hap9 := (ap_symm (Grew.ap hx429 (ap_symm (ap_symm (ap_symm (Grew.ap hx416 (ap_symm (ap_symm hapA)) (RsO.ofS hO413))))) (MvO.ofS hO415)))
         have hcs9 := hcs421
         have hO484 := MvO.gr hO458 (below_grown hb472) (fun k e => by cases e)
         have hO485 := RsO.gr hO471 (below_grown hb472) (fun k e => by cases e)
         exact ⟨i + 1, S414, S427, (mvF fA lA y87.ts y87.l), (mvLa lA y87.ts y87.l), (mvCe lA y87.ts cA y87.l), h483.sub ⟨rfl, rfl, rfl, rfl, trivial⟩, rfl, by omega, by omega, by exact hlo9, by exact hlp9, by exact hap9, by exact hcs9, hO484, hO485, hB476⟩
       ·
        rw [hc95] at h94
        have hp486 : y87.c = 0 := by first | simpa using hc95 | simpa [and_assoc] using hc95
        clear hc95
        refine co_true h94 rfl ?_
        refine wp_skip ?_
        refine co_then ?_
        refine co_true h94 rfl ?_
        refine dr_gen (fun x => Below w.heap.size w x) (by kernel_rfl) (fun w487 hg488 => ?_) (fun w487 hg488 => ?_)
        ·
         have hz489 := hg488.size
         have hB490 := hb_new hB47 hg488
         exact hB490
        have hz491 := hg488.size
        have hB492 := hb_new hB47 hg488
        refine dk0 0 (v := pt N12 0) h94 rfl rfl hB492 fun a493 h493 => ?_; clear h94
        refine dk0 1 (v := v) h493 rfl rfl hB492 fun a494 h494 => ?_; clear h493
        refine dk0 2 (v := .int .i64 ((i : Nat) : Int)) h494 rfl rfl hB492 fun a495 h495 => ?_; clear h494
        refine dk 3 (v := pt (blkOf v) (offOf v + i * 6)) h495 rfl rfl hB492 (fun x hx => (rn_index rfl rfl rfl Try.underlying22 Try.sizeOf34 (hs.below hx) (by omega) (by first | omega | (simp; done) | (simp; omega)))) fun a496 h496 => ?_; clear h495
        refine dk0 4 (v := pt (blkOf v) (offOf v + i * 6 + 1)) h496 rfl rfl hB492 fun a497 h497 => ?_; clear h496
        refine dk 5 (v := .int .u64 y87.ts) h497 rfl rfl hB492 (fun x hx => (rn_load1 rfl rfl Try.isAgg29 ((sl_at (hs.below hx) hy87) 1 _ rfl))) fun a498 h498 => ?_; clear h497
        refine dk0 6 (v := v) h498 rfl rfl hB492 fun a499 h499 => ?_; clear h498
        refine dk0 7 (v := .int .i64 ((i : Nat) : Int)) h499 rfl rfl hB492 fun a500 h500 => ?_; clear h499
        refine dk 8 (v := pt (blkOf v) (offOf v + i * 6)) h500 rfl rfl hB492 (fun x hx => (rn_index rfl rfl rfl Try.underlying22 Try.sizeOf34 (hs.below hx) (by omega) (by first | omega | (simp; done) | (simp; omega)))) fun a501 h501 => ?_; clear h500
        refine dk0 9 (v := pt (blkOf v) (offOf v + i * 6 + 2)) h501 rfl rfl hB492 fun a502 h502 => ?_; clear h501
        refine dk 10 (v := y87.v) h502 rfl rfl hB492 (fun x hx => (rn_load1 rfl rfl Try.isAgg32 ((sl_at (hs.below hx) hy87) 2 _ rfl))) fun a503 h503 => ?_; clear h502
        refine dk0 12 (v := pt N23 0) h503 rfl rfl hB492 fun a504 h504 => ?_; clear h503
        refine dk0 13 (v := v) h504 rfl rfl hB492 fun a505 h505 => ?_; clear h504
        refine dk0 14 (v := .int .i64 ((i : Nat) : Int)) h505 rfl rfl hB492 fun a506 h506 => ?_; clear h505
        refine dk 15 (v := pt (blkOf v) (offOf v + i * 6)) h506 rfl rfl hB492 (fun x hx => (rn_index rfl rfl rfl Try.underlying22 Try.sizeOf34 (hs.below hx) (by omega) (by first | omega | (simp; done) | (simp; omega)))) fun a507 h507 => ?_; clear h506
        refine dk0 16 (v := pt (blkOf v) (offOf v + i * 6 + 1)) h507 rfl rfl hB492 fun a508 h508 => ?_; clear h507
        refine dk 17 (v := .int .u64 y87.ts) h508 rfl rfl hB492 (fun x hx => (rn_load1 rfl rfl Try.isAgg29 ((sl_at (hs.below hx) hy87) 1 _ rfl))) fun a509 h509 => ?_; clear h508
        refine dk0 18 (v := v) h509 rfl rfl hB492 fun a510 h510 => ?_; clear h509
        refine dk0 19 (v := .int .i64 ((i : Nat) : Int)) h510 rfl rfl hB492 fun a511 h511 => ?_; clear h510
        refine dk 20 (v := pt (blkOf v) (offOf v + i * 6)) h511 rfl rfl hB492 (fun x hx => (rn_index rfl rfl rfl Try.underlying22 Try.sizeOf34 (hs.below hx) (by omega) (by first | omega | (simp; done) | (simp; omega)))) fun a512 h512 => ?_; clear h511
        refine dk0 21 (v := pt (blkOf v) (offOf v + i * 6 + 2)) h512 rfl rfl hB492 fun a513 h513 => ?_; clear h512
        refine dk 22 (v := y87.v) h513 rfl rfl hB492 (fun x hx => (rn_load1 rfl rfl Try.isAgg32 ((sl_at (hs.below hx) hy87) 2 _ rfl))) fun a514 h514 => ?_; clear h513
        have hO518 := MvO.gr hf45 hg488 (fun k e => by cases e)
        have ho517 := MvO.ofS hO518
        have hO520 := RsO.gr hf46 hg488 (fun k e => by cases e)
        have ho519 := RsO.ofS hO520
        have hfly87 : y87.l.length ≤ 20 := by first | exact Few.at hfew hy87 (by omega) | exact Few.at hfew2 hy87 (by omega)
        refine d1 11 h514 rfl rfl (op_call (args := #[pt N12 0, .int .u64 y87.ts, y87.v]) (R := fun res xw => ∃ S' : Nat → Prop, res = .int .i64 (mvE lA y87.ts y87.l) ∧ MvO S' xw N12 (mvF fA lA y87.ts y87.l) (mvLa lA y87.ts y87.l) (mvCe lA y87.ts cA y87.l) (i + 1) ∧ Grew SA S' w487 xw) rfl rfl rfl (by kernel_rfl) (by kernel_rfl) (Try.call11 _ _) (mvPut w487 y87.ts (y87.v) y87.l hO518 (oky87.ops.below hB492) (sl_off oky87.ops (opE_ne _) hlo49) (by omega) ⟨by omega, by omega⟩ (by omega)) (by rintro e x ⟨S', h0, h⟩; exact ⟨_, h0, S', rfl, h⟩)) ?_ ?_; clear h514
        ·
         rintro _ w516 ⟨S521, rfl, hO522, hx523⟩
         have hlo525 : ∀ q, S521 q → w.heap.size ≤ q := hx523.lo hlo49 (by omega)
         have hB524 := hbL hB492 hlo49 hx523.but
         have hz526 := hB524.size
         have hz527 := hx523.but.size
         have hcs528 := cs_put (la := lA) (ts := y87.ts) (l := y87.l) (MvO.kof hO518) hcA
         exact hB524
        rintro _ w516 a515 ⟨S521, rfl, hO522, hx523⟩ h515
        have hlo525 : ∀ q, S521 q → w.heap.size ≤ q := hx523.lo hlo49 (by omega)
        have hB524 := hbL hB492 hlo49 hx523.but
        have hz526 := hB524.size
        have hz527 := hx523.but.size
        have hcs528 := cs_put (la := lA) (ts := y87.ts) (l := y87.l) (MvO.kof hO518) hcA
        have hO532 := RsO.butG hO520 hx523.but (ap_symm hapA)
        have ho531 := RsO.ofS hO532
        have ho533 := MvO.ofS hO522
        have hfly87 : y87.l.length ≤ 20 := by first | exact Few.at hfew hy87 (by omega) | exact Few.at hfew2 hy87 (by omega)
        refine d1 23 h515 rfl rfl (op_call (args := #[pt N23 0, .int .u64 y87.ts, y87.v]) (R := fun res xw => ∃ S' : Nat → Prop, res = .int .i64 (mvE lA y87.ts y87.l) ∧ RsO S' xw N23 (mvF fA lA y87.ts y87.l) (mvLa lA y87.ts y87.l) (i + 1) ∧ Grew SB S' w516 xw) rfl rfl rfl (by kernel_rfl) (by kernel_rfl) (Try.call12 _ _) (rsPut w516 y87.ts (y87.v) y87.l hO532 (oky87.ops.below hB524) (sl_off oky87.ops (opE_ne _) hlo50) (by omega) ⟨by omega, by omega⟩ (by omega)) (by rintro e x ⟨S', h0, h⟩; exact ⟨_, h0, S', rfl, h⟩)) ?_ ?_; clear h515
        ·
         rintro _ w530 ⟨S534, rfl, hO535, hx536⟩
         have hlo538 : ∀ q, S534 q → w.heap.size ≤ q := hx536.lo hlo50 (by omega)
         have hB537 := hbL hB524 hlo50 hx536.but
         have hz539 := hB537.size
         have hz540 := hx536.but.size
         obtain ⟨u541, hb542⟩ := RsO.blk hO535
         exact hB537
        rintro _ w530 a529 ⟨S534, rfl, hO535, hx536⟩ h529
        have hlo538 : ∀ q, S534 q → w.heap.size ≤ q := hx536.lo hlo50 (by omega)
        have hB537 := hbL hB524 hlo50 hx536.but
        have hz539 := hB537.size
        have hz540 := hx536.but.size
        obtain ⟨u541, hb542⟩ := RsO.blk hO535
        refine dk0 24 (v := .bool ((mvE lA y87.ts y87.l) == (mvE lA y87.ts y87.l))) h529 rfl rfl hB537 fun a543 h543 => ?_; clear h529
        refine dk0 25 (v := .bool ((mvE lA y87.ts y87.l) == (mvE lA y87.ts y87.l))) h543 rfl rfl hB537 fun a544 h544 => ?_; clear h543
        refine dr_done (by kernel_rfl) ?_
        refine co_blockN ?_
        refine co_then ?_
        refine co_seq ?_
        refine dr_gen (fun x => Below w.heap.size w x ∧ Blk x N23 31 #[u541, .int .u64 (mvLa lA y87.ts y87.l)]) (by kernel_rfl) (fun w545 hg546 => ?_) (fun w545 hg546 => ?_)
        ·
         have hz547 := hg546.size
         have hB548 := hb_new hB537 hg546
         have hk549 := hb542.kept hg546 (by simp)
         exact ⟨hB548, hk549⟩
        have hz550 := hg546.size
        have hB551 := hb_new hB537 hg546
        have hk552 := hb542.kept hg546 (by simp)
        refine dk0 0 (v := .bool ((mvE lA y87.ts y87.l) == (mvE lA y87.ts y87.l))) h544 rfl rfl ⟨hB551, hk552⟩ fun a553 h553 => ?_; clear h544
        have hc554 : ((mvE lA y87.ts y87.l) == (mvE lA y87.ts y87.l)) = true := by first | (simp; done) | (simp; omega) | (rw [bne_eq_false_iff_eq]; omega)
        rw [hc554] at h553; clear hc554
        refine dk0 1 (v := .bool false) h553 rfl rfl ⟨hB551, hk552⟩ fun a555 h555 => ?_; clear h553
        refine dk0 2 (v := .bool false) h555 rfl rfl ⟨hB551, hk552⟩ fun a556 h556 => ?_; clear h555
        refine dk0 3 (v := pt N12 0) h556 rfl rfl ⟨hB551, hk552⟩ fun a557 h557 => ?_; clear h556
        refine dk0 5 (v := pt N23 0) h557 rfl rfl ⟨hB551, hk552⟩ fun a558 h558 => ?_; clear h557
        refine dk0 6 (v := pt N23 0) h558 rfl rfl ⟨hB551, hk552⟩ fun a559 h559 => ?_; clear h558
        refine dk0 7 (v := pt N23 1) h559 rfl rfl ⟨hB551, hk552⟩ fun a560 h560 => ?_; clear h559
        refine dk 8 (v := .int .u64 (mvLa lA y87.ts y87.l)) h560 rfl rfl ⟨hB551, hk552⟩ (fun x hx => (rn_load1 rfl rfl Try.isAgg29 (hx.2.cell rfl))) fun a561 h561 => ?_; clear h560
        have hO564 := MvO.butG hO522 hx536.but (ap_symm (ap_symm (Grew.ap hx523 (ap_symm (ap_symm hapA)) (RsO.ofS hO520))))
        have hO565 := MvO.gr hO564 hg546 (fun k e => by cases e)
        refine d1 4 h561 rfl rfl (op_call (args := #[pt N12 0]) (R := fun res xw => res = .int .u64 (mvLa lA y87.ts y87.l) ∧ w545 = xw) rfl rfl rfl (by kernel_rfl) (by kernel_rfl) (Try.call16 _ _) (mvLast w545 hO565) (by rintro e x ⟨rfl, rfl⟩; exact ⟨_, rfl, rfl, rfl⟩)) ?_ ?_; clear h561
        ·
         rintro _ _ ⟨rfl, rfl⟩
         exact ⟨hB551, hk552⟩
        rintro _ _ a562 ⟨rfl, rfl⟩ h562
        refine dk0 9 (v := .bool ((mvLa lA y87.ts y87.l) != (mvLa lA y87.ts y87.l))) h562 rfl rfl ⟨hB551, hk552⟩ fun a566 h566 => ?_; clear h562
        refine dk0 10 (v := .bool ((mvLa lA y87.ts y87.l) != (mvLa lA y87.ts y87.l))) h566 rfl rfl ⟨hB551, hk552⟩ fun a567 h567 => ?_; clear h566
        refine dk0 11 (v := .bool ((mvLa lA y87.ts y87.l) != (mvLa lA y87.ts y87.l))) h567 rfl rfl ⟨hB551, hk552⟩ fun a568 h568 => ?_; clear h567
        have hc569 : ((mvLa lA y87.ts y87.l) != (mvLa lA y87.ts y87.l)) = false := by first | (simp; done) | (simp; omega) | (rw [bne_eq_false_iff_eq]; omega)
        rw [hc569] at h568; clear hc569
        refine dk0 12 (v := pt N12 0) h568 rfl rfl ⟨hB551, hk552⟩ fun a570 h570 => ?_; clear h568
        refine dk0 14 (v := pt N23 0) h570 rfl rfl ⟨hB551, hk552⟩ fun a571 h571 => ?_; clear h570
        refine d1 13 h571 rfl rfl (op_call (args := #[pt N12 0]) (R := fun res xw => res = .int .i64 (mvCe lA y87.ts cA y87.l) ∧ w545 = xw) rfl rfl rfl (by kernel_rfl) (by kernel_rfl) (Try.call17 _ _) (mvCells w545 hO565) (by rintro e x ⟨rfl, rfl⟩; exact ⟨_, rfl, rfl, rfl⟩)) ?_ ?_; clear h571
        ·
         rintro _ _ ⟨rfl, rfl⟩
         exact ⟨hB551, hk552⟩
        rintro _ _ a572 ⟨rfl, rfl⟩ h572
        have ho576 := MvO.ofS hO565
        have hO578 := RsO.gr hO535 hg546 (fun k e => by cases e)
        have ho577 := RsO.ofS hO578
        refine d1 15 h572 rfl rfl (op_call (args := #[pt N23 0]) (R := fun res xw => res = .int .i64 ((csK (mvF fA lA y87.ts y87.l) (ksOf (mvF fA lA y87.ts y87.l)) : Nat) : Int) ∧ Below w545.heap.size w545 xw) rfl rfl rfl (by kernel_rfl) (by kernel_rfl) (Try.call18 _ _) (rsCells w545 hO578 (by omega)) (by rintro e x ⟨rfl, h⟩; exact ⟨_, rfl, rfl, h⟩)) ?_ ?_; clear h572
        ·
         rintro _ w575 ⟨rfl, hb579⟩
         have hz580 := hb579.size
         have ho581 := MvO.ofS hO565
         have ho582 := RsO.ofS hO578
         have hB583 := hb_call hB551 hb579
         have hk584 := hk552.below hb579
         exact ⟨hB583, hk584⟩
        rintro _ w575 a574 ⟨rfl, hb579⟩ h574
        have hz580 := hb579.size
        have ho581 := MvO.ofS hO565
        have ho582 := RsO.ofS hO578
        have hB583 := hb_call hB551 hb579
        have hk584 := hk552.below hb579
        refine dk0 16 (v := .bool ((mvCe lA y87.ts cA y87.l) != ((csK (mvF fA lA y87.ts y87.l) (ksOf (mvF fA lA y87.ts y87.l)) : Nat) : Int))) h574 rfl rfl ⟨hB583, hk584⟩ fun a585 h585 => ?_; clear h574
        refine dk0 17 (v := .bool ((mvCe lA y87.ts cA y87.l) != ((csK (mvF fA lA y87.ts y87.l) (ksOf (mvF fA lA y87.ts y87.l)) : Nat) : Int))) h585 rfl rfl ⟨hB583, hk584⟩ fun a586 h586 => ?_; clear h585
        refine dr_done (by kernel_rfl) ?_
        refine co_then ?_
        have hc587 : ((mvCe lA y87.ts cA y87.l) != ((csK (mvF fA lA y87.ts y87.l) (ksOf (mvF fA lA y87.ts y87.l)) : Nat) : Int)) = false := by first | (simp; done) | (simp; omega) | (rw [bne_eq_false_iff_eq]; omega)
        rw [hc587] at h586; clear hc587
        refine co_false h586 rfl ?_
        refine wp_skip ?_
        refine co_blockN ?_
        refine co_then ?_
        refine co_reg ?_
        refine pk0 (v := .int .i64 ((i : Nat) : Int)) h586 rfl fun a588 h588 => ?_; clear h586
        refine pk (v := .int .i64 ((i + 1 : Nat) : Int)) h588 rfl (rn_arith' rfl rfl rfl rfl rfl rfl (IntWalk.i64_in _ (by omega)) (by omega)) fun a589 h589 => ?_; clear h588
        refine pk0 (v := .int .i64 ((i + 1 : Nat) : Int)) h589 rfl fun a590 h590 => ?_; clear h589
        refine pl_nil ?_
        refine co_then ?_
        refine ⟨(l.length - (i + 1)), by omega, ?_⟩
        have hlo9 := hlo525
        have hlp9 := hlo538
        have hap9 := (ap_symm (Grew.ap hx536 (ap_symm (ap_symm (ap_symm (Grew.ap hx523 (ap_symm (ap_symm hapA)) (RsO.ofS hO520))))) (MvO.ofS hO522)))
        have hcs9 := hcs528
        have hO591 := MvO.gr hO565 (below_grown hb579) (fun k e => by cases e)
        have hO592 := RsO.gr hO578 (below_grown hb579) (fun k e => by cases e)
        exact ⟨i + 1, S521, S534, (mvF fA lA y87.ts y87.l), (mvLa lA y87.ts y87.l), (mvCe lA y87.ts cA y87.l), h590.sub ⟨rfl, rfl, rfl, rfl, trivial⟩, rfl, by omega, by omega, by exact hlo9, by exact hlp9, by exact hap9, by exact hcs9, hO591, hO592, hB583⟩
 · skip
   refine co_enter (n := 101) Try.func3 rfl rfl rfl [(0, v)] rfl (fun a h0 => ?_)
   refine co_seq ?_
   refine co_reg ?_
   refine pk0 (v := .bool false) h0 rfl fun a593 h593 => ?_; clear h0
   refine pl_nil ?_
   refine co_then ?_
   refine co_seq ?_
   refine co_seq ?_
   refine co_reg ?_
   refine pk0 (v := v) h593 rfl fun a594 h594 => ?_; clear h593
   refine pw h594 rfl (op_call (args := #[v]) (R := fun res xw => res = .bool (decide (Few l 40)) ∧ Below w.heap.size w xw) rfl rfl rfl (by kernel_rfl) (by kernel_rfl) (Try.call8 _ _) (few16_any v l w (hs.below hB0) (fun z hz => (hok z hz).below hB0)) (by rintro e x ⟨rfl, h⟩; exact ⟨_, rfl, rfl, h⟩)) ?_; clear h594
   rintro _ w596 a595 ⟨rfl, hb597⟩ h595
   have hz598 := hb597.size
   have hc599 : (decide (Few l 40)) = false := by simp [hfew]
   rw [hc599] at h595; clear hc599
   refine pk0 (v := .bool true) h595 rfl fun a600 h600 => ?_; clear h595
   refine pl_nil ?_
   refine co_then ?_
   refine co_true h600 rfl ?_
   refine co_seq ?_
   refine co_reg ?_
   have hB603 := hb_call hB0 hb597
   refine pw h600 rfl (op_call (args := #[]) (R := fun res xw => res = .bool true ∧ Below w596.heap.size w596 xw) rfl rfl rfl (by kernel_rfl) (by kernel_rfl) (Try.call9 _ _) (awake16 w596) (by rintro e x ⟨rfl, h⟩; exact ⟨_, rfl, rfl, h⟩)) ?_; clear h600
   rintro _ w602 a601 ⟨rfl, hb604⟩ h601
   have hz605 := hb604.size
   refine pk0 (v := .bool true) h601 rfl fun a606 h606 => ?_; clear h601
   refine pl_nil ?_
   refine co_then ?_
   refine wp_ret ?_
   refine co_thenR ?_
   refine co_ret1 h606 rfl rfl ?_
   have hB607 := hb_call hB603 hb604
   exact ⟨rfl, hB607⟩

theorem mvccPlays_l (v : Value) (l : List MActT) (w : World) (hs : SliceOf mactE 6 w v l) (hok : ∀ z ∈ l, MActOk w z) :
    Calls Try.prog 3 #[v] w fun e w' => e = .returned (.bool true) ∧ Below w.heap.size w w' := mvccPlays_law v l w hs hok

end Go.Proofs.Ytfjhlckklgeokaa
