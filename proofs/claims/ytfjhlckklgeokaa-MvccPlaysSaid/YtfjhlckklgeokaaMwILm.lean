/- catenalaw16.same; both stores in a walk. Conditions: none. -/
import Derived.Test.YtfjhlckklgeokaaLm3
import Derived.Test.YtfjhlckklgeokaaMvHLm
namespace Go.Proofs.Ytfjhlckklgeokaa
open Go.RowKit Go.PlainAid
set_option linter.unusedVariables false
set_option linter.unusedSimpArgs false


section
variable {S D : Nat → Prop} {w : World} {b d m : Nat} {f : Fv} {la ce : Int}
theorem RsO.kof (h : RsO D w d f la m) : KOf (ksOf f) f := by obtain ⟨u, L, h1, h2, h3, h4, _⟩ := h; rw [ksOf_eq h4]; exact h4
theorem RsO.last (h : RsO D w d f la m) : w.cell? ⟨d, 1, none⟩ = some (.int .u64 la) := by obtain ⟨u, hb⟩ := h.blk; exact hb.cell (k := 1) rfl
theorem rsPruneX (w : World) (h : Int) (hO : RsO D w d f la m) (hh : 0 ≤ h ∧ h < 18446744073709551616) (hm : m ≤ 100) :
    Calls Try.prog 14 #[pt d 0, .int .u64 h] w fun e w' => ∃ S' : Nat → Prop, e = .returned (.int .i64 ((goneK f h (ksOf f) : Nat) : Int)) ∧ RsO S' w' d (pruneF f h) la (m + 1) ∧ Grew D S' w w' := by
  have e : ((csK f (ksOf f) : Nat) : Int) - ((csK (pruneF f h) (ksOf (pruneF f h)) : Nat) : Int) = ((goneK f h (ksOf f) : Nat) : Int) := by have := cs_prune hO.kof h; omega
  have := rsPrune w h hO hh hm
  rw [e] at this; exact this
theorem mvPruneY (w : World) (h : Int) (hO : MvO S w b f la ce m) (hh : 0 ≤ h ∧ h < 18446744073709551616) (hm : m ≤ 100) :
    Calls Try.prog 13 #[pt b 0, .int .u64 h] w fun e w' => ∃ S' : Nat → Prop, e = .returned (.int .i64 ((goneK f h (ksOf f) : Nat) : Int)) ∧ MvO S' w' b (pruneF f h) la (ce - ((goneK f h (ksOf f) : Nat) : Int)) (m + 1) ∧ Grew S S' w w' :=
  (mvPruneX w h hO hh hm).mono fun e x ⟨g, S', h1, h2, h3, h4⟩ => by subst h4; exact ⟨S', h1, h2, h3⟩
theorem ce_prune (hK : KOf (ksOf f) f) (h : ce = ((csK f (ksOf f) : Nat) : Int)) (t : Int) : ce - ((goneK f t (ksOf f) : Nat) : Int) = ((csK (pruneF f t) (ksOf (pruneF f t)) : Nat) : Int) := by have := cs_prune hK t; omega
theorem cs_0 : (0 : Int) = ((csK (fun _ => []) (ksOf (fun _ => [])) : Nat) : Int) := by rw [ksOf_eq (K := []) ⟨List.Pairwise.nil, by simp⟩]; rfl
end


theorem MvO.butG {S D : Nat → Prop} {w x : World} {b m : Nat} {f : Fv} {la ce : Int} (h : MvO S w b f la ce m) (hb : But D w x) (ha : ∀ q, S q → D q → False) : MvO S x b f la ce m := h.but hb (fun q h1 h2 => ha q h2 h1)
theorem RsO.butG {S D : Nat → Prop} {w x : World} {d m : Nat} {f : Fv} {la : Int} (h : RsO S w d f la m) (hb : But D w x) (ha : ∀ q, S q → D q → False) : RsO S x d f la m := h.but hb (fun q h1 h2 => ha q h2 h1)
theorem MvO.more {S : Nat → Prop} {w : World} {b m : Nat} {f : Fv} {la ce : Int} (h : MvO S w b f la ce m) : MvO S w b f la ce (m + 1) := by
  obtain ⟨tb, S1, K, h1, h2, h3, h4, h5, h6, h7, h8⟩ := h
  exact ⟨tb, S1, K, h1, h2, h3, h4, h5.mono (Int.le_refl _) (by omega), h6, by omega, by omega⟩
theorem RsO.more {S : Nat → Prop} {w : World} {d m : Nat} {f : Fv} {la : Int} (h : RsO S w d f la m) : RsO S w d f la (m + 1) := by
  obtain ⟨u, L, h1, h2, h3, h4, h5, h6, h7, h8⟩ := h
  exact ⟨u, L, h1, h2, h3, h4, h5.mono (Int.le_refl _) (by omega), h6, by omega, h8⟩

set_option maxRecDepth 100000 in
set_option maxHeartbeats 1600000 in
theorem same16_any (S : Nat → Prop) (D : Nat → Prop) (b : Nat) (d : Nat) (f : Fv) (la : Int) (ce : Int) (m : Nat) (c : Int) (ts : Int) (v : Value) (l : List OpT) (k : ByteArray) (to : ByteArray) (n : Int) (w : World) (hs : SliceOf opE 3 w v l) (hM : MvO S w b f la ce m) (hR : RsO D w d f la m) (hm : m ≤ 100) (hn : -9223372036854775808 ≤ n ∧ n ≤ 9223372036854775807) :
    Calls Try.prog 15 #[pt b 0, pt d 0, .agg #[.int .i64 c, .int .u64 ts, v, .string k, .string to, .int .i64 n]] w fun e w' => e = .returned (.bool true) ∧ Below w.heap.size w w' := by
 have hB0 := Below.refl w.heap.size w
 have hl_hs := sl_len hs
 have hS9 := MvO.ofS hM
 have hD9 := RsO.ofS hR
 refine co_enter (n := 77) Try.func15 rfl rfl rfl [(0, pt b 0), (1, pt d 0), (2, .agg #[.int .i64 c, .int .u64 ts, v, .string k, .string to, .int .i64 n])] rfl (fun a h0 => ?_)
 refine co_seq ?_
 refine co_reg ?_
 refine pw h0 rfl (op_new (v := fun N => pt N 0) (T := 34) (cs := #[.int .i64 c, .int .u64 ts, v, .string k, .string to, .int .i64 n]) (by kernel_rfl) (by kernel_rfl) (by kernel_rfl)) ?_; clear h0
 rintro _ w2 a1 ⟨N3, rfl, hN6, hz7, hk5, hg4⟩ h1
 have hz8 := hg4.size
 have ho9 := off_new (MvO.ofS hM) hN6
 have ho10 := off_new (RsO.ofS hR) hN6
 try dsimp only at h1
 refine pk0 (v := .bool false) h1 rfl fun a11 h11 => ?_; clear h1
 refine pl_nil ?_
 refine co_then ?_
 refine co_seq ?_
 refine co_reg ?_
 refine pk0 (v := pt b 0) h11 rfl fun a12 h12 => ?_; clear h11
 refine pk0 (v := pt N3 3) h12 rfl fun a13 h13 => ?_; clear h12
 refine pk (v := .string k) h13 rfl (rn_load1 rfl rfl Try.isAgg9 (hk5.cell rfl)) fun a14 h14 => ?_; clear h13
 refine pk0 (v := pt N3 1) h14 rfl fun a15 h15 => ?_; clear h14
 refine pk (v := .int .u64 ts) h15 rfl (rn_load1 rfl rfl Try.isAgg29 (hk5.cell rfl)) fun a16 h16 => ?_; clear h15
 have hB19 := hb_new hB0 hg4
 have hO21 := MvO.gr hM hg4 (fun k e => by cases e)
 have ho20 := MvO.ofS hO21
 have hO23 := RsO.gr hR hg4 (fun k e => by cases e)
 have ho22 := RsO.ofS hO23
 refine pw h16 rfl (op_call (args := #[pt b 0, .string k, .int .u64 ts]) (R := fun res xw => res = .tuple #[.string ((atS (f k) ts).1), .bool ((atS (f k) ts).2)] ∧ Below w2.heap.size w2 xw) rfl rfl rfl (by kernel_rfl) (by kernel_rfl) (Try.call19 _ _) (mvGet w2 k ts hO21) (by rintro e x ⟨rfl, h⟩; exact ⟨_, rfl, rfl, h⟩)) ?_; clear h16
 rintro _ w18 a17 ⟨rfl, hb24⟩ h17
 have hz25 := hb24.size
 have ho26 := MvO.ofS hO21
 have ho27 := RsO.ofS hO23
 refine pk0 (v := .tuple #[.string ((atS (f k) ts).1), .bool ((atS (f k) ts).2)]) h17 rfl fun a28 h28 => ?_; clear h17
 refine pk0 (v := .string ((atS (f k) ts).1)) h28 rfl fun a29 h29 => ?_; clear h28
 refine pk0 (v := .bool ((atS (f k) ts).2)) h29 rfl fun a30 h30 => ?_; clear h29
 refine pk0 (v := .string ((atS (f k) ts).1)) h30 rfl fun a31 h31 => ?_; clear h30
 refine pk0 (v := .bool ((atS (f k) ts).2)) h31 rfl fun a32 h32 => ?_; clear h31
 refine pl_nil ?_
 refine co_then ?_
 refine co_seq ?_
 refine co_reg ?_
 refine pk0 (v := pt d 0) h32 rfl fun a33 h33 => ?_; clear h32
 refine pk0 (v := pt N3 3) h33 rfl fun a34 h34 => ?_; clear h33
 have hk35 := hk5.below hb24
 refine pk (v := .string k) h34 rfl (rn_load1 rfl rfl Try.isAgg9 (hk35.cell rfl)) fun a36 h36 => ?_; clear h34
 refine pk0 (v := pt N3 1) h36 rfl fun a37 h37 => ?_; clear h36
 refine pk (v := .int .u64 ts) h37 rfl (rn_load1 rfl rfl Try.isAgg29 (hk35.cell rfl)) fun a38 h38 => ?_; clear h37
 have hB41 := hb_call hB19 hb24
 have hO43 := MvO.gr hO21 (below_grown hb24) (fun k e => by cases e)
 have ho42 := MvO.ofS hO43
 have hO45 := RsO.gr hO23 (below_grown hb24) (fun k e => by cases e)
 have ho44 := RsO.ofS hO45
 refine pw h38 rfl (op_call (args := #[pt d 0, .string k, .int .u64 ts]) (R := fun res xw => res = .tuple #[.string ((atS (f k) ts).1), .bool ((atS (f k) ts).2)] ∧ Below w18.heap.size w18 xw) rfl rfl rfl (by kernel_rfl) (by kernel_rfl) (Try.call36 _ _) (rsGet w18 k ts hO45 (by omega)) (by rintro e x ⟨rfl, h⟩; exact ⟨_, rfl, rfl, h⟩)) ?_; clear h38
 rintro _ w40 a39 ⟨rfl, hb46⟩ h39
 have hz47 := hb46.size
 have ho48 := MvO.ofS hO43
 have ho49 := RsO.ofS hO45
 refine pk0 (v := .tuple #[.string ((atS (f k) ts).1), .bool ((atS (f k) ts).2)]) h39 rfl fun a50 h50 => ?_; clear h39
 refine pk0 (v := .string ((atS (f k) ts).1)) h50 rfl fun a51 h51 => ?_; clear h50
 refine pk0 (v := .bool ((atS (f k) ts).2)) h51 rfl fun a52 h52 => ?_; clear h51
 refine pk0 (v := .string ((atS (f k) ts).1)) h52 rfl fun a53 h53 => ?_; clear h52
 refine pk0 (v := .bool ((atS (f k) ts).2)) h53 rfl fun a54 h54 => ?_; clear h53
 refine pl_nil ?_
 refine co_then ?_
 refine co_seq ?_
 refine co_reg ?_
 refine pk0 (v := pt b 0) h54 rfl fun a55 h55 => ?_; clear h54
 refine pk0 (v := pt N3 3) h55 rfl fun a56 h56 => ?_; clear h55
 have hk57 := hk35.below hb46
 refine pk (v := .string k) h56 rfl (rn_load1 rfl rfl Try.isAgg9 (hk57.cell rfl)) fun a58 h58 => ?_; clear h56
 refine pk0 (v := pt N3 4) h58 rfl fun a59 h59 => ?_; clear h58
 refine pk (v := .string to) h59 rfl (rn_load1 rfl rfl Try.isAgg9 (hk57.cell rfl)) fun a60 h60 => ?_; clear h59
 refine pk0 (v := pt N3 1) h60 rfl fun a61 h61 => ?_; clear h60
 refine pk (v := .int .u64 ts) h61 rfl (rn_load1 rfl rfl Try.isAgg29 (hk57.cell rfl)) fun a62 h62 => ?_; clear h61
 refine pk0 (v := pt N3 5) h62 rfl fun a63 h63 => ?_; clear h62
 refine pk (v := .int .i64 n) h63 rfl (rn_load1 rfl rfl Try.isAgg3 (hk57.cell rfl)) fun a64 h64 => ?_; clear h63
 have hB67 := hb_call hB41 hb46
 have hO69 := MvO.gr hO43 (below_grown hb46) (fun k e => by cases e)
 have ho68 := MvO.ofS hO69
 have hO71 := RsO.gr hO45 (below_grown hb46) (fun k e => by cases e)
 have ho70 := RsO.ofS hO71
 refine pw h64 rfl (op_call (args := #[pt b 0, .string k, .string to, .int .u64 ts, .int .i64 n]) (R := fun res xw => ∃ (ao : Option Addr) (nn cap : Nat), res = .tuple #[.slice ao nn cap, .bool (scanM (hitsF f ts k to) n)] ∧ xw.ownsRow w40.heap.size 51 2 (.slice ao nn cap) (scanL (hitsF f ts k to) n).length ((scanL (hitsF f ts k to) n).flatMap pairE) ∧ Below w40.heap.size w40 xw) rfl rfl rfl (by kernel_rfl) (by kernel_rfl) (Try.call20 _ _) (mvScan w40 k to ts n hO69 (by omega) (by omega)) (by rintro e x ⟨u, h0, h⟩; obtain ⟨ao, nn, cap, rfl⟩ := own_sliceT h.1; exact ⟨_, h0, ao, nn, cap, rfl, h⟩)) ?_; clear h64
 rintro _ w66 a65 ⟨ao72, nn73, cp74, rfl, hr75, hb76⟩ h65
 have hz77 := hb76.size
 have ho78 := MvO.ofS hO69
 have ho79 := RsO.ofS hO71
 refine pk0 (v := .tuple #[.slice ao72 nn73 cp74, .bool (scanM (hitsF f ts k to) n)]) h65 rfl fun a80 h80 => ?_; clear h65
 refine pk0 (v := .slice ao72 nn73 cp74) h80 rfl fun a81 h81 => ?_; clear h80
 refine pk0 (v := .bool (scanM (hitsF f ts k to) n)) h81 rfl fun a82 h82 => ?_; clear h81
 refine pk0 (v := .slice ao72 nn73 cp74) h82 rfl fun a83 h83 => ?_; clear h82
 refine pk0 (v := .bool (scanM (hitsF f ts k to) n)) h83 rfl fun a84 h84 => ?_; clear h83
 refine pl_nil ?_
 refine co_then ?_
 refine co_seq ?_
 refine co_reg ?_
 refine pk0 (v := pt d 0) h84 rfl fun a85 h85 => ?_; clear h84
 refine pk0 (v := pt N3 3) h85 rfl fun a86 h86 => ?_; clear h85
 have hk87 := hk57.below hb76
 refine pk (v := .string k) h86 rfl (rn_load1 rfl rfl Try.isAgg9 (hk87.cell rfl)) fun a88 h88 => ?_; clear h86
 refine pk0 (v := pt N3 4) h88 rfl fun a89 h89 => ?_; clear h88
 refine pk (v := .string to) h89 rfl (rn_load1 rfl rfl Try.isAgg9 (hk87.cell rfl)) fun a90 h90 => ?_; clear h89
 refine pk0 (v := pt N3 1) h90 rfl fun a91 h91 => ?_; clear h90
 refine pk (v := .int .u64 ts) h91 rfl (rn_load1 rfl rfl Try.isAgg29 (hk87.cell rfl)) fun a92 h92 => ?_; clear h91
 refine pk0 (v := pt N3 5) h92 rfl fun a93 h93 => ?_; clear h92
 refine pk (v := .int .i64 n) h93 rfl (rn_load1 rfl rfl Try.isAgg3 (hk87.cell rfl)) fun a94 h94 => ?_; clear h93
 have hB97 := hb_call hB67 hb76
 have hO99 := MvO.gr hO69 (below_grown hb76) (fun k e => by cases e)
 have ho98 := MvO.ofS hO99
 have hO101 := RsO.gr hO71 (below_grown hb76) (fun k e => by cases e)
 have ho100 := RsO.ofS hO101
 refine pw h94 rfl (op_call (args := #[pt d 0, .string k, .string to, .int .u64 ts, .int .i64 n]) (R := fun res xw => ∃ (ao : Option Addr) (nn cap : Nat), res = .tuple #[.slice ao nn cap, .bool (scanM (hitsF f ts k to) n)] ∧ xw.ownsRow w66.heap.size 51 2 (.slice ao nn cap) (scanL (hitsF f ts k to) n).length ((scanL (hitsF f ts k to) n).flatMap pairE) ∧ Below w66.heap.size w66 xw) rfl rfl rfl (by kernel_rfl) (by kernel_rfl) (Try.call37 _ _) (rsScan w66 k to ts n hO101 (by omega) (by omega)) (by rintro e x ⟨u, h0, h⟩; obtain ⟨ao, nn, cap, rfl⟩ := own_sliceT h.1; exact ⟨_, h0, ao, nn, cap, rfl, h⟩)) ?_; clear h94
 rintro _ w96 a95 ⟨ao102, nn103, cp104, rfl, hr105, hb106⟩ h95
 have hz107 := hb106.size
 have ho108 := MvO.ofS hO99
 have ho109 := RsO.ofS hO101
 refine pk0 (v := .tuple #[.slice ao102 nn103 cp104, .bool (scanM (hitsF f ts k to) n)]) h95 rfl fun a110 h110 => ?_; clear h95
 refine pk0 (v := .slice ao102 nn103 cp104) h110 rfl fun a111 h111 => ?_; clear h110
 refine pk0 (v := .bool (scanM (hitsF f ts k to) n)) h111 rfl fun a112 h112 => ?_; clear h111
 refine pk0 (v := .slice ao102 nn103 cp104) h112 rfl fun a113 h113 => ?_; clear h112
 refine pk0 (v := .bool (scanM (hitsF f ts k to) n)) h113 rfl fun a114 h114 => ?_; clear h113
 refine pl_nil ?_
 refine co_then ?_
 refine co_seq ?_
 refine co_reg ?_
 refine pk0 (v := .string ((atS (f k) ts).1)) h114 rfl fun a115 h115 => ?_; clear h114
 refine pk0 (v := .string ((atS (f k) ts).1)) h115 rfl fun a116 h116 => ?_; clear h115
 refine pk0 (v := .bool (((atS (f k) ts).1 : ByteArray).toList == ((atS (f k) ts).1 : ByteArray).toList)) h116 rfl fun a117 h117 => ?_; clear h116
 refine pk0 (v := .bool (((atS (f k) ts).1 : ByteArray).toList == ((atS (f k) ts).1 : ByteArray).toList)) h117 rfl fun a118 h118 => ?_; clear h117
 have hc119 : (((atS (f k) ts).1 : ByteArray).toList == ((atS (f k) ts).1 : ByteArray).toList) = true := by first | (simp; done) | (simp; omega) | (rw [bne_eq_false_iff_eq]; omega)
 rw [hc119] at h118; clear hc119
 refine pk0 (v := .bool ((atS (f k) ts).2)) h118 rfl fun a120 h120 => ?_; clear h118
 refine pk0 (v := .bool ((atS (f k) ts).2)) h120 rfl fun a121 h121 => ?_; clear h120
 refine pk0 (v := .bool (((atS (f k) ts).2) == ((atS (f k) ts).2))) h121 rfl fun a122 h122 => ?_; clear h121
 refine pk0 (v := .bool (((atS (f k) ts).2) == ((atS (f k) ts).2))) h122 rfl fun a123 h123 => ?_; clear h122
 refine pk0 (v := .bool (((atS (f k) ts).2) == ((atS (f k) ts).2))) h123 rfl fun a124 h124 => ?_; clear h123
 have hc125 : (((atS (f k) ts).2) == ((atS (f k) ts).2)) = true := by first | (simp; done) | (simp; omega) | (rw [bne_eq_false_iff_eq]; omega)
 rw [hc125] at h124; clear hc125
 refine pk0 (v := .slice ao72 nn73 cp74) h124 rfl fun a126 h126 => ?_; clear h124
 refine pk0 (v := .slice ao102 nn103 cp104) h126 rfl fun a127 h127 => ?_; clear h126
 have hB130 := hb_call hB97 hb106
 have hr131 := row_kept_new hr75 (below_grown hb106)
 refine pw h127 rfl (op_call (args := #[.slice ao72 nn73 cp74, .slice ao102 nn103 cp104]) (R := fun res xw => res = .bool true ∧ Below w96.heap.size w96 xw) rfl rfl rfl (by kernel_rfl) (by kernel_rfl) (Try.call21 _ _) (rsamePairs_any (.slice ao72 nn73 cp74) (scanL (hitsF f ts k to) n) (.slice ao102 nn103 cp104) (scanL (hitsF f ts k to) n) w96 (row_sl hr131 pairE_len) (row_sl hr105 pairE_len)) (by rintro e x ⟨h0, h⟩; rw [sameP_refl] at h0; exact ⟨_, h0, rfl, h⟩)) ?_; clear h127
 rintro _ w129 a128 ⟨rfl, hb132⟩ h128
 have hz133 := hb132.size
 have hO135 := MvO.gr hO99 (below_grown hb106) (fun k e => by cases e)
 have ho134 := MvO.ofS hO135
 have hO137 := RsO.gr hO101 (below_grown hb106) (fun k e => by cases e)
 have ho136 := RsO.ofS hO137
 refine pk0 (v := .bool true) h128 rfl fun a138 h138 => ?_; clear h128
 refine pk0 (v := .bool true) h138 rfl fun a139 h139 => ?_; clear h138
 refine pk0 (v := .bool (scanM (hitsF f ts k to) n)) h139 rfl fun a140 h140 => ?_; clear h139
 refine pk0 (v := .bool (scanM (hitsF f ts k to) n)) h140 rfl fun a141 h141 => ?_; clear h140
 refine pk0 (v := .bool ((scanM (hitsF f ts k to) n) == (scanM (hitsF f ts k to) n))) h141 rfl fun a142 h142 => ?_; clear h141
 refine pk0 (v := .bool ((scanM (hitsF f ts k to) n) == (scanM (hitsF f ts k to) n))) h142 rfl fun a143 h143 => ?_; clear h142
 refine pk0 (v := .bool ((scanM (hitsF f ts k to) n) == (scanM (hitsF f ts k to) n))) h143 rfl fun a144 h144 => ?_; clear h143
 refine pl_nil ?_
 refine co_then ?_
 refine wp_ret ?_
 refine co_ret1 h144 rfl rfl ?_
 have hB145 := hb_call hB130 hb132
 exact ⟨by first | rfl | simp, hB145⟩
end Go.Proofs.Ytfjhlckklgeokaa
