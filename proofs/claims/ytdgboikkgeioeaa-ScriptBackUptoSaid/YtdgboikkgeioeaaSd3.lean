/- Put together: ScrESb, ScrFSb, ScrGSb, ScrHSb, ScrISb, ScrZSb, ScrLSb, ScrKSb, ScrSSb, ScrTSb, ScrUSb, ScrMSb, BulkSb, PartsSb, ScrWSb. Conditions: as each says. -/
import Derived.Test.YtdgboikkgeioeaaSd2
import Derived.Test.YtdgboikkgeioeaaSd1
import Derived.RangeFuncNested
import Derived.RangeFuncBound
import Derived.RangeFuncCalls
import Derived.RangeFuncLeaves
import Derived.RangeFuncBox
import Derived.Shelf.Abstract
import Derived.Shelf.RegionOpen
import Derived.WalkKit
import Derived.OwnWalkIn
import Derived.TacticsInMore
import Derived.LoopNIn
import Derived.LoopIn
import Derived.ScopeJumps
import Derived.Maps.AppendAt
import Derived.BigQuiet
import Derived.Laws.StructEq
import Derived.Test.YtdgboikkgeioeaaRows
import Derived.ProofKit
import Derived.Deep.Slices
import Derived.Deep.Fields
/- Package script: parts, which throws what is wrong. Conditions: none. -/
namespace Go.Proofs.Ytdgboikkgeioeaa
open Go.RowKit Go.PlainAid
set_option linter.unusedVariables false
set_option linter.unusedSimpArgs false

set_option maxRecDepth 100000 in
set_option maxHeartbeats 3200000 in
theorem scParts_any (s : ByteArray) (w : World) (hsz : s.size ≤ 9223372036854775807) :
    Calls Try.prog 83 #[.string s] w fun e w' => (∃ (d : EvD) (u : Value), e = .returned (.agg #[.int .i64 d.k, .int .i64 d.nd, .int .i64 d.n, .int .i64 d.ak, .int .i64 d.an, .string d.ky, .string d.tt, .int .u64 d.at_, .int .i64 d.am, u]) ∧ w'.ownsRow w.heap.size 66 3 u d.ops.length (d.ops.flatMap opE) ∧ evR s = some d ∧ Below w.heap.size w w') ∨ ∃ l, e = .panicked l ∧ (fun l x => evR s = none ∧ (∃ k, l = [thrown k]) ∧ Below w.heap.size w x) l w' := by
 have hB0 := Below.refl w.heap.size w
 refine co_enter (n := 60) Try.func83 rfl rfl rfl [(0, .string s)] rfl (fun a h0 => ?_)
 refine co_seq ?_
 refine co_reg ?_
 refine pw h0 rfl (op_new (v := fun N => pt N 0) (T := 60) (cs := #[.int .i64 0, .int .i64 0, .int .i64 0, .int .i64 0, .int .i64 0, .string (⟨#[]⟩), .string (⟨#[]⟩), .int .u64 0, .int .i64 0, .slice none 0 0]) (by kernel_rfl) (by kernel_rfl) (by kernel_rfl)) ?_; clear h0
 rintro _ w2 a1 ⟨N3, rfl, hN6, hz7, hk5, hg4⟩ h1
 have hz8 := hg4.size
 try dsimp only at h1
 refine pl_nil ?_
 refine co_then ?_
 refine co_seq ?_
 refine co_reg ?_
 refine pk0 (v := .string s) h1 rfl fun a9 h9 => ?_; clear h1
 refine pw h9 rfl (op_call (args := #[.string s]) (R := fun res xw => ∃ b : Nat, res = pt b 0 ∧ b = w2.heap.size ∧ OR b s 0 0 xw ∧ Below w2.heap.size w2 xw) rfl rfl rfl (by kernel_rfl) (by kernel_rfl) (Try.call111 _ _) (or_open s w2) (by rintro e x ⟨b, rfl, h0, h1, h2⟩; exact ⟨_, rfl, b, rfl, h0, h1, h2⟩)) ?_; clear h9
 rintro _ w11 a10 ⟨b12, rfl, hN13, ho14, hb15⟩ h10
 have hz16 := hb15.size
 have hl17 := ho14.lt
 refine pw h10 rfl (op_new (v := fun N => pt N 0) (T := 161) (cs := #[.pointer none]) (by kernel_rfl) (by kernel_rfl) (by kernel_rfl)) ?_; clear h10
 rintro _ w19 a18 ⟨N20, rfl, hN23, hz24, hk22, hg21⟩ h18
 have hz25 := hg21.size
 try dsimp only at h18
 refine pwD h18 rfl (op_store1 rfl rfl rfl rfl Try.sizeOf161 hk22 rfl) ?_; clear h18
 rintro _ w27 a26 ⟨hk28, hz29, hg30⟩ h26
 have hk28' : Blk w27 N20 161 #[pt b12 0] := hk28; clear hk28
 have hz31 := hg30.size
 refine pl_nil ?_
 refine co_then ?_
 refine co_seq ?_
 refine co_reg ?_
 refine pk0 (v := .func (.func 112) #[] #[pt N20 0]) h26 rfl fun a32 h32 => ?_; clear h26
 refine pk0 (v := .func (.func 112) #[] #[pt N20 0]) h32 rfl fun a33 h33 => ?_; clear h32
 refine pl_nil ?_
 refine co_then ?_
 refine co_seq ?_
 refine co_reg ?_
 refine pk0 (v := .func (.func 112) #[] #[pt N20 0]) h33 rfl fun a34 h34 => ?_; clear h33
 have hB44 := hb_new hB0 hg4
 have hB45 := hb_call hB44 hb15
 have hB46 := hb_new hB45 hg21
 have hB47 := hb_at hB46 hg30 (by omega)
 have hk48 := hk5.below hb15
 have hk49 := hk48.kept hg21 (by simp)
 have hk50 := hk49.kept hg30 (by simp; omega)
 have ho51 := ho14.new hg21
 have ho52 := ho51.at (by omega) hg30
 refine pwX h34 rfl (by intro l _ _ h hd; (repeat (first | refine co_thenP ?_ | refine co_blockP ?_)); exact body_pan hd (.inr ⟨l, rfl, h⟩)) (op_callVX (X := fun l x => evR s = none ∧ (∃ k, l = [thrown k]) ∧ Below w.heap.size w x) (args := #[.int .i64 1073741824, pt N20 0]) (R := fun res xw => ∃ n a' : Int, res = .int .i64 n ∧ numR s 0 0 1073741824 = (n, a', 0) ∧ 0 ≤ n ∧ n ≤ 1073741824 ∧ OR b12 s a' 0 xw ∧ w27.grownBy xw (some b12)) rfl rfl rfl (by kernel_rfl) (by kernel_rfl) (Try.call112 _ _) (scNum_any N20 b12 s 0 0 1073741824 w27 hk28' (by omega) ho52 (by omega) (by omega) (by omega)) (by rintro q x (⟨n, a', rfl, h0, h1, h2, h3, h4⟩ | ⟨n, a', x', rfl, hx, h0, h4⟩); exact .inl ⟨_, rfl, n, a', rfl, h0, h1, h2, h3, h4⟩; exact .inr ⟨_, rfl, ((evR_at h0).trans (T10_bad hx)), ⟨x', rfl⟩, hb_at hB47 h4 (by omega)⟩)) ?_; clear h34
 rintro _ w36 a35 ⟨n37, a38, rfl, hq39, hn40, hm41, ho42, hg43⟩ h35
 have hz53 := hg43.size
 have hl54 := ho42.lt
 have hT55 := (evR_at hq39)
 refine pk0 (v := .func (.func 112) #[] #[pt N20 0]) h35 rfl fun a56 h56 => ?_; clear h35
 have hB66 := hb_at hB47 hg43 (by omega)
 have hk67 := hk28'.kept hg43 (by simp; omega)
 refine pwX h56 rfl (by intro l _ _ h hd; (repeat (first | refine co_thenP ?_ | refine co_blockP ?_)); exact body_pan hd (.inr ⟨l, rfl, h⟩)) (op_callVX (X := fun l x => evR s = none ∧ (∃ k, l = [thrown k]) ∧ Below w.heap.size w x) (args := #[.int .i64 1073741824, pt N20 0]) (R := fun res xw => ∃ n a' : Int, res = .int .i64 n ∧ numR s a38 0 1073741824 = (n, a', 0) ∧ 0 ≤ n ∧ n ≤ 1073741824 ∧ OR b12 s a' 0 xw ∧ w36.grownBy xw (some b12)) rfl rfl rfl (by kernel_rfl) (by kernel_rfl) (Try.call112 _ _) (scNum_any N20 b12 s a38 0 1073741824 w36 hk67 (by omega) ho42 (by omega) (by omega) (by omega)) (by rintro q x (⟨n, a', rfl, h0, h1, h2, h3, h4⟩ | ⟨n, a', x', rfl, hx, h0, h4⟩); exact .inl ⟨_, rfl, n, a', rfl, h0, h1, h2, h3, h4⟩; exact .inr ⟨_, rfl, (hT55.trans ((T10_at h0).trans (T9_bad hx))), ⟨x', rfl⟩, hb_at hB66 h4 (by omega)⟩)) ?_; clear h56
 rintro _ w58 a57 ⟨n59, a60, rfl, hq61, hn62, hm63, ho64, hg65⟩ h57
 have hz68 := hg65.size
 have hl69 := ho64.lt
 have hT70 := (hT55.trans (T10_at hq61))
 refine pk0 (v := .func (.func 112) #[] #[pt N20 0]) h57 rfl fun a71 h71 => ?_; clear h57
 have hB81 := hb_at hB66 hg65 (by omega)
 have hk82 := hk50.kept hg43 (by simp; omega)
 have hk83 := hk82.kept hg65 (by simp; omega)
 have hk84 := hk67.kept hg65 (by simp; omega)
 refine pwX h71 rfl (by intro l _ _ h hd; (repeat (first | refine co_thenP ?_ | refine co_blockP ?_)); exact body_pan hd (.inr ⟨l, rfl, h⟩)) (op_callVX (X := fun l x => evR s = none ∧ (∃ k, l = [thrown k]) ∧ Below w.heap.size w x) (args := #[.int .i64 1073741824, pt N20 0]) (R := fun res xw => ∃ n a' : Int, res = .int .i64 n ∧ numR s a60 0 1073741824 = (n, a', 0) ∧ 0 ≤ n ∧ n ≤ 1073741824 ∧ OR b12 s a' 0 xw ∧ w58.grownBy xw (some b12)) rfl rfl rfl (by kernel_rfl) (by kernel_rfl) (Try.call112 _ _) (scNum_any N20 b12 s a60 0 1073741824 w58 hk84 (by omega) ho64 (by omega) (by omega) (by omega)) (by rintro q x (⟨n, a', rfl, h0, h1, h2, h3, h4⟩ | ⟨n, a', x', rfl, hx, h0, h4⟩); exact .inl ⟨_, rfl, n, a', rfl, h0, h1, h2, h3, h4⟩; exact .inr ⟨_, rfl, (hT70.trans ((T9_at h0).trans (T8_bad hx))), ⟨x', rfl⟩, hb_at hB81 h4 (by omega)⟩)) ?_; clear h71
 rintro _ w73 a72 ⟨n74, a75, rfl, hq76, hn77, hm78, ho79, hg80⟩ h72
 have hz85 := hg80.size
 have hl86 := ho79.lt
 have hT87 := (hT70.trans (T9_at hq76))
 refine pk0 (v := .agg #[.int .i64 n37, .int .i64 n59, .int .i64 n74, .int .i64 0, .int .i64 0, .string (⟨#[]⟩), .string (⟨#[]⟩), .int .u64 0, .int .i64 0, .slice none 0 0]) h72 rfl fun a88 h88 => ?_; clear h72
 refine pw h88 rfl (op_new (v := fun N => pt N 0) (T := 60) (cs := #[.int .i64 0, .int .i64 0, .int .i64 0, .int .i64 0, .int .i64 0, .string (⟨#[]⟩), .string (⟨#[]⟩), .int .u64 0, .int .i64 0, .slice none 0 0]) (by kernel_rfl) (by kernel_rfl) (by kernel_rfl)) ?_; clear h88
 rintro _ w90 a89 ⟨N91, rfl, hN94, hz95, hk93, hg92⟩ h89
 have hz96 := hg92.size
 try dsimp only at h89
 refine pwD h89 rfl (op_storeN rfl rfl rfl (all_cons rfl (all_cons rfl (all_cons rfl (all_cons rfl (all_cons rfl (all_cons rfl (all_cons rfl (all_cons rfl (all_cons rfl (all_cons rfl all_nil)))))))))) (by kernel_rfl) hk93 rfl) ?_; clear h89
 rintro _ w98 a97 ⟨hk99, hz100, hg101⟩ h97
 have hk99' : Blk w98 N91 60 #[.int .i64 n37, .int .i64 n59, .int .i64 n74, .int .i64 0, .int .i64 0, .string (⟨#[]⟩), .string (⟨#[]⟩), .int .u64 0, .int .i64 0, .slice none 0 0] := hk99; clear hk99
 have hz102 := hg101.size
 refine pl_nil ?_
 refine co_then ?_
 refine co_seq ?_
 refine co_seq ?_
 refine co_reg ?_
 refine pk0 (v := pt N91 0) h97 rfl fun a103 h103 => ?_; clear h97
 refine pk (v := .int .i64 n37) h103 rfl (rn_load1 rfl rfl Try.isAgg3 (hk99'.cell rfl)) fun a104 h104 => ?_; clear h103
 refine pk0 (v := .bool (n37 == 0)) h104 rfl fun a105 h105 => ?_; clear h104
 refine pl_nil ?_
 refine co_then ?_
 have hB107 := hb_at hB81 hg80 (by omega)
 have hB108 := hb_new hB107 hg92
 have hB109 := hb_at hB108 hg101 (by omega)
 have hk110 := hk83.kept hg80 (by simp; omega)
 have hk111 := hk110.kept hg92 (by simp)
 have hk112 := hk111.kept hg101 (by simp; omega)
 have hk113 := hk84.kept hg80 (by simp; omega)
 have hk114 := hk113.kept hg92 (by simp)
 have hk115 := hk114.kept hg101 (by simp; omega)
 have ho116 := ho79.new hg92
 have ho117 := ho116.at (by omega) hg101
 cases hc106 : (n37 == 0)
 ·
  rw [hc106] at h105
  have hp118 : ¬ (n37 = 0) := by first | simpa using hc106 | simpa [and_assoc] using hc106
  clear hc106
  refine co_false h105 rfl ?_
  refine wp_skip ?_
  refine co_then ?_
  refine co_seq ?_
  refine co_seq ?_
  refine co_reg ?_
  refine pk (v := pt b12 0) h105 rfl (rn_load1 rfl rfl Try.isAgg161 (hk115.cell rfl)) fun a119 h119 => ?_; clear h105
  refine pw h119 rfl (op_call (args := #[pt b12 0]) (R := fun res xw => ∃ r : Int, res = .int .i64 r ∧ endV s a75.toNat 0 = r ∧ Below w98.heap.size w98 xw) rfl rfl rfl (by kernel_rfl) (by kernel_rfl) (Try.call118 _ _) (or_end b12 s a75 0 w98 ho117 (by omega)) (by rintro e x ⟨r, rfl, h0, h2⟩; exact ⟨_, rfl, r, rfl, h0, h2⟩)) ?_; clear h119
  rintro _ w121 a120 ⟨r122, rfl, hq123, hb124⟩ h120
  have hz125 := hb124.size
  refine pk0 (v := .int .i64 r122) h120 rfl fun a126 h126 => ?_; clear h120
  refine pl_nil ?_
  refine co_then ?_
  refine co_seq ?_
  refine co_reg ?_
  refine pk0 (v := .int .i64 r122) h126 rfl fun a127 h127 => ?_; clear h126
  refine pk0 (v := .bool (r122 != 0)) h127 rfl fun a128 h128 => ?_; clear h127
  refine pl_nil ?_
  refine co_then ?_
  have hB130 := hb_call hB109 hb124
  cases hc129 : (r122 != 0)
  ·
   rw [hc129] at h128
   have hp131 : ¬ (r122 ≠ 0) := by first | simpa using hc129 | simpa [and_assoc] using hc129
   clear hc129
   refine co_false h128 rfl ?_
   refine wp_skip ?_
   refine co_then ?_
   refine co_seq ?_
   refine co_reg ?_
   have hk132 := hk99'.below hb124
   refine pk (v := .agg #[.int .i64 n37, .int .i64 n59, .int .i64 n74, .int .i64 0, .int .i64 0, .string (⟨#[]⟩), .string (⟨#[]⟩), .int .u64 0, .int .i64 0, .slice none 0 0]) h128 rfl (rn_loadN rfl rfl Try.underlying60 rfl (by kernel_rfl) hk132.all) fun a133 h133 => ?_; clear h128
   have hk139 := hk112.below hb124
   refine pwD h133 rfl (op_storeN rfl rfl rfl (all_cons rfl (all_cons rfl (all_cons rfl (all_cons rfl (all_cons rfl (all_cons rfl (all_cons rfl (all_cons rfl (all_cons rfl (all_cons rfl all_nil)))))))))) (by kernel_rfl) hk139 rfl) ?_; clear h133
   rintro _ w135 a134 ⟨hk136, hz137, hg138⟩ h134
   have hk136' : Blk w135 N3 60 #[.int .i64 n37, .int .i64 n59, .int .i64 n74, .int .i64 0, .int .i64 0, .string (⟨#[]⟩), .string (⟨#[]⟩), .int .u64 0, .int .i64 0, .slice none 0 0] := hk136; clear hk136
   have hz140 := hg138.size
   refine pl_nil ?_
   refine co_then ?_
   refine wp_ret ?_
   refine co_retC (Q := fun _ _ _ => True) h134 rfl rfl hk136' Try.underlying60 rfl (by kernel_rfl) ?_
   have hB141 := hb_at hB130 hg138 (by omega)
   exact .inl ⟨⟨n37, n59, n74, 0, 0, ⟨#[]⟩, ⟨#[]⟩, 0, 0, []⟩, _, rfl, (row_nilL _ _ _ _ _), hT87.trans ((T8_n (by omega)).trans (T0_y hq123 (by omega))), hB141⟩
  ·
   rw [hc129] at h128
   have hp142 : r122 ≠ 0 := by first | simpa using hc129 | simpa [and_assoc] using hc129
   clear hc129
   refine co_true h128 rfl ?_
   refine co_reg ?_
   refine pk0 (v := .int .i64 r122) h128 rfl fun a143 h143 => ?_; clear h128
   refine pk0 (v := .iface 44 (.int .i64 r122)) h143 rfl fun a144 h144 => ?_; clear h143
   refine pl_panic h144 rfl rfl (fun hd145 => ?_)
   repeat (first | refine co_thenP ?_ | refine co_blockP ?_)
   exact body_pan hd145 (.inr ⟨_, rfl, hT87.trans ((T8_n (by omega)).trans (T0_n hq123 (by omega))), ⟨_, rfl⟩, hB130⟩)
 ·
  rw [hc106] at h105
  have hp146 : n37 = 0 := by first | simpa using hc106 | simpa [and_assoc] using hc106
  clear hc106
  refine co_true h105 rfl ?_
  refine co_seq ?_
  refine p_dr_gen (X := fun l x => evR s = none ∧ (∃ k, l = [thrown k]) ∧ Below w.heap.size w x) (fun x => Below w.heap.size w x ∧ Blk x N20 161 #[pt b12 0]) (by intro l _ _ h hd; (repeat (first | refine co_thenP ?_ | refine co_blockP ?_)); exact body_pan hd (.inr ⟨l, rfl, h⟩)) (by kernel_rfl) (fun w147 hg148 => ?_) (fun w147 hg148 => ?_)
  ·
   have hz149 := hg148.size
   have hB150 := hb_new hB109 hg148
   have hk151 := hk115.kept hg148 (by simp)
   exact ⟨hB150, hk151⟩
  have hz152 := hg148.size
  have hB153 := hb_new hB109 hg148
  have hk154 := hk115.kept hg148 (by simp)
  refine p_dk0 0 (v := .func (.func 112) #[] #[pt N20 0]) h105 rfl rfl ⟨hB153, hk154⟩ fun a155 h155 => ?_; clear h105
  refine p_dk0 2 (v := .func (.func 112) #[] #[pt N20 0]) h155 rfl rfl ⟨hB153, hk154⟩ fun a156 h156 => ?_; clear h155
  refine p_dk0 4 (v := .func (.func 112) #[] #[pt N20 0]) h156 rfl rfl ⟨hB153, hk154⟩ fun a157 h157 => ?_; clear h156
  refine p_dk 6 (v := pt b12 0) h157 rfl rfl ⟨hB153, hk154⟩ (fun x hx => (rn_load1 rfl rfl Try.isAgg161 (hx.2.cell rfl))) fun a158 h158 => ?_; clear h157
  refine p_dk 8 (v := pt b12 0) h158 rfl rfl ⟨hB153, hk154⟩ (fun x hx => (rn_load1 rfl rfl Try.isAgg161 (hx.2.cell rfl))) fun a159 h159 => ?_; clear h158
  refine p_dk 10 (v := pt b12 0) h159 rfl rfl ⟨hB153, hk154⟩ (fun x hx => (rn_load1 rfl rfl Try.isAgg161 (hx.2.cell rfl))) fun a160 h160 => ?_; clear h159
  have hT163 := hT87.trans (T8_y (by first | rfl | omega) (by omega))
  have ho171 := ho117.new hg148
  refine px_d1 1 h160 rfl rfl (op_callVX (X := fun l x => evR s = none ∧ (∃ k, l = [thrown k]) ∧ Below w.heap.size w x) (args := #[.int .i64 1073741824, pt N20 0]) (R := fun res xw => ∃ n a' : Int, res = .int .i64 n ∧ numR s a75 0 1073741824 = (n, a', 0) ∧ 0 ≤ n ∧ n ≤ 1073741824 ∧ OR b12 s a' 0 xw ∧ w147.grownBy xw (some b12)) rfl rfl rfl (by kernel_rfl) (by kernel_rfl) (Try.call112 _ _) (scNum_any N20 b12 s a75 0 1073741824 w147 hk154 (by omega) ho171 (by omega) (by omega) (by omega)) (by rintro q x (⟨n, a', rfl, h0, h1, h2, h3, h4⟩ | ⟨n, a', x', rfl, hx, h0, h4⟩); exact .inl ⟨_, rfl, n, a', rfl, h0, h1, h2, h3, h4⟩; exact .inr ⟨_, rfl, (hT163.trans ((T7_at h0).trans (T6_bad hx))), ⟨x', rfl⟩, hb_at hB153 h4 (by omega)⟩)) ?_ ?_; clear h160
  ·
   rintro _ w162 ⟨n164, a165, rfl, hq166, hn167, hm168, ho169, hg170⟩
   have hz172 := hg170.size
   have hl173 := ho169.lt
   have hT174 := (hT163.trans (T7_at hq166))
   have hB175 := hb_at hB153 hg170 (by omega)
   have hk176 := hk154.kept hg170 (by simp; omega)
   exact ⟨hB175, hk176⟩
  rintro _ w162 a161 ⟨n164, a165, rfl, hq166, hn167, hm168, ho169, hg170⟩ h161
  have hz172 := hg170.size
  have hl173 := ho169.lt
  have hT174 := (hT163.trans (T7_at hq166))
  have hB175 := hb_at hB153 hg170 (by omega)
  have hk176 := hk154.kept hg170 (by simp; omega)
  have hk186 := hk112.kept hg148 (by simp)
  have hk187 := hk186.kept hg170 (by simp; omega)
  have hk188 := hk99'.kept hg148 (by simp)
  have hk189 := hk188.kept hg170 (by simp; omega)
  refine px_d1 3 h161 rfl rfl (op_callVX (X := fun l x => evR s = none ∧ (∃ k, l = [thrown k]) ∧ Below w.heap.size w x) (args := #[.int .i64 1073741824, pt N20 0]) (R := fun res xw => ∃ n a' : Int, res = .int .i64 n ∧ numR s a165 0 1073741824 = (n, a', 0) ∧ 0 ≤ n ∧ n ≤ 1073741824 ∧ OR b12 s a' 0 xw ∧ w162.grownBy xw (some b12)) rfl rfl rfl (by kernel_rfl) (by kernel_rfl) (Try.call112 _ _) (scNum_any N20 b12 s a165 0 1073741824 w162 hk176 (by omega) ho169 (by omega) (by omega) (by omega)) (by rintro q x (⟨n, a', rfl, h0, h1, h2, h3, h4⟩ | ⟨n, a', x', rfl, hx, h0, h4⟩); exact .inl ⟨_, rfl, n, a', rfl, h0, h1, h2, h3, h4⟩; exact .inr ⟨_, rfl, (hT174.trans ((T6_at h0).trans (T5_bad hx))), ⟨x', rfl⟩, hb_at hB175 h4 (by omega)⟩)) ?_ ?_; clear h161
  ·
   rintro _ w178 ⟨n179, a180, rfl, hq181, hn182, hm183, ho184, hg185⟩
   have hz190 := hg185.size
   have hl191 := ho184.lt
   have hT192 := (hT174.trans (T6_at hq181))
   have hB193 := hb_at hB175 hg185 (by omega)
   have hk194 := hk176.kept hg185 (by simp; omega)
   exact ⟨hB193, hk194⟩
  rintro _ w178 a177 ⟨n179, a180, rfl, hq181, hn182, hm183, ho184, hg185⟩ h177
  have hz190 := hg185.size
  have hl191 := ho184.lt
  have hT192 := (hT174.trans (T6_at hq181))
  have hB193 := hb_at hB175 hg185 (by omega)
  have hk194 := hk176.kept hg185 (by simp; omega)
  refine px_d1 5 h177 rfl rfl (op_callVX (X := fun l x => evR s = none ∧ (∃ k, l = [thrown k]) ∧ Below w.heap.size w x) (args := #[.int .i64 1073741824, pt N20 0]) (R := fun res xw => ∃ n a' : Int, res = .int .i64 n ∧ numR s a180 0 1073741824 = (n, a', 0) ∧ 0 ≤ n ∧ n ≤ 1073741824 ∧ OR b12 s a' 0 xw ∧ w178.grownBy xw (some b12)) rfl rfl rfl (by kernel_rfl) (by kernel_rfl) (Try.call112 _ _) (scNum_any N20 b12 s a180 0 1073741824 w178 hk194 (by omega) ho184 (by omega) (by omega) (by omega)) (by rintro q x (⟨n, a', rfl, h0, h1, h2, h3, h4⟩ | ⟨n, a', x', rfl, hx, h0, h4⟩); exact .inl ⟨_, rfl, n, a', rfl, h0, h1, h2, h3, h4⟩; exact .inr ⟨_, rfl, (hT192.trans ((T5_at h0).trans (T4_bad hx))), ⟨x', rfl⟩, hb_at hB193 h4 (by omega)⟩)) ?_ ?_; clear h177
  ·
   rintro _ w196 ⟨n197, a198, rfl, hq199, hn200, hm201, ho202, hg203⟩
   have hz204 := hg203.size
   have hl205 := ho202.lt
   have hT206 := (hT192.trans (T5_at hq199))
   have hB207 := hb_at hB193 hg203 (by omega)
   have hk208 := hk194.kept hg203 (by simp; omega)
   exact ⟨hB207, hk208⟩
  rintro _ w196 a195 ⟨n197, a198, rfl, hq199, hn200, hm201, ho202, hg203⟩ h195
  have hz204 := hg203.size
  have hl205 := ho202.lt
  have hT206 := (hT192.trans (T5_at hq199))
  have hB207 := hb_at hB193 hg203 (by omega)
  have hk208 := hk194.kept hg203 (by simp; omega)
  refine p_d1 7 h195 rfl rfl (op_call (args := #[pt b12 0]) (R := fun res xw => ∃ (n : Int) (a' e' : Int), res = .int .u64 n ∧ bigR s a198 0 = (n, a', e') ∧ 0 ≤ n ∧ n < 18446744073709551616 ∧ OR b12 s a' e' xw ∧ w196.grownBy xw (some b12)) rfl rfl rfl (by kernel_rfl) (by kernel_rfl) (Try.call115 _ _) (or_big b12 s a198 0 w196 ho202 (by omega)) (by rintro q x ⟨n, a', e', rfl, h0, k0, k1, h1, h2⟩; exact ⟨_, rfl, n, a', e', rfl, h0, k0, k1, h1, h2⟩)) ?_ ?_; clear h195
  ·
   rintro _ w210 ⟨n211, a212, e213, rfl, hq214, hn215, hm216, ho217, hg218⟩
   have hz219 := hg218.size
   have hl220 := ho217.lt
   have hT221 := (hT206.trans (T4_at hq214))
   have hB222 := hb_at hB207 hg218 (by omega)
   have hk223 := hk208.kept hg218 (by simp; omega)
   exact ⟨hB222, hk223⟩
  rintro _ w210 a209 ⟨n211, a212, e213, rfl, hq214, hn215, hm216, ho217, hg218⟩ h209
  have hz219 := hg218.size
  have hl220 := ho217.lt
  have hT221 := (hT206.trans (T4_at hq214))
  have hB222 := hb_at hB207 hg218 (by omega)
  have hk223 := hk208.kept hg218 (by simp; omega)
  refine p_d1 9 h209 rfl rfl (op_call (args := #[pt b12 0, .int .i64 255]) (R := fun res xw => ∃ (n : ByteArray) (a' e' : Int), res = .string n ∧ textR s a212 e213 255 = (n, a', e') ∧ (n.size : Int) ≤ 255 ∧ OR b12 s a' e' xw ∧ w210.grownBy xw (some b12)) rfl rfl rfl (by kernel_rfl) (by kernel_rfl) (Try.call116 _ _) (or_text b12 s a212 e213 255 w210 ho217 (by omega) (by omega) (by omega)) (by rintro q x ⟨n, a', e', rfl, h0, k0, h1, h2⟩; exact ⟨_, rfl, n, a', e', rfl, h0, k0, h1, h2⟩)) ?_ ?_; clear h209
  ·
   rintro _ w225 ⟨n226, a227, e228, rfl, hq229, hn230, ho232, hg233⟩
   have hz234 := hg233.size
   have hl235 := ho232.lt
   have hT236 := (hT221.trans (T3_at hq229))
   have hB237 := hb_at hB222 hg233 (by omega)
   have hk238 := hk223.kept hg233 (by simp; omega)
   exact ⟨hB237, hk238⟩
  rintro _ w225 a224 ⟨n226, a227, e228, rfl, hq229, hn230, ho232, hg233⟩ h224
  have hz234 := hg233.size
  have hl235 := ho232.lt
  have hT236 := (hT221.trans (T3_at hq229))
  have hB237 := hb_at hB222 hg233 (by omega)
  have hk238 := hk223.kept hg233 (by simp; omega)
  refine p_d1 11 h224 rfl rfl (op_call (args := #[pt b12 0, .int .i64 255]) (R := fun res xw => ∃ (n : ByteArray) (a' e' : Int), res = .string n ∧ textR s a227 e228 255 = (n, a', e') ∧ (n.size : Int) ≤ 255 ∧ OR b12 s a' e' xw ∧ w225.grownBy xw (some b12)) rfl rfl rfl (by kernel_rfl) (by kernel_rfl) (Try.call116 _ _) (or_text b12 s a227 e228 255 w225 ho232 (by omega) (by omega) (by omega)) (by rintro q x ⟨n, a', e', rfl, h0, k0, h1, h2⟩; exact ⟨_, rfl, n, a', e', rfl, h0, k0, h1, h2⟩)) ?_ ?_; clear h224
  ·
   rintro _ w240 ⟨n241, a242, e243, rfl, hq244, hn245, ho247, hg248⟩
   have hz249 := hg248.size
   have hl250 := ho247.lt
   have hT251 := (hT236.trans (T2_at hq244))
   have hB252 := hb_at hB237 hg248 (by omega)
   have hk253 := hk238.kept hg248 (by simp; omega)
   exact ⟨hB252, hk253⟩
  rintro _ w240 a239 ⟨n241, a242, e243, rfl, hq244, hn245, ho247, hg248⟩ h239
  have hz249 := hg248.size
  have hl250 := ho247.lt
  have hT251 := (hT236.trans (T2_at hq244))
  have hB252 := hb_at hB237 hg248 (by omega)
  have hk253 := hk238.kept hg248 (by simp; omega)
  refine p_dk0 12 (v := .agg #[.int .i64 n164, .int .i64 n179, .string n226, .string n241, .int .u64 n211, .int .i64 n197, .slice none 0 0]) h239 rfl rfl ⟨hB252, hk253⟩ fun a254 h254 => ?_; clear h239
  refine p_dk0 13 (v := pt N91 3) h254 rfl rfl ⟨hB252, hk253⟩ fun a255 h255 => ?_; clear h254
  have hk261 := hk189.kept hg185 (by simp; omega)
  have hk262 := hk261.kept hg203 (by simp; omega)
  have hk263 := hk262.kept hg218 (by simp; omega)
  have hk264 := hk263.kept hg233 (by simp; omega)
  have hk265 := hk264.kept hg248 (by simp; omega)
  refine p_d1D 14 h255 rfl rfl (op_storePart (k := 3) (cs' := #[.int .i64 n37, .int .i64 n59, .int .i64 n74, .int .i64 n164, .int .i64 n179, .string n226, .string n241, .int .u64 n211, .int .i64 n197, .slice none 0 0]) rfl rfl rfl (all_cons rfl (all_cons rfl (all_cons rfl (all_cons rfl (all_cons rfl (all_cons rfl (all_cons rfl all_nil))))))) (by kernel_rfl) hk265 rfl rfl) ?_ ?_; clear h255
  ·
   rintro _ w257 ⟨hk258, hz259, hg260⟩
   have hk258' : Blk w257 N91 60 #[.int .i64 n37, .int .i64 n59, .int .i64 n74, .int .i64 n164, .int .i64 n179, .string n226, .string n241, .int .u64 n211, .int .i64 n197, .slice none 0 0] := hk258; clear hk258
   have hz266 := hg260.size
   have hB267 := hb_at hB252 hg260 (by omega)
   have hk268 := hk253.kept hg260 (by simp; omega)
   exact ⟨hB267, hk268⟩
  rintro _ w257 a256 ⟨hk258, hz259, hg260⟩ h256
  have hk258' : Blk w257 N91 60 #[.int .i64 n37, .int .i64 n59, .int .i64 n74, .int .i64 n164, .int .i64 n179, .string n226, .string n241, .int .u64 n211, .int .i64 n197, .slice none 0 0] := hk258; clear hk258
  have hz266 := hg260.size
  refine p_dr_done (by kernel_rfl) ?_
  refine co_then ?_
  refine co_seq ?_
  refine co_reg ?_
  refine pk0 (v := .func (.func 112) #[] #[pt N20 0]) h256 rfl fun a267 h267 => ?_; clear h256
  have hB277 := hb_at hB252 hg260 (by omega)
  have hk278 := hk187.kept hg185 (by simp; omega)
  have hk279 := hk278.kept hg203 (by simp; omega)
  have hk280 := hk279.kept hg218 (by simp; omega)
  have hk281 := hk280.kept hg233 (by simp; omega)
  have hk282 := hk281.kept hg248 (by simp; omega)
  have hk283 := hk282.kept hg260 (by simp; omega)
  have hk284 := hk253.kept hg260 (by simp; omega)
  have ho285 := ho247.at (by omega) hg260
  refine pwX h267 rfl (by intro l _ _ h hd; (repeat (first | refine co_thenP ?_ | refine co_blockP ?_)); exact body_pan hd (.inr ⟨l, rfl, h⟩)) (op_callVX (X := fun l x => evR s = none ∧ (∃ k, l = [thrown k]) ∧ Below w.heap.size w x) (args := #[.int .i64 255, pt N20 0]) (R := fun res xw => ∃ n a' : Int, res = .int .i64 n ∧ numR s a242 e243 255 = (n, a', 0) ∧ 0 ≤ n ∧ n ≤ 255 ∧ OR b12 s a' 0 xw ∧ w257.grownBy xw (some b12)) rfl rfl rfl (by kernel_rfl) (by kernel_rfl) (Try.call112 _ _) (scNum_any N20 b12 s a242 e243 255 w257 hk284 (by omega) ho285 (by omega) (by omega) (by omega)) (by rintro q x (⟨n, a', rfl, h0, h1, h2, h3, h4⟩ | ⟨n, a', x', rfl, hx, h0, h4⟩); exact .inl ⟨_, rfl, n, a', rfl, h0, h1, h2, h3, h4⟩; exact .inr ⟨_, rfl, (hT251.trans (T1_bad2 h0 hx)), ⟨x', rfl⟩, hb_at hB277 h4 (by omega)⟩)) ?_; clear h267
  rintro _ w269 a268 ⟨n270, a271, rfl, hq272, hn273, hm274, ho275, hg276⟩ h268
  have hz286 := hg276.size
  have hl287 := ho275.lt
  refine pk0 (v := .int .i64 0) h268 rfl fun a288 h288 => ?_; clear h268
  refine pl_nil ?_
  refine co_then ?_
  refine wp_block ?_
  have h289 : Slots 60 [(2, pt N3 0), (3, pt N20 0), (5, pt N91 0), (35, .int .i64 n270), (36, .int .i64 0)] _ := h288.sub ⟨rfl, rfl, rfl, rfl, rfl, trivial⟩; clear h288
  refine co_loop (fun mm a x => ∃ (i : Nat) (u : Value) (ls : List OpT) (ps : Int) (er : Int), Slots 60 [(2, pt N3 0), (3, pt N20 0), (5, pt N91 0), (35, .int .i64 n270), (36, .int .i64 ((i : Nat) : Int))] a ∧ mm = n270.toNat - i ∧ (((i : Nat) : Int) ≤ n270) ∧ (ls.length = i) ∧ (sdN s i ([], a271, 0) = (ls, ps, er)) ∧ Blk x N91 60 #[.int .i64 n37, .int .i64 n59, .int .i64 n74, .int .i64 n164, .int .i64 n179, .string n226, .string n241, .int .u64 n211, .int .i64 n197, u] ∧ OR b12 s ps er x ∧ x.ownsRow (N91 + 1) 66 3 u ls.length (ls.flatMap opE) ∧ Below w.heap.size w x ∧ Blk x N3 60 #[.int .i64 0, .int .i64 0, .int .i64 0, .int .i64 0, .int .i64 0, .string (⟨#[]⟩), .string (⟨#[]⟩), .int .u64 0, .int .i64 0, .slice none 0 0] ∧ Blk x N20 161 #[pt b12 0]) (n270.toNat - 0) ?_ ?_
  have hk290 := hk258'.kept hg276 (by simp; omega)
  have hB291 := hb_at hB277 hg276 (by omega)
  have hk292 := hk283.kept hg276 (by simp; omega)
  have hk293 := hk284.kept hg276 (by simp; omega)
  · exact ⟨0, (.slice none 0 0), [], a271, 0, h289.sub ⟨rfl, rfl, rfl, rfl, (slot_eq rfl (congrArg (Value.int .i64) (by first | rfl | omega))), trivial⟩, rfl, by omega, by first | rfl | (simp; omega), by first | rfl | exact hR', hk290, ho275, (row_nilL _ _ _ _ _), hB291, hk292, hk293⟩
  · rintro k294 a295 w296 ⟨i, u, ls, ps, er, h295, rfl, hi297, hi298, hi299, hf300, hf301, hf302, hB303, hk304, hk305⟩
    have hz306 := hB303.size
    have hl307 := hk304.lt
    have hl308 := hk305.lt
    have hl309 := hf300.lt
    have hl310 := hf301.lt
    have hR : sdN s i ([], a271, 0) = (ls, ps, er) := by assumption
    refine co_seq ?_
    refine co_reg ?_
    refine pk0 (v := .bool (decide (((i : Nat) : Int) < n270))) h295 rfl fun a311 h311 => ?_; clear h295
    refine pl_nil ?_
    refine co_then ?_
    refine co_seq ?_
    cases hc312 : (decide (((i : Nat) : Int) < n270))
    ·
     rw [hc312] at h311
     have hp313 : ¬ (((i : Nat) : Int) < n270) := of_decide_eq_false hc312
     clear hc312
     refine co_false h311 rfl ?_
     refine wp_exit ?_
     refine co_thenX ?_
     refine co_thenX ?_
     refine co_blockX ?_
     refine co_then ?_
     refine co_seq ?_
     refine co_seq ?_
     refine co_reg ?_
     refine pk (v := pt b12 0) h311 rfl (rn_load1 rfl rfl Try.isAgg161 (hk305.cell rfl)) fun a314 h314 => ?_; clear h311
     refine pw h314 rfl (op_call (args := #[pt b12 0]) (R := fun res xw => ∃ r : Int, res = .int .i64 r ∧ endV s ps.toNat er = r ∧ Below w296.heap.size w296 xw) rfl rfl rfl (by kernel_rfl) (by kernel_rfl) (Try.call118 _ _) (or_end b12 s ps er w296 hf301 (by omega)) (by rintro e x ⟨r, rfl, h0, h2⟩; exact ⟨_, rfl, r, rfl, h0, h2⟩)) ?_; clear h314
     rintro _ w316 a315 ⟨r317, rfl, hq318, hb319⟩ h315
     have hz320 := hb319.size
     refine pk0 (v := .int .i64 r317) h315 rfl fun a321 h321 => ?_; clear h315
     refine pl_nil ?_
     refine co_then ?_
     refine co_seq ?_
     refine co_reg ?_
     refine pk0 (v := .int .i64 r317) h321 rfl fun a322 h322 => ?_; clear h321
     refine pk0 (v := .bool (r317 != 0)) h322 rfl fun a323 h323 => ?_; clear h322
     refine pl_nil ?_
     refine co_then ?_
     have hB325 := hb_call hB303 hb319
     cases hc324 : (r317 != 0)
     ·
      rw [hc324] at h323
      have hp326 : ¬ (r317 ≠ 0) := by first | simpa using hc324 | simpa [and_assoc] using hc324
      clear hc324
      refine co_false h323 rfl ?_
      refine wp_skip ?_
      refine co_then ?_
      refine co_seq ?_
      refine co_reg ?_
      have hk327 := hf300.below hb319
      refine pk (v := .agg #[.int .i64 n37, .int .i64 n59, .int .i64 n74, .int .i64 n164, .int .i64 n179, .string n226, .string n241, .int .u64 n211, .int .i64 n197, u]) h323 rfl (rn_loadN rfl rfl Try.underlying60 rfl (by kernel_rfl) hk327.all) fun a328 h328 => ?_; clear h323
      have hr334 := row_kept_new hf302 (below_grown hb319)
      have hk335 := hk304.below hb319
      refine pwD h328 rfl (op_storeN rfl rfl rfl (all_cons rfl (all_cons rfl (all_cons rfl (all_cons rfl (all_cons rfl (all_cons rfl (all_cons rfl (all_cons rfl (all_cons rfl (all_cons (row_one hr334) all_nil)))))))))) (by kernel_rfl) hk335 rfl) ?_; clear h328
      rintro _ w330 a329 ⟨hk331, hz332, hg333⟩ h329
      have hk331' : Blk w330 N3 60 #[.int .i64 n37, .int .i64 n59, .int .i64 n74, .int .i64 n164, .int .i64 n179, .string n226, .string n241, .int .u64 n211, .int .i64 n197, u] := hk331; clear hk331
      have hz336 := hg333.size
      refine pl_nil ?_
      refine co_then ?_
      refine wp_ret ?_
      refine co_retC (Q := fun _ _ _ => True) h329 rfl rfl hk331' Try.underlying60 rfl (by kernel_rfl) ?_
      have hr337 := row_kept_at hr334 hg333 (row_ne_lt hr334 (by omega))
      have hB338 := hb_at hB325 hg333 (by omega)
      exact .inl ⟨⟨n37, n59, n74, n164, n179, n226, n241, n211, n197, ls⟩, _, rfl, (row_lows hr337 (by omega)), hT251.trans ((T1_at hq272 hR (by omega)).trans (T0_y hq318 (by omega))), hB338⟩
     ·
      rw [hc324] at h323
      have hp339 : r317 ≠ 0 := by first | simpa using hc324 | simpa [and_assoc] using hc324
      clear hc324
      refine co_true h323 rfl ?_
      refine co_reg ?_
      refine pk0 (v := .int .i64 r317) h323 rfl fun a340 h340 => ?_; clear h323
      refine pk0 (v := .iface 44 (.int .i64 r317)) h340 rfl fun a341 h341 => ?_; clear h340
      refine pl_panic h341 rfl rfl (fun hd342 => ?_)
      repeat (first | refine co_thenP ?_ | refine co_blockP ?_)
      exact body_pan hd342 (.inr ⟨_, rfl, hT251.trans ((T1_at hq272 hR (by omega)).trans (T0_n hq318 (by omega))), ⟨_, rfl⟩, hB325⟩)
    ·
     rw [hc312] at h311
     have hp343 : ((i : Nat) : Int) < n270 := of_decide_eq_true hc312
     clear hc312
     refine co_true h311 rfl ?_
     refine wp_skip ?_
     refine co_then ?_
     refine co_seq ?_
     refine wp_block ?_
     refine p_dr_gen (X := fun l x => evR s = none ∧ (∃ k, l = [thrown k]) ∧ Below w.heap.size w x) (fun x => Below w.heap.size w x ∧ Blk x N20 161 #[pt b12 0]) (by intro l _ _ h hd; (repeat (first | refine co_thenP ?_ | refine co_blockP ?_)); exact body_pan hd (.inr ⟨l, rfl, h⟩)) (by kernel_rfl) (fun w344 hg345 => ?_) (fun w344 hg345 => ?_)
     ·
      have hz346 := hg345.size
      have hB347 := hb_new hB303 hg345
      have hk348 := hk305.kept hg345 (by simp)
      exact ⟨hB347, hk348⟩
     have hz349 := hg345.size
     have hB350 := hb_new hB303 hg345
     have hk351 := hk305.kept hg345 (by simp)
     refine p_dk0 0 (v := pt N91 3) h311 rfl rfl ⟨hB350, hk351⟩ fun a352 h352 => ?_; clear h311
     refine p_dk0 1 (v := pt N91 9) h352 rfl rfl ⟨hB350, hk351⟩ fun a353 h353 => ?_; clear h352
     refine p_dk 3 (v := pt b12 0) h353 rfl rfl ⟨hB350, hk351⟩ (fun x hx => (rn_load1 rfl rfl Try.isAgg161 (hx.2.cell rfl))) fun a354 h354 => ?_; clear h353
     refine p_dk 5 (v := pt b12 0) h354 rfl rfl ⟨hB350, hk351⟩ (fun x hx => (rn_load1 rfl rfl Try.isAgg161 (hx.2.cell rfl))) fun a355 h355 => ?_; clear h354
     refine p_dk 7 (v := pt b12 0) h355 rfl rfl ⟨hB350, hk351⟩ (fun x hx => (rn_load1 rfl rfl Try.isAgg161 (hx.2.cell rfl))) fun a356 h356 => ?_; clear h355
     refine p_dr_many [2, 4] (by kernel_rfl) (by simp) ⟨?_, ?_, trivial⟩
     ·
      have hk357 := hf300.kept hg345 (by simp)
      refine p_dr_opVal (i := 2) (v := u) h356 rfl rfl rfl rfl (by kernel_rfl) rfl (rn_load1 rfl rfl Try.isAgg24 (hk357.cell rfl)) ⟨hB350, hk351⟩ (fun a358 h358 => ?_); clear h356
      have ho369 := hf301.new hg345
      refine p_d1 4 h358 rfl rfl (op_call (args := #[pt b12 0, .int .i64 255]) (R := fun res xw => ∃ (n : ByteArray) (a' e' : Int), res = .string n ∧ textR s ps er 255 = (n, a', e') ∧ (n.size : Int) ≤ 255 ∧ OR b12 s a' e' xw ∧ w344.grownBy xw (some b12)) rfl rfl rfl (by kernel_rfl) (by kernel_rfl) (Try.call116 _ _) (or_text b12 s ps er 255 w344 ho369 (by omega) (by omega) (by omega)) (by rintro q x ⟨n, a', e', rfl, h0, k0, h1, h2⟩; exact ⟨_, rfl, n, a', e', rfl, h0, k0, h1, h2⟩)) ?_ ?_; clear h358
      ·
       rintro _ w360 ⟨n361, a362, e363, rfl, hq364, hn365, ho367, hg368⟩
       have hz370 := hg368.size
       have hl371 := ho367.lt
       have hB372 := hb_at hB350 hg368 (by omega)
       have hk373 := hk351.kept hg368 (by simp; omega)
       exact ⟨hB372, hk373⟩
      rintro _ w360 a359 ⟨n361, a362, e363, rfl, hq364, hn365, ho367, hg368⟩ h359
      have hz370 := hg368.size
      have hl371 := ho367.lt
      have hB372 := hb_at hB350 hg368 (by omega)
      have hk373 := hk351.kept hg368 (by simp; omega)
      refine p_d1 6 h359 rfl rfl (op_call (args := #[pt b12 0]) (R := fun res xw => ∃ (n : Bool) (a' e' : Int), res = .bool n ∧ flagR s a362.toNat e363 = (n, a', e') ∧ OR b12 s a' e' xw ∧ w360.grownBy xw (some b12)) rfl rfl rfl (by kernel_rfl) (by kernel_rfl) (Try.call117 _ _) (or_flag b12 s a362 e363 w360 ho367 (by omega)) (by rintro q x ⟨n, a', e', rfl, h0, h1, h2⟩; exact ⟨_, rfl, n, a', e', rfl, h0, h1, h2⟩)) ?_ ?_; clear h359
      ·
       rintro _ w375 ⟨n376, a377, e378, rfl, hq379, ho382, hg383⟩
       have hz384 := hg383.size
       have hl385 := ho382.lt
       have hB386 := hb_at hB372 hg383 (by omega)
       have hk387 := hk373.kept hg383 (by simp; omega)
       exact ⟨hB386, hk387⟩
      rintro _ w375 a374 ⟨n376, a377, e378, rfl, hq379, ho382, hg383⟩ h374
      have hz384 := hg383.size
      have hl385 := ho382.lt
      have hB386 := hb_at hB372 hg383 (by omega)
      have hk387 := hk373.kept hg383 (by simp; omega)
      refine p_d1 8 h374 rfl rfl (op_call (args := #[pt b12 0, .int .i64 255]) (R := fun res xw => ∃ (n : ByteArray) (a' e' : Int), res = .string n ∧ textR s a377 e378 255 = (n, a', e') ∧ (n.size : Int) ≤ 255 ∧ OR b12 s a' e' xw ∧ w375.grownBy xw (some b12)) rfl rfl rfl (by kernel_rfl) (by kernel_rfl) (Try.call116 _ _) (or_text b12 s a377 e378 255 w375 ho382 (by omega) (by omega) (by omega)) (by rintro q x ⟨n, a', e', rfl, h0, k0, h1, h2⟩; exact ⟨_, rfl, n, a', e', rfl, h0, k0, h1, h2⟩)) ?_ ?_; clear h374
      ·
       rintro _ w389 ⟨n390, a391, e392, rfl, hq393, hn394, ho396, hg397⟩
       have hz398 := hg397.size
       have hl399 := ho396.lt
       have hB400 := hb_at hB386 hg397 (by omega)
       have hk401 := hk387.kept hg397 (by simp; omega)
       exact ⟨hB400, hk401⟩
      rintro _ w389 a388 ⟨n390, a391, e392, rfl, hq393, hn394, ho396, hg397⟩ h388
      have hz398 := hg397.size
      have hl399 := ho396.lt
      have hB400 := hb_at hB386 hg397 (by omega)
      have hk401 := hk387.kept hg397 (by simp; omega)
      refine p_dk0 9 (v := .agg #[.string n361, .string n390, .bool n376]) h388 rfl rfl ⟨hB400, hk401⟩ fun a402 h402 => ?_; clear h388
      refine p_d1 10 h402 rfl rfl (op_new (v := fun N => .slice (some ⟨N, 0, none⟩) 1 1) (T := 66) (cs := #[.string n361, .string n390, .bool n376]) (by kernel_rfl) (by kernel_rfl) (by kernel_rfl)) ?_ ?_; clear h402
      ·
       rintro _ w404 ⟨N405, rfl, hN408, hz409, hk407, hg406⟩
       have hr411 := row_kept_new hf302 hg345
       have hr412 := row_kept_at hr411 hg368 (row_ne_lt hr411 (by omega))
       have hr413 := row_kept_at hr412 hg383 (row_ne_lt hr412 (by omega))
       have hr414 := row_kept_at hr413 hg397 (row_ne_lt hr413 (by omega))
       have ha410 := row_fresh hr414 hN408
       have hz415 := hg406.size
       have hB416 := hb_new hB400 hg406
       have hk417 := hk401.kept hg406 (by simp)
       exact ⟨hB416, hk417⟩
      rintro _ w404 a403 ⟨N405, rfl, hN408, hz409, hk407, hg406⟩ h403
      have hr411 := row_kept_new hf302 hg345
      have hr412 := row_kept_at hr411 hg368 (row_ne_lt hr411 (by omega))
      have hr413 := row_kept_at hr412 hg383 (row_ne_lt hr412 (by omega))
      have hr414 := row_kept_at hr413 hg397 (row_ne_lt hr413 (by omega))
      have ha410 := row_fresh hr414 hN408
      have hz415 := hg406.size
      try dsimp only at h403
      have hB416 := hb_new hB400 hg406
      have hk417 := hk401.kept hg406 (by simp)
      have hr424 := row_kept_new hr414 hg406
      refine p_d1 11 h403 rfl rfl (op_append rfl (N91 + 1) 66 (z := .agg #[.string (⟨#[]⟩), .string (⟨#[]⟩), .bool false]) (size := 3) (bytes := 40) Try.underlying24 (by kernel_rfl) rfl rfl rfl hr424 rfl hk407 rfl (by kernel_rfl) (by first | omega | (simp only [List.length_nil, List.length_append, List.length_cons, List.length_take, List.length_drop]; omega)) (by first | omega | (simp only [List.length_nil, List.length_append, List.length_cons, List.length_take, List.length_drop]; omega)) (by omega)) ?_ ?_; clear h403
      ·
       rintro v420 w419 ⟨hr421, hg422⟩
       have hr421' : w419.ownsRow (N91 + 1) 66 3 v420 ((ls ++ [(n361, n390, n376)]).length) ((ls ++ [(n361, n390, n376)]).flatMap opE) := row_push (y := (n361, n390, n376)) hr421 rfl rfl; clear hr421
       have hz425 := hg422.size
       have hB426 := hb_row hB416 hr424 (by omega) hg422
       have hk427 := hk417.kept hg422 (row_ne_lt hr424 (by omega))
       exact ⟨hB426, hk427⟩
      rintro v420 w419 a418 ⟨hr421, hg422⟩ h418
      have hr421' : w419.ownsRow (N91 + 1) 66 3 v420 ((ls ++ [(n361, n390, n376)]).length) ((ls ++ [(n361, n390, n376)]).flatMap opE) := row_push (y := (n361, n390, n376)) hr421 rfl rfl; clear hr421
      have hz425 := hg422.size
      have hB426 := hb_row hB416 hr424 (by omega) hg422
      have hk427 := hk417.kept hg422 (row_ne_lt hr424 (by omega))
      refine p_dk0 12 (v := pt N91 3) h418 rfl rfl ⟨hB426, hk427⟩ fun a428 h428 => ?_; clear h418
      refine p_dk0 13 (v := pt N91 9) h428 rfl rfl ⟨hB426, hk427⟩ fun a429 h429 => ?_; clear h428
      have hk435 := hk357.kept hg368 (by simp; omega)
      have hk436 := hk435.kept hg383 (by simp; omega)
      have hk437 := hk436.kept hg397 (by simp; omega)
      have hk438 := hk437.kept hg406 (by simp)
      have hk439 := hk438.kept hg422 (row_ne_lt hr424 (by omega))
      refine p_d1D 14 h429 rfl rfl (op_store1 rfl rfl rfl (row_one hr421') Try.sizeOf24 hk439 rfl) ?_ ?_; clear h429
      ·
       rintro _ w431 ⟨hk432, hz433, hg434⟩
       have hk432' : Blk w431 N91 60 #[.int .i64 n37, .int .i64 n59, .int .i64 n74, .int .i64 n164, .int .i64 n179, .string n226, .string n241, .int .u64 n211, .int .i64 n197, v420] := hk432; clear hk432
       have hz440 := hg434.size
       have hB441 := hb_at hB426 hg434 (by omega)
       have hk442 := hk427.kept hg434 (by simp; omega)
       exact ⟨hB441, hk442⟩
      rintro _ w431 a430 ⟨hk432, hz433, hg434⟩ h430
      have hk432' : Blk w431 N91 60 #[.int .i64 n37, .int .i64 n59, .int .i64 n74, .int .i64 n164, .int .i64 n179, .string n226, .string n241, .int .u64 n211, .int .i64 n197, v420] := hk432; clear hk432
      have hz440 := hg434.size
      refine p_dr_done (by kernel_rfl) ?_
      refine co_blockN ?_
      refine co_then ?_
      refine co_reg ?_
      refine pk (v := .int .i64 ((i + 1 : Nat) : Int)) h430 rfl (rn_arith' rfl rfl rfl rfl rfl rfl (IntWalk.i64_in _ (by omega)) (by omega)) fun a441 h441 => ?_; clear h430
      refine pk0 (v := .int .i64 ((i + 1 : Nat) : Int)) h441 rfl fun a442 h442 => ?_; clear h441
      refine pl_nil ?_
      refine co_then ?_
      refine ⟨(n270.toNat - (i + 1)), by omega, ?_⟩
      have hR' := sdN_step hR hq364 hq379 hq393
      have ho443 := ho396.new hg406
      have ho444 := ho443.row (row_ne_lt hr424 (by omega)) hg422
      have ho445 := ho444.at (by omega) hg434
      have hr446 := row_kept_at hr421' hg434 (row_ne_lt hr421' (by omega))
      have hB447 := hb_at hB426 hg434 (by omega)
      have hk448 := hk304.kept hg345 (by simp)
      have hk449 := hk448.kept hg368 (by simp; omega)
      have hk450 := hk449.kept hg383 (by simp; omega)
      have hk451 := hk450.kept hg397 (by simp; omega)
      have hk452 := hk451.kept hg406 (by simp)
      have hk453 := hk452.kept hg422 (row_ne_lt hr424 (by omega))
      have hk454 := hk453.kept hg434 (by simp; omega)
      have hk455 := hk427.kept hg434 (by simp; omega)
      exact ⟨i + 1, v420, ls ++ [(n361, n390, n376)], a391, e392, h442.sub ⟨rfl, rfl, rfl, rfl, rfl, trivial⟩, rfl, by omega, by first | rfl | (simp; omega), by first | rfl | exact hR', hk432', ho445, (row_eq hr446 (rfl)), hB447, hk454, hk455⟩
     ·
      have ho466 := hf301.new hg345
      refine p_dr_op (i := 4) h356 rfl rfl rfl rfl (op_call (args := #[pt b12 0, .int .i64 255]) (R := fun res xw => ∃ (n : ByteArray) (a' e' : Int), res = .string n ∧ textR s ps er 255 = (n, a', e') ∧ (n.size : Int) ≤ 255 ∧ OR b12 s a' e' xw ∧ w344.grownBy xw (some b12)) rfl rfl rfl (by kernel_rfl) (by kernel_rfl) (Try.call116 _ _) (or_text b12 s ps er 255 w344 ho466 (by omega) (by omega) (by omega)) (by rintro q x ⟨n, a', e', rfl, h0, k0, h1, h2⟩; exact ⟨_, rfl, n, a', e', rfl, h0, k0, h1, h2⟩)) ?_ ?_; clear h356
      ·
       rintro _ w457 ⟨n458, a459, e460, rfl, hq461, hn462, ho464, hg465⟩
       have hz467 := hg465.size
       have hl468 := ho464.lt
       have hB469 := hb_at hB350 hg465 (by omega)
       have hk470 := hk351.kept hg465 (by simp; omega)
       exact ⟨hB469, hk470⟩
      rintro _ w457 a456 ⟨n458, a459, e460, rfl, hq461, hn462, ho464, hg465⟩ h456
      have hz467 := hg465.size
      have hl468 := ho464.lt
      have hB469 := hb_at hB350 hg465 (by omega)
      have hk470 := hk351.kept hg465 (by simp; omega)
      refine p_dr_many [2, 6] (by kernel_rfl) (by simp) ⟨?_, ?_, trivial⟩
      ·
       have hk471 := hf300.kept hg345 (by simp)
       have hk472 := hk471.kept hg465 (by simp; omega)
       refine p_dr_opVal (i := 2) (v := u) h456 rfl rfl rfl rfl (by kernel_rfl) rfl (rn_load1 rfl rfl Try.isAgg24 (hk472.cell rfl)) ⟨hB469, hk470⟩ (fun a473 h473 => ?_); clear h456
       refine p_d1 6 h473 rfl rfl (op_call (args := #[pt b12 0]) (R := fun res xw => ∃ (n : Bool) (a' e' : Int), res = .bool n ∧ flagR s a459.toNat e460 = (n, a', e') ∧ OR b12 s a' e' xw ∧ w457.grownBy xw (some b12)) rfl rfl rfl (by kernel_rfl) (by kernel_rfl) (Try.call117 _ _) (or_flag b12 s a459 e460 w457 ho464 (by omega)) (by rintro q x ⟨n, a', e', rfl, h0, h1, h2⟩; exact ⟨_, rfl, n, a', e', rfl, h0, h1, h2⟩)) ?_ ?_; clear h473
       ·
        rintro _ w475 ⟨n476, a477, e478, rfl, hq479, ho482, hg483⟩
        have hz484 := hg483.size
        have hl485 := ho482.lt
        have hB486 := hb_at hB469 hg483 (by omega)
        have hk487 := hk470.kept hg483 (by simp; omega)
        exact ⟨hB486, hk487⟩
       rintro _ w475 a474 ⟨n476, a477, e478, rfl, hq479, ho482, hg483⟩ h474
       have hz484 := hg483.size
       have hl485 := ho482.lt
       have hB486 := hb_at hB469 hg483 (by omega)
       have hk487 := hk470.kept hg483 (by simp; omega)
       refine p_d1 8 h474 rfl rfl (op_call (args := #[pt b12 0, .int .i64 255]) (R := fun res xw => ∃ (n : ByteArray) (a' e' : Int), res = .string n ∧ textR s a477 e478 255 = (n, a', e') ∧ (n.size : Int) ≤ 255 ∧ OR b12 s a' e' xw ∧ w475.grownBy xw (some b12)) rfl rfl rfl (by kernel_rfl) (by kernel_rfl) (Try.call116 _ _) (or_text b12 s a477 e478 255 w475 ho482 (by omega) (by omega) (by omega)) (by rintro q x ⟨n, a', e', rfl, h0, k0, h1, h2⟩; exact ⟨_, rfl, n, a', e', rfl, h0, k0, h1, h2⟩)) ?_ ?_; clear h474
       ·
        rintro _ w489 ⟨n490, a491, e492, rfl, hq493, hn494, ho496, hg497⟩
        have hz498 := hg497.size
        have hl499 := ho496.lt
        have hB500 := hb_at hB486 hg497 (by omega)
        have hk501 := hk487.kept hg497 (by simp; omega)
        exact ⟨hB500, hk501⟩
       rintro _ w489 a488 ⟨n490, a491, e492, rfl, hq493, hn494, ho496, hg497⟩ h488
       have hz498 := hg497.size
       have hl499 := ho496.lt
       have hB500 := hb_at hB486 hg497 (by omega)
       have hk501 := hk487.kept hg497 (by simp; omega)
       refine p_dk0 9 (v := .agg #[.string n458, .string n490, .bool n476]) h488 rfl rfl ⟨hB500, hk501⟩ fun a502 h502 => ?_; clear h488
       refine p_d1 10 h502 rfl rfl (op_new (v := fun N => .slice (some ⟨N, 0, none⟩) 1 1) (T := 66) (cs := #[.string n458, .string n490, .bool n476]) (by kernel_rfl) (by kernel_rfl) (by kernel_rfl)) ?_ ?_; clear h502
       ·
        rintro _ w504 ⟨N505, rfl, hN508, hz509, hk507, hg506⟩
        have hr511 := row_kept_new hf302 hg345
        have hr512 := row_kept_at hr511 hg465 (row_ne_lt hr511 (by omega))
        have hr513 := row_kept_at hr512 hg483 (row_ne_lt hr512 (by omega))
        have hr514 := row_kept_at hr513 hg497 (row_ne_lt hr513 (by omega))
        have ha510 := row_fresh hr514 hN508
        have hz515 := hg506.size
        have hB516 := hb_new hB500 hg506
        have hk517 := hk501.kept hg506 (by simp)
        exact ⟨hB516, hk517⟩
       rintro _ w504 a503 ⟨N505, rfl, hN508, hz509, hk507, hg506⟩ h503
       have hr511 := row_kept_new hf302 hg345
       have hr512 := row_kept_at hr511 hg465 (row_ne_lt hr511 (by omega))
       have hr513 := row_kept_at hr512 hg483 (row_ne_lt hr512 (by omega))
       have hr514 := row_kept_at hr513 hg497 (row_ne_lt hr513 (by omega))
       have ha510 := row_fresh hr514 hN508
       have hz515 := hg506.size
       try dsimp only at h503
       have hB516 := hb_new hB500 hg506
       have hk517 := hk501.kept hg506 (by simp)
       have hr524 := row_kept_new hr514 hg506
       refine p_d1 11 h503 rfl rfl (op_append rfl (N91 + 1) 66 (z := .agg #[.string (⟨#[]⟩), .string (⟨#[]⟩), .bool false]) (size := 3) (bytes := 40) Try.underlying24 (by kernel_rfl) rfl rfl rfl hr524 rfl hk507 rfl (by kernel_rfl) (by first | omega | (simp only [List.length_nil, List.length_append, List.length_cons, List.length_take, List.length_drop]; omega)) (by first | omega | (simp only [List.length_nil, List.length_append, List.length_cons, List.length_take, List.length_drop]; omega)) (by omega)) ?_ ?_; clear h503
       ·
        rintro v520 w519 ⟨hr521, hg522⟩
        have hr521' : w519.ownsRow (N91 + 1) 66 3 v520 ((ls ++ [(n458, n490, n476)]).length) ((ls ++ [(n458, n490, n476)]).flatMap opE) := row_push (y := (n458, n490, n476)) hr521 rfl rfl; clear hr521
        have hz525 := hg522.size
        have hB526 := hb_row hB516 hr524 (by omega) hg522
        have hk527 := hk517.kept hg522 (row_ne_lt hr524 (by omega))
        exact ⟨hB526, hk527⟩
       rintro v520 w519 a518 ⟨hr521, hg522⟩ h518
       have hr521' : w519.ownsRow (N91 + 1) 66 3 v520 ((ls ++ [(n458, n490, n476)]).length) ((ls ++ [(n458, n490, n476)]).flatMap opE) := row_push (y := (n458, n490, n476)) hr521 rfl rfl; clear hr521
       have hz525 := hg522.size
       have hB526 := hb_row hB516 hr524 (by omega) hg522
       have hk527 := hk517.kept hg522 (row_ne_lt hr524 (by omega))
       refine p_dk0 12 (v := pt N91 3) h518 rfl rfl ⟨hB526, hk527⟩ fun a528 h528 => ?_; clear h518
       refine p_dk0 13 (v := pt N91 9) h528 rfl rfl ⟨hB526, hk527⟩ fun a529 h529 => ?_; clear h528
       have hk535 := hk472.kept hg483 (by simp; omega)
       have hk536 := hk535.kept hg497 (by simp; omega)
       have hk537 := hk536.kept hg506 (by simp)
       have hk538 := hk537.kept hg522 (row_ne_lt hr524 (by omega))
       refine p_d1D 14 h529 rfl rfl (op_store1 rfl rfl rfl (row_one hr521') Try.sizeOf24 hk538 rfl) ?_ ?_; clear h529
       ·
        rintro _ w531 ⟨hk532, hz533, hg534⟩
        have hk532' : Blk w531 N91 60 #[.int .i64 n37, .int .i64 n59, .int .i64 n74, .int .i64 n164, .int .i64 n179, .string n226, .string n241, .int .u64 n211, .int .i64 n197, v520] := hk532; clear hk532
        have hz539 := hg534.size
        have hB540 := hb_at hB526 hg534 (by omega)
        have hk541 := hk527.kept hg534 (by simp; omega)
        exact ⟨hB540, hk541⟩
       rintro _ w531 a530 ⟨hk532, hz533, hg534⟩ h530
       have hk532' : Blk w531 N91 60 #[.int .i64 n37, .int .i64 n59, .int .i64 n74, .int .i64 n164, .int .i64 n179, .string n226, .string n241, .int .u64 n211, .int .i64 n197, v520] := hk532; clear hk532
       have hz539 := hg534.size
       refine p_dr_done (by kernel_rfl) ?_
       refine co_blockN ?_
       refine co_then ?_
       refine co_reg ?_
       refine pk (v := .int .i64 ((i + 1 : Nat) : Int)) h530 rfl (rn_arith' rfl rfl rfl rfl rfl rfl (IntWalk.i64_in _ (by omega)) (by omega)) fun a540 h540 => ?_; clear h530
       refine pk0 (v := .int .i64 ((i + 1 : Nat) : Int)) h540 rfl fun a541 h541 => ?_; clear h540
       refine pl_nil ?_
       refine co_then ?_
       refine ⟨(n270.toNat - (i + 1)), by omega, ?_⟩
       have hR' := sdN_step hR hq461 hq479 hq493
       have ho542 := ho496.new hg506
       have ho543 := ho542.row (row_ne_lt hr524 (by omega)) hg522
       have ho544 := ho543.at (by omega) hg534
       have hr545 := row_kept_at hr521' hg534 (row_ne_lt hr521' (by omega))
       have hB546 := hb_at hB526 hg534 (by omega)
       have hk547 := hk304.kept hg345 (by simp)
       have hk548 := hk547.kept hg465 (by simp; omega)
       have hk549 := hk548.kept hg483 (by simp; omega)
       have hk550 := hk549.kept hg497 (by simp; omega)
       have hk551 := hk550.kept hg506 (by simp)
       have hk552 := hk551.kept hg522 (row_ne_lt hr524 (by omega))
       have hk553 := hk552.kept hg534 (by simp; omega)
       have hk554 := hk527.kept hg534 (by simp; omega)
       exact ⟨i + 1, v520, ls ++ [(n458, n490, n476)], a491, e492, h541.sub ⟨rfl, rfl, rfl, rfl, rfl, trivial⟩, rfl, by omega, by first | rfl | (simp; omega), by first | rfl | exact hR', hk532', ho544, (row_eq hr545 (rfl)), hB546, hk553, hk554⟩
      ·
       refine p_dr_op (i := 6) h456 rfl rfl rfl rfl (op_call (args := #[pt b12 0]) (R := fun res xw => ∃ (n : Bool) (a' e' : Int), res = .bool n ∧ flagR s a459.toNat e460 = (n, a', e') ∧ OR b12 s a' e' xw ∧ w457.grownBy xw (some b12)) rfl rfl rfl (by kernel_rfl) (by kernel_rfl) (Try.call117 _ _) (or_flag b12 s a459 e460 w457 ho464 (by omega)) (by rintro q x ⟨n, a', e', rfl, h0, h1, h2⟩; exact ⟨_, rfl, n, a', e', rfl, h0, h1, h2⟩)) ?_ ?_; clear h456
       ·
        rintro _ w556 ⟨n557, a558, e559, rfl, hq560, ho563, hg564⟩
        have hz565 := hg564.size
        have hl566 := ho563.lt
        have hB567 := hb_at hB469 hg564 (by omega)
        have hk568 := hk470.kept hg564 (by simp; omega)
        exact ⟨hB567, hk568⟩
       rintro _ w556 a555 ⟨n557, a558, e559, rfl, hq560, ho563, hg564⟩ h555
       have hz565 := hg564.size
       have hl566 := ho563.lt
       have hB567 := hb_at hB469 hg564 (by omega)
       have hk568 := hk470.kept hg564 (by simp; omega)
       refine p_dr_many [2, 8] (by kernel_rfl) (by simp) ⟨?_, ?_, trivial⟩
       ·
        have hk569 := hf300.kept hg345 (by simp)
        have hk570 := hk569.kept hg465 (by simp; omega)
        have hk571 := hk570.kept hg564 (by simp; omega)
        refine p_dr_opVal (i := 2) (v := u) h555 rfl rfl rfl rfl (by kernel_rfl) rfl (rn_load1 rfl rfl Try.isAgg24 (hk571.cell rfl)) ⟨hB567, hk568⟩ (fun a572 h572 => ?_); clear h555
        refine p_d1 8 h572 rfl rfl (op_call (args := #[pt b12 0, .int .i64 255]) (R := fun res xw => ∃ (n : ByteArray) (a' e' : Int), res = .string n ∧ textR s a558 e559 255 = (n, a', e') ∧ (n.size : Int) ≤ 255 ∧ OR b12 s a' e' xw ∧ w556.grownBy xw (some b12)) rfl rfl rfl (by kernel_rfl) (by kernel_rfl) (Try.call116 _ _) (or_text b12 s a558 e559 255 w556 ho563 (by omega) (by omega) (by omega)) (by rintro q x ⟨n, a', e', rfl, h0, k0, h1, h2⟩; exact ⟨_, rfl, n, a', e', rfl, h0, k0, h1, h2⟩)) ?_ ?_; clear h572
        ·
         rintro _ w574 ⟨n575, a576, e577, rfl, hq578, hn579, ho581, hg582⟩
         have hz583 := hg582.size
         have hl584 := ho581.lt
         have hB585 := hb_at hB567 hg582 (by omega)
         have hk586 := hk568.kept hg582 (by simp; omega)
         exact ⟨hB585, hk586⟩
        rintro _ w574 a573 ⟨n575, a576, e577, rfl, hq578, hn579, ho581, hg582⟩ h573
        have hz583 := hg582.size
        have hl584 := ho581.lt
        have hB585 := hb_at hB567 hg582 (by omega)
        have hk586 := hk568.kept hg582 (by simp; omega)
        refine p_dk0 9 (v := .agg #[.string n458, .string n575, .bool n557]) h573 rfl rfl ⟨hB585, hk586⟩ fun a587 h587 => ?_; clear h573
        refine p_d1 10 h587 rfl rfl (op_new (v := fun N => .slice (some ⟨N, 0, none⟩) 1 1) (T := 66) (cs := #[.string n458, .string n575, .bool n557]) (by kernel_rfl) (by kernel_rfl) (by kernel_rfl)) ?_ ?_; clear h587
        ·
         rintro _ w589 ⟨N590, rfl, hN593, hz594, hk592, hg591⟩
         have hr596 := row_kept_new hf302 hg345
         have hr597 := row_kept_at hr596 hg465 (row_ne_lt hr596 (by omega))
         have hr598 := row_kept_at hr597 hg564 (row_ne_lt hr597 (by omega))
         have hr599 := row_kept_at hr598 hg582 (row_ne_lt hr598 (by omega))
         have ha595 := row_fresh hr599 hN593
         have hz600 := hg591.size
         have hB601 := hb_new hB585 hg591
         have hk602 := hk586.kept hg591 (by simp)
         exact ⟨hB601, hk602⟩
        rintro _ w589 a588 ⟨N590, rfl, hN593, hz594, hk592, hg591⟩ h588
        have hr596 := row_kept_new hf302 hg345
        have hr597 := row_kept_at hr596 hg465 (row_ne_lt hr596 (by omega))
        have hr598 := row_kept_at hr597 hg564 (row_ne_lt hr597 (by omega))
        have hr599 := row_kept_at hr598 hg582 (row_ne_lt hr598 (by omega))
        have ha595 := row_fresh hr599 hN593
        have hz600 := hg591.size
        try dsimp only at h588
        have hB601 := hb_new hB585 hg591
        have hk602 := hk586.kept hg591 (by simp)
        have hr609 := row_kept_new hr599 hg591
        refine p_d1 11 h588 rfl rfl (op_append rfl (N91 + 1) 66 (z := .agg #[.string (⟨#[]⟩), .string (⟨#[]⟩), .bool false]) (size := 3) (bytes := 40) Try.underlying24 (by kernel_rfl) rfl rfl rfl hr609 rfl hk592 rfl (by kernel_rfl) (by first | omega | (simp only [List.length_nil, List.length_append, List.length_cons, List.length_take, List.length_drop]; omega)) (by first | omega | (simp only [List.length_nil, List.length_append, List.length_cons, List.length_take, List.length_drop]; omega)) (by omega)) ?_ ?_; clear h588
        ·
         rintro v605 w604 ⟨hr606, hg607⟩
         have hr606' : w604.ownsRow (N91 + 1) 66 3 v605 ((ls ++ [(n458, n575, n557)]).length) ((ls ++ [(n458, n575, n557)]).flatMap opE) := row_push (y := (n458, n575, n557)) hr606 rfl rfl; clear hr606
         have hz610 := hg607.size
         have hB611 := hb_row hB601 hr609 (by omega) hg607
         have hk612 := hk602.kept hg607 (row_ne_lt hr609 (by omega))
         exact ⟨hB611, hk612⟩
        rintro v605 w604 a603 ⟨hr606, hg607⟩ h603
        have hr606' : w604.ownsRow (N91 + 1) 66 3 v605 ((ls ++ [(n458, n575, n557)]).length) ((ls ++ [(n458, n575, n557)]).flatMap opE) := row_push (y := (n458, n575, n557)) hr606 rfl rfl; clear hr606
        have hz610 := hg607.size
        have hB611 := hb_row hB601 hr609 (by omega) hg607
        have hk612 := hk602.kept hg607 (row_ne_lt hr609 (by omega))
        refine p_dk0 12 (v := pt N91 3) h603 rfl rfl ⟨hB611, hk612⟩ fun a613 h613 => ?_; clear h603
        refine p_dk0 13 (v := pt N91 9) h613 rfl rfl ⟨hB611, hk612⟩ fun a614 h614 => ?_; clear h613
        have hk620 := hk571.kept hg582 (by simp; omega)
        have hk621 := hk620.kept hg591 (by simp)
        have hk622 := hk621.kept hg607 (row_ne_lt hr609 (by omega))
        refine p_d1D 14 h614 rfl rfl (op_store1 rfl rfl rfl (row_one hr606') Try.sizeOf24 hk622 rfl) ?_ ?_; clear h614
        ·
         rintro _ w616 ⟨hk617, hz618, hg619⟩
         have hk617' : Blk w616 N91 60 #[.int .i64 n37, .int .i64 n59, .int .i64 n74, .int .i64 n164, .int .i64 n179, .string n226, .string n241, .int .u64 n211, .int .i64 n197, v605] := hk617; clear hk617
         have hz623 := hg619.size
         have hB624 := hb_at hB611 hg619 (by omega)
         have hk625 := hk612.kept hg619 (by simp; omega)
         exact ⟨hB624, hk625⟩
        rintro _ w616 a615 ⟨hk617, hz618, hg619⟩ h615
        have hk617' : Blk w616 N91 60 #[.int .i64 n37, .int .i64 n59, .int .i64 n74, .int .i64 n164, .int .i64 n179, .string n226, .string n241, .int .u64 n211, .int .i64 n197, v605] := hk617; clear hk617
        have hz623 := hg619.size
        refine p_dr_done (by kernel_rfl) ?_
        refine co_blockN ?_
        refine co_then ?_
        refine co_reg ?_
        refine pk (v := .int .i64 ((i + 1 : Nat) : Int)) h615 rfl (rn_arith' rfl rfl rfl rfl rfl rfl (IntWalk.i64_in _ (by omega)) (by omega)) fun a624 h624 => ?_; clear h615
        refine pk0 (v := .int .i64 ((i + 1 : Nat) : Int)) h624 rfl fun a625 h625 => ?_; clear h624
        refine pl_nil ?_
        refine co_then ?_
        refine ⟨(n270.toNat - (i + 1)), by omega, ?_⟩
        have hR' := sdN_step hR hq461 hq560 hq578
        have ho626 := ho581.new hg591
        have ho627 := ho626.row (row_ne_lt hr609 (by omega)) hg607
        have ho628 := ho627.at (by omega) hg619
        have hr629 := row_kept_at hr606' hg619 (row_ne_lt hr606' (by omega))
        have hB630 := hb_at hB611 hg619 (by omega)
        have hk631 := hk304.kept hg345 (by simp)
        have hk632 := hk631.kept hg465 (by simp; omega)
        have hk633 := hk632.kept hg564 (by simp; omega)
        have hk634 := hk633.kept hg582 (by simp; omega)
        have hk635 := hk634.kept hg591 (by simp)
        have hk636 := hk635.kept hg607 (row_ne_lt hr609 (by omega))
        have hk637 := hk636.kept hg619 (by simp; omega)
        have hk638 := hk612.kept hg619 (by simp; omega)
        exact ⟨i + 1, v605, ls ++ [(n458, n575, n557)], a576, e577, h625.sub ⟨rfl, rfl, rfl, rfl, rfl, trivial⟩, rfl, by omega, by first | rfl | (simp; omega), by first | rfl | exact hR', hk617', ho628, (row_eq hr629 (rfl)), hB630, hk637, hk638⟩
       ·
        refine p_dr_op (i := 8) h555 rfl rfl rfl rfl (op_call (args := #[pt b12 0, .int .i64 255]) (R := fun res xw => ∃ (n : ByteArray) (a' e' : Int), res = .string n ∧ textR s a558 e559 255 = (n, a', e') ∧ (n.size : Int) ≤ 255 ∧ OR b12 s a' e' xw ∧ w556.grownBy xw (some b12)) rfl rfl rfl (by kernel_rfl) (by kernel_rfl) (Try.call116 _ _) (or_text b12 s a558 e559 255 w556 ho563 (by omega) (by omega) (by omega)) (by rintro q x ⟨n, a', e', rfl, h0, k0, h1, h2⟩; exact ⟨_, rfl, n, a', e', rfl, h0, k0, h1, h2⟩)) ?_ ?_; clear h555
        ·
         rintro _ w640 ⟨n641, a642, e643, rfl, hq644, hn645, ho647, hg648⟩
         have hz649 := hg648.size
         have hl650 := ho647.lt
         have hB651 := hb_at hB567 hg648 (by omega)
         have hk652 := hk568.kept hg648 (by simp; omega)
         exact ⟨hB651, hk652⟩
        rintro _ w640 a639 ⟨n641, a642, e643, rfl, hq644, hn645, ho647, hg648⟩ h639
        have hz649 := hg648.size
        have hl650 := ho647.lt
        have hB651 := hb_at hB567 hg648 (by omega)
        have hk652 := hk568.kept hg648 (by simp; omega)
        refine p_dk0 9 (v := .agg #[.string n458, .string n641, .bool n557]) h639 rfl rfl ⟨hB651, hk652⟩ fun a653 h653 => ?_; clear h639
        refine p_dr_many [2, 10] (by kernel_rfl) (by simp) ⟨?_, ?_, trivial⟩
        ·
         have hk654 := hf300.kept hg345 (by simp)
         have hk655 := hk654.kept hg465 (by simp; omega)
         have hk656 := hk655.kept hg564 (by simp; omega)
         have hk657 := hk656.kept hg648 (by simp; omega)
         refine p_dr_opVal (i := 2) (v := u) h653 rfl rfl rfl rfl (by kernel_rfl) rfl (rn_load1 rfl rfl Try.isAgg24 (hk657.cell rfl)) ⟨hB651, hk652⟩ (fun a658 h658 => ?_); clear h653
         refine p_d1 10 h658 rfl rfl (op_new (v := fun N => .slice (some ⟨N, 0, none⟩) 1 1) (T := 66) (cs := #[.string n458, .string n641, .bool n557]) (by kernel_rfl) (by kernel_rfl) (by kernel_rfl)) ?_ ?_; clear h658
         ·
          rintro _ w660 ⟨N661, rfl, hN664, hz665, hk663, hg662⟩
          have hr667 := row_kept_new hf302 hg345
          have hr668 := row_kept_at hr667 hg465 (row_ne_lt hr667 (by omega))
          have hr669 := row_kept_at hr668 hg564 (row_ne_lt hr668 (by omega))
          have hr670 := row_kept_at hr669 hg648 (row_ne_lt hr669 (by omega))
          have ha666 := row_fresh hr670 hN664
          have hz671 := hg662.size
          have hB672 := hb_new hB651 hg662
          have hk673 := hk652.kept hg662 (by simp)
          exact ⟨hB672, hk673⟩
         rintro _ w660 a659 ⟨N661, rfl, hN664, hz665, hk663, hg662⟩ h659
         have hr667 := row_kept_new hf302 hg345
         have hr668 := row_kept_at hr667 hg465 (row_ne_lt hr667 (by omega))
         have hr669 := row_kept_at hr668 hg564 (row_ne_lt hr668 (by omega))
         have hr670 := row_kept_at hr669 hg648 (row_ne_lt hr669 (by omega))
         have ha666 := row_fresh hr670 hN664
         have hz671 := hg662.size
         try dsimp only at h659
         have hB672 := hb_new hB651 hg662
         have hk673 := hk652.kept hg662 (by simp)
         have hr680 := row_kept_new hr670 hg662
         refine p_d1 11 h659 rfl rfl (op_append rfl (N91 + 1) 66 (z := .agg #[.string (⟨#[]⟩), .string (⟨#[]⟩), .bool false]) (size := 3) (bytes := 40) Try.underlying24 (by kernel_rfl) rfl rfl rfl hr680 rfl hk663 rfl (by kernel_rfl) (by first | omega | (simp only [List.length_nil, List.length_append, List.length_cons, List.length_take, List.length_drop]; omega)) (by first | omega | (simp only [List.length_nil, List.length_append, List.length_cons, List.length_take, List.length_drop]; omega)) (by omega)) ?_ ?_; clear h659
         ·
          rintro v676 w675 ⟨hr677, hg678⟩
          have hr677' : w675.ownsRow (N91 + 1) 66 3 v676 ((ls ++ [(n458, n641, n557)]).length) ((ls ++ [(n458, n641, n557)]).flatMap opE) := row_push (y := (n458, n641, n557)) hr677 rfl rfl; clear hr677
          have hz681 := hg678.size
          have hB682 := hb_row hB672 hr680 (by omega) hg678
          have hk683 := hk673.kept hg678 (row_ne_lt hr680 (by omega))
          exact ⟨hB682, hk683⟩
         rintro v676 w675 a674 ⟨hr677, hg678⟩ h674
         have hr677' : w675.ownsRow (N91 + 1) 66 3 v676 ((ls ++ [(n458, n641, n557)]).length) ((ls ++ [(n458, n641, n557)]).flatMap opE) := row_push (y := (n458, n641, n557)) hr677 rfl rfl; clear hr677
         have hz681 := hg678.size
         have hB682 := hb_row hB672 hr680 (by omega) hg678
         have hk683 := hk673.kept hg678 (row_ne_lt hr680 (by omega))
         refine p_dk0 12 (v := pt N91 3) h674 rfl rfl ⟨hB682, hk683⟩ fun a684 h684 => ?_; clear h674
         refine p_dk0 13 (v := pt N91 9) h684 rfl rfl ⟨hB682, hk683⟩ fun a685 h685 => ?_; clear h684
         have hk691 := hk657.kept hg662 (by simp)
         have hk692 := hk691.kept hg678 (row_ne_lt hr680 (by omega))
         refine p_d1D 14 h685 rfl rfl (op_store1 rfl rfl rfl (row_one hr677') Try.sizeOf24 hk692 rfl) ?_ ?_; clear h685
         ·
          rintro _ w687 ⟨hk688, hz689, hg690⟩
          have hk688' : Blk w687 N91 60 #[.int .i64 n37, .int .i64 n59, .int .i64 n74, .int .i64 n164, .int .i64 n179, .string n226, .string n241, .int .u64 n211, .int .i64 n197, v676] := hk688; clear hk688
          have hz693 := hg690.size
          have hB694 := hb_at hB682 hg690 (by omega)
          have hk695 := hk683.kept hg690 (by simp; omega)
          exact ⟨hB694, hk695⟩
         rintro _ w687 a686 ⟨hk688, hz689, hg690⟩ h686
         have hk688' : Blk w687 N91 60 #[.int .i64 n37, .int .i64 n59, .int .i64 n74, .int .i64 n164, .int .i64 n179, .string n226, .string n241, .int .u64 n211, .int .i64 n197, v676] := hk688; clear hk688
         have hz693 := hg690.size
         refine p_dr_done (by kernel_rfl) ?_
         refine co_blockN ?_
         refine co_then ?_
         refine co_reg ?_
         refine pk (v := .int .i64 ((i + 1 : Nat) : Int)) h686 rfl (rn_arith' rfl rfl rfl rfl rfl rfl (IntWalk.i64_in _ (by omega)) (by omega)) fun a694 h694 => ?_; clear h686
         refine pk0 (v := .int .i64 ((i + 1 : Nat) : Int)) h694 rfl fun a695 h695 => ?_; clear h694
         refine pl_nil ?_
         refine co_then ?_
         refine ⟨(n270.toNat - (i + 1)), by omega, ?_⟩
         have hR' := sdN_step hR hq461 hq560 hq644
         have ho696 := ho647.new hg662
         have ho697 := ho696.row (row_ne_lt hr680 (by omega)) hg678
         have ho698 := ho697.at (by omega) hg690
         have hr699 := row_kept_at hr677' hg690 (row_ne_lt hr677' (by omega))
         have hB700 := hb_at hB682 hg690 (by omega)
         have hk701 := hk304.kept hg345 (by simp)
         have hk702 := hk701.kept hg465 (by simp; omega)
         have hk703 := hk702.kept hg564 (by simp; omega)
         have hk704 := hk703.kept hg648 (by simp; omega)
         have hk705 := hk704.kept hg662 (by simp)
         have hk706 := hk705.kept hg678 (row_ne_lt hr680 (by omega))
         have hk707 := hk706.kept hg690 (by simp; omega)
         have hk708 := hk683.kept hg690 (by simp; omega)
         exact ⟨i + 1, v676, ls ++ [(n458, n641, n557)], a642, e643, h695.sub ⟨rfl, rfl, rfl, rfl, rfl, trivial⟩, rfl, by omega, by first | rfl | (simp; omega), by first | rfl | exact hR', hk688', ho698, (row_eq hr699 (rfl)), hB700, hk707, hk708⟩
        ·
         refine p_dr_op (i := 10) h653 rfl rfl rfl rfl (op_new (v := fun N => .slice (some ⟨N, 0, none⟩) 1 1) (T := 66) (cs := #[.string n458, .string n641, .bool n557]) (by kernel_rfl) (by kernel_rfl) (by kernel_rfl)) ?_ ?_; clear h653
         ·
          rintro _ w710 ⟨N711, rfl, hN714, hz715, hk713, hg712⟩
          have hr717 := row_kept_new hf302 hg345
          have hr718 := row_kept_at hr717 hg465 (row_ne_lt hr717 (by omega))
          have hr719 := row_kept_at hr718 hg564 (row_ne_lt hr718 (by omega))
          have hr720 := row_kept_at hr719 hg648 (row_ne_lt hr719 (by omega))
          have ha716 := row_fresh hr720 hN714
          have hz721 := hg712.size
          have hB722 := hb_new hB651 hg712
          have hk723 := hk652.kept hg712 (by simp)
          exact ⟨hB722, hk723⟩
         rintro _ w710 a709 ⟨N711, rfl, hN714, hz715, hk713, hg712⟩ h709
         have hr717 := row_kept_new hf302 hg345
         have hr718 := row_kept_at hr717 hg465 (row_ne_lt hr717 (by omega))
         have hr719 := row_kept_at hr718 hg564 (row_ne_lt hr718 (by omega))
         have hr720 := row_kept_at hr719 hg648 (row_ne_lt hr719 (by omega))
         have ha716 := row_fresh hr720 hN714
         have hz721 := hg712.size
         try dsimp only at h709
         have hB722 := hb_new hB651 hg712
         have hk723 := hk652.kept hg712 (by simp)
         refine p_dr_many [2] (by kernel_rfl) (by simp) ⟨?_, trivial⟩
         ·
          have hk724 := hf300.kept hg345 (by simp)
          have hk725 := hk724.kept hg465 (by simp; omega)
          have hk726 := hk725.kept hg564 (by simp; omega)
          have hk727 := hk726.kept hg648 (by simp; omega)
          have hk728 := hk727.kept hg712 (by simp)
          refine p_dr_opVal (i := 2) (v := u) h709 rfl rfl rfl rfl (by kernel_rfl) rfl (rn_load1 rfl rfl Try.isAgg24 (hk728.cell rfl)) ⟨hB722, hk723⟩ (fun a729 h729 => ?_); clear h709
          have hr736 := row_kept_new hr720 hg712
          refine p_d1 11 h729 rfl rfl (op_append rfl (N91 + 1) 66 (z := .agg #[.string (⟨#[]⟩), .string (⟨#[]⟩), .bool false]) (size := 3) (bytes := 40) Try.underlying24 (by kernel_rfl) rfl rfl rfl hr736 rfl hk713 rfl (by kernel_rfl) (by first | omega | (simp only [List.length_nil, List.length_append, List.length_cons, List.length_take, List.length_drop]; omega)) (by first | omega | (simp only [List.length_nil, List.length_append, List.length_cons, List.length_take, List.length_drop]; omega)) (by omega)) ?_ ?_; clear h729
          ·
           rintro v732 w731 ⟨hr733, hg734⟩
           have hr733' : w731.ownsRow (N91 + 1) 66 3 v732 ((ls ++ [(n458, n641, n557)]).length) ((ls ++ [(n458, n641, n557)]).flatMap opE) := row_push (y := (n458, n641, n557)) hr733 rfl rfl; clear hr733
           have hz737 := hg734.size
           have hB738 := hb_row hB722 hr736 (by omega) hg734
           have hk739 := hk723.kept hg734 (row_ne_lt hr736 (by omega))
           exact ⟨hB738, hk739⟩
          rintro v732 w731 a730 ⟨hr733, hg734⟩ h730
          have hr733' : w731.ownsRow (N91 + 1) 66 3 v732 ((ls ++ [(n458, n641, n557)]).length) ((ls ++ [(n458, n641, n557)]).flatMap opE) := row_push (y := (n458, n641, n557)) hr733 rfl rfl; clear hr733
          have hz737 := hg734.size
          have hB738 := hb_row hB722 hr736 (by omega) hg734
          have hk739 := hk723.kept hg734 (row_ne_lt hr736 (by omega))
          refine p_dk0 12 (v := pt N91 3) h730 rfl rfl ⟨hB738, hk739⟩ fun a740 h740 => ?_; clear h730
          refine p_dk0 13 (v := pt N91 9) h740 rfl rfl ⟨hB738, hk739⟩ fun a741 h741 => ?_; clear h740
          have hk747 := hk728.kept hg734 (row_ne_lt hr736 (by omega))
          refine p_d1D 14 h741 rfl rfl (op_store1 rfl rfl rfl (row_one hr733') Try.sizeOf24 hk747 rfl) ?_ ?_; clear h741
          ·
           rintro _ w743 ⟨hk744, hz745, hg746⟩
           have hk744' : Blk w743 N91 60 #[.int .i64 n37, .int .i64 n59, .int .i64 n74, .int .i64 n164, .int .i64 n179, .string n226, .string n241, .int .u64 n211, .int .i64 n197, v732] := hk744; clear hk744
           have hz748 := hg746.size
           have hB749 := hb_at hB738 hg746 (by omega)
           have hk750 := hk739.kept hg746 (by simp; omega)
           exact ⟨hB749, hk750⟩
          rintro _ w743 a742 ⟨hk744, hz745, hg746⟩ h742
          have hk744' : Blk w743 N91 60 #[.int .i64 n37, .int .i64 n59, .int .i64 n74, .int .i64 n164, .int .i64 n179, .string n226, .string n241, .int .u64 n211, .int .i64 n197, v732] := hk744; clear hk744
          have hz748 := hg746.size
          refine p_dr_done (by kernel_rfl) ?_
          refine co_blockN ?_
          refine co_then ?_
          refine co_reg ?_
          refine pk (v := .int .i64 ((i + 1 : Nat) : Int)) h742 rfl (rn_arith' rfl rfl rfl rfl rfl rfl (IntWalk.i64_in _ (by omega)) (by omega)) fun a749 h749 => ?_; clear h742
          refine pk0 (v := .int .i64 ((i + 1 : Nat) : Int)) h749 rfl fun a750 h750 => ?_; clear h749
          refine pl_nil ?_
          refine co_then ?_
          refine ⟨(n270.toNat - (i + 1)), by omega, ?_⟩
          have hR' := sdN_step hR hq461 hq560 hq644
          have ho751 := ho647.new hg712
          have ho752 := ho751.row (row_ne_lt hr736 (by omega)) hg734
          have ho753 := ho752.at (by omega) hg746
          have hr754 := row_kept_at hr733' hg746 (row_ne_lt hr733' (by omega))
          have hB755 := hb_at hB738 hg746 (by omega)
          have hk756 := hk304.kept hg345 (by simp)
          have hk757 := hk756.kept hg465 (by simp; omega)
          have hk758 := hk757.kept hg564 (by simp; omega)
          have hk759 := hk758.kept hg648 (by simp; omega)
          have hk760 := hk759.kept hg712 (by simp)
          have hk761 := hk760.kept hg734 (row_ne_lt hr736 (by omega))
          have hk762 := hk761.kept hg746 (by simp; omega)
          have hk763 := hk739.kept hg746 (by simp; omega)
          exact ⟨i + 1, v732, ls ++ [(n458, n641, n557)], a642, e643, h750.sub ⟨rfl, rfl, rfl, rfl, rfl, trivial⟩, rfl, by omega, by first | rfl | (simp; omega), by first | rfl | exact hR', hk744', ho753, (row_eq hr754 (rfl)), hB755, hk762, hk763⟩
end Go.Proofs.Ytdgboikkgeioeaa

/- Package script: what the deferred closure of step makes of a panic; step. Conditions: none. -/
namespace Go.Proofs.Ytdgboikkgeioeaa
open Go.RowKit Go.PlainAid
set_option linter.unusedVariables false
set_option linter.unusedSimpArgs false

set_option maxRecDepth 100000 in
set_option maxHeartbeats 1600000 in
theorem scatch_idle (p q : Addr) (w : World) :
    CallsD Try.prog 82 #[.pointer (some p), .pointer (some q)] .returning w fun e u' w' => e = .returned (.tuple #[]) ∧ u' = .returning ∧ w' = w := by
  refine callsD_of_wpS Try.func82 rfl fun c₀ cs hu => ?_
  apply wpS_seq
  apply wpS_region
  simp [wpOpsS, go_sem, recoverD, hu, Try.ntmps82, Exit.thenS, ta_nil, ta_err]
  apply wpS_seq
  apply wpS_region
  simp [wpOpsS, go_sem, recoverD, hu, Exit.thenS]
  refine wpS_cond (t := false) (by simp [Act.eval, Array.replicate]) ?_
  simp only [Bool.false_eq_true, if_false]
  refine wpS_of_wp (wp_skip ?_)
  cases c₀
  simp_all [bodyPostS, results, Try.results82]
/-- The cells of a step that is no step. -/
def zev : Array Value := #[.int .i64 0, .int .i64 0, .int .i64 0, .int .i64 0, .int .i64 0, .string ⟨#[]⟩, .string ⟨#[]⟩, .int .u64 0, .int .i64 0, .slice none 0 0]
theorem blk_setN {w : World} {N : Nat} {T : TypeId} {cs : Array Value} (vs : Array Value) (hb : Blk w N T cs) (hk : cs.size = vs.size) : Blk (w.setCells N 0 vs.toList) N T vs ∧ w.grownBy (w.setCells N 0 vs.toList) (some N) ∧ (w.setCells N 0 vs.toList).heap.size = w.heap.size := by
  refine ⟨?_, ?_, ?_⟩
  · have := setCells_blk vs.toList w cs 0 hb (by simp [hk])
    have e : (vs.toList ++ List.drop vs.size cs.toList).toArray = vs := by rw [List.drop_eq_nil_of_le (by simp [hk])]; simp
    simp only [List.take_zero, List.nil_append, Nat.zero_add, Array.length_toList, e] at this
    exact this
  · have hg : ∀ (vs : List Value) (k : Nat) (w : World), w.grownBy (w.setCells N k vs) (some N) := by
      intro vs
      induction vs with
      | nil => intro k w; exact World.grownBy.refl _ _
      | cons v r ih => intro k w; rw [World.setCells]; exact (grown_setCell w N k v).trans (ih _ _)
    exact hg _ _ _
  · have hsz : ∀ (vs : List Value) (k : Nat) (w : World), (w.setCells N k vs).heap.size = w.heap.size := by
      intro vs
      induction vs with
      | nil => intro k w; rfl
      | cons v r ih => intro k w; rw [World.setCells, ih]; simp [World.setCell]
    exact hsz _ _ _
theorem slots2 {n : Nat} {u v : Value} {a : Act} (hn : a.tmps.size = n) (hd : a.defers = []) (h0 : a.tmps.getD 0 undef = u) (h1 : a.tmps.getD 1 undef = v) : Slots n [(0, u), (1, v)] a := ⟨hn, hd, fun t z h => by
  rw [List.lookup_cons] at h
  by_cases e : t = 0
  · subst e; simp at h; subst h; exact h0
  · rw [show (t == 0) = false by simpa using e] at h
    simp only [List.lookup_cons] at h
    by_cases e1 : t = 1
    · subst e1; simp at h; subst h; exact h1
    · rw [show (t == 1) = false by simpa using e1] at h; simp at h⟩
theorem wp_slots {P : Program} {c : Code} {Q : Exit → Act → World → Prop} {a : Act} {w : World} {n : Nat} {m : List (Nat × Value)} (hs : Slots n m a) (h : ∀ a, Slots n m a → c.wp P Q a w) : c.wp P Q a w := h a hs
theorem hb_two {w x y : World} {N M B : Nat} (h1 : w.grownBy x (some N)) (h2 : x.grownBy y (some M)) (hN : B ≤ N) (hM : B ≤ M) (hB : B ≤ w.heap.size) : Below B w y :=
  ((Below.refl B w).grown h1 hB (fun k e => by cases e; exact hN)).grown h2 (Nat.le_trans hB h1.size) (fun k e => by cases e; exact hM)
set_option maxRecDepth 100000 in
set_option maxHeartbeats 1600000 in
theorem scatch_errno (N M : Nat) (x : Int) (cs : Array Value) (b : Bool) (w : World) (hN : Blk w N 60 cs) (hcs : cs.size = 10) (hM : Blk w M 4 #[.bool b]) (hne : N ≠ M) :
    CallsD Try.prog 82 #[pt N 0, pt M 0] (.panicking [thrown x]) w fun e u' w' => e = .returned (.tuple #[]) ∧ u' = .panicking [{ v := .iface 44 (.int .i64 x), recovered := true }] ∧ Blk w' N 60 zev ∧ Blk w' M 4 #[.bool false] ∧ ∀ B, B ≤ N → B ≤ M → B ≤ w.heap.size → Below B w w' := by
  refine callsD_of_wpS Try.func82 rfl fun c₀ cs hu => ?_
  apply wpS_seq
  apply wpS_region
  simp [wpOpsS, go_sem, thrown, recoverD, hu, Try.ntmps82, Exit.thenS, ta_nil, ta_err]
  apply wpS_seq
  apply wpS_region
  simp [wpOpsS, go_sem, recoverD, hu, Exit.thenS]
  refine wpS_cond (t := true) (by simp [Act.eval, Array.replicate]) ?_
  simp only [if_true]
  refine wpS_of_wp ?_
  refine wp_slots (slots2 (n := 11) (u := pt N 0) (v := pt M 0) (by simp) rfl (by simp) (by simp)) fun a hs => ?_
  refine co_reg ?_
  refine pk0 (v := .agg zev) hs rfl fun a1 h1 => ?_
  refine pwD h1 rfl (op_storeN rfl rfl rfl (by kernel_rfl) (by kernel_rfl) hN (by rw [hcs]; rfl)) ?_
  rintro _ w1 a2 ⟨k1, k2, k3⟩ h2
  have hM1 := hM.kept k3 (by simpa using fun e => hne e)
  refine pwD h2 rfl (op_store1 rfl rfl rfl rfl Try.sizeOf4 hM1 rfl) ?_
  rintro _ w2 a3 ⟨k4, k5, k6⟩ h3
  refine pl_nil ?_
  have hN2 := k1.kept k6 (by simpa using fun e => hne e.symm)
  have hB := fun B h1 h2 h3 => hb_two (B := B) k3 k6 h1 h2 h3
  exact ⟨h3.defers, _, rfl, _, by simp [results, Try.results82], rfl, rfl, hN2, k4, hB⟩
def evV (d : EvD) (u : Value) : Array Value := #[.int .i64 d.k, .int .i64 d.nd, .int .i64 d.n, .int .i64 d.ak, .int .i64 d.an, .string d.ky, .string d.tt, .int .u64 d.at_, .int .i64 d.am, u]
theorem two_size (w : World) (a b : Obj) : ((w.alloc a).alloc b).heap.size = w.heap.size + 1 + 1 := by simp
theorem two_lay2 (w : World) (cs : List Value) (ds : Array Value) (T T' : TypeId) : Below w.heap.size w ((w.alloc (.cells cs.toArray T)).alloc (.cells ds T')) ∧ Blk ((w.alloc (.cells cs.toArray T)).alloc (.cells ds T')) w.heap.size T cs.toArray ∧ Blk ((w.alloc (.cells cs.toArray T)).alloc (.cells ds T')) (w.heap.size + 1) T' ds := by
  refine ⟨((Below.refl _ _).alloc (Nat.le_refl _) _).alloc (by simp) _, ?_, ?_⟩
  · unfold Blk World.alloc; simp [Array.getElem?_push]
  · unfold Blk World.alloc; rw [Array.getElem?_push, if_pos (by simp)]
set_option maxRecDepth 100000 in
set_option maxHeartbeats 1600000 in
theorem scStep_y (s : ByteArray) (d : EvD) (w : World) (hs : s.size ≤ 9223372036854775807) (hd : evR s = some d) :
    Calls Try.prog 44 #[.string s] w fun e w' => ∃ u : Value, e = .returned (.tuple #[.agg (evV d u), .bool true]) ∧ w'.ownsRow w.heap.size 66 3 u d.ops.length (d.ops.flatMap opE) ∧ Below w.heap.size w w' := by
  have hmf : ∀ (fn : Fn) (first cap : Array Value) (w : World), (Instr.makeFunc fn first cap).run Try.prog w = .ok (.func fn first cap) w := fun _ _ _ _ => rfl
  have HP := Lib.hid (fun w => scParts_any s w hs)
  have HD := Lib.hid hd
  clear hd
  go_enter_defers Try.func44, Try.ntmps44
  go_wp2_with fail
  refine (HP.out _).mono ?_
  rintro e w1 (⟨d', u, rfl, hr, he, hb⟩ | ⟨l, rfl, he, _, _⟩)
  · obtain rfl : d = d' := by rw [HD.out] at he; exact Option.some.inj he
    obtain ⟨ao, un, uc, rfl⟩ := row_form hr
    have hW := two_lay2 w zev.toList #[.bool false] 60 4
    have hN1 := hW.2.1.below hb
    have hM1 := hW.2.2.below hb
    have c0 : w1.cell? ⟨w.heap.size, 0, none⟩ = some (.int .i64 0) := hN1.cell rfl
    have f0 : w1.frozen? ⟨w.heap.size, 0, none⟩ = false := hN1.frozen 0
    have c1 : w1.cell? ⟨w.heap.size, 1, none⟩ = some (.int .i64 0) := hN1.cell rfl
    have f1 : w1.frozen? ⟨w.heap.size, 1, none⟩ = false := hN1.frozen 1
    have c2 : w1.cell? ⟨w.heap.size, 2, none⟩ = some (.int .i64 0) := hN1.cell rfl
    have f2 : w1.frozen? ⟨w.heap.size, 2, none⟩ = false := hN1.frozen 2
    have c3 : w1.cell? ⟨w.heap.size, 3, none⟩ = some (.int .i64 0) := hN1.cell rfl
    have f3 : w1.frozen? ⟨w.heap.size, 3, none⟩ = false := hN1.frozen 3
    have c4 : w1.cell? ⟨w.heap.size, 4, none⟩ = some (.int .i64 0) := hN1.cell rfl
    have f4 : w1.frozen? ⟨w.heap.size, 4, none⟩ = false := hN1.frozen 4
    have c5 : w1.cell? ⟨w.heap.size, 5, none⟩ = some (.string ⟨#[]⟩) := hN1.cell rfl
    have f5 : w1.frozen? ⟨w.heap.size, 5, none⟩ = false := hN1.frozen 5
    have c6 : w1.cell? ⟨w.heap.size, 6, none⟩ = some (.string ⟨#[]⟩) := hN1.cell rfl
    have f6 : w1.frozen? ⟨w.heap.size, 6, none⟩ = false := hN1.frozen 6
    have c7 : w1.cell? ⟨w.heap.size, 7, none⟩ = some (.int .u64 0) := hN1.cell rfl
    have f7 : w1.frozen? ⟨w.heap.size, 7, none⟩ = false := hN1.frozen 7
    have c8 : w1.cell? ⟨w.heap.size, 8, none⟩ = some (.int .i64 0) := hN1.cell rfl
    have f8 : w1.frozen? ⟨w.heap.size, 8, none⟩ = false := hN1.frozen 8
    have c9 : w1.cell? ⟨w.heap.size, 9, none⟩ = some (.slice none 0 0) := hN1.cell rfl
    have f9 : w1.frozen? ⟨w.heap.size, 9, none⟩ = false := hN1.frozen 9
    have cM : w1.cell? ⟨w.heap.size + 1, 0, none⟩ = some (.bool false) := hM1.cell rfl
    have fM : w1.frozen? ⟨w.heap.size + 1, 0, none⟩ = false := hM1.frozen 0
    have HN1 := Lib.hid hN1; have HM1 := Lib.hid hM1; have HW := Lib.hid hW.1; have HB := Lib.hid hb; have HR := Lib.hid hr
    clear hN1 hM1 hW hb hr he
    go_wp2_with fail
    change bodyPostD _ _ _ _ _ ((w1.setCells w.heap.size 0 (evV d (.slice ao un uc)).toList).setCell ⟨w.heap.size + 1, 0, none⟩ (.bool true))
    obtain ⟨q1, q2, q3⟩ := blk_setN (evV d (.slice ao un uc)) HN1.out rfl
    have q4 := HM1.out.kept q2 (by simp)
    have q5 := setCell_blk q4 0 (.bool true)
    have q6 := grown_setCell (w1.setCells w.heap.size 0 (evV d (.slice ao un uc)).toList) (w.heap.size + 1) 0 (.bool true)
    have q7 := q1.kept q6 (by simp)
    have q8 := HW.out.trans ((HB.out.mono HW.out.size).trans (hb_two (B := w.heap.size) q2 q6 (Nat.le_refl _) (by omega) (Nat.le_trans HW.out.size HB.out.size)))
    have q9 := (HR.out.kept q2 (.inr (row_ne_lt HR.out (by rw [two_size]; omega)))).kept q6 (.inr (row_ne_lt (HR.out.kept q2 (.inr (row_ne_lt HR.out (by rw [two_size]; omega)))) (by rw [two_size]; omega)))
    generalize (w1.setCells w.heap.size 0 (evV d (.slice ao un uc)).toList).setCell ⟨w.heap.size + 1, 0, none⟩ (.bool true) = X at q5 q7 q8 q9 ⊢
    refine leaves_cons (f := 82) (args := #[pt w.heap.size 0, pt (w.heap.size + 1) 0]) (by simp) (by simp [go_sem]) ?_
    refine (scatch_idle _ _ _).mono ?_
    rintro e u' w'' ⟨rfl, rfl, rfl⟩
    have r1 := run_loadVar_mid (P := Try.prog) w'' w.heap.size 0 60 (evV d (.slice ao un uc)).toList _ q7.all Try.underlying60 rfl (by rfl)
    have r2 := q5.cell (k := 0) rfl
    have r3 : (loadVar 4 ⟨w.heap.size + 1, 0, none⟩).run Try.prog w'' = .ok (.bool true) w'' := by
      simp [loadVar, Try.isAgg4, Sem.run_bind, load, Sem.run, r2]
    simp only [Leaves, settle, results, Try.results44]
    exact ⟨.tuple #[.agg (evV d (.slice ao un uc)), .bool true], by simp [asAddr, Sem.run_bind, r1, r3], _, rfl, row_lows q9 (by rw [two_size]; omega), q8⟩
  · rw [HD.out] at he; cases he
set_option maxRecDepth 100000 in
set_option maxHeartbeats 1600000 in
theorem scStep_n (s : ByteArray) (w : World) (hs : s.size ≤ 9223372036854775807) (hd : evR s = none) :
    Calls Try.prog 44 #[.string s] w fun e w' => e = .returned (.tuple #[.agg zev, .bool false]) ∧ Below w.heap.size w w' := by
  have hmf : ∀ (fn : Fn) (first cap : Array Value) (w : World), (Instr.makeFunc fn first cap).run Try.prog w = .ok (.func fn first cap) w := fun _ _ _ _ => rfl
  have HP := Lib.hid (fun w => scParts_any s w hs)
  have HD := Lib.hid hd
  clear hd
  go_enter_defers Try.func44, Try.ntmps44
  go_wp2_with fail
  refine (HP.out _).mono ?_
  rintro e w1 (⟨d', u, rfl, hr, he, hb⟩ | ⟨l, rfl, he, ⟨k, rfl⟩, hb⟩)
  · rw [HD.out] at he; cases he
  · have hW := two_lay2 w zev.toList #[.bool false] 60 4
    have HN1 := Lib.hid (hW.2.1.below hb)
    have HM1 := Lib.hid (hW.2.2.below hb)
    have HW := Lib.hid hW.1; have HB := Lib.hid hb
    clear hW hb he
    go_wp2_with fail
    refine leaves_cons (f := 82) (args := #[pt w.heap.size 0, pt (w.heap.size + 1) 0]) (by simp) (by simp [go_sem]) ?_
    refine (scatch_errno w.heap.size (w.heap.size + 1) k zev false w1 HN1.out rfl HM1.out (by omega)).mono ?_
    rintro e u' w'' ⟨rfl, rfl, q7, q5, q6⟩
    have q8 := HW.out.trans ((HB.out.mono HW.out.size).trans (q6 w.heap.size (Nat.le_refl _) (by omega) (Nat.le_trans HW.out.size HB.out.size)))
    have r1 := run_loadVar_mid (P := Try.prog) w'' w.heap.size 0 60 zev.toList _ q7.all Try.underlying60 rfl (by rfl)
    have r2 := q5.cell (k := 0) rfl
    have r3 : (loadVar 4 ⟨w.heap.size + 1, 0, none⟩).run Try.prog w'' = .ok (.bool false) w'' := by
      simp [loadVar, Try.isAgg4, Sem.run_bind, load, Sem.run, r2]
    simp only [Leaves, settle, results, Try.results44, List.dropWhile_nil]
    exact ⟨.tuple #[.agg zev, .bool false], by simp [asAddr, Sem.run_bind, r1, r3], rfl, q8⟩
end Go.Proofs.Ytdgboikkgeioeaa

/- Package script: the iterator of pieces. Conditions: none. -/
namespace Go.Proofs.Ytdgboikkgeioeaa
open Go.RowKit Go.Shelf
attribute [local go_sem] Oper.semAt_some
set_option linter.unusedVariables false
set_option linter.unusedSimpArgs false

/-- The length that a piece tells at place a. -/
def pcN (S : ByteArray) (a : Nat) : Nat := (S.data.getD a 0).toNat
/-- The pieces from place a on. -/
def pcs (S : ByteArray) (a : Nat) : List ByteArray :=
  if h : a < S.size ∧ pcN S a < S.size - a then S.extract (a + 1) (a + 1 + pcN S a) :: pcs S (a + 1 + pcN S a) else []
termination_by S.size - a
theorem pcs_y {S : ByteArray} {a : Nat} (h : a < S.size ∧ pcN S a < S.size - a) : pcs S a = S.extract (a + 1) (a + 1 + pcN S a) :: pcs S (a + 1 + pcN S a) := by rw [pcs, dif_pos h]
theorem pcs_n {S : ByteArray} {a : Nat} (h : ¬ (a < S.size ∧ pcN S a < S.size - a)) : pcs S a = [] := by rw [pcs, dif_neg h]
/-- Between the rounds: nothing below n changes, and block B lies as it lay. -/
def KpB (n B : Nat) (A C : World) : Prop := Below n A C ∧ C.heap[B]? = A.heap[B]?
theorem KpB.t {n B : Nat} {X Y Z : World} (h : KpB n B X Y) (k : KpB n B Y Z) : KpB n B X Z := ⟨h.1.trans k.1, k.2.trans h.2⟩
theorem ext_all (S : ByteArray) : S.extract 0 S.size = S := by
  apply ByteArray.ext; simp [ByteArray.data_extract]
theorem ext_get (S : ByteArray) (a : Nat) (h : 0 < (S.extract a S.size).size) : ((S.extract a S.size)[0]'h).toNat = pcN S a := by
  unfold pcN
  rw [ByteArray.getElem_extract]
  have h2 : a < S.size := by rw [ByteArray.size_extract] at h; omega
  simp only [Nat.add_zero]
  rw [Array.getD_eq_getD_getElem?, Array.getElem?_eq_getElem h2]; rfl
theorem ext_ext (S : ByteArray) (a n : Nat) (h : a + 1 + n ≤ S.size) : (S.extract a S.size).extract 1 (1 + n) = S.extract (a + 1) (a + 1 + n) := by
  apply ByteArray.ext
  simp only [ByteArray.data_extract]
  rw [Array.extract_extract, show min (a + (1 + n)) S.size = a + 1 + n by omega]
theorem ext_rest (S : ByteArray) (a n : Nat) (h : a + 1 + n ≤ S.size) : (S.extract a S.size).extract (1 + n) (S.size - a) = S.extract (a + 1 + n) S.size := by
  apply ByteArray.ext
  simp only [ByteArray.data_extract]
  rw [Array.extract_extract, show min (a + (S.size - a)) S.size = S.size by omega, show a + (1 + n) = a + 1 + n by omega]
set_option maxRecDepth 100000 in
set_option maxHeartbeats 2000000 in
theorem piter_in (lp B n₀ : Nat) (S : ByteArray) (hsz : S.size ≤ 4611686018427387904) (J : List ByteArray → World → Prop) (hJB : ∀ pre A v, J pre A → J pre (A.setCell ⟨B, 0, none⟩ v))
    (hY : ∀ pre x A, J pre A → (pre ++ [x]) <+: pcs S 0 → YieldAt Fence.wide 1 Try.prog lp #[.string x] A fun e C => e = .returned (.bool true) ∧ J (pre ++ [x]) C ∧ KpB n₀ B A C)
    (W : World) (hB : Blk W B 9 #[.string S]) (h0 : J [] W) :
    CallsIn Fence.wide 2 Try.prog 81 #[.func (.yield lp) #[] #[], .pointer (some ⟨B, 0, none⟩)] W fun e W' => (∃ v, e = .returned v) ∧ J (pcs S 0) W' := by
  have HY := Lib.hid hY; have HJ := Lib.hid hJB
  clear hY hJB
  refine callsIn_of_wp Try.func81 rfl trivial ?_ rfl
  simp only [Try.ntmps81, List.size_toArray, List.length_cons, List.length_nil, Nat.reduceAdd, Nat.reduceSub, Array.replicate_succ, Array.replicate_zero, List.push_toArray, List.append_toArray, List.nil_append, List.cons_append]
  have h1 : 1 ≤ (2 : Nat) := by omega
  gi_wp2
  gi_loopw [3] (fun p wr => ∃ (pre : List ByteArray) (a : Nat), a ≤ S.size ∧ pre ++ pcs S a = pcs S 0 ∧ J pre wr ∧ Hid (Blk wr B 9 #[.string (S.extract a S.size)])) (fun p wr => match wr.cell? ⟨B, 0, none⟩ with | some (.string s) => s.size | _ => 0)
  case atStart => exact ⟨[], 0, Nat.zero_le _, rfl, h0, Lib.hid (by rw [ext_all]; exact hB)⟩
  case round =>
    obtain ⟨pre, a, ha, hpre, hJs, HBW⟩ := hrel
    have hc : wr.cell? ⟨B, 0, none⟩ = some (.string (S.extract a S.size)) := HBW.out.cell (k := 0) rfl
    have hf : wr.frozen? ⟨B, 0, none⟩ = false := HBW.out.frozen 0
    have hsx : (S.extract a S.size).size = S.size - a := by rw [ByteArray.size_extract]; omega
    have HPRE := Lib.hid hpre; clear hpre
    by_cases h2 : a < S.size
    · have hd1 : decide ((0 : Int) < ((S.extract a S.size).size : Int)) = true := decide_eq_true (by rw [hsx]; omega)
      obtain ⟨n, hn⟩ : ∃ n, n = pcN S a := ⟨_, rfl⟩
      have hb0 : ∀ h : 0 < (S.extract a S.size).size, ((S.extract a S.size)[0]'h).toNat = n := fun h => by rw [hn]; exact ext_get S a h
      have hn8 : n < 256 := by rw [hn]; exact UInt8.toNat_lt _
      have HN := Lib.hid hn; clear hn
      have hw1 : wrap64 ((n : Nat) : Int) = (n : Int) := by unfold wrap64; omega
      have hw2 : wrap64 (1 + ((n : Nat) : Int)) = 1 + (n : Int) := by unfold wrap64; omega
      by_cases h3 : n < S.size - a
      · have hd2 : decide (((S.size - a : Nat) : Int) < 1 + (n : Int)) = false := decide_eq_false (by omega)
        have hx1 : (S.extract a S.size).extract 1 (1 + n) = S.extract (a + 1) (a + 1 + n) := ext_ext S a n (by omega)
        have hp : (pre ++ [S.extract (a + 1) (a + 1 + n)]) ++ pcs S (a + 1 + n) = pcs S 0 := by
          have h := HPRE.out
          rw [pcs_y (a := a) ⟨h2, by rw [← HN.out]; exact h3⟩, ← HN.out] at h
          rw [← h]; simp
        obtain ⟨fn, tmps, assign, body, hy, hR⟩ := HY.out pre _ wr hJs (hp ▸ List.prefix_append _ _)
        have HP := Lib.hid hp
        clear hp
        gi_wp2_with fail
        refine hR.mono ?_
        rintro e W3 ⟨rfl, hJ3, hk3⟩
        have hB3 : Blk W3 B 9 #[.string (S.extract a S.size)] := by have h := HBW.out; unfold Blk at h ⊢; rw [hk3.2]; exact h
        have hc3 : W3.cell? ⟨B, 0, none⟩ = some (.string (S.extract a S.size)) := hB3.cell (k := 0) rfl
        have hf3 : W3.frozen? ⟨B, 0, none⟩ = false := hB3.frozen 0
        have HB3 := Lib.hid hB3; have HJ3 := Lib.hid hJ3; have HK3 := Lib.hid hk3
        have HC := Lib.hid hc
        clear hB3 hJ3 hk3 hc hf hy
        gi_wp2
        have hle : a + 1 + n ≤ S.size := by omega
        refine ⟨⟨pre ++ [S.extract (a + 1) (a + 1 + n)], a + 1 + n, hle, HP.out, HJ.out _ _ _ HJ3.out, Lib.hid (by rw [← ext_rest S a n hle]; exact setCell_blk HB3.out 0 _)⟩, ?_⟩
        rw [World.cell?_setCell_same _ _ _ hc3, HC.out]
        show ((S.extract a S.size).extract (1 + n) (S.size - a)).size < (S.extract a S.size).size
        rw [ext_rest S a n hle, ByteArray.size_extract, ByteArray.size_extract]; omega
      · have hd2 : decide (((S.size - a : Nat) : Int) < 1 + (n : Int)) = true := decide_eq_true (by omega)
        gi_wp2
        all_goals refine ⟨fun _ h => (by cases h), ?_⟩
        gi_wp2
        exact ⟨rfl, .tuple #[], by simp [results, Try.results81], ⟨_, rfl⟩, by have h := HPRE.out; rw [pcs_n (fun q => h3 (by rw [HN.out]; exact q.2)), List.append_nil] at h; rw [← h]; exact hJs⟩
    · have hd1 : decide ((0 : Int) < ((S.extract a S.size).size : Int)) = false := decide_eq_false (by rw [hsx]; omega)
      gi_wp2
      go_end0
      exact ⟨⟨_, rfl⟩, by have h := HPRE.out; rw [pcs_n (fun q => h2 q.1), List.append_nil] at h; rw [← h]; exact hJs⟩
end Go.Proofs.Ytdgboikkgeioeaa

/- Package script: a range over the pieces; Of. Conditions: texts of at most 2^62 bytes. -/
namespace Go.Proofs.Ytdgboikkgeioeaa
open Go.RowKit Go.Shelf
attribute [local go_sem] Oper.semAt_some
set_option linter.unusedVariables false
set_option linter.unusedSimpArgs false

/-- It yields ks, to whatever goes on always; what holds of the worlds between may lean on all that lay at the start. -/
def SeqB {α : Type} (P : Program) (gf : Nat) (lb : Array Value) (encs : α → Array Value) (Kp : World → World → Prop) (ks : List α) (Bx : Nat) (w : World) : Prop :=
  ∀ (l : Nat) (J : List α → World → Prop) (W : World), Below w.heap.size w W → w.heap.size + 2 ≤ W.heap.size →
    (∀ pre A B row, J pre A → A.grownBy B row → (∀ r, row = some r → W.heap.size ≤ r ∧ ∃ o : Obj, A.heap[r]? = some o ∧ o.isCells = false) → J pre B) →
    (∀ pre A v, J pre A → J pre (A.setCell ⟨Bx, 0, none⟩ v)) →
    (∀ pre x A, J pre A → (pre ++ [x]) <+: ks → YieldAt Fence.wide 1 P l (encs x) A fun e B => e = .returned (.bool true) ∧ J (pre ++ [x]) B ∧ Kp A B) →
    J [] W → CallsIn Fence.wide 2 P gf (#[.func (.yield l) #[] #[]] ++ lb) W fun e B => (∃ v, e = .returned v) ∧ J ks B
/-- A round ends so. -/
def rfPostB {α : Type} (B : Nat) (Kp : World → World → Prop) (I : List α → World → Prop) (pre : List α) (W : World) : Exit → Act → World → Prop
  | .normal, _, W' => KeepsFrom B W W' ∧ Kp W W' ∧ I pre W'
  | _, _, _ => False
theorem rf_allB {α : Type} {P : Program} {n : Nat} {g : Operand} {ps : Array Tmp} {assign body : Code} {Q : Exit → Act → World → Prop} {a : Act} {w : World} {gf : Nat} {lb : Array Value} (hg : a.eval g = .func (.func gf) #[] lb)
    (eg : ∀ args w, (callFunc gf args).run P w = .ok (.enter gf args) w) {encs : α → Array Value} {Kp : World → World → Prop} {ks : List α} {Bx : Nat} (hseq : SeqB P gf lb encs Kp ks Bx w) (hBx : Bx < w.heap.size) (hps : ∀ x, (encs x).size = ps.size)
    (hKt : ∀ {A B C : World}, Kp A B → Kp B C → Kp A C) (hKb : ∀ (W : World) (o o' : Obj), W.heap[w.heap.size + 1]? = some o → o.isCells = false → Kp W (W.putObj (w.heap.size + 1) o'))
    (I : List α → World → Prop) (hIB : ∀ pre A v, I pre A → I pre (A.setCell ⟨Bx, 0, none⟩ v)) (hI : OwnFrom w.heap.size I) (h0 : I [] w) (Ax : α → Act → World → Prop) (hAx : ∀ x a', OwnFrom w.heap.size (fun (_ : Unit) W => Ax x a' W))
    (hassign : ∀ (l : Nat) (pre : List α) (x : α) (W : World) (K : Act → World → Prop), I pre W → (∀ a' W', KeepsFrom w.heap.size W W' → Kp W W' → I pre W' → Ax x a' W' → K a' W') →
      assign.wpIn (Fence.wide.inRound l) 1 P (Exit.then K (fun _ _ _ => False)) { tmps := (ps.zip (encs x)).foldl (fun t (p, v) => t.setIfInBounds p v) a.tmps, defers := [] } W)
    (hbody : ∀ (l : Nat) (pre : List α) (x : α) (a' : Act) (W : World), w.heap.size + 1 = l → l < W.heap.size → I pre W → Ax x a' W → (pre ++ [x]) <+: ks → body.wpIn (Fence.wide.inRound l) 1 P (rfPostB w.heap.size Kp I (pre ++ [x]) W) a' W)
    (hdone : ∀ (D : Nat) (W : World), w.heap.size ≤ D → I ks W → W.heap[D]? = some (.deferred (some [])) → Q .normal { a with defers := { target := .collected D, args := #[] } :: a.defers } W) :
    (Code.rangeFunc g ps assign body).wpIn Fence.wide n P Q a w := by
  refine wpIn_rangeFunc fun fn hfn => ?_
  let R : LoopState → Option Code → Loop := fun st pe => { state := st, pending := pe, fn := fn, tmps := a.tmps, params := ps, assign := assign, body := body, defers := w.heap.size }
  obtain ⟨V, hV⟩ : ∃ V, V = (w.alloc (.deferred (some []))).alloc (.loop (R .ready none)) := ⟨_, rfl⟩
  have vL : V.heap[w.heap.size + 1]? = some (.loop (R .ready none)) := by rw [hV]; have := World.alloc_heap_new (w.alloc (.deferred (some []))) (.loop (R .ready none)); rwa [World.size_alloc] at this
  have vD : V.heap[w.heap.size]? = some (.deferred (some [])) := by rw [hV]; exact (Below.heap_alloc _ _ _ (by simp)).trans (World.alloc_heap_new w _)
  have vS : V.heap.size = w.heap.size + 2 := by rw [hV]; simp
  have vI : I [] V := by rw [hV]; exact hI.alloc _ (hI.alloc _ h0)
  have vB : Below w.heap.size w V := by rw [hV]; exact ((Below.refl _ w).alloc (Nat.le_refl _) _).alloc (by simp) _
  refine ⟨w.heap.size + 1, [{ target := .collected w.heap.size, args := #[] }], V, { target := .fn (.func gf) lb, args := #[.func (.yield (w.heap.size + 1)) #[] #[]] }, V, gf,
    #[.func (.yield (w.heap.size + 1)) #[] #[]] ++ lb, V, by rw [hV]; exact run_enterLoop_outer _ _ _ _ _, by simp only [resolve, hg]; simp [go_sem], (fun f' hf' => by simp [Target.leads] at hf'; subst hf'; trivial), by simp [invoke, go_sem, eg], (fun h => by cases h), ?_⟩
  refine (callsIn_wide.2 (callsIn_wide.1 (hseq (w.heap.size + 1) (fun pre W => I pre W ∧ W.heap[w.heap.size + 1]? = some (.loop (R .ready none)) ∧ W.heap[w.heap.size]? = some (.deferred (some []))) V vB (by omega) ?_ ?_ ?_ ⟨vI, vL, vD⟩))).mono ?_
  · rintro pre A B row ⟨h1, h2, h3⟩ hg' hr
    refine ⟨hI pre A B row h1 hg' (fun r e => ⟨by have := (hr r e).1; omega, (hr r e).2⟩), ?_, ?_⟩
    · exact (hg'.block _ (Array.getElem?_eq_some_iff.1 h2).1 (fun e => by have := (hr _ e.symm).1; omega)).trans h2
    · exact (hg'.block _ (Array.getElem?_eq_some_iff.1 h3).1 (fun e => by have := (hr _ e.symm).1; omega)).trans h3
  · rintro pre A v ⟨h1, h2, h3⟩
    have hg' := grown_setCell A Bx 0 v
    exact ⟨hIB pre A v h1, (hg'.block _ (Array.getElem?_eq_some_iff.1 h2).1 (fun e => by simp at e; omega)).trans h2, (hg'.block _ (Array.getElem?_eq_some_iff.1 h3).1 (fun e => by simp at e; omega)).trans h3⟩
  · rintro pre x A ⟨h1, h2, h3⟩ hp
    have hy := run_yield (P := P) (args := encs x) h2 (hps x)
    refine ⟨fn, _, assign, body, hy, ?_⟩
    refine roundIn_of_wpIn hfn ?_
    refine hassign _ pre x A _ h1 fun a' B kf kp h1' hax => ?_
    have b2 := kf.same _ _ (by omega) h2 rfl
    have b3 := kf.same _ _ (Nat.le_refl _) h3 rfl
    have hlt : w.heap.size + 1 < B.heap.size := (Array.getElem?_eq_some_iff.1 b2).1
    refine ⟨_, run_beginRound b2 rfl, ?_⟩
    have c2 : (B.putObj (w.heap.size + 1) (.loop (R .busy none))).heap[w.heap.size + 1]? = some (.loop (R .busy none)) := World.putObj_heap_same hlt
    have c3 : (B.putObj (w.heap.size + 1) (.loop (R .busy none))).heap[w.heap.size]? = some (.deferred (some [])) := (World.putObj_heap_other (by omega)).trans b3
    refine wpIn_mono (hbody _ pre x a' (B.putObj (w.heap.size + 1) (.loop (R .busy none))) rfl (Array.getElem?_eq_some_iff.1 c2).1 (hI.putObj _ h1' (by omega) b2 rfl) ((hAx x a').putObj (s := ()) _ hax (by omega) b2 rfl) hp) ?_
    rintro e a3 C hq
    cases e with
    | normal =>
      obtain ⟨q1, q2, q3⟩ := hq
      have d2 := q1.same _ _ (by omega) c2 rfl
      have d3 := q1.same _ _ (Nat.le_refl _) c3 rfl
      refine ⟨_, _, run_endRound none d2, rfl, ⟨hI.putObj _ q3 (by omega) d2 rfl, World.putObj_heap_same (Array.getElem?_eq_some_iff.1 d2).1, (World.putObj_heap_other (by omega)).trans d3⟩, ?_⟩
      exact hKt kp (hKt (hKt (hKb _ _ _ b2 rfl) q2) (hKb _ _ _ d2 rfl))
    | ret => exact hq.elim
    | exit id => exact hq.elim
    | goto t => exact hq.elim
    | panic ch => exact hq.elim
    | outgrown => exact hq.elim
  · rintro e B ⟨⟨v, rfl⟩, h1, h2, h3⟩
    exact ⟨none, _, run_endLoop h2 (by simp [R]), hdone _ _ (Nat.le_refl _) (hI.putObj _ h1 (by omega) h2 rfl) ((World.putObj_heap_other (by omega)).trans h3)⟩

theorem pieces_any (S : ByteArray) (w : World) :
    CallsIn Fence.wide 2 Try.prog 43 #[.string S] w fun e w' => e = .returned (.func (.func 81) #[] #[.pointer (some ⟨w.heap.size, 0, none⟩)]) ∧ w' = w.alloc (.cells #[.string S] 9) := by
  refine callsIn_of_wp Try.func43 rfl trivial ?_ rfl
  simp only [Try.ntmps43, List.size_toArray, List.length_cons, List.length_nil, Nat.reduceAdd, Nat.reduceSub, Array.replicate_succ, Array.replicate_zero, List.push_toArray, List.append_toArray, List.nil_append, List.cons_append]
  gi_wp2
  go_ret
  exact ⟨rfl, rfl⟩
theorem pieces_seq (S : ByteArray) (hsz : S.size ≤ 4611686018427387904) (n₀ B : Nat) (w : World) (hB : Blk w B 9 #[.string S]) :
    SeqB Try.prog 81 #[.pointer (some ⟨B, 0, none⟩)] (fun x : ByteArray => #[.string x]) (KpB n₀ B) (pcs S 0) B w := fun lp J W hW hz hst hJB hY h0 =>
  piter_in lp B n₀ S hsz J hJB hY W (by have h := hB; unfold Blk at h ⊢; rw [hW.block B (Array.getElem?_eq_some_iff.1 h).1]; exact h) h0
end Go.Proofs.Ytdgboikkgeioeaa

/- Package script: Of. Conditions: texts of at most 1000000 bytes. -/
namespace Go.Proofs.Ytdgboikkgeioeaa
open Go.RowKit Go.Shelf
attribute [local go_sem] Oper.semAt_some
set_option linter.unusedVariables false
set_option linter.unusedSimpArgs false

theorem info_ev : (Try.prog.info? 60).map (fun i => (i.zero, i.size, i.bytes)) = some (some (.agg zev), 10, 112) := by kernel_rfl
/-- The steps in a text's pieces. -/
def stepsR (S : ByteArray) : List EvD := (pcs S 0).filterMap evR
/-- What Of's loop keeps: the list in its box, each step's operations. -/
def IO (N b : Nat) (pre : List ByteArray) (X : World) : Prop := ∃ (v : Value) (us : List EvX), us.map EvX.d = pre.filterMap evR ∧ Boxed X N 50 v ∧ X.ownsRow b 60 10 v us.length (us.flatMap evE) ∧ ∀ z ∈ us, X.ownsRow b 66 3 z.ov z.d.ops.length (z.d.ops.flatMap opE)
theorem row_ntype {X : World} {b r sz k : Nat} {e : TypeId} {v : Value} {xs : List Value} (h : X.ownsRow b e sz v k xs) (hr : ∀ cur, X.heap[r]? ≠ some (.cells cur e (0, 0))) : v.ownBlock ≠ some r := fun q => by
  rcases h.2 with ⟨rfl, _⟩ | ⟨g, cap, cur, rfl, hb, hg, _⟩
  · simp [Value.ownBlock] at q
  · simp [Value.ownBlock] at q; subst q; exact hr _ hg
theorem IO.keep {N b : Nat} {pre : List ByteArray} {X Y : World} {row : Option Nat} (h : IO N b pre X) (hg : X.grownBy Y row) (hr : ∀ r, row = some r → ∀ cur e, (e = 50 ∨ e = 60 ∨ e = 66) → X.heap[r]? ≠ some (.cells cur e (0, 0))) : IO N b pre Y := by
  obtain ⟨v, us, h1, h2, h3, h4⟩ := h
  have hn : ∀ {e : TypeId} {sz k : Nat} {u : Value} {xs : List Value}, (e = 50 ∨ e = 60 ∨ e = 66) → X.ownsRow b e sz u k xs → Y.ownsRow b e sz u k xs := fun {e sz k u xs} he hu => by
    cases row with
    | none => exact hu.kept hg (by cases u.ownBlock <;> simp)
    | some r => exact hu.kept hg (.inr (row_ntype hu (fun cur => hr r rfl cur e he)))
  refine ⟨v, us, h1, h2.kept hg (fun e => ?_), hn (.inr (.inl rfl)) h3, fun z hz => hn (.inr (.inr rfl)) (h4 z hz)⟩
  exact hr N e.symm _ _ (.inl rfl) h2
theorem IO.own (N b B : Nat) : OwnFrom B (IO N b) := fun s X Y row hs hg hr => hs.keep hg (fun r e cur t _ q => by obtain ⟨_, o, ho, hc⟩ := hr r e; rw [q] at ho; cases ho; cases hc)
theorem KpB.of_below {n B : Nat} {X Y : World} (h : Below X.heap.size X Y) (hn : n ≤ X.heap.size) (hB : B < X.heap.size) : KpB n B X Y := ⟨h.mono hn, h.block B hB⟩
theorem KpB.grown {n B : Nat} {X Y : World} {row : Option Nat} (h : X.grownBy Y row) (hn : n ≤ X.heap.size) (hr : ∀ r, row = some r → n ≤ r ∧ r ≠ B) (hB : B < X.heap.size) : KpB n B X Y :=
  ⟨(Below.refl n X).grown h hn (fun k e => (hr k e).1), h.block B hB (fun e => (hr B e.symm).2 rfl)⟩
theorem kf_below {B : Nat} {X Y : World} (h : Below X.heap.size X Y) : KeepsFrom B X Y := (KeepsOthers.of_grownBy (below_grown h) (fun j o e => by cases e)).from B

theorem pcs_mem (S : ByteArray) : ∀ (k a : Nat), S.size - a ≤ k → (pcs S a).length ≤ k ∧ ∀ x ∈ pcs S a, x.size ≤ 255
  | 0, a, h => by rw [pcs_n (fun q => by omega)]; simp
  | k + 1, a, h => by
    by_cases q : a < S.size ∧ pcN S a < S.size - a
    · obtain ⟨h1, h2⟩ := pcs_mem S k (a + 1 + pcN S a) (by omega)
      rw [pcs_y q]
      refine ⟨by rw [List.length_cons]; omega, fun x hx => ?_⟩
      rcases List.mem_cons.1 hx with rfl | hx
      · have h8 : pcN S a < 256 := UInt8.toNat_lt _
        rw [ByteArray.size_extract]; omega
      · exact h2 x hx
    · rw [pcs_n q]; simp
set_option maxRecDepth 100000 in
set_option maxHeartbeats 4000000 in
theorem scOf_any (S : ByteArray) (w : World) (hsz : S.size ≤ 1000000) :
    Calls Try.prog 21 #[.string S] w fun e w' => ∃ (v : Value) (us : List EvX), e = .returned v ∧ us.map EvX.d = stepsR S ∧ w'.ownsRow w.heap.size 60 10 v us.length (us.flatMap evE) ∧ (∀ z ∈ us, w'.ownsRow w.heap.size 66 3 z.ov z.d.ops.length (z.d.ops.flatMap opE)) ∧ Below w.heap.size w w' := by
  obtain ⟨i0, hi, hz0, hz1, hz2⟩ := info_parts info_ev
  obtain ⟨N, hN⟩ : ∃ N, N = w.heap.size := ⟨_, rfl⟩
  have HN := Lib.hid hN; clear hN
  refine (callsIn_wide (n := 3)).1 ?_
  refine callsIn_of_wp_marks Try.func21 rfl trivial ?_ rfl
  simp only [Try.ntmps21, List.size_toArray, List.length_cons, List.length_nil, Nat.reduceAdd, Nat.reduceSub, Array.replicate_succ, Array.replicate_zero, List.push_toArray, List.append_toArray, List.nil_append, List.cons_append]
  gi_wp2_with (refine ⟨trivial, ?_⟩; gi_at_call 43; refine (callsIn_wide.2 (callsIn_wide.1 (pieces_any S _))).mono ?_; rintro e w' ⟨rfl, rfl⟩)
  rw [← HN.out]
  obtain ⟨W0, hW0⟩ : ∃ W0, W0 = (w.alloc (.cells #[.slice none 0 0] 50)).alloc (.cells #[.string S] 9) := ⟨_, rfl⟩
  have bL : Boxed W0 N 50 (.slice none 0 0) := by rw [hW0, HN.out]; exact (Boxed.new w _ _).alloc _
  have bS : Boxed W0 (N + 1) 9 (.string S) := by
    have h := Boxed.new (w.alloc (.cells #[.slice none 0 0] 50)) 9 (.string S)
    rw [World.size_alloc, ← HN.out] at h; rw [hW0]; exact h
  have hB0 : Below N w W0 := by rw [hW0, HN.out]; exact ((Below.refl _ w).alloc (Nat.le_refl _) _).alloc (by simp) _
  have hz : W0.heap.size = N + 2 := by rw [hW0, HN.out]; simp
  rw [← hW0]; clear hW0
  refine rf_allB (gf := 81) (lb := #[.pointer (some ⟨N + 1, 0, none⟩)]) rfl (enters_of Try.func81 (by kernel_rfl) rfl) (pieces_seq S (by omega) N (N + 1) W0 bS) (by omega) (fun _ => rfl) KpB.t
    (fun X o o' h hc => KpB.grown (grownBy_putObj' X _ o') (by have := (Array.getElem?_eq_some_iff.1 h).1; omega) (fun r e => by cases e; omega) (by have := (Array.getElem?_eq_some_iff.1 h).1; omega))
    (fun pre X => IO N (N + 4) pre X ∧ (∃ u, Boxed X (N + 1) 9 u) ∧ Below N w X) ?hIB ?hI ⟨⟨_, [], rfl, bL, World.ownsRow_nil _ _ _ _, by simp⟩, ⟨_, bS⟩, hB0⟩
    (fun x a' X => a' = { tmps := #[.string S, undef, .slice none 0 0, .pointer (some ⟨N, 0, none⟩), .string x, undef, undef, .string S, .func (.func 81) #[] #[.pointer (some ⟨N + 1, 0, none⟩)], .string x, undef, undef, undef, undef, undef, undef, undef, undef, undef, undef, undef], defers := [] }) (fun x a' _ X Y row hs hg hr => hs) ?assign ?body ?done
  case hIB =>
    rintro pre A v ⟨h1, ⟨u, h2⟩, h3⟩
    refine ⟨h1.keep (grown_setCell A (N + 1) 0 v) (fun r e cur t ht q => ?_), ⟨_, h2.set v⟩, h3.setCell (by show N ≤ N + 1; omega) v⟩
    cases e; rw [show A.heap[N + 1]? = _ from h2] at q; simp only [Option.some.injEq, Obj.cells.injEq] at q
    rcases ht with rfl | rfl | rfl <;> exact absurd q.2.1 (by decide)
  case hI =>
    rintro s X Y row ⟨h1, ⟨u, h2⟩, h3⟩ hg hr
    exact ⟨IO.own N (N + 4) W0.heap.size s X Y row h1 hg hr, ⟨u, h2.kept hg (fun e' => by obtain ⟨_, o, ho, hc⟩ := hr (N + 1) e'.symm; rw [show X.heap[N + 1]? = _ from h2] at ho; cases ho; cases hc)⟩, ownFrom_below (by have := HN.out; omega) (by omega) s X Y row h3 hg hr⟩
  case assign =>
    rintro lp pre x X K hI hK
    have HI := Lib.hid hI; clear hI
    gi_wp2
    exact hK _ _ (KeepsFrom.refl _ _) ⟨Below.refl _ _, rfl⟩ HI.out rfl
  case body =>
    rintro lp pre x a' X hlp hlt ⟨⟨v, us, hus, hv, hrow, hops⟩, ⟨sv, hS⟩, hB⟩ rfl hp
    obtain ⟨hl1, hl2⟩ := pcs_mem S S.size 0 (by omega)
    have hx8 : x.size ≤ 255 := hl2 x (hp.subset (by simp))
    have hul : us.length ≤ pre.length := by have h := congrArg List.length hus; rw [List.length_map] at h; rw [h]; exact List.length_filterMap_le _ _
    have hpl : pre.length < 1000001 := by have := hp.length_le; simp at this; omega
    have hN2 : N + 4 ≤ X.heap.size := by omega
    have cv := hv.cell
    have HO := Lib.hid hops; have HR := Lib.hid hrow; have HU := Lib.hid hus; have HB := Lib.hid hB; have HV := Lib.hid hv; have HS := Lib.hid hS
    clear hops hrow hus hB hv hS bL bS hB0 hp hl2
    cases hx : evR x with
    | none =>
      have HX := Lib.hid hx; clear hx
      gi_wp2_with (refine ⟨trivial, ?_⟩; gi_at_call 44; refine (callsIn_wide.2 (scStep_n x _ (by omega) HX.out)).mono ?_; rintro e X1 ⟨rfl, hb1⟩; dsimp only [zev])
      have hbA := hb1.alloc hb1.size (.cells #[.int .i64 0, .int .i64 0, .int .i64 0, .int .i64 0, .int .i64 0, .string ⟨#[]⟩, .string ⟨#[]⟩, .int .u64 0, .int .i64 0, .slice none 0 0] 60)
      have hIO := IO.keep (⟨v, us, HU.out, HV.out, HR.out, HO.out⟩ : IO N (N + 4) pre X) (below_grown hbA) (fun r e => nomatch e)
      have hfm : (pre ++ [x]).filterMap evR = pre.filterMap evR := by simp [List.filterMap_append, HX.out]
      obtain ⟨v', us', q1, q2⟩ := hIO
      exact ⟨kf_below hbA, KpB.of_below hbA (by omega) (by omega), ⟨v', us', by rw [hfm]; exact q1, q2⟩, ⟨_, HS.out.kept (below_grown hbA) (by simp)⟩, HB.out.trans (hbA.mono (by omega))⟩
    | some d =>
      have HX := Lib.hid hx; clear hx
      gi_wp2_with (first
        | (refine ⟨trivial, ?_⟩; gi_at_call 44; refine (callsIn_wide.2 (scStep_y x d _ (by omega) HX.out)).mono ?_; rintro e X1 ⟨u, rfl, hr1, hb1⟩; obtain ⟨ao, un, uc, rfl⟩ := row_form hr1; dsimp only [evV]; have hv1 := HV.out.kept (below_grown hb1) (by simp); have cv1 := hv1.cell; have cv2 := (hv1.alloc (.cells #[.int .i64 d.k, .int .i64 d.nd, .int .i64 d.n, .int .i64 d.ak, .int .i64 d.an, .string d.ky, .string d.tt, .int .u64 d.at_, .int .i64 d.am, .slice ao un uc] 60)).cell; have hrow1 := HR.out.kept (below_grown hb1) (by cases v.ownBlock <;> simp); have hsz1 := hb1.size)
        | (gi_at_builtin; refine wpListIn_append_own _ rfl _ _ 50 rfl (N + 4) 60 i0 (.agg zev) 10 112 Try.underlying50 hi hz0 hz1 hz2 rfl (by decide) _ _ _ rfl ((hrow1.alloc _).alloc _) ⟨X1.heap.size + 1, 0, none⟩ 1 1 [.int .i64 d.k, .int .i64 d.nd, .int .i64 d.n, .int .i64 d.ak, .int .i64 d.an, .string d.ky, .string d.tt, .int .u64 d.at_, .int .i64 d.am, .slice ao un uc] rfl rfl (by have h := World.alloc_heap_new (X1.alloc (.cells #[.int .i64 d.k, .int .i64 d.nd, .int .i64 d.n, .int .i64 d.ak, .int .i64 d.an, .string d.ky, .string d.tt, .int .u64 d.at_, .int .i64 d.am, .slice ao un uc] 60)) (.cells #[.int .i64 d.k, .int .i64 d.nd, .int .i64 d.n, .int .i64 d.ak, .int .i64 d.an, .string d.ky, .string d.tt, .int .u64 d.at_, .int .i64 d.am, .slice ao un uc] 60); rw [World.size_alloc] at h; exact World.news_of_block h) (by simp [Value.oneCell']) (by unfold maxLen; omega) (by omega) (by simp; omega) ?_; intro v' w1 hown' hgrow _; obtain ⟨g', cap', rfl⟩ := ownsRow_succ hown'; obtain ⟨p1, p2, p3, p4, p5⟩ := (hv1.alloc (.cells #[.int .i64 d.k, .int .i64 d.nd, .int .i64 d.n, .int .i64 d.ak, .int .i64 d.an, .string d.ky, .string d.tt, .int .u64 d.at_, .int .i64 d.am, .slice ao un uc] 60)).appended (by decide) (row_lows (hrow1.alloc _) (by omega) : World.ownsRow _ N _ _ _ _ _) (by simp; omega) (Nat.le_refl _) (row_lows hown' (by omega) : World.ownsRow _ N _ _ _ _ _) hgrow; have hc1 := p1.cell; have hf1 := p1.frozen))
      have hbA := hb1.alloc hb1.size (.cells #[.int .i64 d.k, .int .i64 d.nd, .int .i64 d.n, .int .i64 d.ak, .int .i64 d.an, .string d.ky, .string d.tt, .int .u64 d.at_, .int .i64 d.am, .slice ao un uc] 60)
      have hs1 := (HS.out.kept (below_grown hb1) (by simp)).alloc (.cells #[.int .i64 d.k, .int .i64 d.nd, .int .i64 d.n, .int .i64 d.ak, .int .i64 d.an, .string d.ky, .string d.tt, .int .u64 d.at_, .int .i64 d.am, .slice ao un uc] 60)
      have hsF := ((hs1.alloc (.cells #[.int .i64 d.k, .int .i64 d.nd, .int .i64 d.n, .int .i64 d.ak, .int .i64 d.an, .string d.ky, .string d.tt, .int .u64 d.at_, .int .i64 d.am, .slice ao un uc] 60)).kept hgrow (hs1.not_row (by decide) (hrow1.alloc _))).kept (grownBy_setCell' w1 N (.slice (some ⟨g', 0, none⟩) (us.length + 1) cap')) (by simp)
      have hop : ∀ {u : Value} {l : List OpT}, X1.ownsRow (N + 4) 66 3 u l.length (l.flatMap opE) → (w1.setCell ⟨N, 0, none⟩ (.slice (some ⟨g', 0, none⟩) (us.length + 1) cap')).ownsRow (N + 4) 66 3 u l.length (l.flatMap opE) := fun {u l} h => by
        have h2 := row_kept_row ((h.alloc (.cells #[.int .i64 d.k, .int .i64 d.nd, .int .i64 d.n, .int .i64 d.ak, .int .i64 d.an, .string d.ky, .string d.tt, .int .u64 d.at_, .int .i64 d.am, .slice ao un uc] 60)).alloc (.cells #[.int .i64 d.k, .int .i64 d.nd, .int .i64 d.n, .int .i64 d.ak, .int .i64 d.an, .string d.ky, .string d.tt, .int .u64 d.at_, .int .i64 d.am, .slice ao un uc] 60)) ((hrow1.alloc _).alloc _) hgrow (by decide)
        exact h2.kept (grownBy_setCell' w1 N _) (.inr (p1.not_row (by decide) h2).symm)
      have hfm : (pre ++ [x]).filterMap evR = pre.filterMap evR ++ [d] := by simp [List.filterMap_append, HX.out]
      refine ⟨(kf_below hbA).trans (p4.from _), (KpB.of_below hbA (by omega) (by omega)).t ⟨p5, hsF.trans hs1.symm⟩, ⟨_, us ++ [⟨d, .slice ao un uc⟩], by rw [hfm, List.map_append, HU.out]; rfl, p2, ?_, fun z hz => ?_⟩, ⟨_, hsF⟩, HB.out.trans ((hbA.mono (by omega)).trans p5)⟩
      · rw [List.length_append, List.flatMap_append]
        exact hown'.kept (grownBy_setCell' w1 N _) (.inr (p1.not_row (by decide) hown').symm)
      · rcases List.mem_append.1 hz with hz | hz
        · exact hop ((HO.out z hz).kept (below_grown hb1) (by cases z.ov.ownBlock <;> simp))
        · rw [List.mem_singleton] at hz; subst hz; exact hop (row_lows hr1 (by omega))
  case done =>
    rintro D X hD ⟨⟨v, us, hus, hv, hrow, hops⟩, -, hB⟩ hdf
    have cv := hv.cell
    have HO := Lib.hid hops; have HR := Lib.hid hrow; have HU := Lib.hid hus; have HB := Lib.hid hB; have HD := Lib.hid hdf; have HDD := Lib.hid hD
    clear hops hrow hus hB hdf bL bS hB0
    gi_wp2
    refine ⟨by simp, .inl ⟨_, _, rfl, run_takeDeferred HD.out, ?_⟩⟩
    have hlD := (Array.getElem?_eq_some_iff.1 HD.out).1
    have hB2 : Below N w (X.putObj D (.deferred none)) := HB.out.grown (grownBy_putObj' X D _) (by have := HDD.out; omega) (fun k e => by cases e; have := HDD.out; omega)
    rw [HN.out] at hB2
    exact ⟨_, results_tmp rfl _ _ _, v, us, rfl, HU.out, ownsRow_putObj (row_lows HR.out (by have := HN.out; omega)) _ HD.out rfl, fun z hz => ownsRow_putObj (row_lows (HO.out z hz) (by have := HN.out; omega)) _ HD.out rfl, hB2⟩
end Go.Proofs.Ytdgboikkgeioeaa

/- Package script, pure: the pieces of texts that are put together; steps there and back. Conditions: none. -/
namespace Go.Proofs.Ytdgboikkgeioeaa
open Go.RowKit Go.PlainAid
set_option linter.unusedVariables false
set_option linter.unusedSimpArgs false

def pcL (p : ByteArray) : List UInt8 := UInt8.ofNat p.size :: p.data.toList
theorem pcs_list (S : ByteArray) : ∀ (ps : List ByteArray) (a : Nat), (∀ p ∈ ps, p.size ≤ 255) → S.data.toList.drop a = ps.flatMap pcL → pcs S a = ps
  | [], a, _, h => by
    have h1 : S.data.toList.length ≤ a := by simpa using h
    have h2 : S.data.toList.length = S.size := by simp
    exact pcs_n (fun q => by omega)
  | p :: r, a, hp, h => by
    have h8 := hp p (by simp)
    rw [List.flatMap_cons] at h
    have hsz : S.data.toList.length = S.size := by simp
    have hpl : p.data.toList.length = p.size := by simp
    have hlen := congrArg List.length h
    rw [List.length_drop, List.length_append, hsz] at hlen
    have hpc : (pcL p).length = p.size + 1 := by unfold pcL; rw [List.length_cons, hpl]
    have ha : a < S.size := by omega
    have hn : pcN S a = p.size := by
      have h0 := congrArg (fun q : List UInt8 => q[0]?) h
      simp only [List.getElem?_drop, Nat.add_zero] at h0
      unfold pcN
      rw [Array.getD_eq_getD_getElem?, ← Array.getElem?_toList, h0]
      unfold pcL
      simp only [List.cons_append, List.getElem?_cons_zero, Option.getD_some]
      rw [UInt8.toNat_ofNat_of_lt' (by show p.size < 256; omega)]
    have hd1 : S.data.toList.drop (a + 1) = p.data.toList ++ r.flatMap pcL := by
      rw [← List.drop_drop, h]; unfold pcL; simp
    have hx : S.extract (a + 1) (a + 1 + p.size) = p := by
      apply ByteArray.ext; apply Array.ext'
      rw [ByteArray.data_extract, Array.toList_extract, List.extract_eq_take_drop, hd1, show a + 1 + p.size - (a + 1) = p.size by omega, ← hpl, List.take_left]
    have hd2 : S.data.toList.drop (a + 1 + p.size) = r.flatMap pcL := by
      rw [← List.drop_drop, hd1, ← hpl, List.drop_left]
    rw [pcs_y ⟨ha, by rw [hn]; omega⟩, hn, hx, pcs_list S r _ (fun q hq => hp q (by simp [hq])) hd2]
theorem stepsR_list {ps : List ByteArray} (hp : ∀ p ∈ ps, p.size ≤ 255) : stepsR ⟨(ps.flatMap pcL).toArray⟩ = ps.filterMap evR := by
  unfold stepsR; rw [pcs_list _ ps 0 hp (by simp)]
theorem allE_all : ∀ {l : List EvD}, allE l = 0 → ∀ e ∈ l, oneE e = 0
  | [], _, e, he => by cases he
  | x :: r, h, e, he => by
    unfold allE at h
    split at h
    · rename_i q; exact absurd h q
    · rename_i q
      rcases List.mem_cons.1 he with rfl | he
      · omega
      · exact allE_all h e he
theorem allE_of : ∀ {l : List EvD}, (∀ e ∈ l, oneE e = 0) → allE l = 0
  | [], _ => rfl
  | x :: r, h => by
    unfold allE; rw [if_neg (by have := h x (by simp); omega)]; exact allE_of fun e he => h e (by simp [he])
def tsE (e : EvD) : Prop := 0 ≤ e.at_ ∧ e.at_ < 18446744073709551616
theorem one_read {e : EvD} (h : oneE e = 0) (ht : tsE e) : evR (oneB e) = some (cleanE e) := by
  have hr : rngE e := by apply Classical.byContradiction; intro q; rw [(oneE_5 q).1] at h; omega
  have hl : ¬ (evB e).length > 255 := fun q => by rw [(oneE_3 hr q).1] at h; omega
  rw [(oneE_0 hr hl).2]; exact evR_put hr ht (by omega)
theorem allB_pcs (l : List EvD) : allB l = (l.map oneB).flatMap pcL := by
  induction l with
  | nil => rfl
  | cons e r ih => unfold allB at ih ⊢; rw [List.flatMap_cons, List.map_cons, List.flatMap_cons, ← ih]; rfl
theorem map_read : ∀ {l : List EvD}, (∀ e ∈ l, oneE e = 0) → (∀ e ∈ l, tsE e) → (l.map oneB).filterMap evR = l.map cleanE
  | [], _, _ => rfl
  | e :: r, h, ht => by
    rw [List.map_cons, List.filterMap_cons, one_read (h e (by simp)) (ht e (by simp)), map_read (fun q hq => h q (by simp [hq])) (fun q hq => ht q (by simp [hq])), List.map_cons]
/-- There and back: what is put is read. -/
theorem put_read {l : List EvD} (h : allE l = 0) (ht : ∀ e ∈ l, tsE e) : stepsR (putA l) = l.map cleanE := by
  rw [putA_0 h, allB_pcs, stepsR_list (fun p hp => by obtain ⟨e, _, rfl⟩ := List.mem_map.1 hp; exact oneB_len e), map_read (allE_all h) ht]
theorem steps_ok {S : ByteArray} {e : EvD} (h : e ∈ stepsR S) : oneE e = 0 ∧ cleanE e = e ∧ tsE e ∧ e.ops.length ≤ 100 ∧ EvS e := by
  obtain ⟨p, hp, hr⟩ := List.mem_filterMap.1 h
  have h8 := (pcs_mem S S.size 0 (by omega)).2 p hp
  obtain ⟨h1, h2, h3, h4⟩ := evR_back hr
  have hl : (evB e).length ≤ 255 := by rw [h1]; simpa using h8
  have ho : oneE e = 0 := (oneE_0 h2 (by omega)).1
  by_cases hk : e.k = 0
  · have hb : (evB e).length = (hedB e ++ askB e).length := by rw [show evB e = _ from if_pos hk]
    unfold askB txB at hb; simp only [List.length_append] at hb
    have e1 : e.ky.data.toList.length = e.ky.size := by simp
    have e2 : e.tt.data.toList.length = e.tt.size := by simp
    obtain ⟨l1, l2⟩ := putOs_len1 e.ops
    have l3 := putOs_len3 e.ops
    exact ⟨ho, h3, h4, by omega, ⟨h4, by omega, by omega, fun o hm => by have := l2 o hm; omega⟩⟩
  · have hz : e = zeD e.k e.nd e.n := by rw [← show cleanE e = zeD e.k e.nd e.n from if_neg hk]; exact h3.symm
    refine ⟨ho, h3, h4, ?_, ?_⟩
    · rw [hz]; show (0 : Nat) ≤ 100; omega
    · rw [hz]; exact ⟨⟨Int.le_refl _, (by decide : (0 : Int) < 18446744073709551616)⟩, by show (0 : Nat) ≤ _; omega, by show (0 : Nat) ≤ _; omega, fun o hm => by cases hm⟩
theorem evB_len3 (e : EvD) : 3 ≤ (evB e).length := by
  have h1 := putL_pos e.k; have h2 := putL_pos e.nd; have h3 := putL_pos e.n
  unfold evB; split <;> simp only [hedB, List.length_append] <;> omega
theorem steps_len (S : ByteArray) : ∀ (k a : Nat), S.size - a ≤ k → 4 * ((pcs S a).filterMap evR).length ≤ S.size - a
  | 0, a, h => by rw [pcs_n (fun q => by omega)]; simp
  | k + 1, a, h => by
    by_cases q : a < S.size ∧ pcN S a < S.size - a
    · have ih := steps_len S k (a + 1 + pcN S a) (by omega)
      rw [pcs_y q, List.filterMap_cons]
      split
      · omega
      · rename_i e he
        have h3 := evB_len3 e
        have h4 := congrArg List.length (evR_back he).1
        have h5 : (S.extract (a + 1) (a + 1 + pcN S a)).data.toList.length = (S.extract (a + 1) (a + 1 + pcN S a)).size := by rw [Array.length_toList]; rfl
        rw [ByteArray.size_extract] at h5
        rw [List.length_cons]; omega
    · rw [pcs_n q]; simp
theorem stepsR_len (S : ByteArray) : 4 * (stepsR S).length ≤ S.size := by have := steps_len S S.size 0 (by omega); unfold stepsR; omega
theorem putA_len (l : List EvD) : (putA l).size ≤ 256 * l.length := by
  have h : ∀ l : List EvD, (allB l).length ≤ 256 * l.length := fun l => by
    induction l with
    | nil => simp [allB]
    | cons x r ih =>
      have h2 := oneB_len x
      have h3 : (oneB x).data.toList.length = (oneB x).size := by simp
      simp only [allB, pcB, List.flatMap_cons, List.length_append, List.length_cons] at ih ⊢; omega
  by_cases q : allE l = 0
  · rw [putA_0 q]; show (allB l).toArray.size ≤ _; simp only [List.size_toArray]; exact h l
  · rw [putA_n q]; show (0 : Nat) ≤ _; omega
/-- There and back: what is read is put, and read as it was. -/
theorem read_put (S : ByteArray) : allE (stepsR S) = 0 ∧ stepsR (putA (stepsR S)) = stepsR S := by
  have h : allE (stepsR S) = 0 := allE_of fun e he => (steps_ok he).1
  refine ⟨h, ?_⟩
  rw [put_read h (fun e he => (steps_ok he).2.2.1)]
  exact (List.map_congr_left fun e he => (steps_ok he).2.1).trans (List.map_id _)
end Go.Proofs.Ytdgboikkgeioeaa

/- Package script and the document's own: Clean. Conditions: at most 100 operations. -/
namespace Go.Proofs.Ytdgboikkgeioeaa
open Go.RowKit Go.PlainAid
set_option linter.unusedVariables false
set_option linter.unusedSimpArgs false

set_option maxRecDepth 100000 in
theorem rclean_y (d : EvD) (ov : Value) (w : World) (hs : SliceOf opE 3 w ov d.ops) (hk : d.k = 0) :
    Calls Try.prog 24 #[.agg #[.int .i64 d.k, .int .i64 d.nd, .int .i64 d.n, .int .i64 d.ak, .int .i64 d.an, .string d.ky, .string d.tt, .int .u64 d.at_, .int .i64 d.am, ov]] w fun e w' => e = .returned (.agg #[.int .i64 d.k, .int .i64 d.nd, .int .i64 d.n, .int .i64 d.ak, .int .i64 d.an, .string d.ky, .string d.tt, .int .u64 d.at_, .int .i64 d.am, ov]) ∧ Below w.heap.size w w' := by
 have hB0 := Below.refl w.heap.size w
 have hl_hs := sl_len hs
 refine co_enter (n := 11) Try.func24 rfl rfl rfl [(0, .agg #[.int .i64 d.k, .int .i64 d.nd, .int .i64 d.n, .int .i64 d.ak, .int .i64 d.an, .string d.ky, .string d.tt, .int .u64 d.at_, .int .i64 d.am, ov])] rfl (fun a h0 => ?_)
 refine co_seq ?_
 refine co_reg ?_
 refine pw h0 rfl (op_new (v := fun N => pt N 0) (T := 60) (cs := #[.int .i64 d.k, .int .i64 d.nd, .int .i64 d.n, .int .i64 d.ak, .int .i64 d.an, .string d.ky, .string d.tt, .int .u64 d.at_, .int .i64 d.am, ov]) (by kernel_rfl) (by kernel_rfl) (by kernel_rfl)) ?_; clear h0
 rintro _ w2 a1 ⟨N3, rfl, hN6, hz7, hk5, hg4⟩ h1
 have hz8 := hg4.size
 try dsimp only at h1
 refine pw h1 rfl (op_new (v := fun N => pt N 0) (T := 60) (cs := #[.int .i64 0, .int .i64 0, .int .i64 0, .int .i64 0, .int .i64 0, .string (⟨#[]⟩), .string (⟨#[]⟩), .int .u64 0, .int .i64 0, .slice none 0 0]) (by kernel_rfl) (by kernel_rfl) (by kernel_rfl)) ?_; clear h1
 rintro _ w10 a9 ⟨N11, rfl, hN14, hz15, hk13, hg12⟩ h9
 have hz16 := hg12.size
 try dsimp only at h9
 refine pl_nil ?_
 refine co_then ?_
 refine co_seq ?_
 refine co_reg ?_
 have hk17 := hk5.kept hg12 (by simp)
 refine pk (v := .agg #[.int .i64 d.k, .int .i64 d.nd, .int .i64 d.n, .int .i64 d.ak, .int .i64 d.an, .string d.ky, .string d.tt, .int .u64 d.at_, .int .i64 d.am, ov]) h9 rfl (rn_loadN rfl rfl Try.underlying60 rfl (by kernel_rfl) hk17.all) fun a18 h18 => ?_; clear h9
 refine pw h18 rfl (op_new (v := fun N => pt N 0) (T := 60) (cs := #[.int .i64 0, .int .i64 0, .int .i64 0, .int .i64 0, .int .i64 0, .string (⟨#[]⟩), .string (⟨#[]⟩), .int .u64 0, .int .i64 0, .slice none 0 0]) (by kernel_rfl) (by kernel_rfl) (by kernel_rfl)) ?_; clear h18
 rintro _ w20 a19 ⟨N21, rfl, hN24, hz25, hk23, hg22⟩ h19
 have hz26 := hg22.size
 try dsimp only at h19
 have hB32 := hb_new hB0 hg4
 have hB33 := hb_new hB32 hg12
 have hB34 := hb_new hB33 hg22
 refine pwD h19 rfl (op_storeN rfl rfl rfl (all_cons rfl (all_cons rfl (all_cons rfl (all_cons rfl (all_cons rfl (all_cons rfl (all_cons rfl (all_cons rfl (all_cons rfl (all_cons (sl_one (hs.below hB34)) all_nil)))))))))) (by kernel_rfl) hk23 rfl) ?_; clear h19
 rintro _ w28 a27 ⟨hk29, hz30, hg31⟩ h27
 have hk29' : Blk w28 N21 60 #[.int .i64 d.k, .int .i64 d.nd, .int .i64 d.n, .int .i64 d.ak, .int .i64 d.an, .string d.ky, .string d.tt, .int .u64 d.at_, .int .i64 d.am, ov] := hk29; clear hk29
 have hz35 := hg31.size
 refine pl_nil ?_
 refine co_then ?_
 refine co_seq ?_
 refine co_seq ?_
 refine co_reg ?_
 refine pk0 (v := pt N3 0) h27 rfl fun a36 h36 => ?_; clear h27
 have hk37 := hk17.kept hg22 (by simp)
 have hk38 := hk37.kept hg31 (by simp; omega)
 refine pk (v := .int .i64 d.k) h36 rfl (rn_load1 rfl rfl Try.isAgg3 (hk38.cell rfl)) fun a39 h39 => ?_; clear h36
 refine pk0 (v := .bool (d.k != 0)) h39 rfl fun a40 h40 => ?_; clear h39
 refine pl_nil ?_
 refine co_then ?_
 have hc41 : (d.k != 0) = false := by first | (simp; done) | (simp; omega) | exact beq_false_of_ne (by omega) | exact beq_iff_eq.2 (by omega)
 rw [hc41] at h40; clear hc41
 refine co_false h40 rfl ?_
 refine wp_skip ?_
 refine co_then ?_
 refine co_seq ?_
 refine co_reg ?_
 refine pk (v := .agg #[.int .i64 d.k, .int .i64 d.nd, .int .i64 d.n, .int .i64 d.ak, .int .i64 d.an, .string d.ky, .string d.tt, .int .u64 d.at_, .int .i64 d.am, ov]) h40 rfl (rn_loadN rfl rfl Try.underlying60 rfl (by kernel_rfl) hk29'.all) fun a42 h42 => ?_; clear h40
 have hB48 := hb_at hB34 hg31 (by omega)
 have hk49 := hk13.kept hg22 (by simp)
 have hk50 := hk49.kept hg31 (by simp; omega)
 refine pwD h42 rfl (op_storeN rfl rfl rfl (all_cons rfl (all_cons rfl (all_cons rfl (all_cons rfl (all_cons rfl (all_cons rfl (all_cons rfl (all_cons rfl (all_cons rfl (all_cons (sl_one (hs.below hB48)) all_nil)))))))))) (by kernel_rfl) hk50 rfl) ?_; clear h42
 rintro _ w44 a43 ⟨hk45, hz46, hg47⟩ h43
 have hk45' : Blk w44 N11 60 #[.int .i64 d.k, .int .i64 d.nd, .int .i64 d.n, .int .i64 d.ak, .int .i64 d.an, .string d.ky, .string d.tt, .int .u64 d.at_, .int .i64 d.am, ov] := hk45; clear hk45
 have hz51 := hg47.size
 refine pl_nil ?_
 refine co_then ?_
 refine wp_ret ?_
 refine co_retC (Q := fun _ _ _ => True) h43 rfl rfl hk45' Try.underlying60 rfl (by kernel_rfl) ?_
 have hB52 := hb_at hB48 hg47 (by omega)
 exact ⟨rfl, hB52⟩
set_option maxRecDepth 100000 in
theorem rclean_n (d : EvD) (ov : Value) (w : World) (hs : SliceOf opE 3 w ov d.ops) (hk : ¬ d.k = 0) :
    Calls Try.prog 24 #[.agg #[.int .i64 d.k, .int .i64 d.nd, .int .i64 d.n, .int .i64 d.ak, .int .i64 d.an, .string d.ky, .string d.tt, .int .u64 d.at_, .int .i64 d.am, ov]] w fun e w' => e = .returned (.agg #[.int .i64 d.k, .int .i64 d.nd, .int .i64 d.n, .int .i64 0, .int .i64 0, .string (⟨#[]⟩), .string (⟨#[]⟩), .int .u64 0, .int .i64 0, .slice none 0 0]) ∧ Below w.heap.size w w' := by
 have hB0 := Below.refl w.heap.size w
 have hl_hs := sl_len hs
 refine co_enter (n := 11) Try.func24 rfl rfl rfl [(0, .agg #[.int .i64 d.k, .int .i64 d.nd, .int .i64 d.n, .int .i64 d.ak, .int .i64 d.an, .string d.ky, .string d.tt, .int .u64 d.at_, .int .i64 d.am, ov])] rfl (fun a h0 => ?_)
 refine co_seq ?_
 refine co_reg ?_
 refine pw h0 rfl (op_new (v := fun N => pt N 0) (T := 60) (cs := #[.int .i64 d.k, .int .i64 d.nd, .int .i64 d.n, .int .i64 d.ak, .int .i64 d.an, .string d.ky, .string d.tt, .int .u64 d.at_, .int .i64 d.am, ov]) (by kernel_rfl) (by kernel_rfl) (by kernel_rfl)) ?_; clear h0
 rintro _ w2 a1 ⟨N3, rfl, hN6, hz7, hk5, hg4⟩ h1
 have hz8 := hg4.size
 try dsimp only at h1
 refine pw h1 rfl (op_new (v := fun N => pt N 0) (T := 60) (cs := #[.int .i64 0, .int .i64 0, .int .i64 0, .int .i64 0, .int .i64 0, .string (⟨#[]⟩), .string (⟨#[]⟩), .int .u64 0, .int .i64 0, .slice none 0 0]) (by kernel_rfl) (by kernel_rfl) (by kernel_rfl)) ?_; clear h1
 rintro _ w10 a9 ⟨N11, rfl, hN14, hz15, hk13, hg12⟩ h9
 have hz16 := hg12.size
 try dsimp only at h9
 refine pl_nil ?_
 refine co_then ?_
 refine co_seq ?_
 refine co_reg ?_
 have hk17 := hk5.kept hg12 (by simp)
 refine pk (v := .agg #[.int .i64 d.k, .int .i64 d.nd, .int .i64 d.n, .int .i64 d.ak, .int .i64 d.an, .string d.ky, .string d.tt, .int .u64 d.at_, .int .i64 d.am, ov]) h9 rfl (rn_loadN rfl rfl Try.underlying60 rfl (by kernel_rfl) hk17.all) fun a18 h18 => ?_; clear h9
 refine pw h18 rfl (op_new (v := fun N => pt N 0) (T := 60) (cs := #[.int .i64 0, .int .i64 0, .int .i64 0, .int .i64 0, .int .i64 0, .string (⟨#[]⟩), .string (⟨#[]⟩), .int .u64 0, .int .i64 0, .slice none 0 0]) (by kernel_rfl) (by kernel_rfl) (by kernel_rfl)) ?_; clear h18
 rintro _ w20 a19 ⟨N21, rfl, hN24, hz25, hk23, hg22⟩ h19
 have hz26 := hg22.size
 try dsimp only at h19
 have hB32 := hb_new hB0 hg4
 have hB33 := hb_new hB32 hg12
 have hB34 := hb_new hB33 hg22
 refine pwD h19 rfl (op_storeN rfl rfl rfl (all_cons rfl (all_cons rfl (all_cons rfl (all_cons rfl (all_cons rfl (all_cons rfl (all_cons rfl (all_cons rfl (all_cons rfl (all_cons (sl_one (hs.below hB34)) all_nil)))))))))) (by kernel_rfl) hk23 rfl) ?_; clear h19
 rintro _ w28 a27 ⟨hk29, hz30, hg31⟩ h27
 have hk29' : Blk w28 N21 60 #[.int .i64 d.k, .int .i64 d.nd, .int .i64 d.n, .int .i64 d.ak, .int .i64 d.an, .string d.ky, .string d.tt, .int .u64 d.at_, .int .i64 d.am, ov] := hk29; clear hk29
 have hz35 := hg31.size
 refine pl_nil ?_
 refine co_then ?_
 refine co_seq ?_
 refine co_seq ?_
 refine co_reg ?_
 refine pk0 (v := pt N3 0) h27 rfl fun a36 h36 => ?_; clear h27
 have hk37 := hk17.kept hg22 (by simp)
 have hk38 := hk37.kept hg31 (by simp; omega)
 refine pk (v := .int .i64 d.k) h36 rfl (rn_load1 rfl rfl Try.isAgg3 (hk38.cell rfl)) fun a39 h39 => ?_; clear h36
 refine pk0 (v := .bool (d.k != 0)) h39 rfl fun a40 h40 => ?_; clear h39
 refine pl_nil ?_
 refine co_then ?_
 have hc41 : (d.k != 0) = true := by first | (simp; done) | (simp; omega) | exact beq_false_of_ne (by omega) | exact beq_iff_eq.2 (by omega)
 rw [hc41] at h40; clear hc41
 refine co_true h40 rfl ?_
 refine co_reg ?_
 refine pk0 (v := .agg #[.int .i64 0, .int .i64 0, .string (⟨#[]⟩), .string (⟨#[]⟩), .int .u64 0, .int .i64 0, .slice none 0 0]) h40 rfl fun a42 h42 => ?_; clear h40
 refine pk0 (v := pt N21 3) h42 rfl fun a43 h43 => ?_; clear h42
 refine pwD h43 rfl (op_storePart (k := 3) (cs' := #[.int .i64 d.k, .int .i64 d.nd, .int .i64 d.n, .int .i64 0, .int .i64 0, .string (⟨#[]⟩), .string (⟨#[]⟩), .int .u64 0, .int .i64 0, .slice none 0 0]) rfl rfl rfl (all_cons rfl (all_cons rfl (all_cons rfl (all_cons rfl (all_cons rfl (all_cons rfl (all_cons rfl all_nil))))))) (by kernel_rfl) hk29' rfl rfl) ?_; clear h43
 rintro _ w45 a44 ⟨hk46, hz47, hg48⟩ h44
 have hk46' : Blk w45 N21 60 #[.int .i64 d.k, .int .i64 d.nd, .int .i64 d.n, .int .i64 0, .int .i64 0, .string (⟨#[]⟩), .string (⟨#[]⟩), .int .u64 0, .int .i64 0, .slice none 0 0] := hk46; clear hk46
 have hz49 := hg48.size
 refine pl_nil ?_
 refine co_then ?_
 refine co_seq ?_
 refine co_reg ?_
 refine pk (v := .agg #[.int .i64 d.k, .int .i64 d.nd, .int .i64 d.n, .int .i64 0, .int .i64 0, .string (⟨#[]⟩), .string (⟨#[]⟩), .int .u64 0, .int .i64 0, .slice none 0 0]) h44 rfl (rn_loadN rfl rfl Try.underlying60 rfl (by kernel_rfl) hk46'.all) fun a50 h50 => ?_; clear h44
 have hk56 := hk13.kept hg22 (by simp)
 have hk57 := hk56.kept hg31 (by simp; omega)
 have hk58 := hk57.kept hg48 (by simp; omega)
 refine pwD h50 rfl (op_storeN rfl rfl rfl (all_cons rfl (all_cons rfl (all_cons rfl (all_cons rfl (all_cons rfl (all_cons rfl (all_cons rfl (all_cons rfl (all_cons rfl (all_cons rfl all_nil)))))))))) (by kernel_rfl) hk58 rfl) ?_; clear h50
 rintro _ w52 a51 ⟨hk53, hz54, hg55⟩ h51
 have hk53' : Blk w52 N11 60 #[.int .i64 d.k, .int .i64 d.nd, .int .i64 d.n, .int .i64 0, .int .i64 0, .string (⟨#[]⟩), .string (⟨#[]⟩), .int .u64 0, .int .i64 0, .slice none 0 0] := hk53; clear hk53
 have hz59 := hg55.size
 refine pl_nil ?_
 refine co_then ?_
 refine wp_ret ?_
 refine co_retC (Q := fun _ _ _ => True) h51 rfl rfl hk53' Try.underlying60 rfl (by kernel_rfl) ?_
 have hB60 := hb_at hB34 hg31 (by omega)
 have hB61 := hb_at hB60 hg48 (by omega)
 have hB62 := hb_at hB61 hg55 (by omega)
 exact ⟨rfl, hB62⟩

theorem scl_any (d : EvD) (ov : Value) (w : World) (hs : SliceOf opE 3 w ov d.ops) (hl : d.ops.length ≤ 100) :
    Calls Try.prog 23 #[.agg (evV d ov)] w fun e w' => ∃ u : Value, e = .returned (.agg (evV (cleanE d) u)) ∧ w'.ownsRow w.heap.size 66 3 u (cleanE d).ops.length ((cleanE d).ops.flatMap opE) ∧ Below w.heap.size w w' := by
  by_cases hk : d.k = 0
  · rw [show cleanE d = d from if_pos hk]; exact clean_y d ov w hs hl hk
  · rw [show cleanE d = zeD d.k d.nd d.n from if_neg hk]; exact clean_n d ov w hs hk
theorem rcl_any (d : EvD) (ov : Value) (w : World) (hs : SliceOf opE 3 w ov d.ops) :
    Calls Try.prog 24 #[.agg (evV d ov)] w fun e w' => ∃ u : Value, e = .returned (.agg (evV (cleanE d) u)) ∧ SliceOf opE 3 w' u (cleanE d).ops ∧ Below w.heap.size w w' := by
  by_cases hk : d.k = 0
  · rw [show cleanE d = d from if_pos hk]; exact (rclean_y d ov w hs hk).mono fun e w' ⟨h1, h2⟩ => ⟨ov, h1, hs.below h2, h2⟩
  · rw [show cleanE d = zeD d.k d.nd d.n from if_neg hk]; exact (rclean_n d ov w hs hk).mono fun e w' ⟨h1, h2⟩ => ⟨.slice none 0 0, h1, SliceOf.nil _ _ _, h2⟩

end Go.Proofs.Ytdgboikkgeioeaa

/- The document's Of. Conditions: texts of at most 1000000 bytes. -/
namespace Go.Proofs.Ytdgboikkgeioeaa
open Go.RowKit Go.Shelf
set_option linter.unusedVariables false
set_option linter.unusedSimpArgs false

/-- What the loop keeps: a list, each step's operations. -/
def IR (B : Nat) (pre : List ByteArray) (v : Value) (X : World) : Prop := ∃ us : List EvX, us.map EvX.d = pre.filterMap evR ∧ X.ownsRow B 60 10 v us.length (us.flatMap evE) ∧ ∀ z ∈ us, X.ownsRow B 66 3 z.ov z.d.ops.length (z.d.ops.flatMap opE)
theorem IR.below {B : Nat} {pre : List ByteArray} {v : Value} {X Y : World} (h : IR B pre v X) (hb : Below X.heap.size X Y) : IR B pre v Y := by
  obtain ⟨us, h1, h2, h3⟩ := h
  exact ⟨us, h1, h2.kept (below_grown hb) (by cases v.ownBlock <;> simp), fun z hz => (h3 z hz).kept (below_grown hb) (by cases z.ov.ownBlock <;> simp)⟩
end Go.Proofs.Ytdgboikkgeioeaa

/- The document's Same of two lists of steps that read alike. Conditions: none. -/
namespace Go.Proofs.Ytdgboikkgeioeaa
open Go.RowKit Go.PlainAid
set_option linter.unusedVariables false
set_option linter.unusedSimpArgs false


structure EvSl (w : World) (x : EvX) : Prop where
  sl : SliceOf opE 3 w x.ov x.d.ops
theorem EvSl.below {w w' : World} {x : EvX} (h : EvSl w x) (hb : Below w.heap.size w w') : EvSl w' x := ⟨h.sl.below hb⟩
theorem eqLen {l l2 : List EvX} (h : l.map EvX.d = l2.map EvX.d) : l.length = l2.length := by have := congrArg List.length h; simpa using this
theorem eqD {l l2 : List EvX} {i : Nat} {y : EvX} {zd : EvD} {zo : Value} (h : l.map EvX.d = l2.map EvX.d) (h1 : l[i]? = some y) (h2 : l2[i]? = some ⟨zd, zo⟩) : zd = y.d := by
  have := congrArg (fun q => q[i]?) h
  simp only [List.getElem?_map, h1, h2, Option.map_some] at this
  exact (Option.some.inj this).symm

set_option maxRecDepth 100000 in
set_option maxHeartbeats 1600000 in
theorem sameEv_any (v : Value) (l : List EvX) (v2 : Value) (l2 : List EvX) (w : World) (hs : SliceOf evE 10 w v l) (hok : ∀ z ∈ l, EvSl w z) (hs2 : SliceOf evE 10 w v2 l2) (hok2 : ∀ z ∈ l2, EvSl w z) (heq : l.map EvX.d = l2.map EvX.d) :
    Calls Try.prog 20 #[v, v2] w fun e w' => e = .returned (.bool true) ∧ Below w.heap.size w w' := by
 have hll := eqLen heq
 have hB0 := Below.refl w.heap.size w
 have hl_hs := sl_len hs
 have hl_hs2 := sl_len hs2
 refine co_enter (n := 149) Try.func20 rfl rfl rfl [(0, v), (1, v2)] rfl (fun a h0 => ?_)
 refine co_seq ?_
 refine co_reg ?_
 refine pk0 (v := .bool false) h0 rfl fun a1 h1 => ?_; clear h0
 refine pl_nil ?_
 refine co_then ?_
 refine co_seq ?_
 refine co_seq ?_
 refine co_reg ?_
 refine pk0 (v := v) h1 rfl fun a2 h2 => ?_; clear h1
 refine pk (v := .int .i64 ((l.length : Nat) : Int)) h2 rfl (rn_len rfl rfl Try.underlying50 hs) fun a3 h3 => ?_; clear h2
 refine pk0 (v := v2) h3 rfl fun a4 h4 => ?_; clear h3
 refine pk (v := .int .i64 ((l2.length : Nat) : Int)) h4 rfl (rn_len rfl rfl Try.underlying50 hs2) fun a5 h5 => ?_; clear h4
 refine pk0 (v := .bool (((l.length : Nat) : Int) != ((l2.length : Nat) : Int))) h5 rfl fun a6 h6 => ?_; clear h5
 refine pl_nil ?_
 refine co_then ?_
 have hc7 : (((l.length : Nat) : Int) != ((l2.length : Nat) : Int)) = false := by first | (simp; done) | (simp; omega) | exact beq_false_of_ne (by omega) | exact beq_iff_eq.2 (by omega)
 rw [hc7] at h6; clear hc7
 refine co_false h6 rfl ?_
 refine wp_skip ?_
 refine co_then ?_
 refine co_seq ?_
 refine co_seq ?_
 refine co_reg ?_
 refine pk0 (v := .int .i64 0) h6 rfl fun a8 h8 => ?_; clear h6
 refine pl_nil ?_
 refine co_then ?_
 refine wp_block ?_
 have h9 : Slots 149 [(0, v), (1, v2), (5, .int .i64 0)] _ := h8.sub ⟨rfl, rfl, rfl, trivial⟩; clear h8
 refine co_loop (fun mm a x => ∃ (i : Nat), Slots 149 [(0, v), (1, v2), (5, .int .i64 ((i : Nat) : Int))] a ∧ mm = l.length - i ∧ (i ≤ l.length) ∧ Below w.heap.size w x) (l.length - 0) ?_ ?_
 · exact ⟨0, h9.sub ⟨rfl, rfl, (slot_eq rfl (congrArg (Value.int .i64) (by first | rfl | omega))), trivial⟩, rfl, by omega, hB0⟩
 · rintro k10 a11 w12 ⟨i, h11, rfl, hi13, hB14⟩
   have hz15 := hB14.size
   refine co_seq ?_
   refine co_seq ?_
   refine co_reg ?_
   refine pk0 (v := .int .i64 ((i : Nat) : Int)) h11 rfl fun a16 h16 => ?_; clear h11
   refine pk0 (v := v) h16 rfl fun a17 h17 => ?_; clear h16
   refine pk (v := .int .i64 ((l.length : Nat) : Int)) h17 rfl (rn_len rfl rfl Try.underlying50 (hs.below hB14)) fun a18 h18 => ?_; clear h17
   refine pk0 (v := .bool (decide (((i : Nat) : Int) < ((l.length : Nat) : Int)))) h18 rfl fun a19 h19 => ?_; clear h18
   refine pk0 (v := .bool (decide (((i : Nat) : Int) < ((l.length : Nat) : Int)))) h19 rfl fun a20 h20 => ?_; clear h19
   cases hc21 : (decide (((i : Nat) : Int) < ((l.length : Nat) : Int)))
   ·
    rw [hc21] at h20
    have hp22 : ¬ (((i : Nat) : Int) < ((l.length : Nat) : Int)) := of_decide_eq_false hc21
    clear hc21
    refine psk h20 rfl fun a23 h23 => ?_; clear h20
    refine psk h23 rfl fun a24 h24 => ?_; clear h23
    refine psk h24 rfl fun a25 h25 => ?_; clear h24
    refine psk h25 rfl fun a26 h26 => ?_; clear h25
    refine pk0 (v := .bool false) h26 rfl fun a27 h27 => ?_; clear h26
    refine pl_nil ?_
    refine co_then ?_
    refine co_false h27 rfl ?_
    refine wp_exit ?_
    refine co_thenX ?_
    refine co_thenX ?_
    refine co_blockX ?_
    refine co_then ?_
    refine co_seq ?_
    refine co_reg ?_
    refine pk0 (v := .bool true) h27 rfl fun a28 h28 => ?_; clear h27
    refine pl_nil ?_
    refine co_then ?_
    refine wp_ret ?_
    refine co_ret1 h28 rfl rfl ?_
    exact ⟨rfl, hB14⟩
   ·
    rw [hc21] at h20
    have hp29 : ((i : Nat) : Int) < ((l.length : Nat) : Int) := of_decide_eq_true hc21
    clear hc21
    refine pk0 (v := .int .i64 ((i : Nat) : Int)) h20 rfl fun a30 h30 => ?_; clear h20
    refine pk0 (v := v2) h30 rfl fun a31 h31 => ?_; clear h30
    refine pk (v := .int .i64 ((l2.length : Nat) : Int)) h31 rfl (rn_len rfl rfl Try.underlying50 (hs2.below hB14)) fun a32 h32 => ?_; clear h31
    refine pk0 (v := .bool (decide (((i : Nat) : Int) < ((l2.length : Nat) : Int)))) h32 rfl fun a33 h33 => ?_; clear h32
    refine pk0 (v := .bool (decide (((i : Nat) : Int) < ((l2.length : Nat) : Int)))) h33 rfl fun a34 h34 => ?_; clear h33
    refine pl_nil ?_
    refine co_then ?_
    have hc35 : (decide (((i : Nat) : Int) < ((l2.length : Nat) : Int))) = true := decide_eq_true (by omega)
    rw [hc35] at h34; clear hc35
    refine co_true h34 rfl ?_
    refine wp_skip ?_
    refine co_then ?_
    refine co_seq ?_
    refine wp_block ?_
    refine co_seq ?_
    refine co_reg ?_
    refine pk0 (v := v) h34 rfl fun a36 h36 => ?_; clear h34
    refine pk0 (v := .int .i64 ((i : Nat) : Int)) h36 rfl fun a37 h37 => ?_; clear h36
    obtain ⟨y38, hy38⟩ : ∃ z, l[i]? = some z := ⟨_, List.getElem?_eq_getElem (by first | omega | (simp; done) | (simp; omega))⟩
    have oky38 := hok _ (List.mem_of_getElem? hy38)
    have hlny38 := sl_len oky38.sl
    refine pk (v := pt (blkOf v) (offOf v + i * 10)) h37 rfl (rn_index rfl rfl rfl Try.underlying50 Try.sizeOf60 (hs.below hB14) (by omega) (by first | omega | (simp; done) | (simp; omega))) fun a39 h39 => ?_; clear h37
    refine pk0 (v := pt (blkOf v) (offOf v + i * 10 + 3)) h39 rfl fun a40 h40 => ?_; clear h39
    refine pk (v := .agg #[.int .i64 y38.d.ak, .int .i64 y38.d.an, .string y38.d.ky, .string y38.d.tt, .int .u64 y38.d.at_, .int .i64 y38.d.am, y38.ov]) h40 rfl (rn_loadN rfl rfl Try.underlying35 rfl (by kernel_rfl) (range_part (sl_at (hs.below hB14) hy38) 3 _ (by rfl))) fun a41 h41 => ?_; clear h40
    refine pw h41 rfl (op_new (v := fun N => pt N 0) (T := 35) (cs := #[.int .i64 0, .int .i64 0, .string (⟨#[]⟩), .string (⟨#[]⟩), .int .u64 0, .int .i64 0, .slice none 0 0]) (by kernel_rfl) (by kernel_rfl) (by kernel_rfl)) ?_; clear h41
    rintro _ w43 a42 ⟨N44, rfl, hN47, hz48, hk46, hg45⟩ h42
    have hz49 := hg45.size
    try dsimp only at h42
    have hB55 := hb_new hB14 hg45
    refine pwD h42 rfl (op_storeN rfl rfl rfl (all_cons rfl (all_cons rfl (all_cons rfl (all_cons rfl (all_cons rfl (all_cons rfl (all_cons (sl_one (oky38.sl.below hB55)) all_nil))))))) (by kernel_rfl) hk46 rfl) ?_; clear h42
    rintro _ w51 a50 ⟨hk52, hz53, hg54⟩ h50
    have hk52' : Blk w51 N44 35 #[.int .i64 y38.d.ak, .int .i64 y38.d.an, .string y38.d.ky, .string y38.d.tt, .int .u64 y38.d.at_, .int .i64 y38.d.am, y38.ov] := hk52; clear hk52
    have hz56 := hg54.size
    refine pl_nil ?_
    refine co_then ?_
    refine co_seq ?_
    refine co_reg ?_
    refine pk0 (v := v2) h50 rfl fun a57 h57 => ?_; clear h50
    refine pk0 (v := .int .i64 ((i : Nat) : Int)) h57 rfl fun a58 h58 => ?_; clear h57
    have hB62 := hb_at hB55 hg54 (by omega)
    obtain ⟨y59, hy59⟩ : ∃ z, l2[i]? = some z := ⟨_, List.getElem?_eq_getElem (by first | omega | (simp; done) | (simp; omega))⟩
    have oky59 := hok2 _ (List.mem_of_getElem? hy59)
    obtain ⟨zd60, zo61⟩ := y59
    obtain rfl : zd60 = y38.d := eqD heq hy38 hy59
    refine pk (v := pt (blkOf v2) (offOf v2 + i * 10)) h58 rfl (rn_index rfl rfl rfl Try.underlying50 Try.sizeOf60 (hs2.below hB62) (by omega) (by first | omega | (simp; done) | (simp; omega))) fun a63 h63 => ?_; clear h58
    refine pk0 (v := pt (blkOf v2) (offOf v2 + i * 10 + 3)) h63 rfl fun a64 h64 => ?_; clear h63
    refine pk (v := .agg #[.int .i64 y38.d.ak, .int .i64 y38.d.an, .string y38.d.ky, .string y38.d.tt, .int .u64 y38.d.at_, .int .i64 y38.d.am, zo61]) h64 rfl (rn_loadN rfl rfl Try.underlying35 rfl (by kernel_rfl) (range_part (sl_at (hs2.below hB62) hy59) 3 _ (by rfl))) fun a65 h65 => ?_; clear h64
    refine pw h65 rfl (op_new (v := fun N => pt N 0) (T := 35) (cs := #[.int .i64 0, .int .i64 0, .string (⟨#[]⟩), .string (⟨#[]⟩), .int .u64 0, .int .i64 0, .slice none 0 0]) (by kernel_rfl) (by kernel_rfl) (by kernel_rfl)) ?_; clear h65
    rintro _ w67 a66 ⟨N68, rfl, hN71, hz72, hk70, hg69⟩ h66
    have hz73 := hg69.size
    try dsimp only at h66
    have hB79 := hb_new hB62 hg69
    refine pwD h66 rfl (op_storeN rfl rfl rfl (all_cons rfl (all_cons rfl (all_cons rfl (all_cons rfl (all_cons rfl (all_cons rfl (all_cons (sl_one (oky59.sl.below hB79)) all_nil))))))) (by kernel_rfl) hk70 rfl) ?_; clear h66
    rintro _ w75 a74 ⟨hk76, hz77, hg78⟩ h74
    have hk76' : Blk w75 N68 35 #[.int .i64 y38.d.ak, .int .i64 y38.d.an, .string y38.d.ky, .string y38.d.tt, .int .u64 y38.d.at_, .int .i64 y38.d.am, zo61] := hk76; clear hk76
    have hz80 := hg78.size
    refine pl_nil ?_
    refine co_then ?_
    refine co_seq ?_
    refine co_seq ?_
    simp only [List.append_eq, List.cons_append, List.nil_append]
    refine dr_eq (by kernel_rfl) (fun w81 hg82 => ?_)
    have hz83 := hg82.size
    refine dk0 0 (v := v) h74 rfl rfl rfl fun a84 h84 => ?_; clear h74
    refine dk0 1 (v := .int .i64 ((i : Nat) : Int)) h84 rfl rfl rfl fun a85 h85 => ?_; clear h84
    have hB86 := hb_at hB79 hg78 (by omega)
    have hB87 := hb_new hB86 hg82
    refine dk 2 (v := pt (blkOf v) (offOf v + i * 10)) h85 rfl rfl rfl (fun x hx => by subst hx; exact (rn_index rfl rfl rfl Try.underlying50 Try.sizeOf60 (hs.below hB87) (by omega) (by first | omega | (simp; done) | (simp; omega)))) fun a88 h88 => ?_; clear h85
    refine dk0 3 (v := pt (blkOf v) (offOf v + i * 10)) h88 rfl rfl rfl fun a89 h89 => ?_; clear h88
    refine dk 4 (v := .int .i64 y38.d.k) h89 rfl rfl rfl (fun x hx => by subst hx; exact (rn_load1 rfl rfl Try.isAgg3 ((sl_at (hs.below hB87) hy38) 0 _ rfl))) fun a90 h90 => ?_; clear h89
    refine dk0 5 (v := v2) h90 rfl rfl rfl fun a91 h91 => ?_; clear h90
    refine dk0 6 (v := .int .i64 ((i : Nat) : Int)) h91 rfl rfl rfl fun a92 h92 => ?_; clear h91
    refine dk 7 (v := pt (blkOf v2) (offOf v2 + i * 10)) h92 rfl rfl rfl (fun x hx => by subst hx; exact (rn_index rfl rfl rfl Try.underlying50 Try.sizeOf60 (hs2.below hB87) (by omega) (by first | omega | (simp; done) | (simp; omega)))) fun a93 h93 => ?_; clear h92
    refine dk0 8 (v := pt (blkOf v2) (offOf v2 + i * 10)) h93 rfl rfl rfl fun a94 h94 => ?_; clear h93
    refine dk 9 (v := .int .i64 y38.d.k) h94 rfl rfl rfl (fun x hx => by subst hx; exact (rn_load1 rfl rfl Try.isAgg3 ((sl_at (hs2.below hB87) hy59) 0 _ rfl))) fun a95 h95 => ?_; clear h94
    refine dk0 10 (v := .bool (y38.d.k != y38.d.k)) h95 rfl rfl rfl fun a96 h96 => ?_; clear h95
    refine dk0 11 (v := .bool (y38.d.k != y38.d.k)) h96 rfl rfl rfl fun a97 h97 => ?_; clear h96
    have hc98 : (y38.d.k != y38.d.k) = false := by simp
    rw [hc98] at h97; clear hc98
    refine dk0 12 (v := v) h97 rfl rfl rfl fun a99 h99 => ?_; clear h97
    refine dk0 13 (v := .int .i64 ((i : Nat) : Int)) h99 rfl rfl rfl fun a100 h100 => ?_; clear h99
    refine dk 14 (v := pt (blkOf v) (offOf v + i * 10)) h100 rfl rfl rfl (fun x hx => by subst hx; exact (rn_index rfl rfl rfl Try.underlying50 Try.sizeOf60 (hs.below hB87) (by omega) (by first | omega | (simp; done) | (simp; omega)))) fun a101 h101 => ?_; clear h100
    refine dk0 15 (v := pt (blkOf v) (offOf v + i * 10 + 1)) h101 rfl rfl rfl fun a102 h102 => ?_; clear h101
    refine dk 16 (v := .int .i64 y38.d.nd) h102 rfl rfl rfl (fun x hx => by subst hx; exact (rn_load1 rfl rfl Try.isAgg3 ((sl_at (hs.below hB87) hy38) 1 _ rfl))) fun a103 h103 => ?_; clear h102
    refine dk0 17 (v := v2) h103 rfl rfl rfl fun a104 h104 => ?_; clear h103
    refine dk0 18 (v := .int .i64 ((i : Nat) : Int)) h104 rfl rfl rfl fun a105 h105 => ?_; clear h104
    refine dk 19 (v := pt (blkOf v2) (offOf v2 + i * 10)) h105 rfl rfl rfl (fun x hx => by subst hx; exact (rn_index rfl rfl rfl Try.underlying50 Try.sizeOf60 (hs2.below hB87) (by omega) (by first | omega | (simp; done) | (simp; omega)))) fun a106 h106 => ?_; clear h105
    refine dk0 20 (v := pt (blkOf v2) (offOf v2 + i * 10 + 1)) h106 rfl rfl rfl fun a107 h107 => ?_; clear h106
    refine dk 21 (v := .int .i64 y38.d.nd) h107 rfl rfl rfl (fun x hx => by subst hx; exact (rn_load1 rfl rfl Try.isAgg3 ((sl_at (hs2.below hB87) hy59) 1 _ rfl))) fun a108 h108 => ?_; clear h107
    refine dk0 22 (v := .bool (y38.d.nd != y38.d.nd)) h108 rfl rfl rfl fun a109 h109 => ?_; clear h108
    refine dk0 23 (v := .bool (y38.d.nd != y38.d.nd)) h109 rfl rfl rfl fun a110 h110 => ?_; clear h109
    refine dk0 24 (v := .bool (y38.d.nd != y38.d.nd)) h110 rfl rfl rfl fun a111 h111 => ?_; clear h110
    have hc112 : (y38.d.nd != y38.d.nd) = false := by simp
    rw [hc112] at h111; clear hc112
    refine dk0 25 (v := v) h111 rfl rfl rfl fun a113 h113 => ?_; clear h111
    refine dk0 26 (v := .int .i64 ((i : Nat) : Int)) h113 rfl rfl rfl fun a114 h114 => ?_; clear h113
    refine dk 27 (v := pt (blkOf v) (offOf v + i * 10)) h114 rfl rfl rfl (fun x hx => by subst hx; exact (rn_index rfl rfl rfl Try.underlying50 Try.sizeOf60 (hs.below hB87) (by omega) (by first | omega | (simp; done) | (simp; omega)))) fun a115 h115 => ?_; clear h114
    refine dk0 28 (v := pt (blkOf v) (offOf v + i * 10 + 2)) h115 rfl rfl rfl fun a116 h116 => ?_; clear h115
    refine dk 29 (v := .int .i64 y38.d.n) h116 rfl rfl rfl (fun x hx => by subst hx; exact (rn_load1 rfl rfl Try.isAgg3 ((sl_at (hs.below hB87) hy38) 2 _ rfl))) fun a117 h117 => ?_; clear h116
    refine dk0 30 (v := v2) h117 rfl rfl rfl fun a118 h118 => ?_; clear h117
    refine dk0 31 (v := .int .i64 ((i : Nat) : Int)) h118 rfl rfl rfl fun a119 h119 => ?_; clear h118
    refine dk 32 (v := pt (blkOf v2) (offOf v2 + i * 10)) h119 rfl rfl rfl (fun x hx => by subst hx; exact (rn_index rfl rfl rfl Try.underlying50 Try.sizeOf60 (hs2.below hB87) (by omega) (by first | omega | (simp; done) | (simp; omega)))) fun a120 h120 => ?_; clear h119
    refine dk0 33 (v := pt (blkOf v2) (offOf v2 + i * 10 + 2)) h120 rfl rfl rfl fun a121 h121 => ?_; clear h120
    refine dk 34 (v := .int .i64 y38.d.n) h121 rfl rfl rfl (fun x hx => by subst hx; exact (rn_load1 rfl rfl Try.isAgg3 ((sl_at (hs2.below hB87) hy59) 2 _ rfl))) fun a122 h122 => ?_; clear h121
    refine dk0 35 (v := .bool (y38.d.n != y38.d.n)) h122 rfl rfl rfl fun a123 h123 => ?_; clear h122
    refine dk0 36 (v := .bool (y38.d.n != y38.d.n)) h123 rfl rfl rfl fun a124 h124 => ?_; clear h123
    refine dk0 37 (v := .bool (y38.d.n != y38.d.n)) h124 rfl rfl rfl fun a125 h125 => ?_; clear h124
    have hc126 : (y38.d.n != y38.d.n) = false := by simp
    rw [hc126] at h125; clear hc126
    refine dk0 38 (v := pt N44 0) h125 rfl rfl rfl fun a127 h127 => ?_; clear h125
    have hk128 := hk52'.kept hg69 (by simp)
    have hk129 := hk128.kept hg78 (by simp; omega)
    have hk130 := hk129.kept hg82 (by simp)
    refine dk 39 (v := .int .i64 y38.d.ak) h127 rfl rfl rfl (fun x hx => by subst hx; exact (rn_load1 rfl rfl Try.isAgg3 (hk130.cell rfl))) fun a131 h131 => ?_; clear h127
    refine dk0 40 (v := pt N68 0) h131 rfl rfl rfl fun a132 h132 => ?_; clear h131
    have hk133 := hk76'.kept hg82 (by simp)
    refine dk 41 (v := .int .i64 y38.d.ak) h132 rfl rfl rfl (fun x hx => by subst hx; exact (rn_load1 rfl rfl Try.isAgg3 (hk133.cell rfl))) fun a134 h134 => ?_; clear h132
    refine dk0 42 (v := .bool (y38.d.ak != y38.d.ak)) h134 rfl rfl rfl fun a135 h135 => ?_; clear h134
    refine dk0 43 (v := .bool (y38.d.ak != y38.d.ak)) h135 rfl rfl rfl fun a136 h136 => ?_; clear h135
    refine dk0 44 (v := .bool (y38.d.ak != y38.d.ak)) h136 rfl rfl rfl fun a137 h137 => ?_; clear h136
    have hc138 : (y38.d.ak != y38.d.ak) = false := by simp
    rw [hc138] at h137; clear hc138
    refine dk0 45 (v := pt N44 1) h137 rfl rfl rfl fun a139 h139 => ?_; clear h137
    refine dk 46 (v := .int .i64 y38.d.an) h139 rfl rfl rfl (fun x hx => by subst hx; exact (rn_load1 rfl rfl Try.isAgg3 (hk130.cell rfl))) fun a140 h140 => ?_; clear h139
    refine dk0 47 (v := pt N68 1) h140 rfl rfl rfl fun a141 h141 => ?_; clear h140
    refine dk 48 (v := .int .i64 y38.d.an) h141 rfl rfl rfl (fun x hx => by subst hx; exact (rn_load1 rfl rfl Try.isAgg3 (hk133.cell rfl))) fun a142 h142 => ?_; clear h141
    refine dk0 49 (v := .bool (y38.d.an != y38.d.an)) h142 rfl rfl rfl fun a143 h143 => ?_; clear h142
    refine dk0 50 (v := .bool (y38.d.an != y38.d.an)) h143 rfl rfl rfl fun a144 h144 => ?_; clear h143
    refine dk0 51 (v := .bool (y38.d.an != y38.d.an)) h144 rfl rfl rfl fun a145 h145 => ?_; clear h144
    have hc146 : (y38.d.an != y38.d.an) = false := by simp
    rw [hc146] at h145; clear hc146
    refine dk0 52 (v := pt N44 5) h145 rfl rfl rfl fun a147 h147 => ?_; clear h145
    refine dk 53 (v := .int .i64 y38.d.am) h147 rfl rfl rfl (fun x hx => by subst hx; exact (rn_load1 rfl rfl Try.isAgg3 (hk130.cell rfl))) fun a148 h148 => ?_; clear h147
    refine dk0 54 (v := pt N68 5) h148 rfl rfl rfl fun a149 h149 => ?_; clear h148
    refine dk 55 (v := .int .i64 y38.d.am) h149 rfl rfl rfl (fun x hx => by subst hx; exact (rn_load1 rfl rfl Try.isAgg3 (hk133.cell rfl))) fun a150 h150 => ?_; clear h149
    refine dk0 56 (v := .bool (y38.d.am != y38.d.am)) h150 rfl rfl rfl fun a151 h151 => ?_; clear h150
    refine dk0 57 (v := .bool (y38.d.am != y38.d.am)) h151 rfl rfl rfl fun a152 h152 => ?_; clear h151
    refine dk0 58 (v := .bool (y38.d.am != y38.d.am)) h152 rfl rfl rfl fun a153 h153 => ?_; clear h152
    have hc154 : (y38.d.am != y38.d.am) = false := by simp
    rw [hc154] at h153; clear hc154
    refine dk0 59 (v := pt N44 4) h153 rfl rfl rfl fun a155 h155 => ?_; clear h153
    refine dk 60 (v := .int .u64 y38.d.at_) h155 rfl rfl rfl (fun x hx => by subst hx; exact (rn_load1 rfl rfl Try.isAgg23 (hk130.cell rfl))) fun a156 h156 => ?_; clear h155
    refine dk0 61 (v := pt N68 4) h156 rfl rfl rfl fun a157 h157 => ?_; clear h156
    refine dk 62 (v := .int .u64 y38.d.at_) h157 rfl rfl rfl (fun x hx => by subst hx; exact (rn_load1 rfl rfl Try.isAgg23 (hk133.cell rfl))) fun a158 h158 => ?_; clear h157
    refine dk0 63 (v := .bool (y38.d.at_ != y38.d.at_)) h158 rfl rfl rfl fun a159 h159 => ?_; clear h158
    refine dk0 64 (v := .bool (y38.d.at_ != y38.d.at_)) h159 rfl rfl rfl fun a160 h160 => ?_; clear h159
    refine dk0 65 (v := .bool (y38.d.at_ != y38.d.at_)) h160 rfl rfl rfl fun a161 h161 => ?_; clear h160
    have hc162 : (y38.d.at_ != y38.d.at_) = false := by simp
    rw [hc162] at h161; clear hc162
    refine dk0 66 (v := pt N44 2) h161 rfl rfl rfl fun a163 h163 => ?_; clear h161
    refine dk 67 (v := .string y38.d.ky) h163 rfl rfl rfl (fun x hx => by subst hx; exact (rn_load1 rfl rfl Try.isAgg9 (hk130.cell rfl))) fun a164 h164 => ?_; clear h163
    refine dk0 68 (v := pt N68 2) h164 rfl rfl rfl fun a165 h165 => ?_; clear h164
    refine dk 69 (v := .string y38.d.ky) h165 rfl rfl rfl (fun x hx => by subst hx; exact (rn_load1 rfl rfl Try.isAgg9 (hk133.cell rfl))) fun a166 h166 => ?_; clear h165
    refine dk0 70 (v := .bool (!(y38.d.ky.toList == y38.d.ky.toList))) h166 rfl rfl rfl fun a167 h167 => ?_; clear h166
    refine dk0 71 (v := .bool (!(y38.d.ky.toList == y38.d.ky.toList))) h167 rfl rfl rfl fun a168 h168 => ?_; clear h167
    refine dk0 72 (v := .bool (!(y38.d.ky.toList == y38.d.ky.toList))) h168 rfl rfl rfl fun a169 h169 => ?_; clear h168
    have hc170 : (!(y38.d.ky.toList == y38.d.ky.toList)) = false := by simp
    rw [hc170] at h169; clear hc170
    refine dk0 73 (v := pt N44 3) h169 rfl rfl rfl fun a171 h171 => ?_; clear h169
    refine dk 74 (v := .string y38.d.tt) h171 rfl rfl rfl (fun x hx => by subst hx; exact (rn_load1 rfl rfl Try.isAgg9 (hk130.cell rfl))) fun a172 h172 => ?_; clear h171
    refine dk0 75 (v := pt N68 3) h172 rfl rfl rfl fun a173 h173 => ?_; clear h172
    refine dk 76 (v := .string y38.d.tt) h173 rfl rfl rfl (fun x hx => by subst hx; exact (rn_load1 rfl rfl Try.isAgg9 (hk133.cell rfl))) fun a174 h174 => ?_; clear h173
    refine dk0 77 (v := .bool (!(y38.d.tt.toList == y38.d.tt.toList))) h174 rfl rfl rfl fun a175 h175 => ?_; clear h174
    refine dk0 78 (v := .bool (!(y38.d.tt.toList == y38.d.tt.toList))) h175 rfl rfl rfl fun a176 h176 => ?_; clear h175
    refine dk0 79 (v := .bool (!(y38.d.tt.toList == y38.d.tt.toList))) h176 rfl rfl rfl fun a177 h177 => ?_; clear h176
    have hc178 : (!(y38.d.tt.toList == y38.d.tt.toList)) = false := by simp
    rw [hc178] at h177; clear hc178
    refine dk0 80 (v := pt N44 6) h177 rfl rfl rfl fun a179 h179 => ?_; clear h177
    refine dk 81 (v := y38.ov) h179 rfl rfl rfl (fun x hx => by subst hx; exact (rn_load1 rfl rfl Try.isAgg24 (hk130.cell rfl))) fun a180 h180 => ?_; clear h179
    refine dk 82 (v := .int .i64 ((y38.d.ops.length : Nat) : Int)) h180 rfl rfl rfl (fun x hx => by subst hx; exact (rn_len rfl rfl Try.underlying24 (oky38.sl.below hB87))) fun a181 h181 => ?_; clear h180
    refine dk0 83 (v := pt N68 6) h181 rfl rfl rfl fun a182 h182 => ?_; clear h181
    refine dk 84 (v := zo61) h182 rfl rfl rfl (fun x hx => by subst hx; exact (rn_load1 rfl rfl Try.isAgg24 (hk133.cell rfl))) fun a183 h183 => ?_; clear h182
    refine dk 85 (v := .int .i64 ((y38.d.ops.length : Nat) : Int)) h183 rfl rfl rfl (fun x hx => by subst hx; exact (rn_len rfl rfl Try.underlying24 (oky59.sl.below hB87))) fun a184 h184 => ?_; clear h183
    refine dk0 86 (v := .bool (((y38.d.ops.length : Nat) : Int) != ((y38.d.ops.length : Nat) : Int))) h184 rfl rfl rfl fun a185 h185 => ?_; clear h184
    refine dk0 87 (v := .bool (((y38.d.ops.length : Nat) : Int) != ((y38.d.ops.length : Nat) : Int))) h185 rfl rfl rfl fun a186 h186 => ?_; clear h185
    refine dr_done (by kernel_rfl) ?_
    refine co_then ?_
    have hc187 : (((y38.d.ops.length : Nat) : Int) != ((y38.d.ops.length : Nat) : Int)) = false := by simp
    rw [hc187] at h186; clear hc187
    refine co_false h186 rfl ?_
    refine wp_skip ?_
    refine co_then ?_
    refine co_seq ?_
    refine co_reg ?_
    refine pk0 (v := .int .i64 0) h186 rfl fun a188 h188 => ?_; clear h186
    refine pl_nil ?_
    refine co_then ?_
    refine wp_block ?_
    have h189 : Slots 149 [(0, v), (1, v2), (5, .int .i64 ((i : Nat) : Int)), (6, pt N44 0), (7, pt N68 0), (8, .int .i64 0)] _ := h188.sub ⟨rfl, rfl, rfl, rfl, rfl, rfl, trivial⟩; clear h188
    refine co_loop (fun mm a x => ∃ (k : Nat), Slots 149 [(0, v), (1, v2), (5, .int .i64 ((i : Nat) : Int)), (6, pt N44 0), (7, pt N68 0), (8, .int .i64 ((k : Nat) : Int))] a ∧ mm = y38.d.ops.length - k ∧ (k ≤ y38.d.ops.length) ∧ Below w.heap.size w x ∧ Blk x N44 35 #[.int .i64 y38.d.ak, .int .i64 y38.d.an, .string y38.d.ky, .string y38.d.tt, .int .u64 y38.d.at_, .int .i64 y38.d.am, y38.ov] ∧ Blk x N68 35 #[.int .i64 y38.d.ak, .int .i64 y38.d.an, .string y38.d.ky, .string y38.d.tt, .int .u64 y38.d.at_, .int .i64 y38.d.am, zo61]) (y38.d.ops.length - 0) ?_ ?_
    · exact ⟨0, h189.sub ⟨rfl, rfl, rfl, rfl, rfl, (slot_eq rfl (congrArg (Value.int .i64) (by first | rfl | omega))), trivial⟩, rfl, by omega, hB87, hk130, hk133⟩
    · rintro k190 a191 w192 ⟨k, h191, rfl, hi193, hB194, hk195, hk196⟩
      have hz197 := hB194.size
      have hl198 := hk195.lt
      have hl199 := hk196.lt
      refine co_seq ?_
      refine co_seq ?_
      refine co_reg ?_
      refine pk0 (v := .int .i64 ((k : Nat) : Int)) h191 rfl fun a200 h200 => ?_; clear h191
      refine pk0 (v := pt N44 6) h200 rfl fun a201 h201 => ?_; clear h200
      refine pk (v := y38.ov) h201 rfl (rn_load1 rfl rfl Try.isAgg24 (hk195.cell rfl)) fun a202 h202 => ?_; clear h201
      refine pk (v := .int .i64 ((y38.d.ops.length : Nat) : Int)) h202 rfl (rn_len rfl rfl Try.underlying24 (oky38.sl.below hB194)) fun a203 h203 => ?_; clear h202
      refine pk0 (v := .bool (decide (((k : Nat) : Int) < ((y38.d.ops.length : Nat) : Int)))) h203 rfl fun a204 h204 => ?_; clear h203
      refine pk0 (v := .bool (decide (((k : Nat) : Int) < ((y38.d.ops.length : Nat) : Int)))) h204 rfl fun a205 h205 => ?_; clear h204
      cases hc206 : (decide (((k : Nat) : Int) < ((y38.d.ops.length : Nat) : Int)))
      ·
       rw [hc206] at h205
       have hp207 : ¬ (((k : Nat) : Int) < ((y38.d.ops.length : Nat) : Int)) := of_decide_eq_false hc206
       clear hc206
       refine psk h205 rfl fun a208 h208 => ?_; clear h205
       refine psk h208 rfl fun a209 h209 => ?_; clear h208
       refine psk h209 rfl fun a210 h210 => ?_; clear h209
       refine psk h210 rfl fun a211 h211 => ?_; clear h210
       refine psk h211 rfl fun a212 h212 => ?_; clear h211
       refine pk0 (v := .bool false) h212 rfl fun a213 h213 => ?_; clear h212
       refine pl_nil ?_
       refine co_then ?_
       refine co_false h213 rfl ?_
       refine wp_exit ?_
       refine co_thenX ?_
       refine co_thenX ?_
       refine co_blockX ?_
       refine co_blockN ?_
       refine co_then ?_
       refine co_reg ?_
       refine pk0 (v := .int .i64 ((i : Nat) : Int)) h213 rfl fun a214 h214 => ?_; clear h213
       refine pk (v := .int .i64 ((i + 1 : Nat) : Int)) h214 rfl (rn_arith' rfl rfl rfl rfl rfl rfl (IntWalk.i64_in _ (by omega)) (by omega)) fun a215 h215 => ?_; clear h214
       refine pk0 (v := .int .i64 ((i + 1 : Nat) : Int)) h215 rfl fun a216 h216 => ?_; clear h215
       refine pl_nil ?_
       refine co_then ?_
       refine ⟨(l.length - (i + 1)), by omega, ?_⟩
       exact ⟨i + 1, h216.sub ⟨rfl, rfl, rfl, trivial⟩, rfl, by omega, hB194⟩
      ·
       rw [hc206] at h205
       have hp217 : ((k : Nat) : Int) < ((y38.d.ops.length : Nat) : Int) := of_decide_eq_true hc206
       clear hc206
       refine pk0 (v := .int .i64 ((k : Nat) : Int)) h205 rfl fun a218 h218 => ?_; clear h205
       refine pk0 (v := pt N68 6) h218 rfl fun a219 h219 => ?_; clear h218
       refine pk (v := zo61) h219 rfl (rn_load1 rfl rfl Try.isAgg24 (hk196.cell rfl)) fun a220 h220 => ?_; clear h219
       refine pk (v := .int .i64 ((y38.d.ops.length : Nat) : Int)) h220 rfl (rn_len rfl rfl Try.underlying24 (oky59.sl.below hB194)) fun a221 h221 => ?_; clear h220
       refine pk0 (v := .bool (decide (((k : Nat) : Int) < ((y38.d.ops.length : Nat) : Int)))) h221 rfl fun a222 h222 => ?_; clear h221
       refine pk0 (v := .bool (decide (((k : Nat) : Int) < ((y38.d.ops.length : Nat) : Int)))) h222 rfl fun a223 h223 => ?_; clear h222
       refine pl_nil ?_
       refine co_then ?_
       have hc224 : (decide (((k : Nat) : Int) < ((y38.d.ops.length : Nat) : Int))) = true := decide_eq_true (by omega)
       rw [hc224] at h223; clear hc224
       refine co_true h223 rfl ?_
       refine wp_skip ?_
       refine co_then ?_
       refine co_seq ?_
       refine wp_block ?_
       refine co_seq ?_
       refine dr_eq (by kernel_rfl) (fun w225 hg226 => ?_)
       have hz227 := hg226.size
       refine dk0 0 (v := pt N44 6) h223 rfl rfl rfl fun a228 h228 => ?_; clear h223
       have hk229 := hk195.kept hg226 (by simp)
       refine dk 1 (v := y38.ov) h228 rfl rfl rfl (fun x hx => by subst hx; exact (rn_load1 rfl rfl Try.isAgg24 (hk229.cell rfl))) fun a230 h230 => ?_; clear h228
       refine dk0 2 (v := .int .i64 ((k : Nat) : Int)) h230 rfl rfl rfl fun a231 h231 => ?_; clear h230
       have hB233 := hb_new hB194 hg226
       obtain ⟨y232, hy232⟩ : ∃ z, y38.d.ops[k]? = some z := ⟨_, List.getElem?_eq_getElem (by first | omega | (simp; done) | (simp; omega))⟩
       refine dk 3 (v := pt (blkOf (y38.ov)) (offOf (y38.ov) + k * 3)) h231 rfl rfl rfl (fun x hx => by subst hx; exact (rn_index rfl rfl rfl Try.underlying24 Try.sizeOf66 (oky38.sl.below hB233) (by omega) (by first | omega | (simp; done) | (simp; omega)))) fun a234 h234 => ?_; clear h231
       refine dk 4 (v := .agg #[.string y232.1, .string y232.2.1, .bool y232.2.2]) h234 rfl rfl rfl (fun x hx => by subst hx; exact (rn_loadN rfl rfl Try.underlying66 rfl (by kernel_rfl) (sl_at (oky38.sl.below hB233) hy232))) fun a235 h235 => ?_; clear h234
       refine dk0 5 (v := pt N68 6) h235 rfl rfl rfl fun a236 h236 => ?_; clear h235
       have hk237 := hk196.kept hg226 (by simp)
       refine dk 6 (v := zo61) h236 rfl rfl rfl (fun x hx => by subst hx; exact (rn_load1 rfl rfl Try.isAgg24 (hk237.cell rfl))) fun a238 h238 => ?_; clear h236
       refine dk0 7 (v := .int .i64 ((k : Nat) : Int)) h238 rfl rfl rfl fun a239 h239 => ?_; clear h238
       refine dk 8 (v := pt (blkOf zo61) (offOf zo61 + k * 3)) h239 rfl rfl rfl (fun x hx => by subst hx; exact (rn_index rfl rfl rfl Try.underlying24 Try.sizeOf66 (oky59.sl.below hB233) (by omega) (by first | omega | (simp; done) | (simp; omega)))) fun a240 h240 => ?_; clear h239
       refine dk 9 (v := .agg #[.string y232.1, .string y232.2.1, .bool y232.2.2]) h240 rfl rfl rfl (fun x hx => by subst hx; exact (rn_loadN rfl rfl Try.underlying66 rfl (by kernel_rfl) (sl_at (oky59.sl.below hB233) hy232))) fun a241 h241 => ?_; clear h240
       refine dk 10 (v := .bool (!(y232.1.toList == y232.1.toList && y232.2.1.toList == y232.2.1.toList && y232.2.2 == y232.2.2))) h241 rfl rfl rfl (fun x hx => by subst hx; exact (rn_neS rfl rfl rfl Try.eqGuardType66 (eq_op _ _ _ _ _ _ _))) fun a242 h242 => ?_; clear h241
       refine dr_done (by kernel_rfl) ?_
       refine co_then ?_
       have hc243 : (!(y232.1.toList == y232.1.toList && y232.2.1.toList == y232.2.1.toList && y232.2.2 == y232.2.2)) = false := by simp
       rw [hc243] at h242; clear hc243
       refine co_false h242 rfl ?_
       refine wp_skip ?_
       refine co_blockN ?_
       refine co_then ?_
       refine co_reg ?_
       refine pk0 (v := .int .i64 ((k : Nat) : Int)) h242 rfl fun a244 h244 => ?_; clear h242
       refine pk (v := .int .i64 ((k + 1 : Nat) : Int)) h244 rfl (rn_arith' rfl rfl rfl rfl rfl rfl (IntWalk.i64_in _ (by omega)) (by omega)) fun a245 h245 => ?_; clear h244
       refine pk0 (v := .int .i64 ((k + 1 : Nat) : Int)) h245 rfl fun a246 h246 => ?_; clear h245
       refine pl_nil ?_
       refine co_then ?_
       refine ⟨(y38.d.ops.length - (k + 1)), by omega, ?_⟩
       exact ⟨k + 1, h246.sub ⟨rfl, rfl, rfl, rfl, rfl, rfl, trivial⟩, rfl, by omega, hB233, hk229, hk237⟩
end Go.Proofs.Ytdgboikkgeioeaa

/- How many parts steps have. Conditions: texts of at most 1048576 bytes. -/
namespace Go.Proofs.Ytdgboikkgeioeaa
open Go.RowKit Go.PlainAid
set_option linter.unusedVariables false
set_option linter.unusedSimpArgs false


def mxI (a b : Int) : Int := if a < b then b else a
theorem mxI_p (a b : Int) : mxI a b ≥ a ∧ mxI a b ≥ b ∧ (mxI a b = a ∨ mxI a b = b) := by unfold mxI; split <;> omega
def ptE1 (n : Int) (e : EvX) : Int := mxI (mxI (mxI n ((e.d.ops.length : Nat) : Int)) (((e.d.ky.size : Nat) : Int) - 80)) (((e.d.tt.size : Nat) : Int) - 80)
def ptsE (l : List EvX) : Int := l.foldl ptE1 0
theorem ptsE_at {l : List EvX} {i : Nat} {y : EvX} (h : l[i]? = some y) : ptsE (l.take (i + 1)) = mxI (mxI (mxI (ptsE (l.take i)) ((y.d.ops.length : Nat) : Int)) (((y.d.ky.size : Nat) : Int) - 80)) (((y.d.tt.size : Nat) : Int) - 80) := by
  rw [List.take_add_one, h]; unfold ptsE; rw [Option.toList_some, List.foldl_append]; rfl
theorem ptE1_p (n : Int) (e : EvX) : ptE1 n e ≥ n ∧ ptE1 n e ≥ (e.d.ops.length : Int) ∧ ptE1 n e ≥ (e.d.ky.size : Int) - 80 ∧ ptE1 n e ≥ (e.d.tt.size : Int) - 80 ∧ (ptE1 n e = n ∨ ptE1 n e = (e.d.ops.length : Int) ∨ ptE1 n e = (e.d.ky.size : Int) - 80 ∨ ptE1 n e = (e.d.tt.size : Int) - 80) := by
  unfold ptE1
  have h1 := mxI_p n ((e.d.ops.length : Nat) : Int); have h2 := mxI_p (mxI n ((e.d.ops.length : Nat) : Int)) (((e.d.ky.size : Nat) : Int) - 80); have h3 := mxI_p (mxI (mxI n ((e.d.ops.length : Nat) : Int)) (((e.d.ky.size : Nat) : Int) - 80)) (((e.d.tt.size : Nat) : Int) - 80)
  omega
theorem ptsE_le (w : World) {l : List EvX} (h : ∀ z ∈ l, EvOk w z) : ∀ i : Nat, 0 ≤ ptsE (l.take i) ∧ ptsE (l.take i) ≤ 9223372036854775807
  | 0 => by simp [ptsE]
  | i + 1 => by
    have ih := ptsE_le w h i
    cases hy : l[i]? with
    | none => rw [List.take_add_one, hy]; simpa using ih
    | some y =>
      have hm := h y (List.mem_of_getElem? hy)
      have h1 := sl_len hm.sl; have h2 := hm.s.ky; have h3 := hm.s.tt
      have hp := ptE1_p (ptsE (l.take i)) y
      rw [show ptsE (l.take (i + 1)) = ptE1 (ptsE (l.take i)) y from ptsE_at hy]; omega
theorem ptsE_end {l : List EvX} {i : Nat} (h1 : i ≤ 400) (h2 : l.length ≤ i ∨ 400 ≤ i) : ptsE (l.take i) = ptsE (l.take 400) := by
  rcases h2 with h2 | h2
  · rw [List.take_of_length_le h2, List.take_of_length_le (by omega)]
  · rw [show i = 400 by omega]
theorem ptsE_mem : ∀ (l : List EvX) (n k : Int), l.foldl ptE1 n ≤ k → n ≤ k ∧ ∀ z ∈ l, (z.d.ops.length : Int) ≤ k ∧ (z.d.ky.size : Int) - 80 ≤ k ∧ (z.d.tt.size : Int) - 80 ≤ k
  | [], n, k, h => ⟨h, by simp⟩
  | e :: r, n, k, h => by
    obtain ⟨h1, h2⟩ := ptsE_mem r (ptE1 n e) k h
    have hp := ptE1_p n e
    refine ⟨by omega, fun z hz => ?_⟩
    rcases List.mem_cons.1 hz with rfl | hz
    · omega
    · exact h2 z hz

set_option maxRecDepth 100000 in
theorem parts36_any (v : Value) (l : List EvX) (w : World) (hs : SliceOf evE 10 w v l) (hok : ∀ z ∈ l, EvOk w z) :
    Calls Try.prog 16 #[v] w fun e w' => e = .returned (.int .i64 (ptsE (l.take 400))) ∧ Below w.heap.size w w' := by
 have hB0 := Below.refl w.heap.size w
 have hl_hs := sl_len hs
 refine co_enter (n := 41) Try.func16 rfl rfl rfl [(0, v)] rfl (fun a h0 => ?_)
 refine co_seq ?_
 refine co_reg ?_
 refine pk0 (v := .int .i64 0) h0 rfl fun a1 h1 => ?_; clear h0
 refine pl_nil ?_
 refine co_then ?_
 refine co_seq ?_
 refine co_reg ?_
 refine pk0 (v := .int .i64 0) h1 rfl fun a2 h2 => ?_; clear h1
 refine pl_nil ?_
 refine co_then ?_
 refine co_seq ?_
 refine co_seq ?_
 refine co_reg ?_
 refine pk0 (v := .int .i64 0) h2 rfl fun a3 h3 => ?_; clear h2
 refine pl_nil ?_
 refine co_then ?_
 refine wp_block ?_
 have h4 : Slots 41 [(0, v), (3, .int .i64 0), (4, .int .i64 0)] _ := h3.sub ⟨rfl, rfl, rfl, trivial⟩; clear h3
 refine co_loop (fun mm a x => ∃ (i : Nat), Slots 41 [(0, v), (3, .int .i64 (ptsE (l.take i))), (4, .int .i64 ((i : Nat) : Int))] a ∧ mm = l.length - i ∧ (i ≤ l.length) ∧ (i ≤ 400) ∧ Below w.heap.size w x) (l.length - 0) ?_ ?_
 · exact ⟨0, h4.sub ⟨rfl, (slot_eq rfl (congrArg (Value.int .i64) (by first | rfl | exact (ptsE_at (by assumption)).symm))), (slot_eq rfl (congrArg (Value.int .i64) (by first | rfl | omega))), trivial⟩, rfl, by omega, by omega, hB0⟩
 · rintro k5 a6 w7 ⟨i, h6, rfl, hi8, hi9, hB10⟩
   have hz11 := hB10.size
   have hpl := ptsE_le w hok i
   refine co_seq ?_
   refine co_seq ?_
   refine co_reg ?_
   refine pk0 (v := .int .i64 ((i : Nat) : Int)) h6 rfl fun a12 h12 => ?_; clear h6
   refine pk0 (v := v) h12 rfl fun a13 h13 => ?_; clear h12
   refine pk (v := .int .i64 ((l.length : Nat) : Int)) h13 rfl (rn_len rfl rfl Try.underlying50 (hs.below hB10)) fun a14 h14 => ?_; clear h13
   refine pk0 (v := .bool (decide (((i : Nat) : Int) < ((l.length : Nat) : Int)))) h14 rfl fun a15 h15 => ?_; clear h14
   refine pk0 (v := .bool (decide (((i : Nat) : Int) < ((l.length : Nat) : Int)))) h15 rfl fun a16 h16 => ?_; clear h15
   cases hc17 : (decide (((i : Nat) : Int) < ((l.length : Nat) : Int)))
   ·
    rw [hc17] at h16
    have hp18 : ¬ (((i : Nat) : Int) < ((l.length : Nat) : Int)) := of_decide_eq_false hc17
    clear hc17
    refine psk h16 rfl fun a19 h19 => ?_; clear h16
    refine psk h19 rfl fun a20 h20 => ?_; clear h19
    refine pk0 (v := .bool false) h20 rfl fun a21 h21 => ?_; clear h20
    refine pl_nil ?_
    refine co_then ?_
    refine co_false h21 rfl ?_
    refine wp_exit ?_
    refine co_thenX ?_
    refine co_thenX ?_
    refine co_blockX ?_
    refine co_then ?_
    refine co_seq ?_
    refine co_reg ?_
    refine pk0 (v := .int .i64 (ptsE (l.take i))) h21 rfl fun a22 h22 => ?_; clear h21
    refine pk0 (v := .int .i64 (ptsE (l.take i))) h22 rfl fun a23 h23 => ?_; clear h22
    refine pl_nil ?_
    refine co_then ?_
    refine wp_ret ?_
    refine co_ret1 h23 rfl rfl ?_
    exact ⟨by rw [ptsE_end (by omega) (by omega)], hB10⟩
   ·
    rw [hc17] at h16
    have hp24 : ((i : Nat) : Int) < ((l.length : Nat) : Int) := of_decide_eq_true hc17
    clear hc17
    refine pk0 (v := .int .i64 ((i : Nat) : Int)) h16 rfl fun a25 h25 => ?_; clear h16
    refine pk0 (v := .bool (decide (((i : Nat) : Int) < 400))) h25 rfl fun a26 h26 => ?_; clear h25
    refine pk0 (v := .bool (decide (((i : Nat) : Int) < 400))) h26 rfl fun a27 h27 => ?_; clear h26
    refine pl_nil ?_
    refine co_then ?_
    cases hc28 : (decide (((i : Nat) : Int) < 400))
    ·
     rw [hc28] at h27
     have hp29 : ¬ (((i : Nat) : Int) < 400) := of_decide_eq_false hc28
     clear hc28
     refine co_false h27 rfl ?_
     refine wp_exit ?_
     refine co_thenX ?_
     refine co_thenX ?_
     refine co_blockX ?_
     refine co_then ?_
     refine co_seq ?_
     refine co_reg ?_
     refine pk0 (v := .int .i64 (ptsE (l.take i))) h27 rfl fun a30 h30 => ?_; clear h27
     refine pk0 (v := .int .i64 (ptsE (l.take i))) h30 rfl fun a31 h31 => ?_; clear h30
     refine pl_nil ?_
     refine co_then ?_
     refine wp_ret ?_
     refine co_ret1 h31 rfl rfl ?_
     exact ⟨by rw [ptsE_end (by omega) (by omega)], hB10⟩
    ·
     rw [hc28] at h27
     have hp32 : ((i : Nat) : Int) < 400 := of_decide_eq_true hc28
     clear hc28
     refine co_true h27 rfl ?_
     refine wp_skip ?_
     refine co_then ?_
     refine co_seq ?_
     refine wp_block ?_
     refine dr_eq (by kernel_rfl) (fun w33 hg34 => ?_)
     have hz35 := hg34.size
     refine dk0 0 (v := .int .i64 (ptsE (l.take i))) h27 rfl rfl rfl fun a36 h36 => ?_; clear h27
     refine dk0 1 (v := v) h36 rfl rfl rfl fun a37 h37 => ?_; clear h36
     refine dk0 2 (v := .int .i64 ((i : Nat) : Int)) h37 rfl rfl rfl fun a38 h38 => ?_; clear h37
     have hB40 := hb_new hB10 hg34
     obtain ⟨y39, hy39⟩ : ∃ z, l[i]? = some z := ⟨_, List.getElem?_eq_getElem (by first | omega | (simp; done) | (simp; omega))⟩
     have oky39 := hok _ (List.mem_of_getElem? hy39)
     have hlny39 := sl_len oky39.sl; have hsty39 := oky39.s; have hky39 := hsty39.ky; have hty39 := hsty39.tt
     refine dk 3 (v := pt (blkOf v) (offOf v + i * 10)) h38 rfl rfl rfl (fun x hx => by subst hx; exact (rn_index rfl rfl rfl Try.underlying50 Try.sizeOf60 (hs.below hB40) (by omega) (by first | omega | (simp; done) | (simp; omega)))) fun a41 h41 => ?_; clear h38
     refine dk0 4 (v := pt (blkOf v) (offOf v + i * 10 + 3)) h41 rfl rfl rfl fun a42 h42 => ?_; clear h41
     refine dk0 5 (v := pt (blkOf v) (offOf v + i * 10 + 3 + 6)) h42 rfl rfl rfl fun a43 h43 => ?_; clear h42
     refine dk 6 (v := y39.ov) h43 rfl rfl rfl (fun x hx => by subst hx; exact (rn_load1 rfl rfl Try.isAgg24 ((sl_at (hs.below hB40) hy39) 9 _ rfl))) fun a44 h44 => ?_; clear h43
     refine dk 7 (v := .int .i64 ((y39.d.ops.length : Nat) : Int)) h44 rfl rfl rfl (fun x hx => by subst hx; exact (rn_len rfl rfl Try.underlying24 (oky39.sl.below hB40))) fun a45 h45 => ?_; clear h44
     refine dk0 8 (v := v) h45 rfl rfl rfl fun a46 h46 => ?_; clear h45
     refine dk0 9 (v := .int .i64 ((i : Nat) : Int)) h46 rfl rfl rfl fun a47 h47 => ?_; clear h46
     refine dk 10 (v := pt (blkOf v) (offOf v + i * 10)) h47 rfl rfl rfl (fun x hx => by subst hx; exact (rn_index rfl rfl rfl Try.underlying50 Try.sizeOf60 (hs.below hB40) (by omega) (by first | omega | (simp; done) | (simp; omega)))) fun a48 h48 => ?_; clear h47
     refine dk0 11 (v := pt (blkOf v) (offOf v + i * 10 + 3)) h48 rfl rfl rfl fun a49 h49 => ?_; clear h48
     refine dk0 12 (v := pt (blkOf v) (offOf v + i * 10 + 3 + 2)) h49 rfl rfl rfl fun a50 h50 => ?_; clear h49
     refine dk 13 (v := .string y39.d.ky) h50 rfl rfl rfl (fun x hx => by subst hx; exact (rn_load1 rfl rfl Try.isAgg9 ((sl_at (hs.below hB40) hy39) 5 _ rfl))) fun a51 h51 => ?_; clear h50
     refine dk 14 (v := .int .i64 ((y39.d.ky.size : Nat) : Int)) h51 rfl rfl rfl (fun x hx => by subst hx; exact (rn_lenStr rfl rfl Try.underlying9)) fun a52 h52 => ?_; clear h51
     refine dk 15 (v := .int .i64 (((y39.d.ky.size : Nat) : Int) - 80)) h52 rfl rfl rfl (fun x hx => by subst hx; exact (rn_arith rfl rfl rfl rfl rfl rfl (IntWalk.i64_in _ (by omega)))) fun a53 h53 => ?_; clear h52
     refine dk0 16 (v := v) h53 rfl rfl rfl fun a54 h54 => ?_; clear h53
     refine dk0 17 (v := .int .i64 ((i : Nat) : Int)) h54 rfl rfl rfl fun a55 h55 => ?_; clear h54
     refine dk 18 (v := pt (blkOf v) (offOf v + i * 10)) h55 rfl rfl rfl (fun x hx => by subst hx; exact (rn_index rfl rfl rfl Try.underlying50 Try.sizeOf60 (hs.below hB40) (by omega) (by first | omega | (simp; done) | (simp; omega)))) fun a56 h56 => ?_; clear h55
     refine dk0 19 (v := pt (blkOf v) (offOf v + i * 10 + 3)) h56 rfl rfl rfl fun a57 h57 => ?_; clear h56
     refine dk0 20 (v := pt (blkOf v) (offOf v + i * 10 + 3 + 3)) h57 rfl rfl rfl fun a58 h58 => ?_; clear h57
     refine dk 21 (v := .string y39.d.tt) h58 rfl rfl rfl (fun x hx => by subst hx; exact (rn_load1 rfl rfl Try.isAgg9 ((sl_at (hs.below hB40) hy39) 6 _ rfl))) fun a59 h59 => ?_; clear h58
     refine dk 22 (v := .int .i64 ((y39.d.tt.size : Nat) : Int)) h59 rfl rfl rfl (fun x hx => by subst hx; exact (rn_lenStr rfl rfl Try.underlying9)) fun a60 h60 => ?_; clear h59
     refine dk 23 (v := .int .i64 (((y39.d.tt.size : Nat) : Int) - 80)) h60 rfl rfl rfl (fun x hx => by subst hx; exact (rn_arith rfl rfl rfl rfl rfl rfl (IntWalk.i64_in _ (by omega)))) fun a61 h61 => ?_; clear h60
     have hmm62 := mxI_p (ptsE (l.take i)) ((y39.d.ops.length : Nat) : Int)
     have hmm63 := mxI_p (mxI (ptsE (l.take i)) ((y39.d.ops.length : Nat) : Int)) (((y39.d.ky.size : Nat) : Int) - 80)
     have hmm64 := mxI_p (mxI (mxI (ptsE (l.take i)) ((y39.d.ops.length : Nat) : Int)) (((y39.d.ky.size : Nat) : Int) - 80)) (((y39.d.tt.size : Nat) : Int) - 80)
     refine dk0 24 (v := .int .i64 (mxI (mxI (mxI (ptsE (l.take i)) ((y39.d.ops.length : Nat) : Int)) (((y39.d.ky.size : Nat) : Int) - 80)) (((y39.d.tt.size : Nat) : Int) - 80))) h61 rfl rfl rfl fun a65 h65 => ?_; clear h61
     refine dk0 25 (v := .int .i64 (mxI (mxI (mxI (ptsE (l.take i)) ((y39.d.ops.length : Nat) : Int)) (((y39.d.ky.size : Nat) : Int) - 80)) (((y39.d.tt.size : Nat) : Int) - 80))) h65 rfl rfl rfl fun a66 h66 => ?_; clear h65
     refine dr_done (by kernel_rfl) ?_
     refine co_blockN ?_
     refine co_then ?_
     refine co_reg ?_
     refine pk0 (v := .int .i64 ((i : Nat) : Int)) h66 rfl fun a67 h67 => ?_; clear h66
     refine pk (v := .int .i64 ((i + 1 : Nat) : Int)) h67 rfl (rn_arith' rfl rfl rfl rfl rfl rfl (IntWalk.i64_in _ (by omega)) (by omega)) fun a68 h68 => ?_; clear h67
     refine pk0 (v := .int .i64 ((i + 1 : Nat) : Int)) h68 rfl fun a69 h69 => ?_; clear h68
     refine pl_nil ?_
     refine co_then ?_
     refine ⟨(l.length - (i + 1)), by omega, ?_⟩
     exact ⟨i + 1, h69.sub ⟨rfl, (slot_eq rfl (congrArg (Value.int .i64) (by first | rfl | exact (ptsE_at (by assumption)).symm))), rfl, trivial⟩, rfl, by omega, by omega, hB40⟩
end Go.Proofs.Ytdgboikkgeioeaa

/- catenalaw40: awake. Conditions: none. -/
namespace Go.Proofs.Ytdgboikkgeioeaa
open Go.RowKit Go.Shelf
set_option linter.unusedVariables false
set_option linter.unusedSimpArgs false

def awS : ByteArray := ⟨#[3, 1, 4, 0, 1, 9]⟩
theorem aw_pcs : pcs awS 0 = [⟨#[1, 4, 0]⟩, ⟨#[9]⟩] := by
  rw [pcs_y (by decide), show 0 + 1 + pcN awS 0 = 4 from rfl, pcs_y (by decide), show 4 + 1 + pcN awS 4 = 6 from rfl, pcs_n (by decide)]
  rfl
theorem aw_ev : evR ⟨#[1, 4, 0]⟩ = some (zeD 1 4 0) := by kernel_rfl
theorem aw_no : evR ⟨#[9]⟩ = none := by kernel_rfl
theorem aw_steps : stepsR awS = [zeD 1 4 0] := by
  unfold stepsR; rw [aw_pcs]; simp [List.filterMap_cons, aw_ev, aw_no]
theorem aw_put : allE [zeD 1 4 0] = 0 ∧ putA [zeD 1 4 0] = ⟨#[3, 1, 4, 0]⟩ := by constructor <;> kernel_rfl
theorem ev_ok {w : World} {B : Nat} {x : EvX} (hr : w.ownsRow B 66 3 x.ov x.d.ops.length (x.d.ops.flatMap opE)) (hs : EvS x.d) : EvOk w x := ⟨row_sl hr opE_len, hs⟩
theorem ev_sl {w : World} {B : Nat} {x : EvX} (hr : w.ownsRow B 66 3 x.ov x.d.ops.length (x.d.ops.flatMap opE)) : EvSl w x := ⟨row_sl hr opE_len⟩
set_option maxRecDepth 100000 in
set_option maxHeartbeats 2000000 in
theorem awake40_any (w : World) : Calls Try.prog 17 #[] w fun e w' => e = .returned (.bool true) ∧ Below w.heap.size w w' := by
  have hO := fun w => scOf_any awS w (by decide)
  have HO := Lib.hid hO; clear hO
  go_enter Try.func17, Try.ntmps17
  go_wp2_with fail
  refine (HO.out w).mono ?_
  rintro e w1 ⟨v, us, rfl, hm, hr, ho, hb⟩
  rw [aw_steps] at hm
  obtain ⟨x, rfl⟩ : ∃ x, us = [x] := by
    cases us with
    | nil => simp at hm
    | cons x r => cases r with
      | nil => exact ⟨x, rfl⟩
      | cons y r => simp at hm
  have hx : x.d = zeD 1 4 0 := by simpa using hm
  have hox := ho x (by simp)
  have hok : EvOk w1 x := ev_ok hox (by rw [hx]; exact ⟨⟨by decide, by decide⟩, by decide, by decide, by simp [zeD]⟩)
  have hP := scPut_any v [x] w1 (row_sl hr evE_len) (fun z hz => by rw [List.mem_singleton] at hz; subst hz; exact hok) (fun z hz => by rw [List.mem_singleton] at hz; subst hz; rw [hx]; decide) (by simp)
  rw [show [x].map EvX.d = [zeD 1 4 0] from hm, aw_put.1, aw_put.2] at hP
  obtain ⟨g, cap, rfl⟩ := ownsRow_succ hr
  have HP := Lib.hid hP; have HR := Lib.hid hr; have HB := Lib.hid hb; have HX := Lib.hid hx
  clear hP hr hb ho hox hok hm hx
  go_wp2_with fail
  refine HP.out.mono ?_
  rintro e w2 ⟨rfl, hb2⟩
  have hr2 := HR.out.kept (below_grown hb2) (.inr (by simp [Value.ownBlock]))
  have c0 : w2.cell? ⟨g, 0, none⟩ = some (.int .i64 1) := by
    have h := hr2.cells (g := g) rfl 0 (.int .i64 x.d.k) (by simp [evE]); rw [HX.out] at h; simpa [Addr.add_lit, zeD] using h
  have c1 : w2.cell? ⟨g, 1, none⟩ = some (.int .i64 4) := by
    have h := hr2.cells (g := g) rfl 1 (.int .i64 x.d.nd) (by simp [evE]); rw [HX.out] at h; simpa [Addr.add_lit, zeD] using h
  have HB2 := Lib.hid (HB.out.trans (hb2.mono HB.out.size)); clear hb2 hr2
  go_wp2
  go_ret
  exact ⟨rfl, HB2.out⟩
end Go.Proofs.Ytdgboikkgeioeaa

/- Steps whose operations lie in rows of their own: kept behind whatever else is written. Conditions: none. -/
namespace Go.Proofs.Ytdgboikkgeioeaa
open Go.RowKit Go.PlainAid
set_option linter.unusedVariables false
set_option linter.unusedSimpArgs false

/-- Each step's operations lie in a row. -/
def NR (w : World) (us : List EvX) (_ : Nat) : Prop := ∀ z ∈ us, ∃ B, w.ownsRow B 66 3 z.ov z.d.ops.length (z.d.ops.flatMap opE)
section
variable {w x : World} {us : List EvX} {k N : Nat} {T : TypeId} {cs : Array Value}
theorem NR.nil : NR w [] k := fun z hz => by cases hz
theorem NR.new (h : NR w us k) (hg : w.grownBy x none) : NR x us k := fun z hz => by
  obtain ⟨B, hr⟩ := h z hz; exact ⟨B, row_kept_new hr hg⟩
theorem NR.below (h : NR w us k) (hb : Below w.heap.size w x) : NR x us k := h.new (below_grown hb)
theorem NR.blk (h : NR w us k) (hb : Blk w N T cs) (hT : 66 ≠ T) (hg : w.grownBy x (some N)) : NR x us k := fun z hz => by
  obtain ⟨B, hr⟩ := h z hz; exact ⟨B, row_kept_at hr hg (own_neT hr hb hT)⟩
theorem NR.row (h : NR w us k) {B' sz j : Nat} {e : TypeId} {v : Value} {xs : List Value} (hr : w.ownsRow B' e sz v j xs) (hne : 66 ≠ e) (hg : w.grownBy x v.ownBlock) : NR x us k := fun z hz => by
  obtain ⟨B, h1⟩ := h z hz; exact ⟨B, row_kept_row h1 hr hg hne⟩
theorem NR.snoc (h : NR w us k) {B : Nat} {d : EvD} {u : Value} (hr : w.ownsRow B 66 3 u d.ops.length (d.ops.flatMap opE)) : NR w (us ++ [⟨d, u⟩]) k := fun z hz => by
  rcases List.mem_append.1 hz with hz | hz
  · exact h z hz
  · rw [List.mem_singleton] at hz; subst hz; exact ⟨B, hr⟩
theorem NR.of {B : Nat} (h : ∀ z ∈ us, w.ownsRow B 66 3 z.ov z.d.ops.length (z.d.ops.flatMap opE)) : NR w us k := fun z hz => ⟨B, h z hz⟩
theorem NR.sl (h : NR w us k) : ∀ z ∈ us, EvSl w z := fun z hz => by obtain ⟨B, hr⟩ := h z hz; exact ev_sl hr
/-- Steps that were read may be put. -/
theorem NR.ok {S : ByteArray} (h : NR w us k) (hm : us.map EvX.d = stepsR S) : (∀ z ∈ us, EvOk w z) ∧ (∀ z ∈ us, z.d.ops.length ≤ 100) ∧ 4 * us.length ≤ S.size := by
  have hz : ∀ z ∈ us, z.d ∈ stepsR S := fun z hz => by rw [← hm]; exact List.mem_map_of_mem hz
  refine ⟨fun z h1 => ⟨(h.sl z h1).sl, (steps_ok (hz z h1)).2.2.2.2⟩, fun z h1 => (steps_ok (hz z h1)).2.2.2.1, ?_⟩
  have h2 := stepsR_len S; rw [← hm, List.length_map] at h2; exact h2
end
/-- The last lines of ScriptBack: what is read is put so that it is read as it was. -/
theorem back_tail {us : List EvX} {S : ByteArray} (hm : us.map EvX.d = stepsR S) : allE (us.map EvX.d) = 0 ∧ stepsR (putA (us.map EvX.d)) = us.map EvX.d := by
  rw [hm]; exact read_put S
end Go.Proofs.Ytdgboikkgeioeaa

/- What the bound on the arguments' bulk gives for their lengths. Conditions: none. -/
namespace Go.Proofs.Ytdgboikkgeioeaa
theorem bulk_mem {H : Type} {l : List (DataW H)} {j : Nat} {d : DataW H} (h : l[j]? = some d) : Rows.uptoBulk d ≤ Rows.uptoBulkAll l := by
  induction l generalizing j with
  | nil => simp at h
  | cons x l ih =>
    cases j with
    | zero => simp at h; subst h; simp only [Rows.uptoBulkAll]; omega
    | succ j => have := ih (by simpa using h); simp only [Rows.uptoBulkAll]; omega
theorem bulk_all {H : Type} {l : List (DataW H)} (hk : Rows.uptoSmall H l = true) : Rows.uptoBulkAll l ≤ 1048576 := of_decide_eq_true hk
theorem bulk_string {H : Type} {l : List (DataW H)} (hk : Rows.uptoSmall H l = true) {j : Nat} {bytes : List UInt8} (h : l[j]? = some (.lit (.string bytes))) : bytes.length ≤ 1048576 := by
  have h1 := bulk_mem h
  have h2 := bulk_all hk
  have : Rows.uptoBulk (H := H) (.lit (.string bytes)) = bytes.length + 1 := by simp [Rows.uptoBulk]
  rw [this] at h1
  refine Nat.le_trans ?_ h2
  omega
end Go.Proofs.Ytdgboikkgeioeaa

/- Parts that came in: a kind, a number, a big number, a text, a flag. Conditions: none. -/
namespace Go.Proofs.Ytdgboikkgeioeaa
open Go.RowKit Go.ChangeShapes Go.WideShapes Go.Deep

structure PartT where
  k : Int
  n : Int
  b : Int
  s : ByteArray
  f : Bool
instance : Inhabited PartT := ⟨⟨0, 0, 0, ⟨#[]⟩, false⟩⟩
structure PartOk (m : Nat) (p : PartT) : Prop where
  n0 : -9223372036854775808 ≤ p.n
  n1 : p.n ≤ 9223372036854775807
  b0 : 0 ≤ p.b
  b1 : p.b < 18446744073709551616
  s1 : p.s.size ≤ m
section
variable {H : Type} {enc : TypeId × Value → H} {P : Program} {w : World} {base : Nat} {spare : Nat → Bool} {held : Bool}
/-- A slice, each element of which is known together with its reading's bulk. -/
theorem open_rows_bulk {α : Type} [Inhabited α] {t e : TypeId} {fuel : Nat} {cs : List Value} {x : DataW H × List MemPlace} (E : α → List Value) (sz : Nat) (good : Nat → α → Prop) (mono : ∀ m k a, m ≤ k → good m a → good k a)
    (ht : P.underlying t = some (.slice e)) (hC : P.cellsOf e = sz) (hpos : 0 < sz)
    (elem : ∀ n cs x, DataW.trod enc P w base spare held n e cs = some x → ∃ a : α, cs = E a ∧ good (Rows.uptoBulk x.1) a)
    (h : DataW.trod enc P w base spare held fuel t cs = some x) :
    ∃ (l : List α) (v : Value), cs = [v] ∧ SliceOf E sz w v l ∧ ∀ a ∈ l, good (Rows.uptoBulk x.1) a := by
  rcases open_slice ht h with ⟨hcs, _⟩ | ⟨a, len, cap, m, n, D, Pl, hcs, _, hl, hm, hmm, hx, hi⟩
  · exact ⟨[], _, hcs, SliceOf.nil _ _ _, by simp⟩
  · have hlm : len ≤ m := by rw [hmm]; split <;> omega
    rw [hC] at hi
    obtain ⟨f, hf⟩ := choose_lt (α := α) (n := len) (p := fun i y => (∀ j u, (E y)[j]? = some u → w.cell? ((a.add (i * sz)).add j) = some u) ∧ good (Rows.uptoBulk (D i)) y ∧ (E y).length = sz) (fun i hilt => by
      obtain ⟨cs', hc, ht'⟩ := hi i (by omega)
      obtain ⟨y, rfl, hg⟩ := elem n cs' _ ht'
      obtain ⟨_, hcl, hat⟩ := World.cells?_some hc
      exact ⟨y, fun j u hu => by
        have hj : j < (E y).length := (List.getElem?_eq_some_iff.1 hu).1
        rw [hat j (by omega), hu], hg, hcl⟩)
    refine ⟨(List.range len).map f, _, hcs, ⟨some a, cap, by simp, by simpa using hl, by unfold maxLen at hm; omega, fun h => (by cases h), fun j hj => ?_⟩, fun y hy => ?_⟩
    · have hj' : j < len := by simpa using hj
      obtain ⟨b, off, spot⟩ := a
      have hspot : spot = none := by
        obtain ⟨h1, _, h3⟩ := hf 0 (by omega)
        have hc0 := h1 0 _ (List.getElem?_eq_getElem (show 0 < (E (f 0)).length by omega))
        simpa [Addr.add] using World.cell?_spot hc0
      subst hspot
      refine ⟨b, off, rfl, fun i u hu => ?_⟩
      have := (hf j hj').1 i u (by simpa using hu)
      rw [Addr.add_lit, Addr.add_lit] at this
      exact this
    · obtain ⟨i, hi', rfl⟩ := List.mem_map.1 hy
      have hil := List.mem_range.1 hi'
      refine mono _ _ _ ?_ (hf i hil).2.1
      subst hx
      have h1 : Rows.uptoBulk (D i) ≤ Rows.uptoBulkAll ((List.range len).map D) := bulk_mem (j := i) (by simp [hil])
      have e : Rows.uptoBulk (H := H) (.slice ((List.range len).map D) ((List.range (m - len)).map fun j => D (len + j))) = Rows.uptoBulkAll ((List.range len).map D) + Rows.uptoBulkAll ((List.range (m - len)).map fun j => D (len + j)) + 1 := by simp [Rows.uptoBulk]
      show _ ≤ Rows.uptoBulk (H := H) (.slice ((List.range len).map D) ((List.range (m - len)).map fun j => D (len + j)))
      rw [e]; omega
theorem PartOk.mono {m k : Nat} {p : PartT} (h : m ≤ k) (hp : PartOk m p) : PartOk k p := ⟨hp.n0, hp.n1, hp.b0, hp.b1, Nat.le_trans hp.s1 h⟩
end
end Go.Proofs.Ytdgboikkgeioeaa

/- Steps that came in. Conditions: none. -/
namespace Go.Proofs.Ytdgboikkgeioeaa
open Go.RowKit Go.ChangeShapes Go.WideShapes Go.Deep
set_option linter.unusedVariables false

section
variable {H : Type} {enc : TypeId × Value → H} {w : World} {base : Nat} {spare : Nat → Bool} {held : Bool}
set_option maxRecDepth 10000 in
theorem elem_opB (n : Nat) (cs : List Value) (x : DataW H × List MemPlace) (h : DataW.trod enc Try.prog w base spare held n 66 cs = some x) : ∃ p : OpT, cs = opE p ∧ (p.1.size ≤ Rows.uptoBulk x.1 ∧ p.2.1.size ≤ Rows.uptoBulk x.1) := by
  obtain ⟨xs, m, _, hx, hl, hxl, hf⟩ := DataW.trod_struct Try.underlying66 h
  have hl3 : cs.length = 3 := hl
  have hx3 : xs.length = 3 := hxl
  clear hl hxl
  match cs, hl3, xs, hx3 with
  | [c0, c1, c2], _, [x0, x1, x2], _ =>
    have h0 : DataW.trod enc Try.prog w base spare held m 9 [c0] = some x0 := hf 0 _ rfl
    have h1 : DataW.trod enc Try.prog w base spare held m 9 [c1] = some x1 := hf 1 _ rfl
    have h2 : DataW.trod enc Try.prog w base spare held m 4 [c2] = some x2 := hf 2 _ rfl
    obtain ⟨a, e0, y0, w0⟩ := DataW.trod_string Try.underlying9 h0
    obtain ⟨b, e1, y1, w1⟩ := DataW.trod_string Try.underlying9 h1
    obtain ⟨c, e2, y2⟩ := DataW.trod_bool Try.underlying4 h2
    simp only [List.cons.injEq, and_true] at e0 e1 e2
    subst e0 e1 e2
    refine ⟨(a, b, c), rfl, ?_⟩
    rw [hx]
    simp only [List.map_cons, List.map_nil]
    rw [y0, y1]
    simp [Rows.uptoBulk, Rows.uptoBulkAll]
    omega
structure EvM (w : World) (m : Nat) (x : EvX) : Prop where
  sl : SliceOf opE 3 w x.ov x.d.ops
  ts : 0 ≤ x.d.at_ ∧ x.d.at_ < 18446744073709551616
  ky : x.d.ky.size ≤ m
  tt : x.d.tt.size ≤ m
  ops : ∀ o ∈ x.d.ops, o.1.size ≤ m ∧ o.2.1.size ≤ m
theorem EvM.mono {m k : Nat} {x : EvX} (h : m ≤ k) (a : EvM w m x) : EvM w k x := ⟨a.sl, a.ts, Nat.le_trans a.ky h, Nat.le_trans a.tt h, fun o ho => ⟨Nat.le_trans (a.ops o ho).1 h, Nat.le_trans (a.ops o ho).2 h⟩⟩
theorem EvM.ok {m : Nat} {x : EvX} (h : m ≤ 1048576) (a : EvM w m x) : EvOk w x := ⟨a.sl, ⟨a.ts, Nat.le_trans a.ky h, Nat.le_trans a.tt h, fun o ho => ⟨Nat.le_trans (a.ops o ho).1 h, Nat.le_trans (a.ops o ho).2 h⟩⟩⟩
set_option maxRecDepth 10000 in
theorem elem_ev (n : Nat) (cs : List Value) (x : DataW H × List MemPlace) (h : DataW.trod enc Try.prog w base spare held n 60 cs = some x) : ∃ e : EvX, cs = evE e ∧ EvM w (Rows.uptoBulk x.1) e := by
  obtain ⟨xs, m, _, hx, hl, hxl, hf⟩ := DataW.trod_struct Try.underlying60 h
  have hl10 : cs.length = 10 := hl
  have hx4 : xs.length = 4 := hxl
  clear hl hxl
  match cs, hl10, xs, hx4 with
  | [c0, c1, c2, c3, c4, c5, c6, c7, c8, c9], _, [x0, x1, x2, x3], _ =>
    have h0 : DataW.trod enc Try.prog w base spare held m 3 [c0] = some x0 := hf 0 _ rfl
    have h1 : DataW.trod enc Try.prog w base spare held m 3 [c1] = some x1 := hf 1 _ rfl
    have h2 : DataW.trod enc Try.prog w base spare held m 3 [c2] = some x2 := hf 2 _ rfl
    have h3 : DataW.trod enc Try.prog w base spare held m 35 [c3, c4, c5, c6, c7, c8, c9] = some x3 := hf 3 _ rfl
    obtain ⟨zs, m2, _, hz, _, hzl, hg⟩ := DataW.trod_struct Try.underlying35 h3
    have hz7 : zs.length = 7 := hzl
    match zs, hz7 with
    | [z0, z1, z2, z3, z4, z5, z6], _ =>
      have g0 : DataW.trod enc Try.prog w base spare held m2 3 [c3] = some z0 := hg 0 _ rfl
      have g1 : DataW.trod enc Try.prog w base spare held m2 3 [c4] = some z1 := hg 1 _ rfl
      have g2 : DataW.trod enc Try.prog w base spare held m2 9 [c5] = some z2 := hg 2 _ rfl
      have g3 : DataW.trod enc Try.prog w base spare held m2 9 [c6] = some z3 := hg 3 _ rfl
      have g4 : DataW.trod enc Try.prog w base spare held m2 23 [c7] = some z4 := hg 4 _ rfl
      have g5 : DataW.trod enc Try.prog w base spare held m2 3 [c8] = some z5 := hg 5 _ rfl
      have g6 : DataW.trod enc Try.prog w base spare held m2 24 [c9] = some z6 := hg 6 _ rfl
      obtain ⟨k, e0, _, _⟩ := DataW.trod_int Try.underlying3 h0
      obtain ⟨nd, e1, _, _⟩ := DataW.trod_int Try.underlying3 h1
      obtain ⟨n', e2, _, _⟩ := DataW.trod_int Try.underlying3 h2
      obtain ⟨ak, e3, _, _⟩ := DataW.trod_int Try.underlying3 g0
      obtain ⟨an, e4, _, _⟩ := DataW.trod_int Try.underlying3 g1
      obtain ⟨ky, e5, y2, _⟩ := DataW.trod_string Try.underlying9 g2
      obtain ⟨tt, e6, y3, _⟩ := DataW.trod_string Try.underlying9 g3
      obtain ⟨at_, e7, _, w4⟩ := DataW.trod_int Try.underlying23 g4
      obtain ⟨am, e8, _, _⟩ := DataW.trod_int Try.underlying3 g5
      obtain ⟨l, v, e9, hs, ho⟩ := open_rows_bulk opE 3 (fun m (o : OpT) => o.1.size ≤ m ∧ o.2.1.size ≤ m) (fun _ _ _ h a => ⟨Nat.le_trans a.1 h, Nat.le_trans a.2 h⟩) Try.underlying24 (by kernel_rfl) (by omega) elem_opB g6
      simp only [List.cons.injEq, and_true] at e0 e1 e2 e3 e4 e5 e6 e7 e8 e9
      subst e0 e1 e2 e3 e4 e5 e6 e7 e8 e9
      have hb : Rows.uptoBulk z6.1 ≤ Rows.uptoBulk x.1 ∧ ky.size ≤ Rows.uptoBulk x.1 ∧ tt.size ≤ Rows.uptoBulk x.1 := by
        rw [hx]; simp only [List.map_cons, List.map_nil]; rw [hz]; simp only [List.map_cons, List.map_nil]; rw [y2, y3]
        simp [Rows.uptoBulk, Rows.uptoBulkAll]
        omega
      exact ⟨⟨⟨k, nd, n', ak, an, ky, tt, at_, am, l⟩, c9⟩, rfl, ⟨hs, wf_u64 w4, hb.2.1, hb.2.2, fun o hm => ⟨Nat.le_trans (ho o hm).1 hb.1, Nat.le_trans (ho o hm).2 hb.1⟩⟩⟩
theorem open_evs {fuel : Nat} {cs : List Value} {x : DataW H × List MemPlace} (h : DataW.trod enc Try.prog w base spare held fuel 50 cs = some x) :
    ∃ (l : List EvX) (v : Value), cs = [v] ∧ SliceOf evE 10 w v l ∧ ∀ p ∈ l, EvM w (Rows.uptoBulk x.1) p :=
  open_rows_bulk evE 10 (EvM w) (fun _ _ _ h => EvM.mono h) Try.underlying50 (by kernel_rfl) (by omega) elem_ev h
end
end Go.Proofs.Ytdgboikkgeioeaa
