/- Package link: Of of both. Conditions: none. -/
import Derived.Test.YthmljllgfigebaaLinkRLb
namespace Go.Proofs.Ythmljllgfigebaa
open Go.RowKit Go.PlainAid
set_option linter.unusedVariables false


def zSeg : SegT := ⟨0, 0, 0, 0, 0, 0, false, ⟨#[]⟩⟩
/-- A text, read as a segment. -/
def rdSeg (t : ByteArray) : SegT × Int :=
  let r1 := numR t 0 0 1073741824
  let r2 := numR t r1.2.1 r1.2.2 1073741824
  let r3 := numR t r2.2.1 r2.2.2 1073741824
  let r4 := numR t r3.2.1 r3.2.2 1073741824
  let r5 := numR t r4.2.1 r4.2.2 1073741824
  let r6 := numR t r5.2.1 r5.2.2 1073741824
  let r7 := flagR t r6.2.1.toNat r6.2.2
  let r8 := textR t r7.2.1 r7.2.2 65536
  let e := endV t r8.2.1.toNat r8.2.2
  if e ≠ 0 then (zSeg, e) else (⟨r1.1, r2.1, r3.1, r4.1, r5.1, r6.1, r7.1, r8.1⟩, 0)

set_option maxRecDepth 100000 in
theorem lkOf_any (t : ByteArray) (w : World) (hsz : t.size ≤ 9223372036854775807) :
    Calls Try.prog 46 #[.string t] w fun e w' => e = .returned (.tuple #[.agg #[.int .i64 ((rdSeg t).1.boot), .int .i64 ((rdSeg t).1.stream), .int .i64 ((rdSeg t).1.seq), .int .i64 ((rdSeg t).1.ab), .int .i64 ((rdSeg t).1.ast), .int .i64 ((rdSeg t).1.asq), .bool ((rdSeg t).1.has), .string ((rdSeg t).1.body)], .int .i64 ((rdSeg t).2)]) ∧ Below w.heap.size w w' := by
 have hB0 := Below.refl w.heap.size w
 refine co_enter (n := 33) Try.func46 rfl rfl rfl [(0, .string t)] rfl (fun a h0 => ?_)
 refine co_seq ?_
 refine co_reg ?_
 refine pw h0 rfl (op_new (v := fun N => pt N 0) (T := 61) (cs := #[.int .i64 0, .int .i64 0, .int .i64 0, .int .i64 0, .int .i64 0, .int .i64 0, .bool false, .string (⟨#[]⟩)]) (by kernel_rfl) (by kernel_rfl) (by kernel_rfl)) ?_; clear h0
 rintro _ w2 a1 ⟨N3, rfl, hN6, hz7, hk5, hg4⟩ h1
 have hz8 := hg4.size
 try dsimp only at h1
 refine pk0 (v := .int .i64 0) h1 rfl fun a9 h9 => ?_; clear h1
 refine pl_nil ?_
 refine co_then ?_
 refine co_seq ?_
 refine co_reg ?_
 refine pk0 (v := .string t) h9 rfl fun a10 h10 => ?_; clear h9
 refine pw h10 rfl (op_call (args := #[.string t]) (R := fun res xw => ∃ b : Nat, res = pt b 0 ∧ b = w2.heap.size ∧ OR b t 0 0 xw ∧ Below w2.heap.size w2 xw) rfl rfl rfl (by kernel_rfl) (by kernel_rfl) (Try.call87 _ _) (or_open t w2) (by rintro e x ⟨b, rfl, h0, h1, h2⟩; exact ⟨_, rfl, b, rfl, h0, h1, h2⟩)) ?_; clear h10
 rintro _ w12 a11 ⟨b13, rfl, hN14, ho15, hb16⟩ h11
 have hz17 := hb16.size
 have hl18 := ho15.lt
 refine pk0 (v := pt b13 0) h11 rfl fun a19 h19 => ?_; clear h11
 refine pl_nil ?_
 refine co_then ?_
 refine co_seq ?_
 refine co_reg ?_
 refine pk0 (v := pt b13 0) h19 rfl fun a20 h20 => ?_; clear h19
 refine pw h20 rfl (op_call (args := #[pt b13 0, .int .i64 1073741824]) (R := fun res xw => ∃ (n : Int) (a' e' : Int), res = .int .i64 n ∧ numR t 0 0 1073741824 = (n, a', e') ∧ 0 ≤ n ∧ n ≤ 1073741824 ∧ OR b13 t a' e' xw ∧ w12.grownBy xw (some b13)) rfl rfl rfl (by kernel_rfl) (by kernel_rfl) (Try.call88 _ _) (or_num b13 t 0 0 1073741824 w12 ho15 (by omega) (by omega) (by omega)) (by rintro q x ⟨n, a', e', rfl, h0, k0, k1, h1, h2⟩; exact ⟨_, rfl, n, a', e', rfl, h0, k0, k1, h1, h2⟩)) ?_; clear h20
 rintro _ w22 a21 ⟨n23, a24, e25, rfl, hq26, hn27, hm28, ho29, hg30⟩ h21
 have hz31 := hg30.size
 have hl32 := ho29.lt
 refine pk0 (v := pt b13 0) h21 rfl fun a33 h33 => ?_; clear h21
 refine pw h33 rfl (op_call (args := #[pt b13 0, .int .i64 1073741824]) (R := fun res xw => ∃ (n : Int) (a' e' : Int), res = .int .i64 n ∧ numR t a24 e25 1073741824 = (n, a', e') ∧ 0 ≤ n ∧ n ≤ 1073741824 ∧ OR b13 t a' e' xw ∧ w22.grownBy xw (some b13)) rfl rfl rfl (by kernel_rfl) (by kernel_rfl) (Try.call88 _ _) (or_num b13 t a24 e25 1073741824 w22 ho29 (by omega) (by omega) (by omega)) (by rintro q x ⟨n, a', e', rfl, h0, k0, k1, h1, h2⟩; exact ⟨_, rfl, n, a', e', rfl, h0, k0, k1, h1, h2⟩)) ?_; clear h33
 rintro _ w35 a34 ⟨n36, a37, e38, rfl, hq39, hn40, hm41, ho42, hg43⟩ h34
 have hz44 := hg43.size
 have hl45 := ho42.lt
 refine pk0 (v := pt b13 0) h34 rfl fun a46 h46 => ?_; clear h34
 refine pw h46 rfl (op_call (args := #[pt b13 0, .int .i64 1073741824]) (R := fun res xw => ∃ (n : Int) (a' e' : Int), res = .int .i64 n ∧ numR t a37 e38 1073741824 = (n, a', e') ∧ 0 ≤ n ∧ n ≤ 1073741824 ∧ OR b13 t a' e' xw ∧ w35.grownBy xw (some b13)) rfl rfl rfl (by kernel_rfl) (by kernel_rfl) (Try.call88 _ _) (or_num b13 t a37 e38 1073741824 w35 ho42 (by omega) (by omega) (by omega)) (by rintro q x ⟨n, a', e', rfl, h0, k0, k1, h1, h2⟩; exact ⟨_, rfl, n, a', e', rfl, h0, k0, k1, h1, h2⟩)) ?_; clear h46
 rintro _ w48 a47 ⟨n49, a50, e51, rfl, hq52, hn53, hm54, ho55, hg56⟩ h47
 have hz57 := hg56.size
 have hl58 := ho55.lt
 refine pk0 (v := pt b13 0) h47 rfl fun a59 h59 => ?_; clear h47
 refine pw h59 rfl (op_call (args := #[pt b13 0, .int .i64 1073741824]) (R := fun res xw => ∃ (n : Int) (a' e' : Int), res = .int .i64 n ∧ numR t a50 e51 1073741824 = (n, a', e') ∧ 0 ≤ n ∧ n ≤ 1073741824 ∧ OR b13 t a' e' xw ∧ w48.grownBy xw (some b13)) rfl rfl rfl (by kernel_rfl) (by kernel_rfl) (Try.call88 _ _) (or_num b13 t a50 e51 1073741824 w48 ho55 (by omega) (by omega) (by omega)) (by rintro q x ⟨n, a', e', rfl, h0, k0, k1, h1, h2⟩; exact ⟨_, rfl, n, a', e', rfl, h0, k0, k1, h1, h2⟩)) ?_; clear h59
 rintro _ w61 a60 ⟨n62, a63, e64, rfl, hq65, hn66, hm67, ho68, hg69⟩ h60
 have hz70 := hg69.size
 have hl71 := ho68.lt
 refine pk0 (v := pt b13 0) h60 rfl fun a72 h72 => ?_; clear h60
 refine pw h72 rfl (op_call (args := #[pt b13 0, .int .i64 1073741824]) (R := fun res xw => ∃ (n : Int) (a' e' : Int), res = .int .i64 n ∧ numR t a63 e64 1073741824 = (n, a', e') ∧ 0 ≤ n ∧ n ≤ 1073741824 ∧ OR b13 t a' e' xw ∧ w61.grownBy xw (some b13)) rfl rfl rfl (by kernel_rfl) (by kernel_rfl) (Try.call88 _ _) (or_num b13 t a63 e64 1073741824 w61 ho68 (by omega) (by omega) (by omega)) (by rintro q x ⟨n, a', e', rfl, h0, k0, k1, h1, h2⟩; exact ⟨_, rfl, n, a', e', rfl, h0, k0, k1, h1, h2⟩)) ?_; clear h72
 rintro _ w74 a73 ⟨n75, a76, e77, rfl, hq78, hn79, hm80, ho81, hg82⟩ h73
 have hz83 := hg82.size
 have hl84 := ho81.lt
 refine pk0 (v := pt b13 0) h73 rfl fun a85 h85 => ?_; clear h73
 refine pw h85 rfl (op_call (args := #[pt b13 0, .int .i64 1073741824]) (R := fun res xw => ∃ (n : Int) (a' e' : Int), res = .int .i64 n ∧ numR t a76 e77 1073741824 = (n, a', e') ∧ 0 ≤ n ∧ n ≤ 1073741824 ∧ OR b13 t a' e' xw ∧ w74.grownBy xw (some b13)) rfl rfl rfl (by kernel_rfl) (by kernel_rfl) (Try.call88 _ _) (or_num b13 t a76 e77 1073741824 w74 ho81 (by omega) (by omega) (by omega)) (by rintro q x ⟨n, a', e', rfl, h0, k0, k1, h1, h2⟩; exact ⟨_, rfl, n, a', e', rfl, h0, k0, k1, h1, h2⟩)) ?_; clear h85
 rintro _ w87 a86 ⟨n88, a89, e90, rfl, hq91, hn92, hm93, ho94, hg95⟩ h86
 have hz96 := hg95.size
 have hl97 := ho94.lt
 refine pk0 (v := pt b13 0) h86 rfl fun a98 h98 => ?_; clear h86
 refine pw h98 rfl (op_call (args := #[pt b13 0]) (R := fun res xw => ∃ (n : Bool) (a' e' : Int), res = .bool n ∧ flagR t a89.toNat e90 = (n, a', e') ∧ OR b13 t a' e' xw ∧ w87.grownBy xw (some b13)) rfl rfl rfl (by kernel_rfl) (by kernel_rfl) (Try.call89 _ _) (or_flag b13 t a89 e90 w87 ho94 (by omega)) (by rintro q x ⟨n, a', e', rfl, h0, h1, h2⟩; exact ⟨_, rfl, n, a', e', rfl, h0, h1, h2⟩)) ?_; clear h98
 rintro _ w100 a99 ⟨n101, a102, e103, rfl, hq104, ho107, hg108⟩ h99
 have hz109 := hg108.size
 have hl110 := ho107.lt
 refine pk0 (v := pt b13 0) h99 rfl fun a111 h111 => ?_; clear h99
 refine pw h111 rfl (op_call (args := #[pt b13 0, .int .i64 65536]) (R := fun res xw => ∃ (n : ByteArray) (a' e' : Int), res = .string n ∧ textR t a102 e103 65536 = (n, a', e') ∧ (n.size : Int) ≤ 65536 ∧ OR b13 t a' e' xw ∧ w100.grownBy xw (some b13)) rfl rfl rfl (by kernel_rfl) (by kernel_rfl) (Try.call90 _ _) (or_text b13 t a102 e103 65536 w100 ho107 (by omega) (by omega) (by omega)) (by rintro q x ⟨n, a', e', rfl, h0, k0, h1, h2⟩; exact ⟨_, rfl, n, a', e', rfl, h0, k0, h1, h2⟩)) ?_; clear h111
 rintro _ w113 a112 ⟨n114, a115, e116, rfl, hq117, hn118, ho120, hg121⟩ h112
 have hz122 := hg121.size
 have hl123 := ho120.lt
 refine pk0 (v := .agg #[.int .i64 n23, .int .i64 n36, .int .i64 n49, .int .i64 n62, .int .i64 n75, .int .i64 n88, .bool n101, .string n114]) h112 rfl fun a124 h124 => ?_; clear h112
 refine pw h124 rfl (op_new (v := fun N => pt N 0) (T := 61) (cs := #[.int .i64 0, .int .i64 0, .int .i64 0, .int .i64 0, .int .i64 0, .int .i64 0, .bool false, .string (⟨#[]⟩)]) (by kernel_rfl) (by kernel_rfl) (by kernel_rfl)) ?_; clear h124
 rintro _ w126 a125 ⟨N127, rfl, hN130, hz131, hk129, hg128⟩ h125
 have hz132 := hg128.size
 try dsimp only at h125
 refine pwD h125 rfl (op_storeN rfl rfl rfl (by kernel_rfl) (by kernel_rfl) hk129 rfl) ?_; clear h125
 rintro _ w134 a133 ⟨hk135, hz136, hg137⟩ h133
 have hk135' : Blk w134 N127 61 #[.int .i64 n23, .int .i64 n36, .int .i64 n49, .int .i64 n62, .int .i64 n75, .int .i64 n88, .bool n101, .string n114] := hk135; clear hk135
 have hz138 := hg137.size
 refine pl_nil ?_
 refine co_then ?_
 refine co_seq ?_
 refine co_seq ?_
 refine co_reg ?_
 refine pk0 (v := pt b13 0) h133 rfl fun a139 h139 => ?_; clear h133
 have ho145 := ho120.new hg128
 have ho146 := ho145.at (by omega) hg137
 refine pw h139 rfl (op_call (args := #[pt b13 0]) (R := fun res xw => ∃ r : Int, res = .int .i64 r ∧ endV t a115.toNat e116 = r ∧ Below w134.heap.size w134 xw) rfl rfl rfl (by kernel_rfl) (by kernel_rfl) (Try.call91 _ _) (or_end b13 t a115 e116 w134 ho146 (by omega)) (by rintro e x ⟨r, rfl, h0, h2⟩; exact ⟨_, rfl, r, rfl, h0, h2⟩)) ?_; clear h139
 rintro _ w141 a140 ⟨r142, rfl, hq143, hb144⟩ h140
 have hz147 := hb144.size
 refine pk0 (v := .int .i64 r142) h140 rfl fun a148 h148 => ?_; clear h140
 refine pl_nil ?_
 refine co_then ?_
 refine co_seq ?_
 refine co_reg ?_
 refine pk0 (v := .int .i64 r142) h148 rfl fun a149 h149 => ?_; clear h148
 refine pk0 (v := .bool (r142 != 0)) h149 rfl fun a150 h150 => ?_; clear h149
 refine pl_nil ?_
 refine co_then ?_
 have hB152 := hb_new hB0 hg4
 have hB153 := hb_call hB152 hb16
 have hB154 := hb_at hB153 hg30 (by omega)
 have hB155 := hb_at hB154 hg43 (by omega)
 have hB156 := hb_at hB155 hg56 (by omega)
 have hB157 := hb_at hB156 hg69 (by omega)
 have hB158 := hb_at hB157 hg82 (by omega)
 have hB159 := hb_at hB158 hg95 (by omega)
 have hB160 := hb_at hB159 hg108 (by omega)
 have hB161 := hb_at hB160 hg121 (by omega)
 have hB162 := hb_new hB161 hg128
 have hB163 := hb_at hB162 hg137 (by omega)
 have hB164 := hb_call hB163 hb144
 have hk165 := hk5.below hb16
 have hk166 := hk165.kept hg30 (by simp; omega)
 have hk167 := hk166.kept hg43 (by simp; omega)
 have hk168 := hk167.kept hg56 (by simp; omega)
 have hk169 := hk168.kept hg69 (by simp; omega)
 have hk170 := hk169.kept hg82 (by simp; omega)
 have hk171 := hk170.kept hg95 (by simp; omega)
 have hk172 := hk171.kept hg108 (by simp; omega)
 have hk173 := hk172.kept hg121 (by simp; omega)
 have hk174 := hk173.kept hg128 (by simp)
 have hk175 := hk174.kept hg137 (by simp; omega)
 have hk176 := hk175.below hb144
 cases hc151 : (r142 != 0)
 ·
  rw [hc151] at h150
  have hp177 : ¬ (r142 ≠ 0) := by first | simpa using hc151 | simpa [and_assoc] using hc151
  clear hc151
  refine co_false h150 rfl ?_
  refine wp_skip ?_
  refine co_then ?_
  refine co_seq ?_
  refine co_reg ?_
  have hk178 := hk135'.below hb144
  refine pk (v := .agg #[.int .i64 n23, .int .i64 n36, .int .i64 n49, .int .i64 n62, .int .i64 n75, .int .i64 n88, .bool n101, .string n114]) h150 rfl (rn_loadN rfl rfl Try.underlying61 rfl (by kernel_rfl) hk178.all) fun a179 h179 => ?_; clear h150
  refine pwD h179 rfl (op_storeN rfl rfl rfl (by kernel_rfl) (by kernel_rfl) hk176 rfl) ?_; clear h179
  rintro _ w181 a180 ⟨hk182, hz183, hg184⟩ h180
  have hk182' : Blk w181 N3 61 #[.int .i64 n23, .int .i64 n36, .int .i64 n49, .int .i64 n62, .int .i64 n75, .int .i64 n88, .bool n101, .string n114] := hk182; clear hk182
  have hz185 := hg184.size
  refine pk0 (v := .int .i64 0) h180 rfl fun a186 h186 => ?_; clear h180
  refine pl_nil ?_
  refine co_then ?_
  refine wp_ret ?_
  refine co_retC1 (Q := fun _ _ _ => True) h186 rfl rfl rfl hk182' Try.underlying61 rfl (by kernel_rfl) ?_
  have hB187 := hb_at hB164 hg184 (by omega)
  have hE : rdSeg t = (SegT.mk n23 n36 n49 n62 n75 n88 n101 n114, 0) := by unfold rdSeg; simp only [hq26, hq39, hq52, hq65, hq78, hq91, hq104, hq117, hq143]; rw [if_neg (by omega)]
  exact ⟨by first | (rw [hE]; done) | (rw [hE]; rfl), hB187⟩
 ·
  rw [hc151] at h150
  have hp188 : r142 ≠ 0 := by first | simpa using hc151 | simpa [and_assoc] using hc151
  clear hc151
  refine co_true h150 rfl ?_
  refine co_seq ?_
  refine co_reg ?_
  refine pk0 (v := .agg #[.int .i64 0, .int .i64 0, .int .i64 0, .int .i64 0, .int .i64 0, .int .i64 0, .bool false, .string (⟨#[]⟩)]) h150 rfl fun a189 h189 => ?_; clear h150
  refine pk0 (v := .int .i64 r142) h189 rfl fun a190 h190 => ?_; clear h189
  refine pwD h190 rfl (op_storeN rfl rfl rfl (by kernel_rfl) (by kernel_rfl) hk176 rfl) ?_; clear h190
  rintro _ w192 a191 ⟨hk193, hz194, hg195⟩ h191
  have hk193' : Blk w192 N3 61 #[.int .i64 0, .int .i64 0, .int .i64 0, .int .i64 0, .int .i64 0, .int .i64 0, .bool false, .string (⟨#[]⟩)] := hk193; clear hk193
  have hz196 := hg195.size
  refine pk0 (v := .int .i64 r142) h191 rfl fun a197 h197 => ?_; clear h191
  refine pl_nil ?_
  refine co_then ?_
  refine wp_ret ?_
  refine co_thenR ?_
  refine co_retC1 (Q := fun _ _ _ => True) h197 rfl rfl rfl hk193' Try.underlying61 rfl (by kernel_rfl) ?_
  have hB198 := hb_at hB164 hg195 (by omega)
  have hE : rdSeg t = (zSeg, r142) := by unfold rdSeg; simp only [hq26, hq39, hq52, hq65, hq78, hq91, hq104, hq117, hq143]; rw [if_pos (by omega)]
  exact ⟨by first | (rw [hE]; done) | (rw [hE]; rfl), hB198⟩
set_option maxRecDepth 100000 in
theorem rlOf_any (t : ByteArray) (w : World) (hsz : t.size ≤ 9223372036854775807) :
    Calls Try.prog 47 #[.string t] w fun e w' => e = .returned (.tuple #[.agg #[.int .i64 ((rdSeg t).1.boot), .int .i64 ((rdSeg t).1.stream), .int .i64 ((rdSeg t).1.seq), .int .i64 ((rdSeg t).1.ab), .int .i64 ((rdSeg t).1.ast), .int .i64 ((rdSeg t).1.asq), .bool ((rdSeg t).1.has), .string ((rdSeg t).1.body)], .int .i64 ((rdSeg t).2)]) ∧ Below w.heap.size w w' := by
 have hB0 := Below.refl w.heap.size w
 refine co_enter (n := 42) Try.func47 rfl rfl rfl [(0, .string t)] rfl (fun a h0 => ?_)
 refine co_seq ?_
 refine co_reg ?_
 refine pw h0 rfl (op_new (v := fun N => pt N 0) (T := 61) (cs := #[.int .i64 0, .int .i64 0, .int .i64 0, .int .i64 0, .int .i64 0, .int .i64 0, .bool false, .string (⟨#[]⟩)]) (by kernel_rfl) (by kernel_rfl) (by kernel_rfl)) ?_; clear h0
 rintro _ w2 a1 ⟨N3, rfl, hN6, hz7, hk5, hg4⟩ h1
 have hz8 := hg4.size
 try dsimp only at h1
 refine pk0 (v := .int .i64 0) h1 rfl fun a9 h9 => ?_; clear h1
 refine pl_nil ?_
 refine co_then ?_
 refine co_seq ?_
 refine co_reg ?_
 refine pk0 (v := .string t) h9 rfl fun a10 h10 => ?_; clear h9
 refine pk0 (v := .agg #[.string t, .int .i64 0, .int .i64 0]) h10 rfl fun a11 h11 => ?_; clear h10
 refine pw h11 rfl (op_new (v := fun N => pt N 0) (T := 163) (cs := #[.string t, .int .i64 0, .int .i64 0]) (by kernel_rfl) (by kernel_rfl) (by kernel_rfl)) ?_; clear h11
 rintro _ w13 a12 ⟨N14, rfl, hN17, hz18, hk16, hg15⟩ h12
 have hz19 := hg15.size
 try dsimp only at h12
 refine pk0 (v := pt N14 0) h12 rfl fun a20 h20 => ?_; clear h12
 refine pl_nil ?_
 refine co_then ?_
 refine co_seq ?_
 refine co_reg ?_
 refine pk0 (v := .agg #[.int .i64 0, .int .i64 0, .int .i64 0, .int .i64 0, .int .i64 0, .int .i64 0, .bool false, .string (⟨#[]⟩)]) h20 rfl fun a21 h21 => ?_; clear h20
 refine pw h21 rfl (op_new (v := fun N => pt N 0) (T := 61) (cs := #[.int .i64 0, .int .i64 0, .int .i64 0, .int .i64 0, .int .i64 0, .int .i64 0, .bool false, .string (⟨#[]⟩)]) (by kernel_rfl) (by kernel_rfl) (by kernel_rfl)) ?_; clear h21
 rintro _ w23 a22 ⟨N24, rfl, hN27, hz28, hk26, hg25⟩ h22
 have hz29 := hg25.size
 try dsimp only at h22
 refine pwD h22 rfl (op_storeN rfl rfl rfl (by kernel_rfl) (by kernel_rfl) hk26 rfl) ?_; clear h22
 rintro _ w31 a30 ⟨hk32, hz33, hg34⟩ h30
 have hk32' : Blk w31 N24 61 #[.int .i64 0, .int .i64 0, .int .i64 0, .int .i64 0, .int .i64 0, .int .i64 0, .bool false, .string (⟨#[]⟩)] := hk32; clear hk32
 have hz35 := hg34.size
 refine pl_nil ?_
 refine co_then ?_
 refine co_seq ?_
 refine co_reg ?_
 refine pk0 (v := pt N14 0) h30 rfl fun a36 h36 => ?_; clear h30
 have hk40 := hk16.kept hg25 (by simp)
 have hk41 := hk40.kept hg34 (by simp; omega)
 have ho39 := oxr_of hk41
 refine pw h36 rfl (op_call (args := #[pt N14 0, .int .i64 1073741824]) (R := fun res xw => ∃ (n : Int) (a' e' : Int), res = .int .i64 n ∧ numR t 0 0 1073741824 = (n, a', e') ∧ 0 ≤ n ∧ n ≤ 1073741824 ∧ OXR N14 t a' e' xw ∧ w31.grownBy xw (some N14)) rfl rfl rfl (by kernel_rfl) (by kernel_rfl) (Try.call92 _ _) (oxr_num N14 t 0 0 1073741824 w31 ho39 (by omega) (by omega) (by omega)) (by rintro q x ⟨n, a', e', rfl, h0, k0, k1, h1, h2⟩; exact ⟨_, rfl, n, a', e', rfl, h0, k0, k1, h1, h2⟩)) ?_; clear h36
 rintro _ w38 a37 ⟨n42, a43, e44, rfl, hq45, hn46, hm47, ho48, hg49⟩ h37
 have hz50 := hg49.size
 have hl51 := ho48.lt
 refine pk0 (v := pt N24 0) h37 rfl fun a52 h52 => ?_; clear h37
 have hk58 := hk32'.kept hg49 (by simp; omega)
 refine pwD h52 rfl (op_store1 rfl rfl rfl rfl Try.sizeOf3 hk58 rfl) ?_; clear h52
 rintro _ w54 a53 ⟨hk55, hz56, hg57⟩ h53
 have hk55' : Blk w54 N24 61 #[.int .i64 n42, .int .i64 0, .int .i64 0, .int .i64 0, .int .i64 0, .int .i64 0, .bool false, .string (⟨#[]⟩)] := hk55; clear hk55
 have hz59 := hg57.size
 refine pl_nil ?_
 refine co_then ?_
 refine co_seq ?_
 refine co_reg ?_
 refine pk0 (v := pt N14 0) h53 rfl fun a60 h60 => ?_; clear h53
 have ho71 := ho48.at (by omega) hg57
 refine pw h60 rfl (op_call (args := #[pt N14 0, .int .i64 1073741824]) (R := fun res xw => ∃ (n : Int) (a' e' : Int), res = .int .i64 n ∧ numR t a43 e44 1073741824 = (n, a', e') ∧ 0 ≤ n ∧ n ≤ 1073741824 ∧ OXR N14 t a' e' xw ∧ w54.grownBy xw (some N14)) rfl rfl rfl (by kernel_rfl) (by kernel_rfl) (Try.call92 _ _) (oxr_num N14 t a43 e44 1073741824 w54 ho71 (by omega) (by omega) (by omega)) (by rintro q x ⟨n, a', e', rfl, h0, k0, k1, h1, h2⟩; exact ⟨_, rfl, n, a', e', rfl, h0, k0, k1, h1, h2⟩)) ?_; clear h60
 rintro _ w62 a61 ⟨n63, a64, e65, rfl, hq66, hn67, hm68, ho69, hg70⟩ h61
 have hz72 := hg70.size
 have hl73 := ho69.lt
 refine pk0 (v := pt N24 1) h61 rfl fun a74 h74 => ?_; clear h61
 have hk80 := hk55'.kept hg70 (by simp; omega)
 refine pwD h74 rfl (op_store1 rfl rfl rfl rfl Try.sizeOf3 hk80 rfl) ?_; clear h74
 rintro _ w76 a75 ⟨hk77, hz78, hg79⟩ h75
 have hk77' : Blk w76 N24 61 #[.int .i64 n42, .int .i64 n63, .int .i64 0, .int .i64 0, .int .i64 0, .int .i64 0, .bool false, .string (⟨#[]⟩)] := hk77; clear hk77
 have hz81 := hg79.size
 refine pl_nil ?_
 refine co_then ?_
 refine co_seq ?_
 refine co_reg ?_
 refine pk0 (v := pt N14 0) h75 rfl fun a82 h82 => ?_; clear h75
 have ho93 := ho69.at (by omega) hg79
 refine pw h82 rfl (op_call (args := #[pt N14 0, .int .i64 1073741824]) (R := fun res xw => ∃ (n : Int) (a' e' : Int), res = .int .i64 n ∧ numR t a64 e65 1073741824 = (n, a', e') ∧ 0 ≤ n ∧ n ≤ 1073741824 ∧ OXR N14 t a' e' xw ∧ w76.grownBy xw (some N14)) rfl rfl rfl (by kernel_rfl) (by kernel_rfl) (Try.call92 _ _) (oxr_num N14 t a64 e65 1073741824 w76 ho93 (by omega) (by omega) (by omega)) (by rintro q x ⟨n, a', e', rfl, h0, k0, k1, h1, h2⟩; exact ⟨_, rfl, n, a', e', rfl, h0, k0, k1, h1, h2⟩)) ?_; clear h82
 rintro _ w84 a83 ⟨n85, a86, e87, rfl, hq88, hn89, hm90, ho91, hg92⟩ h83
 have hz94 := hg92.size
 have hl95 := ho91.lt
 refine pk0 (v := pt N24 2) h83 rfl fun a96 h96 => ?_; clear h83
 have hk102 := hk77'.kept hg92 (by simp; omega)
 refine pwD h96 rfl (op_store1 rfl rfl rfl rfl Try.sizeOf3 hk102 rfl) ?_; clear h96
 rintro _ w98 a97 ⟨hk99, hz100, hg101⟩ h97
 have hk99' : Blk w98 N24 61 #[.int .i64 n42, .int .i64 n63, .int .i64 n85, .int .i64 0, .int .i64 0, .int .i64 0, .bool false, .string (⟨#[]⟩)] := hk99; clear hk99
 have hz103 := hg101.size
 refine pl_nil ?_
 refine co_then ?_
 refine co_seq ?_
 refine co_reg ?_
 refine pk0 (v := pt N14 0) h97 rfl fun a104 h104 => ?_; clear h97
 have ho115 := ho91.at (by omega) hg101
 refine pw h104 rfl (op_call (args := #[pt N14 0, .int .i64 1073741824]) (R := fun res xw => ∃ (n : Int) (a' e' : Int), res = .int .i64 n ∧ numR t a86 e87 1073741824 = (n, a', e') ∧ 0 ≤ n ∧ n ≤ 1073741824 ∧ OXR N14 t a' e' xw ∧ w98.grownBy xw (some N14)) rfl rfl rfl (by kernel_rfl) (by kernel_rfl) (Try.call92 _ _) (oxr_num N14 t a86 e87 1073741824 w98 ho115 (by omega) (by omega) (by omega)) (by rintro q x ⟨n, a', e', rfl, h0, k0, k1, h1, h2⟩; exact ⟨_, rfl, n, a', e', rfl, h0, k0, k1, h1, h2⟩)) ?_; clear h104
 rintro _ w106 a105 ⟨n107, a108, e109, rfl, hq110, hn111, hm112, ho113, hg114⟩ h105
 have hz116 := hg114.size
 have hl117 := ho113.lt
 refine pk0 (v := pt N24 3) h105 rfl fun a118 h118 => ?_; clear h105
 have hk124 := hk99'.kept hg114 (by simp; omega)
 refine pwD h118 rfl (op_store1 rfl rfl rfl rfl Try.sizeOf3 hk124 rfl) ?_; clear h118
 rintro _ w120 a119 ⟨hk121, hz122, hg123⟩ h119
 have hk121' : Blk w120 N24 61 #[.int .i64 n42, .int .i64 n63, .int .i64 n85, .int .i64 n107, .int .i64 0, .int .i64 0, .bool false, .string (⟨#[]⟩)] := hk121; clear hk121
 have hz125 := hg123.size
 refine pl_nil ?_
 refine co_then ?_
 refine co_seq ?_
 refine co_reg ?_
 refine pk0 (v := pt N14 0) h119 rfl fun a126 h126 => ?_; clear h119
 have ho137 := ho113.at (by omega) hg123
 refine pw h126 rfl (op_call (args := #[pt N14 0, .int .i64 1073741824]) (R := fun res xw => ∃ (n : Int) (a' e' : Int), res = .int .i64 n ∧ numR t a108 e109 1073741824 = (n, a', e') ∧ 0 ≤ n ∧ n ≤ 1073741824 ∧ OXR N14 t a' e' xw ∧ w120.grownBy xw (some N14)) rfl rfl rfl (by kernel_rfl) (by kernel_rfl) (Try.call92 _ _) (oxr_num N14 t a108 e109 1073741824 w120 ho137 (by omega) (by omega) (by omega)) (by rintro q x ⟨n, a', e', rfl, h0, k0, k1, h1, h2⟩; exact ⟨_, rfl, n, a', e', rfl, h0, k0, k1, h1, h2⟩)) ?_; clear h126
 rintro _ w128 a127 ⟨n129, a130, e131, rfl, hq132, hn133, hm134, ho135, hg136⟩ h127
 have hz138 := hg136.size
 have hl139 := ho135.lt
 refine pk0 (v := pt N24 4) h127 rfl fun a140 h140 => ?_; clear h127
 have hk146 := hk121'.kept hg136 (by simp; omega)
 refine pwD h140 rfl (op_store1 rfl rfl rfl rfl Try.sizeOf3 hk146 rfl) ?_; clear h140
 rintro _ w142 a141 ⟨hk143, hz144, hg145⟩ h141
 have hk143' : Blk w142 N24 61 #[.int .i64 n42, .int .i64 n63, .int .i64 n85, .int .i64 n107, .int .i64 n129, .int .i64 0, .bool false, .string (⟨#[]⟩)] := hk143; clear hk143
 have hz147 := hg145.size
 refine pl_nil ?_
 refine co_then ?_
 refine co_seq ?_
 refine co_reg ?_
 refine pk0 (v := pt N14 0) h141 rfl fun a148 h148 => ?_; clear h141
 have ho159 := ho135.at (by omega) hg145
 refine pw h148 rfl (op_call (args := #[pt N14 0, .int .i64 1073741824]) (R := fun res xw => ∃ (n : Int) (a' e' : Int), res = .int .i64 n ∧ numR t a130 e131 1073741824 = (n, a', e') ∧ 0 ≤ n ∧ n ≤ 1073741824 ∧ OXR N14 t a' e' xw ∧ w142.grownBy xw (some N14)) rfl rfl rfl (by kernel_rfl) (by kernel_rfl) (Try.call92 _ _) (oxr_num N14 t a130 e131 1073741824 w142 ho159 (by omega) (by omega) (by omega)) (by rintro q x ⟨n, a', e', rfl, h0, k0, k1, h1, h2⟩; exact ⟨_, rfl, n, a', e', rfl, h0, k0, k1, h1, h2⟩)) ?_; clear h148
 rintro _ w150 a149 ⟨n151, a152, e153, rfl, hq154, hn155, hm156, ho157, hg158⟩ h149
 have hz160 := hg158.size
 have hl161 := ho157.lt
 refine pk0 (v := pt N24 5) h149 rfl fun a162 h162 => ?_; clear h149
 have hk168 := hk143'.kept hg158 (by simp; omega)
 refine pwD h162 rfl (op_store1 rfl rfl rfl rfl Try.sizeOf3 hk168 rfl) ?_; clear h162
 rintro _ w164 a163 ⟨hk165, hz166, hg167⟩ h163
 have hk165' : Blk w164 N24 61 #[.int .i64 n42, .int .i64 n63, .int .i64 n85, .int .i64 n107, .int .i64 n129, .int .i64 n151, .bool false, .string (⟨#[]⟩)] := hk165; clear hk165
 have hz169 := hg167.size
 refine pl_nil ?_
 refine co_then ?_
 refine co_seq ?_
 refine co_reg ?_
 refine pk0 (v := pt N14 0) h163 rfl fun a170 h170 => ?_; clear h163
 have ho181 := ho157.at (by omega) hg167
 refine pw h170 rfl (op_call (args := #[pt N14 0]) (R := fun res xw => ∃ (n : Bool) (a' e' : Int), res = .bool n ∧ flagR t a152.toNat e153 = (n, a', e') ∧ OXR N14 t a' e' xw ∧ w164.grownBy xw (some N14)) rfl rfl rfl (by kernel_rfl) (by kernel_rfl) (Try.call93 _ _) (oxr_flag N14 t a152 e153 w164 ho181 (by omega)) (by rintro q x ⟨n, a', e', rfl, h0, h1, h2⟩; exact ⟨_, rfl, n, a', e', rfl, h0, h1, h2⟩)) ?_; clear h170
 rintro _ w172 a171 ⟨n173, a174, e175, rfl, hq176, ho179, hg180⟩ h171
 have hz182 := hg180.size
 have hl183 := ho179.lt
 refine pk0 (v := pt N24 6) h171 rfl fun a184 h184 => ?_; clear h171
 have hk190 := hk165'.kept hg180 (by simp; omega)
 refine pwD h184 rfl (op_store1 rfl rfl rfl rfl Try.sizeOf4 hk190 rfl) ?_; clear h184
 rintro _ w186 a185 ⟨hk187, hz188, hg189⟩ h185
 have hk187' : Blk w186 N24 61 #[.int .i64 n42, .int .i64 n63, .int .i64 n85, .int .i64 n107, .int .i64 n129, .int .i64 n151, .bool n173, .string (⟨#[]⟩)] := hk187; clear hk187
 have hz191 := hg189.size
 refine pl_nil ?_
 refine co_then ?_
 refine co_seq ?_
 refine co_reg ?_
 refine pk0 (v := pt N14 0) h185 rfl fun a192 h192 => ?_; clear h185
 have ho203 := ho179.at (by omega) hg189
 refine pw h192 rfl (op_call (args := #[pt N14 0, .int .i64 65536]) (R := fun res xw => ∃ (n : ByteArray) (a' e' : Int), res = .string n ∧ textR t a174 e175 65536 = (n, a', e') ∧ (n.size : Int) ≤ 65536 ∧ OXR N14 t a' e' xw ∧ w186.grownBy xw (some N14)) rfl rfl rfl (by kernel_rfl) (by kernel_rfl) (Try.call94 _ _) (oxr_text N14 t a174 e175 65536 w186 ho203 (by omega) (by omega) (by omega)) (by rintro q x ⟨n, a', e', rfl, h0, k0, h1, h2⟩; exact ⟨_, rfl, n, a', e', rfl, h0, k0, h1, h2⟩)) ?_; clear h192
 rintro _ w194 a193 ⟨n195, a196, e197, rfl, hq198, hn199, ho201, hg202⟩ h193
 have hz204 := hg202.size
 have hl205 := ho201.lt
 refine pk0 (v := pt N24 7) h193 rfl fun a206 h206 => ?_; clear h193
 have hk212 := hk187'.kept hg202 (by simp; omega)
 refine pwD h206 rfl (op_store1 rfl rfl rfl rfl Try.sizeOf9 hk212 rfl) ?_; clear h206
 rintro _ w208 a207 ⟨hk209, hz210, hg211⟩ h207
 have hk209' : Blk w208 N24 61 #[.int .i64 n42, .int .i64 n63, .int .i64 n85, .int .i64 n107, .int .i64 n129, .int .i64 n151, .bool n173, .string n195] := hk209; clear hk209
 have hz213 := hg211.size
 refine pl_nil ?_
 refine co_then ?_
 refine co_seq ?_
 refine co_seq ?_
 refine co_reg ?_
 refine pk0 (v := pt N14 0) h207 rfl fun a214 h214 => ?_; clear h207
 have ho220 := ho201.at (by omega) hg211
 refine pw h214 rfl (op_call (args := #[pt N14 0]) (R := fun res xw => ∃ r : Int, res = .int .i64 r ∧ endV t a196.toNat e197 = r ∧ Below w208.heap.size w208 xw) rfl rfl rfl (by kernel_rfl) (by kernel_rfl) (Try.call95 _ _) (oxr_end N14 t a196 e197 w208 ho220 (by omega)) (by rintro e x ⟨r, rfl, h0, h2⟩; exact ⟨_, rfl, r, rfl, h0, h2⟩)) ?_; clear h214
 rintro _ w216 a215 ⟨r217, rfl, hq218, hb219⟩ h215
 have hz221 := hb219.size
 refine pk0 (v := .int .i64 r217) h215 rfl fun a222 h222 => ?_; clear h215
 refine pl_nil ?_
 refine co_then ?_
 refine co_seq ?_
 refine co_reg ?_
 refine pk0 (v := .int .i64 r217) h222 rfl fun a223 h223 => ?_; clear h222
 refine pk0 (v := .bool (r217 != 0)) h223 rfl fun a224 h224 => ?_; clear h223
 refine pl_nil ?_
 refine co_then ?_
 have hB226 := hb_new hB0 hg4
 have hB227 := hb_new hB226 hg15
 have hB228 := hb_new hB227 hg25
 have hB229 := hb_at hB228 hg34 (by omega)
 have hB230 := hb_at hB229 hg49 (by omega)
 have hB231 := hb_at hB230 hg57 (by omega)
 have hB232 := hb_at hB231 hg70 (by omega)
 have hB233 := hb_at hB232 hg79 (by omega)
 have hB234 := hb_at hB233 hg92 (by omega)
 have hB235 := hb_at hB234 hg101 (by omega)
 have hB236 := hb_at hB235 hg114 (by omega)
 have hB237 := hb_at hB236 hg123 (by omega)
 have hB238 := hb_at hB237 hg136 (by omega)
 have hB239 := hb_at hB238 hg145 (by omega)
 have hB240 := hb_at hB239 hg158 (by omega)
 have hB241 := hb_at hB240 hg167 (by omega)
 have hB242 := hb_at hB241 hg180 (by omega)
 have hB243 := hb_at hB242 hg189 (by omega)
 have hB244 := hb_at hB243 hg202 (by omega)
 have hB245 := hb_at hB244 hg211 (by omega)
 have hB246 := hb_call hB245 hb219
 have hk247 := hk5.kept hg15 (by simp)
 have hk248 := hk247.kept hg25 (by simp)
 have hk249 := hk248.kept hg34 (by simp; omega)
 have hk250 := hk249.kept hg49 (by simp; omega)
 have hk251 := hk250.kept hg57 (by simp; omega)
 have hk252 := hk251.kept hg70 (by simp; omega)
 have hk253 := hk252.kept hg79 (by simp; omega)
 have hk254 := hk253.kept hg92 (by simp; omega)
 have hk255 := hk254.kept hg101 (by simp; omega)
 have hk256 := hk255.kept hg114 (by simp; omega)
 have hk257 := hk256.kept hg123 (by simp; omega)
 have hk258 := hk257.kept hg136 (by simp; omega)
 have hk259 := hk258.kept hg145 (by simp; omega)
 have hk260 := hk259.kept hg158 (by simp; omega)
 have hk261 := hk260.kept hg167 (by simp; omega)
 have hk262 := hk261.kept hg180 (by simp; omega)
 have hk263 := hk262.kept hg189 (by simp; omega)
 have hk264 := hk263.kept hg202 (by simp; omega)
 have hk265 := hk264.kept hg211 (by simp; omega)
 have hk266 := hk265.below hb219
 cases hc225 : (r217 != 0)
 ·
  rw [hc225] at h224
  have hp267 : ¬ (r217 ≠ 0) := by first | simpa using hc225 | simpa [and_assoc] using hc225
  clear hc225
  refine co_false h224 rfl ?_
  refine wp_skip ?_
  refine co_then ?_
  refine co_seq ?_
  refine co_reg ?_
  have hk268 := hk209'.below hb219
  refine pk (v := .agg #[.int .i64 n42, .int .i64 n63, .int .i64 n85, .int .i64 n107, .int .i64 n129, .int .i64 n151, .bool n173, .string n195]) h224 rfl (rn_loadN rfl rfl Try.underlying61 rfl (by kernel_rfl) hk268.all) fun a269 h269 => ?_; clear h224
  refine pwD h269 rfl (op_storeN rfl rfl rfl (by kernel_rfl) (by kernel_rfl) hk266 rfl) ?_; clear h269
  rintro _ w271 a270 ⟨hk272, hz273, hg274⟩ h270
  have hk272' : Blk w271 N3 61 #[.int .i64 n42, .int .i64 n63, .int .i64 n85, .int .i64 n107, .int .i64 n129, .int .i64 n151, .bool n173, .string n195] := hk272; clear hk272
  have hz275 := hg274.size
  refine pk0 (v := .int .i64 0) h270 rfl fun a276 h276 => ?_; clear h270
  refine pl_nil ?_
  refine co_then ?_
  refine wp_ret ?_
  refine co_retC1 (Q := fun _ _ _ => True) h276 rfl rfl rfl hk272' Try.underlying61 rfl (by kernel_rfl) ?_
  have hB277 := hb_at hB246 hg274 (by omega)
  have hE : rdSeg t = (SegT.mk n42 n63 n85 n107 n129 n151 n173 n195, 0) := by unfold rdSeg; simp only [hq45, hq66, hq88, hq110, hq132, hq154, hq176, hq198, hq218]; rw [if_neg (by omega)]
  exact ⟨by first | (rw [hE]; done) | (rw [hE]; rfl), hB277⟩
 ·
  rw [hc225] at h224
  have hp278 : r217 ≠ 0 := by first | simpa using hc225 | simpa [and_assoc] using hc225
  clear hc225
  refine co_true h224 rfl ?_
  refine co_seq ?_
  refine co_reg ?_
  refine pk0 (v := .agg #[.int .i64 0, .int .i64 0, .int .i64 0, .int .i64 0, .int .i64 0, .int .i64 0, .bool false, .string (⟨#[]⟩)]) h224 rfl fun a279 h279 => ?_; clear h224
  refine pk0 (v := .int .i64 r217) h279 rfl fun a280 h280 => ?_; clear h279
  refine pwD h280 rfl (op_storeN rfl rfl rfl (by kernel_rfl) (by kernel_rfl) hk266 rfl) ?_; clear h280
  rintro _ w282 a281 ⟨hk283, hz284, hg285⟩ h281
  have hk283' : Blk w282 N3 61 #[.int .i64 0, .int .i64 0, .int .i64 0, .int .i64 0, .int .i64 0, .int .i64 0, .bool false, .string (⟨#[]⟩)] := hk283; clear hk283
  have hz286 := hg285.size
  refine pk0 (v := .int .i64 r217) h281 rfl fun a287 h287 => ?_; clear h281
  refine pl_nil ?_
  refine co_then ?_
  refine wp_ret ?_
  refine co_thenR ?_
  refine co_retC1 (Q := fun _ _ _ => True) h287 rfl rfl rfl hk283' Try.underlying61 rfl (by kernel_rfl) ?_
  have hB288 := hb_at hB246 hg285 (by omega)
  have hE : rdSeg t = (zSeg, r217) := by unfold rdSeg; simp only [hq45, hq66, hq88, hq110, hq132, hq154, hq176, hq198, hq218]; rw [if_pos (by omega)]
  exact ⟨by first | (rw [hE]; done) | (rw [hE]; rfl), hB288⟩
end Go.Proofs.Ythmljllgfigebaa
