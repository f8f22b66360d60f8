/- RlogZero. Conditions: none. -/
import Derived.Test.YthmnndbpadegnaaRlgF
namespace Go.Proofs.Ythmnndbpadegnaa
open Go.RowKit Go.PlainAid
set_option linter.unusedVariables false


def entV (e : EntT) : Value := .agg #[.int .i64 e.client, .int .i64 e.req, e.ops, .int .u64 e.ts]
set_option maxRecDepth 100000 in
open Go.ChangeShapes Go.WideShapes Go.Deep in
theorem open_ent {H : Type} {enc : TypeId × Value → H} {w W0 : World} {base b0 : Nat} {spare : Nat → Bool} {held : Bool} {r : Reach} {v : Value} {n : Nat} {x : DataW H × List MemPlace}
    (hv : Value.okWide Try.prog w r b0 47 v) (h : DataW.trod enc Try.prog W0 base spare held n 47 v.cells.toList = some x) :
    ∃ e : EntT, v = entV e ∧ EntOk W0 e := by
  obtain ⟨cs, rfl, hsz⟩ := okWide_struct Try.underlying47 hv
  obtain ⟨e, he, hok⟩ := elem_ent _ _ _ h
  refine ⟨e, ?_, hok⟩
  obtain ⟨cl⟩ := cs
  have he' : cl = entE e := he
  subst he'; rfl
section
variable {v v1 v2 : Value} {L : List EntT}
theorem awS1 : setE [] 0 0 1 [] 0 = 0 := by decide
theorem awL1 (h : SetR [] 0 0 1 [] 0 L) : ∃ v, L = [EntT.mk 0 1 v [] 0] := by
  rcases h with ⟨h, _⟩ | ⟨_, ⟨h, _⟩ | ⟨_, v, h⟩⟩
  · exact absurd awS1 h
  · cases h
  · exact ⟨v, h⟩
theorem awS2 : setE [EntT.mk 0 1 v [] 0] 1 0 2 [] 0 = 0 := by rfl
theorem awL2 (h : SetR [EntT.mk 0 1 v [] 0] 1 0 2 [] 0 L) : ∃ v2, L = [EntT.mk 0 1 v [] 0, EntT.mk 0 2 v2 [] 0] := by
  rcases h with ⟨h, _⟩ | ⟨_, ⟨h, _⟩ | ⟨_, v, h⟩⟩
  · exact absurd awS2 h
  · cases h
  · exact ⟨v, h⟩
theorem awS3 : stE [EntT.mk 0 1 v1 [] 0, EntT.mk 0 2 v2 [] 0] 0 5 = 0 := by rfl
theorem awL3 : stL [EntT.mk 0 1 v1 [] 0, EntT.mk 0 2 v2 [] 0] 0 5 = [EntT.mk 0 1 v1 [] 5, EntT.mk 0 2 v2 [] 0] := by rfl
theorem awS4 : stN [EntT.mk 0 1 v1 [] 5, EntT.mk 0 2 v2 [] 0] = 1 := by rfl
theorem awS5 : fndI [EntT.mk 0 1 v1 [] 5, EntT.mk 0 2 v2 [] 0] 0 2 = 1 := by rfl
theorem awS6 : topN [EntT.mk 0 1 v1 [] 5, EntT.mk 0 2 v2 [] 0] 0 = 2 := by rfl
end

set_option maxRecDepth 100000 in
theorem awake17  (w : World)  :
    Calls Try.prog 20 #[] w fun e w' => e = .returned (.bool true) ∧ Below w.heap.size w w' := by
 have hB0 := Below.refl w.heap.size w
 refine co_enter (n := 46) Try.func20 rfl rfl rfl [] rfl (fun a h0 => ?_)
 refine co_seq ?_
 refine co_reg ?_
 refine pk0 (v := .bool false) h0 rfl fun a1 h1 => ?_; clear h0
 refine pl_nil ?_
 refine co_then ?_
 refine co_seq ?_
 refine co_reg ?_
 refine pw h1 rfl (op_call (args := #[]) (R := fun res xw => ∃ N S, res = pt N 0 ∧ LObj S xw N [] ∧ (∀ q, S q → w.heap.size ≤ q) ∧ Below w.heap.size w xw) rfl rfl rfl (by kernel_rfl) (by kernel_rfl) (Try.call21 _ _) (tNew w) (by rintro e x ⟨N, S, rfl, h⟩; exact ⟨_, rfl, N, S, rfl, h⟩)) ?_; clear h1
 rintro _ w3 a2 ⟨N8, S6, rfl, hO4, hlo10, hb9⟩ h2
 have hz11 := hb9.size
 have hlo12 : ∀ q, S6 q → w.heap.size ≤ q := fun q hq => by have := hlo10 q hq; omega
 refine pk0 (v := pt N8 0) h2 rfl fun a13 h13 => ?_; clear h2
 refine pl_nil ?_
 refine co_then ?_
 refine co_seq ?_
 refine co_reg ?_
 refine pk0 (v := pt N8 0) h13 rfl fun a14 h14 => ?_; clear h13
 refine pk0 (v := .agg #[.int .i64 0, .int .i64 1, .slice none 0 0]) h14 rfl fun a15 h15 => ?_; clear h14
 refine pk0 (v := .agg #[.int .i64 0, .int .i64 1, .slice none 0 0, .int .u64 0]) h15 rfl fun a16 h16 => ?_; clear h15
 have hB23 := hb_call hB0 hb9
 refine pw h16 rfl (op_call (args := #[pt N8 0, .int .i64 0, .agg #[.int .i64 0, .int .i64 1, .slice none 0 0, .int .u64 0]]) (R := fun res xw => ∃ L' S', res = .int .i64 0 ∧ LObj S' xw N8 L' ∧ SetR ([]) 0 0 1 ([]) 0 L' ∧ Grew S6 S' w3 xw) rfl rfl rfl (by kernel_rfl) (by kernel_rfl) (Try.call39 _ _) (tSet w3 0 0 1 (.slice none 0 0) ([]) 0 hO4 (sl_nil _) (fun hq => absurd rfl hq) (by decide) (by decide) ⟨(fun o ho => by cases ho), rfl, rfl⟩) (by rintro e x ⟨L', S', h0, h⟩; rw [show (setE ([]) 0 0 1 ([]) 0 : Int) = 0 from awS1] at h0; exact ⟨_, h0, L', S', rfl, h⟩)) ?_; clear h16
 rintro _ w18 a17 ⟨L22, S21, rfl, hO19, hR24, hx20⟩ h17
 have hlo25 : ∀ q, S21 q → w.heap.size ≤ q := hx20.lo hlo12 (by omega)
 obtain ⟨v26, rfl⟩ := awL1 hR24
 have hB27 := hbL hB23 hlo12 hx20.but
 have hz28 := hB27.size; have hz29 := hx20.but.size
 refine pk0 (v := .int .i64 0) h17 rfl fun a30 h30 => ?_; clear h17
 refine pl_nil ?_
 refine co_then ?_
 refine co_seq ?_
 refine co_reg ?_
 refine pk0 (v := pt N8 0) h30 rfl fun a31 h31 => ?_; clear h30
 refine pk0 (v := .agg #[.int .i64 0, .int .i64 2, .slice none 0 0]) h31 rfl fun a32 h32 => ?_; clear h31
 refine pk0 (v := .agg #[.int .i64 0, .int .i64 2, .slice none 0 0, .int .u64 0]) h32 rfl fun a33 h33 => ?_; clear h32
 refine pw h33 rfl (op_call (args := #[pt N8 0, .int .i64 1, .agg #[.int .i64 0, .int .i64 2, .slice none 0 0, .int .u64 0]]) (R := fun res xw => ∃ L' S', res = .int .i64 0 ∧ LObj S' xw N8 L' ∧ SetR ([EntT.mk 0 1 v26 [] 0]) 1 0 2 ([]) 0 L' ∧ Grew S21 S' w18 xw) rfl rfl rfl (by kernel_rfl) (by kernel_rfl) (Try.call39 _ _) (tSet w18 1 0 2 (.slice none 0 0) ([]) 0 hO19 (sl_nil _) (fun hq => absurd rfl hq) (by decide) (by decide) ⟨(fun o ho => by cases ho), rfl, rfl⟩) (by rintro e x ⟨L', S', h0, h⟩; rw [show (setE ([EntT.mk 0 1 v26 [] 0]) 1 0 2 ([]) 0 : Int) = 0 from awS2] at h0; exact ⟨_, h0, L', S', rfl, h⟩)) ?_; clear h33
 rintro _ w35 a34 ⟨L39, S38, rfl, hO36, hR40, hx37⟩ h34
 have hlo41 : ∀ q, S38 q → w.heap.size ≤ q := hx37.lo hlo25 (by omega)
 obtain ⟨v42, rfl⟩ := awL2 hR40
 have hB43 := hbL hB27 hlo25 hx37.but
 have hz44 := hB43.size; have hz45 := hx37.but.size
 refine pk0 (v := .int .i64 0) h34 rfl fun a46 h46 => ?_; clear h34
 refine pl_nil ?_
 refine co_then ?_
 refine co_seq ?_
 refine co_reg ?_
 refine pk0 (v := pt N8 0) h46 rfl fun a47 h47 => ?_; clear h46
 refine pw h47 rfl (op_call (args := #[pt N8 0, .int .i64 0, .int .u64 5]) (R := fun res xw => ∃ S', res = .int .i64 0 ∧ LObj S' xw N8 (stL ([EntT.mk 0 1 v26 [] 0, EntT.mk 0 2 v42 [] 0]) 0 5) ∧ Grew S38 S' w35 xw) rfl rfl rfl (by kernel_rfl) (by kernel_rfl) (Try.call40 _ _) (tStamp w35 0 5 hO36 (by decide)) (by rintro e x ⟨S', h0, h⟩; rw [show (stE ([EntT.mk 0 1 v26 [] 0, EntT.mk 0 2 v42 [] 0]) 0 5 : Int) = 0 from awS3] at h0; exact ⟨_, h0, S', rfl, h⟩)) ?_; clear h47
 rintro _ w49 a48 ⟨S52, rfl, hO50, hx51⟩ h48
 have hlo54 : ∀ q, S52 q → w.heap.size ≤ q := hx51.lo hlo41 (by omega)
 have hB55 := hbL hB43 hlo41 hx51.but
 have hz56 := hB55.size; have hz57 := hx51.but.size
 refine pk0 (v := .int .i64 0) h48 rfl fun a58 h58 => ?_; clear h48
 refine pl_nil ?_
 refine co_then ?_
 refine co_seq ?_
 refine co_reg ?_
 refine pk0 (v := .int .i64 0) h58 rfl fun a59 h59 => ?_; clear h58
 refine pk0 (v := .bool ((0 : Int) == 0)) h59 rfl fun a60 h60 => ?_; clear h59
 refine pk0 (v := .bool ((0 : Int) == 0)) h60 rfl fun a61 h61 => ?_; clear h60
 have hc62 : ((0 : Int) == 0) = true := by first | (simp; done) | (simp; omega)
 rw [hc62] at h61; clear hc62
 refine pk0 (v := .int .i64 0) h61 rfl fun a63 h63 => ?_; clear h61
 refine pk0 (v := .bool ((0 : Int) == 0)) h63 rfl fun a64 h64 => ?_; clear h63
 refine pk0 (v := .bool ((0 : Int) == 0)) h64 rfl fun a65 h65 => ?_; clear h64
 refine pk0 (v := .bool ((0 : Int) == 0)) h65 rfl fun a66 h66 => ?_; clear h65
 have hc67 : ((0 : Int) == 0) = true := by first | (simp; done) | (simp; omega)
 rw [hc67] at h66; clear hc67
 refine pk0 (v := .int .i64 0) h66 rfl fun a68 h68 => ?_; clear h66
 refine pk0 (v := .bool ((0 : Int) == 0)) h68 rfl fun a69 h69 => ?_; clear h68
 refine pk0 (v := .bool ((0 : Int) == 0)) h69 rfl fun a70 h70 => ?_; clear h69
 refine pk0 (v := .bool ((0 : Int) == 0)) h70 rfl fun a71 h71 => ?_; clear h70
 have hc72 : ((0 : Int) == 0) = true := by first | (simp; done) | (simp; omega)
 rw [hc72] at h71; clear hc72
 refine pk0 (v := pt N8 0) h71 rfl fun a73 h73 => ?_; clear h71
 refine pw h73 rfl (op_call (args := #[pt N8 0]) (R := fun res xw => ∃ S', res = .int .i64 2 ∧ LObj S' xw N8 ([EntT.mk 0 1 v26 [] 5, EntT.mk 0 2 v42 [] 0]) ∧ Grew S52 S' w49 xw) rfl rfl rfl (by kernel_rfl) (by kernel_rfl) (Try.call25 _ _) (tLen w49 (show LObj _ _ _ _ from awL3 ▸ hO50)) (by rintro e x ⟨S', h0, h⟩; rw [show (((([EntT.mk 0 1 v26 [] 5, EntT.mk 0 2 v42 [] 0]).length : Nat) : Int) : Int) = 2 from rfl] at h0; exact ⟨_, h0, S', rfl, h⟩)) ?_; clear h73
 rintro _ w75 a74 ⟨S78, rfl, hO76, hx77⟩ h74
 have hlo80 : ∀ q, S78 q → w.heap.size ≤ q := hx77.lo hlo54 (by omega)
 have hB81 := hbL hB55 hlo54 hx77.but
 have hz82 := hB81.size; have hz83 := hx77.but.size
 refine pk0 (v := .bool ((2 : Int) == 2)) h74 rfl fun a84 h84 => ?_; clear h74
 refine pk0 (v := .bool ((2 : Int) == 2)) h84 rfl fun a85 h85 => ?_; clear h84
 refine pk0 (v := .bool ((2 : Int) == 2)) h85 rfl fun a86 h86 => ?_; clear h85
 have hc87 : ((2 : Int) == 2) = true := by first | (simp; done) | (simp; omega)
 rw [hc87] at h86; clear hc87
 refine pk0 (v := pt N8 0) h86 rfl fun a88 h88 => ?_; clear h86
 refine pw h88 rfl (op_call (args := #[pt N8 0]) (R := fun res xw => ∃ S', res = .int .i64 1 ∧ LObj S' xw N8 ([EntT.mk 0 1 v26 [] 5, EntT.mk 0 2 v42 [] 0]) ∧ Grew S78 S' w75 xw) rfl rfl rfl (by kernel_rfl) (by kernel_rfl) (Try.call26 _ _) (tStamped w75 hO76) (by rintro e x ⟨S', h0, h⟩; rw [show (((stN ([EntT.mk 0 1 v26 [] 5, EntT.mk 0 2 v42 [] 0]) : Nat) : Int) : Int) = 1 from congrArg _ awS4] at h0; exact ⟨_, h0, S', rfl, h⟩)) ?_; clear h88
 rintro _ w90 a89 ⟨S93, rfl, hO91, hx92⟩ h89
 have hlo95 : ∀ q, S93 q → w.heap.size ≤ q := hx92.lo hlo80 (by omega)
 have hB96 := hbL hB81 hlo80 hx92.but
 have hz97 := hB96.size; have hz98 := hx92.but.size
 refine pk0 (v := .bool ((1 : Int) == 1)) h89 rfl fun a99 h99 => ?_; clear h89
 refine pk0 (v := .bool ((1 : Int) == 1)) h99 rfl fun a100 h100 => ?_; clear h99
 refine pk0 (v := .bool ((1 : Int) == 1)) h100 rfl fun a101 h101 => ?_; clear h100
 have hc102 : ((1 : Int) == 1) = true := by first | (simp; done) | (simp; omega)
 rw [hc102] at h101; clear hc102
 refine pk0 (v := pt N8 0) h101 rfl fun a103 h103 => ?_; clear h101
 refine pw h103 rfl (op_call (args := #[pt N8 0, .int .i64 0, .int .i64 2]) (R := fun res xw => ∃ S', res = .int .i64 1 ∧ LObj S' xw N8 ([EntT.mk 0 1 v26 [] 5, EntT.mk 0 2 v42 [] 0]) ∧ Grew S93 S' w90 xw) rfl rfl rfl (by kernel_rfl) (by kernel_rfl) (Try.call30 _ _) (tFind w90 0 2 hO91) (by rintro e x ⟨S', h0, h⟩; rw [show (fndI ([EntT.mk 0 1 v26 [] 5, EntT.mk 0 2 v42 [] 0]) 0 2 : Int) = 1 from awS5] at h0; exact ⟨_, h0, S', rfl, h⟩)) ?_; clear h103
 rintro _ w105 a104 ⟨S108, rfl, hO106, hx107⟩ h104
 have hlo110 : ∀ q, S108 q → w.heap.size ≤ q := hx107.lo hlo95 (by omega)
 have hB111 := hbL hB96 hlo95 hx107.but
 have hz112 := hB111.size; have hz113 := hx107.but.size
 refine pk0 (v := .bool ((1 : Int) == 1)) h104 rfl fun a114 h114 => ?_; clear h104
 refine pk0 (v := .bool ((1 : Int) == 1)) h114 rfl fun a115 h115 => ?_; clear h114
 refine pk0 (v := .bool ((1 : Int) == 1)) h115 rfl fun a116 h116 => ?_; clear h115
 have hc117 : ((1 : Int) == 1) = true := by first | (simp; done) | (simp; omega)
 rw [hc117] at h116; clear hc117
 refine pk0 (v := pt N8 0) h116 rfl fun a118 h118 => ?_; clear h116
 refine pw h118 rfl (op_call (args := #[pt N8 0, .int .i64 0]) (R := fun res xw => ∃ S', res = .int .i64 2 ∧ LObj S' xw N8 ([EntT.mk 0 1 v26 [] 5, EntT.mk 0 2 v42 [] 0]) ∧ Grew S108 S' w105 xw) rfl rfl rfl (by kernel_rfl) (by kernel_rfl) (Try.call32 _ _) (tTop w105 0 hO106) (by rintro e x ⟨S', h0, h⟩; rw [show (topN ([EntT.mk 0 1 v26 [] 5, EntT.mk 0 2 v42 [] 0]) 0 : Int) = 2 from awS6] at h0; exact ⟨_, h0, S', rfl, h⟩)) ?_; clear h118
 rintro _ w120 a119 ⟨S123, rfl, hO121, hx122⟩ h119
 have hlo125 : ∀ q, S123 q → w.heap.size ≤ q := hx122.lo hlo110 (by omega)
 have hB126 := hbL hB111 hlo110 hx122.but
 have hz127 := hB126.size; have hz128 := hx122.but.size
 refine pk0 (v := .bool ((2 : Int) == 2)) h119 rfl fun a129 h129 => ?_; clear h119
 refine pk0 (v := .bool ((2 : Int) == 2)) h129 rfl fun a130 h130 => ?_; clear h129
 refine pk0 (v := .bool ((2 : Int) == 2)) h130 rfl fun a131 h131 => ?_; clear h130
 refine pl_nil ?_
 refine co_then ?_
 refine wp_ret ?_
 refine co_ret1 h131 rfl rfl ?_
 exact ⟨rfl, hB126⟩
set_option maxRecDepth 100000 in
theorem rlogZero_law (i : Int) (c : Int) (r : Int) (v : Value) (l : List OpT) (ts : Int) (w : World) (hs : SliceOf opE 3 w v l) :
    Calls Try.prog 7 #[.int .i64 i, .agg #[.int .i64 c, .int .i64 r, v, .int .u64 ts]] w fun e w' => e = .returned (.bool true) ∧ Below w.heap.size w w' := by
 have hB0 := Below.refl w.heap.size w
 have hl_hs := sl_len hs
 refine co_enter (n := 118) Try.func7 rfl rfl rfl [(0, .int .i64 i), (1, .agg #[.int .i64 c, .int .i64 r, v, .int .u64 ts])] rfl (fun a h0 => ?_)
 refine co_seq ?_
 refine co_reg ?_
 refine pw h0 rfl (op_new (v := fun N => pt N 0) (T := 47) (cs := #[.int .i64 c, .int .i64 r, v, .int .u64 ts]) (by kernel_rfl) (by kernel_rfl) (by kernel_rfl)) ?_; clear h0
 rintro _ w2 a1 ⟨N3, rfl, hN6, hz7, hk5, hg4⟩ h1
 have hz8 := hg4.size
 try dsimp only at h1
 refine pk0 (v := .bool false) h1 rfl fun a9 h9 => ?_; clear h1
 refine pl_nil ?_
 refine co_then ?_
 refine co_seq ?_
 refine co_seq ?_
 refine co_reg ?_
 refine pk0 (v := pt N3 0) h9 rfl fun a10 h10 => ?_; clear h9
 refine pk0 (v := pt N3 2) h10 rfl fun a11 h11 => ?_; clear h10
 refine pk (v := v) h11 rfl (rn_load1 rfl rfl Try.isAgg42 (hk5.cell rfl)) fun a12 h12 => ?_; clear h11
 have hB13 := hb_new hB0 hg4
 refine pk (v := .int .i64 ((l.length : Nat) : Int)) h12 rfl (rn_len rfl rfl Try.underlying42 (hs.below hB13)) fun a14 h14 => ?_; clear h12
 refine pk0 (v := .bool (decide (((l.length : Nat) : Int) > 20))) h14 rfl fun a15 h15 => ?_; clear h14
 refine pl_nil ?_
 refine co_then ?_
 cases hc16 : (decide (((l.length : Nat) : Int) > 20))
 ·
  rw [hc16] at h15
  have hp17 : ¬ (((l.length : Nat) : Int) > 20) := of_decide_eq_false hc16
  clear hc16
  refine co_false h15 rfl ?_
  refine wp_skip ?_
  refine co_then ?_
  refine co_seq ?_
  refine co_reg ?_
  refine pk0 (v := .pointer none) h15 rfl fun a18 h18 => ?_; clear h15
  refine pl_nil ?_
  refine co_then ?_
  refine co_seq ?_
  refine co_reg ?_
  refine pw h18 rfl (op_new (v := fun N => pt N 0) (T := 67) (cs := #[.bool false, .slice none 0 0, .map none]) (by kernel_rfl) (by kernel_rfl) (by kernel_rfl)) ?_; clear h18
  rintro _ w20 a19 ⟨N21, rfl, hN24, hz25, hk23, hg22⟩ h19
  have hz26 := hg22.size
  try dsimp only at h19
  refine pl_nil ?_
  refine co_then ?_
  refine co_seq ?_
  refine co_reg ?_
  refine pk0 (v := .pointer none) h19 rfl fun a27 h27 => ?_; clear h19
  refine pk0 (v := .int .i64 i) h27 rfl fun a28 h28 => ?_; clear h27
  refine pw h28 rfl (op_call (args := #[.pointer none, .int .i64 i]) (R := fun res xw => res = .tuple #[.agg #[.int .i64 0, .int .i64 0, .slice none 0 0, .int .u64 0], .bool false] ∧ Below w20.heap.size w20 xw) rfl rfl rfl (by kernel_rfl) (by kernel_rfl) (Try.call28 _ _) (lAtN_any i w20 ) (by rintro e x ⟨rfl, hb31⟩; exact ⟨_, rfl, ⟨rfl, hb31⟩⟩)) ?_; clear h28
  rintro _ w30 a29 ⟨rfl, hb31⟩ h29
  have hz32 := hb31.size
  refine pk0 (v := .tuple #[.agg #[.int .i64 0, .int .i64 0, .slice none 0 0, .int .u64 0], .bool false]) h29 rfl fun a33 h33 => ?_; clear h29
  refine pk0 (v := .agg #[.int .i64 0, .int .i64 0, .slice none 0 0, .int .u64 0]) h33 rfl fun a34 h34 => ?_; clear h33
  refine pk0 (v := .bool false) h34 rfl fun a35 h35 => ?_; clear h34
  refine pw h35 rfl (op_new (v := fun N => pt N 0) (T := 47) (cs := #[.int .i64 0, .int .i64 0, .slice none 0 0, .int .u64 0]) (by kernel_rfl) (by kernel_rfl) (by kernel_rfl)) ?_; clear h35
  rintro _ w37 a36 ⟨N38, rfl, hN41, hz42, hk40, hg39⟩ h36
  have hz43 := hg39.size
  try dsimp only at h36
  refine pwD h36 rfl (op_storeN rfl rfl rfl (all_cons rfl (all_cons rfl (all_cons rfl (all_cons rfl all_nil)))) (by kernel_rfl) hk40 rfl) ?_; clear h36
  rintro _ w45 a44 ⟨hk46, hz47, hg48⟩ h44
  have hk46' : Blk w45 N38 47 #[.int .i64 0, .int .i64 0, .slice none 0 0, .int .u64 0] := hk46; clear hk46
  have hz49 := hg48.size
  refine pk0 (v := .bool false) h44 rfl fun a50 h50 => ?_; clear h44
  refine pl_nil ?_
  refine co_then ?_
  refine co_seq ?_
  refine co_reg ?_
  refine pk0 (v := .int .i64 i) h50 rfl fun a51 h51 => ?_; clear h50
  have hk54 := hk23.below hb31
  have hk55 := hk54.kept hg39 (by simp)
  have hk56 := hk55.kept hg48 (by simp; omega)
  refine pw h51 rfl (op_call (args := #[pt N21 0, .int .i64 i]) (R := fun res xw => res = .tuple #[.agg #[.int .i64 0, .int .i64 0, .slice none 0 0, .int .u64 0], .bool false] ∧ Below w45.heap.size w45 xw) rfl rfl rfl (by kernel_rfl) (by kernel_rfl) (Try.call28 _ _) (lAtZ_any N21 i w45 hk56) (by rintro e x ⟨rfl, hb57⟩; exact ⟨_, rfl, ⟨rfl, hb57⟩⟩)) ?_; clear h51
  rintro _ w53 a52 ⟨rfl, hb57⟩ h52
  have hz58 := hb57.size
  refine pk0 (v := .tuple #[.agg #[.int .i64 0, .int .i64 0, .slice none 0 0, .int .u64 0], .bool false]) h52 rfl fun a59 h59 => ?_; clear h52
  refine pk0 (v := .agg #[.int .i64 0, .int .i64 0, .slice none 0 0, .int .u64 0]) h59 rfl fun a60 h60 => ?_; clear h59
  refine pk0 (v := .bool false) h60 rfl fun a61 h61 => ?_; clear h60
  refine pw h61 rfl (op_new (v := fun N => pt N 0) (T := 47) (cs := #[.int .i64 0, .int .i64 0, .slice none 0 0, .int .u64 0]) (by kernel_rfl) (by kernel_rfl) (by kernel_rfl)) ?_; clear h61
  rintro _ w63 a62 ⟨N64, rfl, hN67, hz68, hk66, hg65⟩ h62
  have hz69 := hg65.size
  try dsimp only at h62
  refine pwD h62 rfl (op_storeN rfl rfl rfl (all_cons rfl (all_cons rfl (all_cons rfl (all_cons rfl all_nil)))) (by kernel_rfl) hk66 rfl) ?_; clear h62
  rintro _ w71 a70 ⟨hk72, hz73, hg74⟩ h70
  have hk72' : Blk w71 N64 47 #[.int .i64 0, .int .i64 0, .slice none 0 0, .int .u64 0] := hk72; clear hk72
  have hz75 := hg74.size
  refine pk0 (v := .bool false) h70 rfl fun a76 h76 => ?_; clear h70
  refine pl_nil ?_
  refine co_then ?_
  refine co_seq ?_
  refine co_reg ?_
  refine pk0 (v := .int .i64 8) h76 rfl fun a77 h77 => ?_; clear h76
  refine pl_nil ?_
  refine co_then ?_
  refine co_seq ?_
  simp only [List.append_eq, List.cons_append, List.nil_append]
  refine dr_gen (fun x => Below w.heap.size w x ∧ Blk x N3 47 #[.int .i64 c, .int .i64 r, v, .int .u64 ts]) (by kernel_rfl) (fun w78 hg79 => ?_) (fun w78 hg79 => ?_)
  ·
   have hz80 := hg79.size
   have hB81 := hb_new hB13 hg22
   have hB82 := hb_call hB81 hb31
   have hB83 := hb_new hB82 hg39
   have hB84 := hb_at hB83 hg48 (by omega)
   have hB85 := hb_call hB84 hb57
   have hB86 := hb_new hB85 hg65
   have hB87 := hb_at hB86 hg74 (by omega)
   have hB88 := hb_new hB87 hg79
   have hk89 := hk5.kept hg22 (by simp)
   have hk90 := hk89.below hb31
   have hk91 := hk90.kept hg39 (by simp)
   have hk92 := hk91.kept hg48 (by simp; omega)
   have hk93 := hk92.below hb57
   have hk94 := hk93.kept hg65 (by simp)
   have hk95 := hk94.kept hg74 (by simp; omega)
   have hk96 := hk95.kept hg79 (by simp)
   exact ⟨hB88, hk96⟩
  have hz97 := hg79.size
  have hB98 := hb_new hB13 hg22
  have hB99 := hb_call hB98 hb31
  have hB100 := hb_new hB99 hg39
  have hB101 := hb_at hB100 hg48 (by omega)
  have hB102 := hb_call hB101 hb57
  have hB103 := hb_new hB102 hg65
  have hB104 := hb_at hB103 hg74 (by omega)
  have hB105 := hb_new hB104 hg79
  have hk106 := hk5.kept hg22 (by simp)
  have hk107 := hk106.below hb31
  have hk108 := hk107.kept hg39 (by simp)
  have hk109 := hk108.kept hg48 (by simp; omega)
  have hk110 := hk109.below hb57
  have hk111 := hk110.kept hg65 (by simp)
  have hk112 := hk111.kept hg74 (by simp; omega)
  have hk113 := hk112.kept hg79 (by simp)
  refine dk0 0 (v := .pointer none) h77 rfl rfl ⟨hB105, hk113⟩ fun a114 h114 => ?_; clear h77
  refine dk0 1 (v := .int .i64 i) h114 rfl rfl ⟨hB105, hk113⟩ fun a115 h115 => ?_; clear h114
  refine dk 2 (v := .agg #[.int .i64 c, .int .i64 r, v, .int .u64 ts]) h115 rfl rfl ⟨hB105, hk113⟩ (fun x hx => (rn_loadN rfl rfl Try.underlying47 rfl (by kernel_rfl) hx.2.all)) fun a116 h116 => ?_; clear h115
  refine dk0 4 (v := .int .i64 8) h116 rfl rfl ⟨hB105, hk113⟩ fun a117 h117 => ?_; clear h116
  refine d1 3 h117 rfl rfl (op_call (args := #[.pointer none, .int .i64 i, .agg #[.int .i64 c, .int .i64 r, v, .int .u64 ts]]) (R := fun res xw => res = .int .i64 8 ∧ Below w78.heap.size w78 xw) rfl rfl rfl (by kernel_rfl) (by kernel_rfl) (Try.call39 _ _) (lSetN_any i c r v l ts w78 (hs.below hB105)) (by rintro e x ⟨rfl, hb120⟩; exact ⟨_, rfl, ⟨rfl, hb120⟩⟩)) ?_ ?_; clear h117
  ·
   rintro _ w119 ⟨rfl, hb120⟩
   have hz121 := hb120.size
   have hB122 := hb_call hB105 hb120
   have hk123 := hk113.below hb120
   exact ⟨hB122, hk123⟩
  rintro _ w119 a118 ⟨rfl, hb120⟩ h118
  have hz121 := hb120.size
  have hB122 := hb_call hB105 hb120
  have hk123 := hk113.below hb120
  refine dk0 5 (v := .bool ((8 : Int) == 8)) h118 rfl rfl ⟨hB122, hk123⟩ fun a124 h124 => ?_; clear h118
  refine dk0 6 (v := .bool ((8 : Int) == 8)) h124 rfl rfl ⟨hB122, hk123⟩ fun a125 h125 => ?_; clear h124
  have hc126 : ((8 : Int) == 8) = true := by first | rfl | decide | simp
  rw [hc126] at h125; clear hc126
  refine dk0 7 (v := .int .i64 i) h125 rfl rfl ⟨hB122, hk123⟩ fun a127 h127 => ?_; clear h125
  refine dk 8 (v := .agg #[.int .i64 c, .int .i64 r, v, .int .u64 ts]) h127 rfl rfl ⟨hB122, hk123⟩ (fun x hx => (rn_loadN rfl rfl Try.underlying47 rfl (by kernel_rfl) hx.2.all)) fun a128 h128 => ?_; clear h127
  refine dk0 10 (v := .int .i64 8) h128 rfl rfl ⟨hB122, hk123⟩ fun a129 h129 => ?_; clear h128
  have hk132 := hk56.below hb57
  have hk133 := hk132.kept hg65 (by simp)
  have hk134 := hk133.kept hg74 (by simp; omega)
  have hk135 := hk134.kept hg79 (by simp)
  have hk136 := hk135.below hb120
  refine d1 9 h129 rfl rfl (op_call (args := #[pt N21 0, .int .i64 i, .agg #[.int .i64 c, .int .i64 r, v, .int .u64 ts]]) (R := fun res xw => res = .int .i64 8 ∧ Below w119.heap.size w119 xw) rfl rfl rfl (by kernel_rfl) (by kernel_rfl) (Try.call39 _ _) (lSetZ_any N21 i c r v l ts w119 (hs.below hB122) hk136) (by rintro e x ⟨rfl, hb137⟩; exact ⟨_, rfl, ⟨rfl, hb137⟩⟩)) ?_ ?_; clear h129
  ·
   rintro _ w131 ⟨rfl, hb137⟩
   have hz138 := hb137.size
   have hB139 := hb_call hB122 hb137
   have hk140 := hk123.below hb137
   exact ⟨hB139, hk140⟩
  rintro _ w131 a130 ⟨rfl, hb137⟩ h130
  have hz138 := hb137.size
  have hB139 := hb_call hB122 hb137
  have hk140 := hk123.below hb137
  refine dk0 11 (v := .bool ((8 : Int) == 8)) h130 rfl rfl ⟨hB139, hk140⟩ fun a141 h141 => ?_; clear h130
  refine dk0 12 (v := .bool ((8 : Int) == 8)) h141 rfl rfl ⟨hB139, hk140⟩ fun a142 h142 => ?_; clear h141
  refine dk0 13 (v := .bool ((8 : Int) == 8)) h142 rfl rfl ⟨hB139, hk140⟩ fun a143 h143 => ?_; clear h142
  have hc144 : ((8 : Int) == 8) = true := by first | rfl | decide | simp
  rw [hc144] at h143; clear hc144
  refine dk0 14 (v := .pointer none) h143 rfl rfl ⟨hB139, hk140⟩ fun a145 h145 => ?_; clear h143
  refine dk0 15 (v := .int .i64 i) h145 rfl rfl ⟨hB139, hk140⟩ fun a146 h146 => ?_; clear h145
  refine dk0 16 (v := pt N3 3) h146 rfl rfl ⟨hB139, hk140⟩ fun a147 h147 => ?_; clear h146
  refine dk 17 (v := .int .u64 ts) h147 rfl rfl ⟨hB139, hk140⟩ (fun x hx => (rn_load1 rfl rfl Try.isAgg45 (hx.2.cell rfl))) fun a148 h148 => ?_; clear h147
  refine dk0 19 (v := .int .i64 8) h148 rfl rfl ⟨hB139, hk140⟩ fun a149 h149 => ?_; clear h148
  refine d1 18 h149 rfl rfl (op_call (args := #[.pointer none, .int .i64 i, .int .u64 ts]) (R := fun res xw => res = .int .i64 8 ∧ Below w131.heap.size w131 xw) rfl rfl rfl (by kernel_rfl) (by kernel_rfl) (Try.call40 _ _) (lStampN_any i ts w131 ) (by rintro e x ⟨rfl, hb152⟩; exact ⟨_, rfl, ⟨rfl, hb152⟩⟩)) ?_ ?_; clear h149
  ·
   rintro _ w151 ⟨rfl, hb152⟩
   have hz153 := hb152.size
   have hB154 := hb_call hB139 hb152
   have hk155 := hk140.below hb152
   exact ⟨hB154, hk155⟩
  rintro _ w151 a150 ⟨rfl, hb152⟩ h150
  have hz153 := hb152.size
  have hB154 := hb_call hB139 hb152
  have hk155 := hk140.below hb152
  refine dk0 20 (v := .bool ((8 : Int) == 8)) h150 rfl rfl ⟨hB154, hk155⟩ fun a156 h156 => ?_; clear h150
  refine dk0 21 (v := .bool ((8 : Int) == 8)) h156 rfl rfl ⟨hB154, hk155⟩ fun a157 h157 => ?_; clear h156
  refine dk0 22 (v := .bool ((8 : Int) == 8)) h157 rfl rfl ⟨hB154, hk155⟩ fun a158 h158 => ?_; clear h157
  have hc159 : ((8 : Int) == 8) = true := by first | rfl | decide | simp
  rw [hc159] at h158; clear hc159
  refine dk0 23 (v := .int .i64 i) h158 rfl rfl ⟨hB154, hk155⟩ fun a160 h160 => ?_; clear h158
  refine dk0 24 (v := pt N3 3) h160 rfl rfl ⟨hB154, hk155⟩ fun a161 h161 => ?_; clear h160
  refine dk 25 (v := .int .u64 ts) h161 rfl rfl ⟨hB154, hk155⟩ (fun x hx => (rn_load1 rfl rfl Try.isAgg45 (hx.2.cell rfl))) fun a162 h162 => ?_; clear h161
  refine dk0 27 (v := .int .i64 8) h162 rfl rfl ⟨hB154, hk155⟩ fun a163 h163 => ?_; clear h162
  have hk166 := hk136.below hb137
  have hk167 := hk166.below hb152
  refine d1 26 h163 rfl rfl (op_call (args := #[pt N21 0, .int .i64 i, .int .u64 ts]) (R := fun res xw => res = .int .i64 8 ∧ Below w151.heap.size w151 xw) rfl rfl rfl (by kernel_rfl) (by kernel_rfl) (Try.call40 _ _) (lStampZ_any N21 i ts w151 hk167) (by rintro e x ⟨rfl, hb168⟩; exact ⟨_, rfl, ⟨rfl, hb168⟩⟩)) ?_ ?_; clear h163
  ·
   rintro _ w165 ⟨rfl, hb168⟩
   have hz169 := hb168.size
   have hB170 := hb_call hB154 hb168
   have hk171 := hk155.below hb168
   exact ⟨hB170, hk171⟩
  rintro _ w165 a164 ⟨rfl, hb168⟩ h164
  have hz169 := hb168.size
  have hB170 := hb_call hB154 hb168
  have hk171 := hk155.below hb168
  refine dk0 28 (v := .bool ((8 : Int) == 8)) h164 rfl rfl ⟨hB170, hk171⟩ fun a172 h172 => ?_; clear h164
  refine dk0 29 (v := .bool ((8 : Int) == 8)) h172 rfl rfl ⟨hB170, hk171⟩ fun a173 h173 => ?_; clear h172
  refine dk0 30 (v := .bool ((8 : Int) == 8)) h173 rfl rfl ⟨hB170, hk171⟩ fun a174 h174 => ?_; clear h173
  have hc175 : ((8 : Int) == 8) = true := by first | rfl | decide | simp
  rw [hc175] at h174; clear hc175
  refine dk0 31 (v := .bool false) h174 rfl rfl ⟨hB170, hk171⟩ fun a176 h176 => ?_; clear h174
  refine dk0 32 (v := .bool true) h176 rfl rfl ⟨hB170, hk171⟩ fun a177 h177 => ?_; clear h176
  refine dk0 33 (v := .bool true) h177 rfl rfl ⟨hB170, hk171⟩ fun a178 h178 => ?_; clear h177
  refine dk0 34 (v := .bool true) h178 rfl rfl ⟨hB170, hk171⟩ fun a179 h179 => ?_; clear h178
  refine dk0 35 (v := .bool false) h179 rfl rfl ⟨hB170, hk171⟩ fun a180 h180 => ?_; clear h179
  refine dk0 36 (v := .bool true) h180 rfl rfl ⟨hB170, hk171⟩ fun a181 h181 => ?_; clear h180
  refine dk0 37 (v := .bool true) h181 rfl rfl ⟨hB170, hk171⟩ fun a182 h182 => ?_; clear h181
  refine dk0 38 (v := .bool true) h182 rfl rfl ⟨hB170, hk171⟩ fun a183 h183 => ?_; clear h182
  refine dk0 39 (v := .pointer none) h183 rfl rfl ⟨hB170, hk171⟩ fun a184 h184 => ?_; clear h183
  refine dk0 40 (v := .int .i64 i) h184 rfl rfl ⟨hB170, hk171⟩ fun a185 h185 => ?_; clear h184
  refine dk0 41 (v := .int .i64 i) h185 rfl rfl ⟨hB170, hk171⟩ fun a186 h186 => ?_; clear h185
  refine dk0 43 (v := .int .i64 i) h186 rfl rfl ⟨hB170, hk171⟩ fun a187 h187 => ?_; clear h186
  refine dk0 44 (v := .int .i64 i) h187 rfl rfl ⟨hB170, hk171⟩ fun a188 h188 => ?_; clear h187
  refine d1 42 h188 rfl rfl (op_call (args := #[.pointer none, .int .i64 i, .int .i64 i]) (R := fun res xw => res = .int .i64 (-1) ∧ Below w165.heap.size w165 xw) rfl rfl rfl (by kernel_rfl) (by kernel_rfl) (Try.call30 _ _) (lFindN_any i i w165 ) (by rintro e x ⟨rfl, hb191⟩; exact ⟨_, rfl, ⟨rfl, hb191⟩⟩)) ?_ ?_; clear h188
  ·
   rintro _ w190 ⟨rfl, hb191⟩
   have hz192 := hb191.size
   have hB193 := hb_call hB170 hb191
   have hk194 := hk171.below hb191
   exact ⟨hB193, hk194⟩
  rintro _ w190 a189 ⟨rfl, hb191⟩ h189
  have hz192 := hb191.size
  have hB193 := hb_call hB170 hb191
  have hk194 := hk171.below hb191
  have hk197 := hk167.below hb168
  have hk198 := hk197.below hb191
  refine d1 45 h189 rfl rfl (op_call (args := #[pt N21 0, .int .i64 i, .int .i64 i]) (R := fun res xw => res = .int .i64 (-1) ∧ Below w190.heap.size w190 xw) rfl rfl rfl (by kernel_rfl) (by kernel_rfl) (Try.call30 _ _) (lFindZ_any N21 i i w190 hk198) (by rintro e x ⟨rfl, hb199⟩; exact ⟨_, rfl, ⟨rfl, hb199⟩⟩)) ?_ ?_; clear h189
  ·
   rintro _ w196 ⟨rfl, hb199⟩
   have hz200 := hb199.size
   have hB201 := hb_call hB193 hb199
   have hk202 := hk194.below hb199
   exact ⟨hB201, hk202⟩
  rintro _ w196 a195 ⟨rfl, hb199⟩ h195
  have hz200 := hb199.size
  have hB201 := hb_call hB193 hb199
  have hk202 := hk194.below hb199
  refine dk 46 (v := .int .i64 ((-1) + (-1))) h195 rfl rfl ⟨hB201, hk202⟩ (fun x hx => (rn_arith rfl rfl rfl rfl rfl rfl (IntWalk.i64_in _ (by omega)))) fun a203 h203 => ?_; clear h195
  refine dk0 47 (v := .bool ((-1) + (-1) == (-2))) h203 rfl rfl ⟨hB201, hk202⟩ fun a204 h204 => ?_; clear h203
  refine dk0 48 (v := .bool ((-1) + (-1) == (-2))) h204 rfl rfl ⟨hB201, hk202⟩ fun a205 h205 => ?_; clear h204
  refine dk0 49 (v := .bool ((-1) + (-1) == (-2))) h205 rfl rfl ⟨hB201, hk202⟩ fun a206 h206 => ?_; clear h205
  have hc207 : ((-1) + (-1) == (-2)) = true := by first | rfl | decide | simp
  rw [hc207] at h206; clear hc207
  refine dk0 50 (v := .pointer none) h206 rfl rfl ⟨hB201, hk202⟩ fun a208 h208 => ?_; clear h206
  refine dk0 51 (v := .int .i64 i) h208 rfl rfl ⟨hB201, hk202⟩ fun a209 h209 => ?_; clear h208
  refine dk0 53 (v := .int .i64 i) h209 rfl rfl ⟨hB201, hk202⟩ fun a210 h210 => ?_; clear h209
  refine dk0 56 (v := .pointer none) h210 rfl rfl ⟨hB201, hk202⟩ fun a211 h211 => ?_; clear h210
  refine dk0 57 (v := pt N3 3) h211 rfl rfl ⟨hB201, hk202⟩ fun a212 h212 => ?_; clear h211
  refine dk 58 (v := .int .u64 ts) h212 rfl rfl ⟨hB201, hk202⟩ (fun x hx => (rn_load1 rfl rfl Try.isAgg45 (hx.2.cell rfl))) fun a213 h213 => ?_; clear h212
  refine dk0 59 (v := .int .i64 i) h213 rfl rfl ⟨hB201, hk202⟩ fun a214 h214 => ?_; clear h213
  refine dk0 62 (v := pt N3 3) h214 rfl rfl ⟨hB201, hk202⟩ fun a215 h215 => ?_; clear h214
  refine dk 63 (v := .int .u64 ts) h215 rfl rfl ⟨hB201, hk202⟩ (fun x hx => (rn_load1 rfl rfl Try.isAgg45 (hx.2.cell rfl))) fun a216 h216 => ?_; clear h215
  refine dk0 64 (v := .int .i64 i) h216 rfl rfl ⟨hB201, hk202⟩ fun a217 h217 => ?_; clear h216
  refine dk0 67 (v := .pointer none) h217 rfl rfl ⟨hB201, hk202⟩ fun a218 h218 => ?_; clear h217
  refine dk0 72 (v := .pointer none) h218 rfl rfl ⟨hB201, hk202⟩ fun a219 h219 => ?_; clear h218
  refine dk0 77 (v := .pointer none) h219 rfl rfl ⟨hB201, hk202⟩ fun a220 h220 => ?_; clear h219
  refine d1 52 h220 rfl rfl (op_call (args := #[.pointer none, .int .i64 i]) (R := fun res xw => res = .int .i64 0 ∧ Below w196.heap.size w196 xw) rfl rfl rfl (by kernel_rfl) (by kernel_rfl) (Try.call32 _ _) (lTopN_any i w196 ) (by rintro e x ⟨rfl, hb223⟩; exact ⟨_, rfl, ⟨rfl, hb223⟩⟩)) ?_ ?_; clear h220
  ·
   rintro _ w222 ⟨rfl, hb223⟩
   have hz224 := hb223.size
   have hB225 := hb_call hB201 hb223
   have hk226 := hk202.below hb223
   exact ⟨hB225, hk226⟩
  rintro _ w222 a221 ⟨rfl, hb223⟩ h221
  have hz224 := hb223.size
  have hB225 := hb_call hB201 hb223
  have hk226 := hk202.below hb223
  have hk229 := hk198.below hb199
  have hk230 := hk229.below hb223
  refine d1 54 h221 rfl rfl (op_call (args := #[pt N21 0, .int .i64 i]) (R := fun res xw => res = .int .i64 0 ∧ Below w222.heap.size w222 xw) rfl rfl rfl (by kernel_rfl) (by kernel_rfl) (Try.call32 _ _) (lTopZ_any N21 i w222 hk230) (by rintro e x ⟨rfl, hb231⟩; exact ⟨_, rfl, ⟨rfl, hb231⟩⟩)) ?_ ?_; clear h221
  ·
   rintro _ w228 ⟨rfl, hb231⟩
   have hz232 := hb231.size
   have hB233 := hb_call hB225 hb231
   have hk234 := hk226.below hb231
   exact ⟨hB233, hk234⟩
  rintro _ w228 a227 ⟨rfl, hb231⟩ h227
  have hz232 := hb231.size
  have hB233 := hb_call hB225 hb231
  have hk234 := hk226.below hb231
  refine dk0 55 (v := .int .i64 0) h227 rfl rfl ⟨hB233, hk234⟩ fun a235 h235 => ?_; clear h227
  refine d1 60 h235 rfl rfl (op_call (args := #[.pointer none, .int .u64 ts, .int .i64 i]) (R := fun res xw => res = .int .i64 0 ∧ Below w228.heap.size w228 xw) rfl rfl rfl (by kernel_rfl) (by kernel_rfl) (Try.call35 _ _) (lThinN_any ts i w228 ) (by rintro e x ⟨rfl, hb238⟩; exact ⟨_, rfl, ⟨rfl, hb238⟩⟩)) ?_ ?_; clear h235
  ·
   rintro _ w237 ⟨rfl, hb238⟩
   have hz239 := hb238.size
   have hB240 := hb_call hB233 hb238
   have hk241 := hk234.below hb238
   exact ⟨hB240, hk241⟩
  rintro _ w237 a236 ⟨rfl, hb238⟩ h236
  have hz239 := hb238.size
  have hB240 := hb_call hB233 hb238
  have hk241 := hk234.below hb238
  refine dk0 61 (v := .int .i64 0) h236 rfl rfl ⟨hB240, hk241⟩ fun a242 h242 => ?_; clear h236
  have hk245 := hk230.below hb231
  have hk246 := hk245.below hb238
  refine d1 65 h242 rfl rfl (op_call (args := #[pt N21 0, .int .u64 ts, .int .i64 i]) (R := fun res xw => res = .int .i64 0 ∧ Below w237.heap.size w237 xw) rfl rfl rfl (by kernel_rfl) (by kernel_rfl) (Try.call35 _ _) (lThinZ_any N21 ts i w237 hk246) (by rintro e x ⟨rfl, hb247⟩; exact ⟨_, rfl, ⟨rfl, hb247⟩⟩)) ?_ ?_; clear h242
  ·
   rintro _ w244 ⟨rfl, hb247⟩
   have hz248 := hb247.size
   have hB249 := hb_call hB240 hb247
   have hk250 := hk241.below hb247
   exact ⟨hB249, hk250⟩
  rintro _ w244 a243 ⟨rfl, hb247⟩ h243
  have hz248 := hb247.size
  have hB249 := hb_call hB240 hb247
  have hk250 := hk241.below hb247
  refine dk0 66 (v := .int .i64 0) h243 rfl rfl ⟨hB249, hk250⟩ fun a251 h251 => ?_; clear h243
  refine d1 68 h251 rfl rfl (op_call (args := #[.pointer none]) (R := fun res xw => res = .int .i64 0 ∧ Below w244.heap.size w244 xw) rfl rfl rfl (by kernel_rfl) (by kernel_rfl) (Try.call25 _ _) (lLenN_any  w244 ) (by rintro e x ⟨rfl, hb254⟩; exact ⟨_, rfl, ⟨rfl, hb254⟩⟩)) ?_ ?_; clear h251
  ·
   rintro _ w253 ⟨rfl, hb254⟩
   have hz255 := hb254.size
   have hB256 := hb_call hB249 hb254
   have hk257 := hk250.below hb254
   exact ⟨hB256, hk257⟩
  rintro _ w253 a252 ⟨rfl, hb254⟩ h252
  have hz255 := hb254.size
  have hB256 := hb_call hB249 hb254
  have hk257 := hk250.below hb254
  refine dk0 69 (v := .int .i64 0) h252 rfl rfl ⟨hB256, hk257⟩ fun a258 h258 => ?_; clear h252
  have hk261 := hk246.below hb247
  have hk262 := hk261.below hb254
  refine d1 70 h258 rfl rfl (op_call (args := #[pt N21 0]) (R := fun res xw => res = .int .i64 0 ∧ Below w253.heap.size w253 xw) rfl rfl rfl (by kernel_rfl) (by kernel_rfl) (Try.call25 _ _) (lLenZ_any N21 w253 hk262) (by rintro e x ⟨rfl, hb263⟩; exact ⟨_, rfl, ⟨rfl, hb263⟩⟩)) ?_ ?_; clear h258
  ·
   rintro _ w260 ⟨rfl, hb263⟩
   have hz264 := hb263.size
   have hB265 := hb_call hB256 hb263
   have hk266 := hk257.below hb263
   exact ⟨hB265, hk266⟩
  rintro _ w260 a259 ⟨rfl, hb263⟩ h259
  have hz264 := hb263.size
  have hB265 := hb_call hB256 hb263
  have hk266 := hk257.below hb263
  refine dk0 71 (v := .int .i64 0) h259 rfl rfl ⟨hB265, hk266⟩ fun a267 h267 => ?_; clear h259
  refine d1 73 h267 rfl rfl (op_call (args := #[.pointer none]) (R := fun res xw => res = .int .i64 0 ∧ Below w260.heap.size w260 xw) rfl rfl rfl (by kernel_rfl) (by kernel_rfl) (Try.call26 _ _) (lStampedN_any  w260 ) (by rintro e x ⟨rfl, hb270⟩; exact ⟨_, rfl, ⟨rfl, hb270⟩⟩)) ?_ ?_; clear h267
  ·
   rintro _ w269 ⟨rfl, hb270⟩
   have hz271 := hb270.size
   have hB272 := hb_call hB265 hb270
   have hk273 := hk266.below hb270
   exact ⟨hB272, hk273⟩
  rintro _ w269 a268 ⟨rfl, hb270⟩ h268
  have hz271 := hb270.size
  have hB272 := hb_call hB265 hb270
  have hk273 := hk266.below hb270
  refine dk0 74 (v := .int .i64 0) h268 rfl rfl ⟨hB272, hk273⟩ fun a274 h274 => ?_; clear h268
  have hk277 := hk262.below hb263
  have hk278 := hk277.below hb270
  refine d1 75 h274 rfl rfl (op_call (args := #[pt N21 0]) (R := fun res xw => res = .int .i64 0 ∧ Below w269.heap.size w269 xw) rfl rfl rfl (by kernel_rfl) (by kernel_rfl) (Try.call26 _ _) (lStampedZ_any N21 w269 hk278) (by rintro e x ⟨rfl, hb279⟩; exact ⟨_, rfl, ⟨rfl, hb279⟩⟩)) ?_ ?_; clear h274
  ·
   rintro _ w276 ⟨rfl, hb279⟩
   have hz280 := hb279.size
   have hB281 := hb_call hB272 hb279
   have hk282 := hk273.below hb279
   exact ⟨hB281, hk282⟩
  rintro _ w276 a275 ⟨rfl, hb279⟩ h275
  have hz280 := hb279.size
  have hB281 := hb_call hB272 hb279
  have hk282 := hk273.below hb279
  refine dk0 76 (v := .int .i64 0) h275 rfl rfl ⟨hB281, hk282⟩ fun a283 h283 => ?_; clear h275
  refine d1 78 h283 rfl rfl (op_call (args := #[.pointer none]) (R := fun res xw => res = .slice none 0 0 ∧ Below w276.heap.size w276 xw) rfl rfl rfl (by kernel_rfl) (by kernel_rfl) (Try.call24 _ _) (lAllN_any  w276 ) (by rintro e x ⟨rfl, hb286⟩; exact ⟨_, rfl, ⟨rfl, hb286⟩⟩)) ?_ ?_; clear h283
  ·
   rintro _ w285 ⟨rfl, hb286⟩
   have hz287 := hb286.size
   have hB288 := hb_call hB281 hb286
   have hk289 := hk282.below hb286
   exact ⟨hB288, hk289⟩
  rintro _ w285 a284 ⟨rfl, hb286⟩ h284
  have hz287 := hb286.size
  have hB288 := hb_call hB281 hb286
  have hk289 := hk282.below hb286
  refine dk0 79 (v := .int .i64 0) h284 rfl rfl ⟨hB288, hk289⟩ fun a290 h290 => ?_; clear h284
  refine dk0 80 (v := .int .i64 0) h290 rfl rfl ⟨hB288, hk289⟩ fun a291 h291 => ?_; clear h290
  have hk294 := hk278.below hb279
  have hk295 := hk294.below hb286
  refine d1 81 h291 rfl rfl (op_call (args := #[pt N21 0]) (R := fun res xw => res = .slice none 0 0 ∧ Below w285.heap.size w285 xw) rfl rfl rfl (by kernel_rfl) (by kernel_rfl) (Try.call24 _ _) (lAllZ_any N21 w285 hk295) (by rintro e x ⟨rfl, hb296⟩; exact ⟨_, rfl, ⟨rfl, hb296⟩⟩)) ?_ ?_; clear h291
  ·
   rintro _ w293 ⟨rfl, hb296⟩
   have hz297 := hb296.size
   have hB298 := hb_call hB288 hb296
   have hk299 := hk289.below hb296
   exact ⟨hB298, hk299⟩
  rintro _ w293 a292 ⟨rfl, hb296⟩ h292
  have hz297 := hb296.size
  have hB298 := hb_call hB288 hb296
  have hk299 := hk289.below hb296
  refine dk0 82 (v := .int .i64 0) h292 rfl rfl ⟨hB298, hk299⟩ fun a300 h300 => ?_; clear h292
  refine dk0 83 (v := .int .i64 0) h300 rfl rfl ⟨hB298, hk299⟩ fun a301 h301 => ?_; clear h300
  refine dk0 84 (v := .bool ((0 : Int) == 0)) h301 rfl rfl ⟨hB298, hk299⟩ fun a302 h302 => ?_; clear h301
  refine dk0 85 (v := .bool ((0 : Int) == 0)) h302 rfl rfl ⟨hB298, hk299⟩ fun a303 h303 => ?_; clear h302
  refine dk0 86 (v := .bool ((0 : Int) == 0)) h303 rfl rfl ⟨hB298, hk299⟩ fun a304 h304 => ?_; clear h303
  have hc305 : ((0 : Int) == 0) = true := by first | rfl | decide | simp
  rw [hc305] at h304; clear hc305
  refine d1 87 h304 rfl rfl (op_call (args := #[]) (R := fun res xw => res = .bool true ∧ Below w293.heap.size w293 xw) rfl rfl rfl (by kernel_rfl) (by kernel_rfl) (Try.call20 _ _) (awake17  w293 ) (by rintro e x ⟨rfl, hb308⟩; exact ⟨_, rfl, ⟨rfl, hb308⟩⟩)) ?_ ?_; clear h304
  ·
   rintro _ w307 ⟨rfl, hb308⟩
   have hz309 := hb308.size
   have hB310 := hb_call hB298 hb308
   have hk311 := hk299.below hb308
   exact ⟨hB310, hk311⟩
  rintro _ w307 a306 ⟨rfl, hb308⟩ h306
  have hz309 := hb308.size
  have hB310 := hb_call hB298 hb308
  have hk311 := hk299.below hb308
  refine dk0 88 (v := .bool true) h306 rfl rfl ⟨hB310, hk311⟩ fun a312 h312 => ?_; clear h306
  refine dk0 89 (v := .bool true) h312 rfl rfl ⟨hB310, hk311⟩ fun a313 h313 => ?_; clear h312
  refine dr_done (by kernel_rfl) ?_
  refine co_then ?_
  refine wp_ret ?_
  refine co_ret1 h313 rfl rfl ?_
  exact ⟨rfl, hB310⟩
 ·
  rw [hc16] at h15
  have hp314 : ((l.length : Nat) : Int) > 20 := of_decide_eq_true hc16
  clear hc16
  refine co_true h15 rfl ?_
  refine co_seq ?_
  refine co_reg ?_
  refine pw h15 rfl (op_call (args := #[]) (R := fun res xw => res = .bool true ∧ Below w2.heap.size w2 xw) rfl rfl rfl (by kernel_rfl) (by kernel_rfl) (Try.call20 _ _) (awake17  w2 ) (by rintro e x ⟨rfl, hb317⟩; exact ⟨_, rfl, ⟨rfl, hb317⟩⟩)) ?_; clear h15
  rintro _ w316 a315 ⟨rfl, hb317⟩ h315
  have hz318 := hb317.size
  refine pk0 (v := .bool true) h315 rfl fun a319 h319 => ?_; clear h315
  refine pl_nil ?_
  refine co_then ?_
  refine wp_ret ?_
  refine co_thenR ?_
  refine co_ret1 h319 rfl rfl ?_
  have hB320 := hb_call hB13 hb317
  exact ⟨rfl, hB320⟩

theorem rlogZero_ent (i : Int) (e : EntT) (w : World) (hi : (Lit.int .i64 i).wf = true) (he : EntOk w e) : Calls Try.prog 7 #[.int .i64 i, entV e] w fun e w' => e = .returned (.bool true) ∧ Below w.heap.size w w' :=
  rlogZero_law i e.client e.req e.ops e.opl e.ts w he.ops

end Go.Proofs.Ythmnndbpadegnaa
