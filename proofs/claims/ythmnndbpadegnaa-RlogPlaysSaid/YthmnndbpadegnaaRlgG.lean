/- catenalaw17: awake. Conditions: none. -/
import Derived.Test.YthmnndbpadegnaaRlgF
namespace Go.Proofs.Ythmnndbpadegnaa
open Go.RowKit Go.PlainAid
set_option linter.unusedVariables false


def entV (e : EntT) : Value := .agg #[.int .i64 e.client, .int .i64 e.req, e.ops, .int .u64 e.ts]
set_option maxRecDepth 100000 in
open Go.ChangeShapes Go.WideShapes Go.Deep in
theorem open_ent {H : Type} {enc : TypeId × Value → H} {w W0 : World} {base b0 : Nat} {spare : Nat → Bool} {held : Bool} {r : Reach} {v : Value} {n : Nat} {x : DataW H × List MemPlace}
    (hv : Value.okWide Try.prog w r b0 47 v) (h : DataW.trod enc Try.prog W0 base spare held n 47 v.cells.toList = some x) :
    ∃ e : EntT, v = entV e ∧ EntOk W0 e := by
  obtain ⟨cs, rfl, hsz⟩ := okWide_struct Try.underlying47 hv
  obtain ⟨e, he, hok⟩ := elem_ent _ _ _ h
  refine ⟨e, ?_, hok⟩
  obtain ⟨cl⟩ := cs
  have he' : cl = entE e := he
  subst he'; rfl
section
variable {v v1 v2 : Value} {L : List EntT}
theorem awS1 : setE [] 0 0 1 [] 0 = 0 := by decide
theorem awL1 (h : SetR [] 0 0 1 [] 0 L) : ∃ v, L = [EntT.mk 0 1 v [] 0] := by
  rcases h with ⟨h, _⟩ | ⟨_, ⟨h, _⟩ | ⟨_, v, h⟩⟩
  · exact absurd awS1 h
  · cases h
  · exact ⟨v, h⟩
theorem awS2 : setE [EntT.mk 0 1 v [] 0] 1 0 2 [] 0 = 0 := by rfl
theorem awL2 (h : SetR [EntT.mk 0 1 v [] 0] 1 0 2 [] 0 L) : ∃ v2, L = [EntT.mk 0 1 v [] 0, EntT.mk 0 2 v2 [] 0] := by
  rcases h with ⟨h, _⟩ | ⟨_, ⟨h, _⟩ | ⟨_, v, h⟩⟩
  · exact absurd awS2 h
  · cases h
  · exact ⟨v, h⟩
theorem awS3 : stE [EntT.mk 0 1 v1 [] 0, EntT.mk 0 2 v2 [] 0] 0 5 = 0 := by rfl
theorem awL3 : stL [EntT.mk 0 1 v1 [] 0, EntT.mk 0 2 v2 [] 0] 0 5 = [EntT.mk 0 1 v1 [] 5, EntT.mk 0 2 v2 [] 0] := by rfl
theorem awS4 : stN [EntT.mk 0 1 v1 [] 5, EntT.mk 0 2 v2 [] 0] = 1 := by rfl
theorem awS5 : fndI [EntT.mk 0 1 v1 [] 5, EntT.mk 0 2 v2 [] 0] 0 2 = 1 := by rfl
theorem awS6 : topN [EntT.mk 0 1 v1 [] 5, EntT.mk 0 2 v2 [] 0] 0 = 2 := by rfl
end

set_option maxRecDepth 100000 in
theorem awake17  (w : World)  :
    Calls Try.prog 20 #[] w fun e w' => e = .returned (.bool true) ∧ Below w.heap.size w w' := by
 have hB0 := Below.refl w.heap.size w
 refine co_enter (n := 46) Try.func20 rfl rfl rfl [] rfl (fun a h0 => ?_)
 refine co_seq ?_
 refine co_reg ?_
 refine pk0 (v := .bool false) h0 rfl fun a1 h1 => ?_; clear h0
 refine pl_nil ?_
 refine co_then ?_
 refine co_seq ?_
 refine co_reg ?_
 refine pw h1 rfl (op_call (args := #[]) (R := fun res xw => ∃ N S, res = pt N 0 ∧ LObj S xw N [] ∧ (∀ q, S q → w.heap.size ≤ q) ∧ Below w.heap.size w xw) rfl rfl rfl (by kernel_rfl) (by kernel_rfl) (Try.call21 _ _) (tNew w) (by rintro e x ⟨N, S, rfl, h⟩; exact ⟨_, rfl, N, S, rfl, h⟩)) ?_; clear h1
 rintro _ w3 a2 ⟨N8, S6, rfl, hO4, hlo10, hb9⟩ h2
 have hz11 := hb9.size
 have hlo12 : ∀ q, S6 q → w.heap.size ≤ q := fun q hq => by have := hlo10 q hq; omega
 refine pk0 (v := pt N8 0) h2 rfl fun a13 h13 => ?_; clear h2
 refine pl_nil ?_
 refine co_then ?_
 refine co_seq ?_
 refine co_reg ?_
 refine pk0 (v := pt N8 0) h13 rfl fun a14 h14 => ?_; clear h13
 refine pk0 (v := .agg #[.int .i64 0, .int .i64 1, .slice none 0 0]) h14 rfl fun a15 h15 => ?_; clear h14
 refine pk0 (v := .agg #[.int .i64 0, .int .i64 1, .slice none 0 0, .int .u64 0]) h15 rfl fun a16 h16 => ?_; clear h15
 have hB23 := hb_call hB0 hb9
 refine pw h16 rfl (op_call (args := #[pt N8 0, .int .i64 0, .agg #[.int .i64 0, .int .i64 1, .slice none 0 0, .int .u64 0]]) (R := fun res xw => ∃ L' S', res = .int .i64 0 ∧ LObj S' xw N8 L' ∧ SetR ([]) 0 0 1 ([]) 0 L' ∧ Grew S6 S' w3 xw) rfl rfl rfl (by kernel_rfl) (by kernel_rfl) (Try.call39 _ _) (tSet w3 0 0 1 (.slice none 0 0) ([]) 0 hO4 (sl_nil _) (fun hq => absurd rfl hq) (by decide) (by decide) ⟨(fun o ho => by cases ho), rfl, rfl⟩) (by rintro e x ⟨L', S', h0, h⟩; rw [show (setE ([]) 0 0 1 ([]) 0 : Int) = 0 from awS1] at h0; exact ⟨_, h0, L', S', rfl, h⟩)) ?_; clear h16
 rintro _ w18 a17 ⟨L22, S21, rfl, hO19, hR24, hx20⟩ h17
 have hlo25 : ∀ q, S21 q → w.heap.size ≤ q := hx20.lo hlo12 (by omega)
 obtain ⟨v26, rfl⟩ := awL1 hR24
 have hB27 := hbL hB23 hlo12 hx20.but
 have hz28 := hB27.size; have hz29 := hx20.but.size
 refine pk0 (v := .int .i64 0) h17 rfl fun a30 h30 => ?_; clear h17
 refine pl_nil ?_
 refine co_then ?_
 refine co_seq ?_
 refine co_reg ?_
 refine pk0 (v := pt N8 0) h30 rfl fun a31 h31 => ?_; clear h30
 refine pk0 (v := .agg #[.int .i64 0, .int .i64 2, .slice none 0 0]) h31 rfl fun a32 h32 => ?_; clear h31
 refine pk0 (v := .agg #[.int .i64 0, .int .i64 2, .slice none 0 0, .int .u64 0]) h32 rfl fun a33 h33 => ?_; clear h32
 refine pw h33 rfl (op_call (args := #[pt N8 0, .int .i64 1, .agg #[.int .i64 0, .int .i64 2, .slice none 0 0, .int .u64 0]]) (R := fun res xw => ∃ L' S', res = .int .i64 0 ∧ LObj S' xw N8 L' ∧ SetR ([EntT.mk 0 1 v26 [] 0]) 1 0 2 ([]) 0 L' ∧ Grew S21 S' w18 xw) rfl rfl rfl (by kernel_rfl) (by kernel_rfl) (Try.call39 _ _) (tSet w18 1 0 2 (.slice none 0 0) ([]) 0 hO19 (sl_nil _) (fun hq => absurd rfl hq) (by decide) (by decide) ⟨(fun o ho => by cases ho), rfl, rfl⟩) (by rintro e x ⟨L', S', h0, h⟩; rw [show (setE ([EntT.mk 0 1 v26 [] 0]) 1 0 2 ([]) 0 : Int) = 0 from awS2] at h0; exact ⟨_, h0, L', S', rfl, h⟩)) ?_; clear h33
 rintro _ w35 a34 ⟨L39, S38, rfl, hO36, hR40, hx37⟩ h34
 have hlo41 : ∀ q, S38 q → w.heap.size ≤ q := hx37.lo hlo25 (by omega)
 obtain ⟨v42, rfl⟩ := awL2 hR40
 have hB43 := hbL hB27 hlo25 hx37.but
 have hz44 := hB43.size; have hz45 := hx37.but.size
 refine pk0 (v := .int .i64 0) h34 rfl fun a46 h46 => ?_; clear h34
 refine pl_nil ?_
 refine co_then ?_
 refine co_seq ?_
 refine co_reg ?_
 refine pk0 (v := pt N8 0) h46 rfl fun a47 h47 => ?_; clear h46
 refine pw h47 rfl (op_call (args := #[pt N8 0, .int .i64 0, .int .u64 5]) (R := fun res xw => ∃ S', res = .int .i64 0 ∧ LObj S' xw N8 (stL ([EntT.mk 0 1 v26 [] 0, EntT.mk 0 2 v42 [] 0]) 0 5) ∧ Grew S38 S' w35 xw) rfl rfl rfl (by kernel_rfl) (by kernel_rfl) (Try.call40 _ _) (tStamp w35 0 5 hO36 (by decide)) (by rintro e x ⟨S', h0, h⟩; rw [show (stE ([EntT.mk 0 1 v26 [] 0, EntT.mk 0 2 v42 [] 0]) 0 5 : Int) = 0 from awS3] at h0; exact ⟨_, h0, S', rfl, h⟩)) ?_; clear h47
 rintro _ w49 a48 ⟨S52, rfl, hO50, hx51⟩ h48
 have hlo54 : ∀ q, S52 q → w.heap.size ≤ q := hx51.lo hlo41 (by omega)
 have hB55 := hbL hB43 hlo41 hx51.but
 have hz56 := hB55.size; have hz57 := hx51.but.size
 refine pk0 (v := .int .i64 0) h48 rfl fun a58 h58 => ?_; clear h48
 refine pl_nil ?_
 refine co_then ?_
 refine co_seq ?_
 refine co_reg ?_
 refine pk0 (v := .int .i64 0) h58 rfl fun a59 h59 => ?_; clear h58
 refine pk0 (v := .bool ((0 : Int) == 0)) h59 rfl fun a60 h60 => ?_; clear h59
 refine pk0 (v := .bool ((0 : Int) == 0)) h60 rfl fun a61 h61 => ?_; clear h60
 have hc62 : ((0 : Int) == 0) = true := by first | (simp; done) | (simp; omega)
 rw [hc62] at h61; clear hc62
 refine pk0 (v := .int .i64 0) h61 rfl fun a63 h63 => ?_; clear h61
 refine pk0 (v := .bool ((0 : Int) == 0)) h63 rfl fun a64 h64 => ?_; clear h63
 refine pk0 (v := .bool ((0 : Int) == 0)) h64 rfl fun a65 h65 => ?_; clear h64
 refine pk0 (v := .bool ((0 : Int) == 0)) h65 rfl fun a66 h66 => ?_; clear h65
 have hc67 : ((0 : Int) == 0) = true := by first | (simp; done) | (simp; omega)
 rw [hc67] at h66; clear hc67
 refine pk0 (v := .int .i64 0) h66 rfl fun a68 h68 => ?_; clear h66
 refine pk0 (v := .bool ((0 : Int) == 0)) h68 rfl fun a69 h69 => ?_; clear h68
 refine pk0 (v := .bool ((0 : Int) == 0)) h69 rfl fun a70 h70 => ?_; clear h69
 refine pk0 (v := .bool ((0 : Int) == 0)) h70 rfl fun a71 h71 => ?_; clear h70
 have hc72 : ((0 : Int) == 0) = true := by first | (simp; done) | (simp; omega)
 rw [hc72] at h71; clear hc72
 refine pk0 (v := pt N8 0) h71 rfl fun a73 h73 => ?_; clear h71
 refine pw h73 rfl (op_call (args := #[pt N8 0]) (R := fun res xw => ∃ S', res = .int .i64 2 ∧ LObj S' xw N8 ([EntT.mk 0 1 v26 [] 5, EntT.mk 0 2 v42 [] 0]) ∧ Grew S52 S' w49 xw) rfl rfl rfl (by kernel_rfl) (by kernel_rfl) (Try.call25 _ _) (tLen w49 (show LObj _ _ _ _ from awL3 ▸ hO50)) (by rintro e x ⟨S', h0, h⟩; rw [show (((([EntT.mk 0 1 v26 [] 5, EntT.mk 0 2 v42 [] 0]).length : Nat) : Int) : Int) = 2 from rfl] at h0; exact ⟨_, h0, S', rfl, h⟩)) ?_; clear h73
 rintro _ w75 a74 ⟨S78, rfl, hO76, hx77⟩ h74
 have hlo80 : ∀ q, S78 q → w.heap.size ≤ q := hx77.lo hlo54 (by omega)
 have hB81 := hbL hB55 hlo54 hx77.but
 have hz82 := hB81.size; have hz83 := hx77.but.size
 refine pk0 (v := .bool ((2 : Int) == 2)) h74 rfl fun a84 h84 => ?_; clear h74
 refine pk0 (v := .bool ((2 : Int) == 2)) h84 rfl fun a85 h85 => ?_; clear h84
 refine pk0 (v := .bool ((2 : Int) == 2)) h85 rfl fun a86 h86 => ?_; clear h85
 have hc87 : ((2 : Int) == 2) = true := by first | (simp; done) | (simp; omega)
 rw [hc87] at h86; clear hc87
 refine pk0 (v := pt N8 0) h86 rfl fun a88 h88 => ?_; clear h86
 refine pw h88 rfl (op_call (args := #[pt N8 0]) (R := fun res xw => ∃ S', res = .int .i64 1 ∧ LObj S' xw N8 ([EntT.mk 0 1 v26 [] 5, EntT.mk 0 2 v42 [] 0]) ∧ Grew S78 S' w75 xw) rfl rfl rfl (by kernel_rfl) (by kernel_rfl) (Try.call26 _ _) (tStamped w75 hO76) (by rintro e x ⟨S', h0, h⟩; rw [show (((stN ([EntT.mk 0 1 v26 [] 5, EntT.mk 0 2 v42 [] 0]) : Nat) : Int) : Int) = 1 from congrArg _ awS4] at h0; exact ⟨_, h0, S', rfl, h⟩)) ?_; clear h88
 rintro _ w90 a89 ⟨S93, rfl, hO91, hx92⟩ h89
 have hlo95 : ∀ q, S93 q → w.heap.size ≤ q := hx92.lo hlo80 (by omega)
 have hB96 := hbL hB81 hlo80 hx92.but
 have hz97 := hB96.size; have hz98 := hx92.but.size
 refine pk0 (v := .bool ((1 : Int) == 1)) h89 rfl fun a99 h99 => ?_; clear h89
 refine pk0 (v := .bool ((1 : Int) == 1)) h99 rfl fun a100 h100 => ?_; clear h99
 refine pk0 (v := .bool ((1 : Int) == 1)) h100 rfl fun a101 h101 => ?_; clear h100
 have hc102 : ((1 : Int) == 1) = true := by first | (simp; done) | (simp; omega)
 rw [hc102] at h101; clear hc102
 refine pk0 (v := pt N8 0) h101 rfl fun a103 h103 => ?_; clear h101
 refine pw h103 rfl (op_call (args := #[pt N8 0, .int .i64 0, .int .i64 2]) (R := fun res xw => ∃ S', res = .int .i64 1 ∧ LObj S' xw N8 ([EntT.mk 0 1 v26 [] 5, EntT.mk 0 2 v42 [] 0]) ∧ Grew S93 S' w90 xw) rfl rfl rfl (by kernel_rfl) (by kernel_rfl) (Try.call30 _ _) (tFind w90 0 2 hO91) (by rintro e x ⟨S', h0, h⟩; rw [show (fndI ([EntT.mk 0 1 v26 [] 5, EntT.mk 0 2 v42 [] 0]) 0 2 : Int) = 1 from awS5] at h0; exact ⟨_, h0, S', rfl, h⟩)) ?_; clear h103
 rintro _ w105 a104 ⟨S108, rfl, hO106, hx107⟩ h104
 have hlo110 : ∀ q, S108 q → w.heap.size ≤ q := hx107.lo hlo95 (by omega)
 have hB111 := hbL hB96 hlo95 hx107.but
 have hz112 := hB111.size; have hz113 := hx107.but.size
 refine pk0 (v := .bool ((1 : Int) == 1)) h104 rfl fun a114 h114 => ?_; clear h104
 refine pk0 (v := .bool ((1 : Int) == 1)) h114 rfl fun a115 h115 => ?_; clear h114
 refine pk0 (v := .bool ((1 : Int) == 1)) h115 rfl fun a116 h116 => ?_; clear h115
 have hc117 : ((1 : Int) == 1) = true := by first | (simp; done) | (simp; omega)
 rw [hc117] at h116; clear hc117
 refine pk0 (v := pt N8 0) h116 rfl fun a118 h118 => ?_; clear h116
 refine pw h118 rfl (op_call (args := #[pt N8 0, .int .i64 0]) (R := fun res xw => ∃ S', res = .int .i64 2 ∧ LObj S' xw N8 ([EntT.mk 0 1 v26 [] 5, EntT.mk 0 2 v42 [] 0]) ∧ Grew S108 S' w105 xw) rfl rfl rfl (by kernel_rfl) (by kernel_rfl) (Try.call32 _ _) (tTop w105 0 hO106) (by rintro e x ⟨S', h0, h⟩; rw [show (topN ([EntT.mk 0 1 v26 [] 5, EntT.mk 0 2 v42 [] 0]) 0 : Int) = 2 from awS6] at h0; exact ⟨_, h0, S', rfl, h⟩)) ?_; clear h118
 rintro _ w120 a119 ⟨S123, rfl, hO121, hx122⟩ h119
 have hlo125 : ∀ q, S123 q → w.heap.size ≤ q := hx122.lo hlo110 (by omega)
 have hB126 := hbL hB111 hlo110 hx122.but
 have hz127 := hB126.size; have hz128 := hx122.but.size
 refine pk0 (v := .bool ((2 : Int) == 2)) h119 rfl fun a129 h129 => ?_; clear h119
 refine pk0 (v := .bool ((2 : Int) == 2)) h129 rfl fun a130 h130 => ?_; clear h129
 refine pk0 (v := .bool ((2 : Int) == 2)) h130 rfl fun a131 h131 => ?_; clear h130
 refine pl_nil ?_
 refine co_then ?_
 refine wp_ret ?_
 refine co_ret1 h131 rfl rfl ?_
 exact ⟨rfl, hB126⟩
end Go.Proofs.Ythmnndbpadegnaa
