/- MvccZero. Conditions: none. -/
import Derived.Test.YtfjhlckklgeokaaMvH
namespace Go.Proofs.Ytfjhlckklgeokaa
open Go.RowKit Go.PlainAid
set_option linter.unusedVariables false
set_option linter.unusedSimpArgs false

set_option maxRecDepth 100000 in
set_option maxHeartbeats 1600000 in
theorem mvccZero_law (ts : Int) (v : Value) (l : List OpT) (k : ByteArray) (w : World) (hs : SliceOf opE 3 w v l) :
    Calls Try.prog 7 #[.int .u64 ts, v, .string k] w fun e w' => e = .returned (.bool true) ∧ Below w.heap.size w w' := by
 have hB0 := Below.refl w.heap.size w
 have hl_hs := sl_len hs
 refine co_enter (n := 104) Try.func7 rfl rfl rfl [(0, .int .u64 ts), (1, v), (2, .string k)] rfl (fun a h0 => ?_)
 refine co_seq ?_
 refine co_reg ?_
 refine pk0 (v := .bool false) h0 rfl fun a1 h1 => ?_; clear h0
 refine pl_nil ?_
 refine co_then ?_
 refine co_seq ?_
 refine co_seq ?_
 refine co_reg ?_
 refine pk0 (v := v) h1 rfl fun a2 h2 => ?_; clear h1
 refine pk (v := .int .i64 ((l.length : Nat) : Int)) h2 rfl (rn_len rfl rfl Try.underlying32 hs) fun a3 h3 => ?_; clear h2
 refine pk0 (v := .bool (decide (((l.length : Nat) : Int) > 20))) h3 rfl fun a4 h4 => ?_; clear h3
 refine pl_nil ?_
 refine co_then ?_
 cases hc5 : (decide (((l.length : Nat) : Int) > 20))
 ·
  rw [hc5] at h4
  have hp6 : ¬ (((l.length : Nat) : Int) > 20) := of_decide_eq_false hc5
  clear hc5
  refine co_false h4 rfl ?_
  refine wp_skip ?_
  refine co_then ?_
  refine co_seq ?_
  refine co_reg ?_
  refine pk0 (v := .pointer none) h4 rfl fun a7 h7 => ?_; clear h4
  refine pl_nil ?_
  refine co_then ?_
  refine co_seq ?_
  refine co_reg ?_
  refine pw h7 rfl (op_new (v := fun N => pt N 0) (T := 57) (cs := #[.bool false, .pointer none, .int .u64 0, .int .i64 0]) (by kernel_rfl) (by kernel_rfl) (by kernel_rfl)) ?_; clear h7
  rintro _ w9 a8 ⟨N10, rfl, hN13, hz14, hk12, hg11⟩ h8
  have hz15 := hg11.size
  try dsimp only at h8
  refine pl_nil ?_
  refine co_then ?_
  refine co_seq ?_
  refine co_reg ?_
  refine pk0 (v := .pointer none) h8 rfl fun a16 h16 => ?_; clear h8
  refine pk0 (v := .string k) h16 rfl fun a17 h17 => ?_; clear h16
  refine pk0 (v := .int .u64 ts) h17 rfl fun a18 h18 => ?_; clear h17
  have hB21 := hb_new hB0 hg11
  refine pw h18 rfl (op_call (args := #[.pointer none, .string k, .int .u64 ts]) (R := fun res xw => res = .tuple #[.string (⟨#[]⟩), .bool false] ∧ w9 = xw) rfl rfl rfl (by kernel_rfl) (by kernel_rfl) (Try.call19 _ _) (zmGet w9 (.pointer none) k ts (.inl rfl)) (by rintro e x ⟨rfl, rfl⟩; exact ⟨_, rfl, rfl, rfl⟩)) ?_; clear h18
  rintro _ _ a19 ⟨rfl, rfl⟩ h19
  refine pk0 (v := .tuple #[.string (⟨#[]⟩), .bool false]) h19 rfl fun a22 h22 => ?_; clear h19
  refine pk0 (v := .string (⟨#[]⟩)) h22 rfl fun a23 h23 => ?_; clear h22
  refine pk0 (v := .bool false) h23 rfl fun a24 h24 => ?_; clear h23
  refine pk0 (v := .string (⟨#[]⟩)) h24 rfl fun a25 h25 => ?_; clear h24
  refine pk0 (v := .bool false) h25 rfl fun a26 h26 => ?_; clear h25
  refine pl_nil ?_
  refine co_then ?_
  refine co_seq ?_
  refine co_reg ?_
  refine pk0 (v := .string k) h26 rfl fun a27 h27 => ?_; clear h26
  refine pk0 (v := .int .u64 ts) h27 rfl fun a28 h28 => ?_; clear h27
  refine pw h28 rfl (op_call (args := #[pt N10 0, .string k, .int .u64 ts]) (R := fun res xw => res = .tuple #[.string (⟨#[]⟩), .bool false] ∧ w9 = xw) rfl rfl rfl (by kernel_rfl) (by kernel_rfl) (Try.call19 _ _) (zmGet w9 (pt N10 0) k ts (.inr ⟨_, _, _, _, rfl, hk12⟩)) (by rintro e x ⟨rfl, rfl⟩; exact ⟨_, rfl, rfl, rfl⟩)) ?_; clear h28
  rintro _ _ a29 ⟨rfl, rfl⟩ h29
  refine pk0 (v := .tuple #[.string (⟨#[]⟩), .bool false]) h29 rfl fun a31 h31 => ?_; clear h29
  refine pk0 (v := .string (⟨#[]⟩)) h31 rfl fun a32 h32 => ?_; clear h31
  refine pk0 (v := .bool false) h32 rfl fun a33 h33 => ?_; clear h32
  refine pk0 (v := .string (⟨#[]⟩)) h33 rfl fun a34 h34 => ?_; clear h33
  refine pk0 (v := .bool false) h34 rfl fun a35 h35 => ?_; clear h34
  refine pl_nil ?_
  refine co_then ?_
  refine co_seq ?_
  refine co_reg ?_
  refine pk0 (v := .pointer none) h35 rfl fun a36 h36 => ?_; clear h35
  refine pk0 (v := .string k) h36 rfl fun a37 h37 => ?_; clear h36
  refine pk0 (v := .int .u64 ts) h37 rfl fun a38 h38 => ?_; clear h37
  refine pw h38 rfl (op_call (args := #[.pointer none, .string k, .string (⟨#[]⟩), .int .u64 ts, .int .i64 9]) (R := fun res xw => res = .tuple #[.slice none 0 0, .bool false] ∧ w9 = xw) rfl rfl rfl (by kernel_rfl) (by kernel_rfl) (Try.call20 _ _) (zmScan (.pointer none) k (⟨#[]⟩) ts 9 w9 (.inl rfl)) (by rintro e x ⟨rfl, rfl⟩; exact ⟨_, rfl, rfl, rfl⟩)) ?_; clear h38
  rintro _ _ a39 ⟨rfl, rfl⟩ h39
  refine pk0 (v := .tuple #[.slice none 0 0, .bool false]) h39 rfl fun a41 h41 => ?_; clear h39
  refine pk0 (v := .slice none 0 0) h41 rfl fun a42 h42 => ?_; clear h41
  refine pk0 (v := .bool false) h42 rfl fun a43 h43 => ?_; clear h42
  refine pk0 (v := .slice none 0 0) h43 rfl fun a44 h44 => ?_; clear h43
  refine pk0 (v := .bool false) h44 rfl fun a45 h45 => ?_; clear h44
  refine pl_nil ?_
  refine co_then ?_
  refine co_seq ?_
  refine co_reg ?_
  refine pk0 (v := .string k) h45 rfl fun a46 h46 => ?_; clear h45
  refine pk0 (v := .int .u64 ts) h46 rfl fun a47 h47 => ?_; clear h46
  refine pw h47 rfl (op_call (args := #[pt N10 0, .string k, .string (⟨#[]⟩), .int .u64 ts, .int .i64 9]) (R := fun res xw => res = .tuple #[.slice none 0 0, .bool false] ∧ w9 = xw) rfl rfl rfl (by kernel_rfl) (by kernel_rfl) (Try.call20 _ _) (zmScan (pt N10 0) k (⟨#[]⟩) ts 9 w9 (.inr ⟨_, _, _, _, rfl, hk12⟩)) (by rintro e x ⟨rfl, rfl⟩; exact ⟨_, rfl, rfl, rfl⟩)) ?_; clear h47
  rintro _ _ a48 ⟨rfl, rfl⟩ h48
  refine pk0 (v := .tuple #[.slice none 0 0, .bool false]) h48 rfl fun a50 h50 => ?_; clear h48
  refine pk0 (v := .slice none 0 0) h50 rfl fun a51 h51 => ?_; clear h50
  refine pk0 (v := .bool false) h51 rfl fun a52 h52 => ?_; clear h51
  refine pk0 (v := .slice none 0 0) h52 rfl fun a53 h53 => ?_; clear h52
  refine pk0 (v := .bool false) h53 rfl fun a54 h54 => ?_; clear h53
  refine pl_nil ?_
  refine co_then ?_
  refine co_seq ?_
  refine co_reg ?_
  refine pk0 (v := .pointer none) h54 rfl fun a55 h55 => ?_; clear h54
  refine pk0 (v := .int .u64 ts) h55 rfl fun a56 h56 => ?_; clear h55
  refine pk0 (v := v) h56 rfl fun a57 h57 => ?_; clear h56
  refine pw h57 rfl (op_call (args := #[.pointer none, .int .u64 ts, v]) (R := fun res xw => res = .int .i64 8 ∧ w9 = xw) rfl rfl rfl (by kernel_rfl) (by kernel_rfl) (Try.call11 _ _) (zmPut w9 (.pointer none) ts v (.inl rfl)) (by rintro e x ⟨rfl, rfl⟩; exact ⟨_, rfl, rfl, rfl⟩)) ?_; clear h57
  rintro _ _ a58 ⟨rfl, rfl⟩ h58
  refine pk0 (v := .bool ((8 : Int) == 8)) h58 rfl fun a60 h60 => ?_; clear h58
  refine pk0 (v := .bool ((8 : Int) == 8)) h60 rfl fun a61 h61 => ?_; clear h60
  have hc62 : ((8 : Int) == 8) = true := by first | (simp; done) | (simp; omega) | exact beq_false_of_ne (by omega) | exact beq_iff_eq.2 (by omega)
  rw [hc62] at h61; clear hc62
  refine pk0 (v := .int .u64 ts) h61 rfl fun a63 h63 => ?_; clear h61
  refine pk0 (v := v) h63 rfl fun a64 h64 => ?_; clear h63
  refine pw h64 rfl (op_call (args := #[pt N10 0, .int .u64 ts, v]) (R := fun res xw => res = .int .i64 8 ∧ w9 = xw) rfl rfl rfl (by kernel_rfl) (by kernel_rfl) (Try.call11 _ _) (zmPut w9 (pt N10 0) ts v (.inr ⟨_, _, _, _, rfl, hk12⟩)) (by rintro e x ⟨rfl, rfl⟩; exact ⟨_, rfl, rfl, rfl⟩)) ?_; clear h64
  rintro _ _ a65 ⟨rfl, rfl⟩ h65
  refine pk0 (v := .bool ((8 : Int) == 8)) h65 rfl fun a67 h67 => ?_; clear h65
  refine pk0 (v := .bool ((8 : Int) == 8)) h67 rfl fun a68 h68 => ?_; clear h67
  refine pk0 (v := .bool ((8 : Int) == 8)) h68 rfl fun a69 h69 => ?_; clear h68
  have hc70 : ((8 : Int) == 8) = true := by first | (simp; done) | (simp; omega) | exact beq_false_of_ne (by omega) | exact beq_iff_eq.2 (by omega)
  rw [hc70] at h69; clear hc70
  refine pk0 (v := .bool false) h69 rfl fun a71 h71 => ?_; clear h69
  refine pk0 (v := .bool true) h71 rfl fun a72 h72 => ?_; clear h71
  refine pk0 (v := .bool true) h72 rfl fun a73 h73 => ?_; clear h72
  refine pk0 (v := .bool true) h73 rfl fun a74 h74 => ?_; clear h73
  refine pk0 (v := .bool false) h74 rfl fun a75 h75 => ?_; clear h74
  refine pk0 (v := .bool true) h75 rfl fun a76 h76 => ?_; clear h75
  refine pk0 (v := .bool true) h76 rfl fun a77 h77 => ?_; clear h76
  refine pk0 (v := .bool true) h77 rfl fun a78 h78 => ?_; clear h77
  refine pk0 (v := .bool false) h78 rfl fun a79 h79 => ?_; clear h78
  refine pk0 (v := .bool true) h79 rfl fun a80 h80 => ?_; clear h79
  refine pk0 (v := .bool true) h80 rfl fun a81 h81 => ?_; clear h80
  refine pk0 (v := .bool true) h81 rfl fun a82 h82 => ?_; clear h81
  refine pk0 (v := .bool false) h82 rfl fun a83 h83 => ?_; clear h82
  refine pk0 (v := .bool true) h83 rfl fun a84 h84 => ?_; clear h83
  refine pk0 (v := .bool true) h84 rfl fun a85 h85 => ?_; clear h84
  refine pk0 (v := .bool true) h85 rfl fun a86 h86 => ?_; clear h85
  refine pk0 (v := .slice none 0 0) h86 rfl fun a87 h87 => ?_; clear h86
  refine pk0 (v := .int .i64 0) h87 rfl fun a88 h88 => ?_; clear h87
  refine pk0 (v := .slice none 0 0) h88 rfl fun a89 h89 => ?_; clear h88
  refine pk0 (v := .int .i64 0) h89 rfl fun a90 h90 => ?_; clear h89
  refine pk0 (v := .int .i64 0) h90 rfl fun a91 h91 => ?_; clear h90
  refine pk0 (v := .pointer none) h91 rfl fun a92 h92 => ?_; clear h91
  refine pk0 (v := .int .u64 ts) h92 rfl fun a93 h93 => ?_; clear h92
  refine pw h93 rfl (op_call (args := #[.pointer none, .int .u64 ts]) (R := fun res xw => res = .int .i64 0 ∧ w9 = xw) rfl rfl rfl (by kernel_rfl) (by kernel_rfl) (Try.call13 _ _) (zmPrune w9 (.pointer none) ts (.inl rfl)) (by rintro e x ⟨rfl, rfl⟩; exact ⟨_, rfl, rfl, rfl⟩)) ?_; clear h93
  rintro _ _ a94 ⟨rfl, rfl⟩ h94
  refine pk0 (v := .int .i64 0) h94 rfl fun a96 h96 => ?_; clear h94
  refine pk0 (v := .int .u64 ts) h96 rfl fun a97 h97 => ?_; clear h96
  refine pw h97 rfl (op_call (args := #[pt N10 0, .int .u64 ts]) (R := fun res xw => res = .int .i64 0 ∧ w9 = xw) rfl rfl rfl (by kernel_rfl) (by kernel_rfl) (Try.call13 _ _) (zmPrune w9 (pt N10 0) ts (.inr ⟨_, _, _, _, rfl, hk12⟩)) (by rintro e x ⟨rfl, rfl⟩; exact ⟨_, rfl, rfl, rfl⟩)) ?_; clear h97
  rintro _ _ a98 ⟨rfl, rfl⟩ h98
  refine pk0 (v := .int .i64 0) h98 rfl fun a100 h100 => ?_; clear h98
  refine pk0 (v := .pointer none) h100 rfl fun a101 h101 => ?_; clear h100
  refine pw h101 rfl (op_call (args := #[.pointer none]) (R := fun res xw => res = .int .i64 0 ∧ w9 = xw) rfl rfl rfl (by kernel_rfl) (by kernel_rfl) (Try.call17 _ _) (zmCells w9 (.pointer none)  (.inl rfl)) (by rintro e x ⟨rfl, rfl⟩; exact ⟨_, rfl, rfl, rfl⟩)) ?_; clear h101
  rintro _ _ a102 ⟨rfl, rfl⟩ h102
  refine pk0 (v := .int .i64 0) h102 rfl fun a104 h104 => ?_; clear h102
  refine pw h104 rfl (op_call (args := #[pt N10 0]) (R := fun res xw => res = .int .i64 0 ∧ w9 = xw) rfl rfl rfl (by kernel_rfl) (by kernel_rfl) (Try.call17 _ _) (zmCells w9 (pt N10 0)  (.inr ⟨_, _, _, _, rfl, hk12⟩)) (by rintro e x ⟨rfl, rfl⟩; exact ⟨_, rfl, rfl, rfl⟩)) ?_; clear h104
  rintro _ _ a105 ⟨rfl, rfl⟩ h105
  refine pk0 (v := .int .i64 0) h105 rfl fun a107 h107 => ?_; clear h105
  refine pk0 (v := .bool ((0 : Int) == 0)) h107 rfl fun a108 h108 => ?_; clear h107
  refine pk0 (v := .bool ((0 : Int) == 0)) h108 rfl fun a109 h109 => ?_; clear h108
  refine pk0 (v := .bool ((0 : Int) == 0)) h109 rfl fun a110 h110 => ?_; clear h109
  have hc111 : ((0 : Int) == 0) = true := by first | (simp; done) | (simp; omega) | exact beq_false_of_ne (by omega) | exact beq_iff_eq.2 (by omega)
  rw [hc111] at h110; clear hc111
  refine pk0 (v := .pointer none) h110 rfl fun a112 h112 => ?_; clear h110
  refine pw h112 rfl (op_call (args := #[.pointer none]) (R := fun res xw => res = .int .u64 0 ∧ w9 = xw) rfl rfl rfl (by kernel_rfl) (by kernel_rfl) (Try.call16 _ _) (zmLast w9 (.pointer none)  (.inl rfl)) (by rintro e x ⟨rfl, rfl⟩; exact ⟨_, rfl, rfl, rfl⟩)) ?_; clear h112
  rintro _ _ a113 ⟨rfl, rfl⟩ h113
  refine pw h113 rfl (op_call (args := #[pt N10 0]) (R := fun res xw => res = .int .u64 0 ∧ w9 = xw) rfl rfl rfl (by kernel_rfl) (by kernel_rfl) (Try.call16 _ _) (zmLast w9 (pt N10 0)  (.inr ⟨_, _, _, _, rfl, hk12⟩)) (by rintro e x ⟨rfl, rfl⟩; exact ⟨_, rfl, rfl, rfl⟩)) ?_; clear h113
  rintro _ _ a115 ⟨rfl, rfl⟩ h115
  refine pk0 (v := .int .u64 0) h115 rfl fun a117 h117 => ?_; clear h115
  refine pk0 (v := .bool ((0 : Int) == 0)) h117 rfl fun a118 h118 => ?_; clear h117
  refine pk0 (v := .bool ((0 : Int) == 0)) h118 rfl fun a119 h119 => ?_; clear h118
  refine pk0 (v := .bool ((0 : Int) == 0)) h119 rfl fun a120 h120 => ?_; clear h119
  have hc121 : ((0 : Int) == 0) = true := by first | (simp; done) | (simp; omega) | exact beq_false_of_ne (by omega) | exact beq_iff_eq.2 (by omega)
  rw [hc121] at h120; clear hc121
  refine pw h120 rfl (op_call (args := #[]) (R := fun res xw => res = .bool true ∧ Below w9.heap.size w9 xw) rfl rfl rfl (by kernel_rfl) (by kernel_rfl) (Try.call9 _ _) (awake16 w9) (by rintro e x ⟨rfl, h⟩; exact ⟨_, rfl, rfl, h⟩)) ?_; clear h120
  rintro _ w123 a122 ⟨rfl, hb124⟩ h122
  have hz125 := hb124.size
  refine pk0 (v := .bool true) h122 rfl fun a126 h126 => ?_; clear h122
  refine pk0 (v := .bool true) h126 rfl fun a127 h127 => ?_; clear h126
  refine pl_nil ?_
  refine co_then ?_
  refine wp_ret ?_
  refine co_ret1 h127 rfl rfl ?_
  have hB128 := hb_call hB21 hb124
  exact ⟨rfl, hB128⟩
 ·
  rw [hc5] at h4
  have hp129 : ((l.length : Nat) : Int) > 20 := of_decide_eq_true hc5
  clear hc5
  refine co_true h4 rfl ?_
  refine co_seq ?_
  refine co_reg ?_
  refine pw h4 rfl (op_call (args := #[]) (R := fun res xw => res = .bool true ∧ Below w.heap.size w xw) rfl rfl rfl (by kernel_rfl) (by kernel_rfl) (Try.call9 _ _) (awake16 w) (by rintro e x ⟨rfl, h⟩; exact ⟨_, rfl, rfl, h⟩)) ?_; clear h4
  rintro _ w131 a130 ⟨rfl, hb132⟩ h130
  have hz133 := hb132.size
  refine pk0 (v := .bool true) h130 rfl fun a134 h134 => ?_; clear h130
  refine pl_nil ?_
  refine co_then ?_
  refine wp_ret ?_
  refine co_thenR ?_
  refine co_ret1 h134 rfl rfl ?_
  have hB135 := hb_call hB0 hb132
  exact ⟨rfl, hB135⟩

theorem mvccZero_l (ts : Int) (v : Value) (l : List OpT) (k : ByteArray) (w : World) (hs : SliceOf opE 3 w v l) (_ : ∀ p ∈ l, True) (_ : k.size ≤ 140737488351232) :
    Calls Try.prog 7 #[.int .u64 ts, v, .string k] w fun e w' => e = .returned (.bool true) ∧ Below w.heap.size w w' := mvccZero_law ts v l k w hs

end Go.Proofs.Ytfjhlckklgeokaa
