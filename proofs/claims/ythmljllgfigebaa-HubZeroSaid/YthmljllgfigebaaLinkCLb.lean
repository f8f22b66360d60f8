/- Package link: below. Conditions: none. -/
import Derived.Test.YthmljllgfigebaaLinkBLb
namespace Go.Proofs.Ythmljllgfigebaa
open Go.RowKit Go.PlainAid
set_option linter.unusedVariables false

set_option maxRecDepth 100000 in
theorem lkBelow_blk (b : Nat) (u : Value) (L : LnT) (B0 : Nat) (n : Int) (w : World) (hB : Blk w b 102 #[.int .i64 L.boot, .int .i64 L.stream, .int .i64 L.first, u, .int .i64 L.told, .int .i64 L.peer, .int .i64 L.in0, .int .i64 L.next, .bool L.owes]) (hok : LnOk L) (hR : w.ownsRow B0 9 1 u L.q.length (L.q.flatMap strE)) (hn : 0 ≤ n ∧ n ≤ 1073741824) (hbu : u.ownBlock ≠ some b) :
    Calls Try.prog 76 #[pt b 2, .int .i64 n] w fun e w' => ∃ (u' : Value), e = .returned (.int .i64 (goneN L n : Int)) ∧ Blk w' b 102 #[.int .i64 L.boot, .int .i64 L.stream, .int .i64 (L.first + (goneN L n : Int)), u', .int .i64 L.told, .int .i64 L.peer, .int .i64 L.in0, .int .i64 L.next, .bool L.owes] ∧ w'.ownsRow w.heap.size 9 1 u' (L.q.drop (goneN L n)).length ((L.q.drop (goneN L n)).flatMap strE) ∧ But (fun q => q = b) w w' := by
 have hB0 := But.refl (fun q => q = b) w
 have hl_hB := hB.lt
 obtain ⟨⟨k1, k2⟩, ⟨k3, k4⟩, ⟨k5, k6⟩, ⟨k7, k8⟩, ⟨k9, k10⟩, ⟨k11, k12⟩, ⟨k13, k14⟩, k15, k16⟩ := id hok
 have hSb : (fun q => q = b) b ∨ w.heap.size ≤ b := .inl rfl
 refine co_enter (n := 38) Try.func76 rfl rfl rfl [(0, pt b 2), (1, .int .i64 n)] rfl (fun a h0 => ?_)
 refine co_seq ?_
 refine co_reg ?_
 refine pk0 (v := .int .i64 0) h0 rfl fun a1 h1 => ?_; clear h0
 refine pl_nil ?_
 refine co_then ?_
 refine co_seq ?_
 refine dr_eq (by kernel_rfl) (fun w2 hg3 => ?_)
 have hz4 := hg3.size
 refine dk0 0 (v := .int .i64 n) h1 rfl rfl rfl fun a5 h5 => ?_; clear h1
 refine dk0 1 (v := pt b 2) h5 rfl rfl rfl fun a6 h6 => ?_; clear h5
 refine dk0 2 (v := pt b 2) h6 rfl rfl rfl fun a7 h7 => ?_; clear h6
 refine dk0 3 (v := pt b 2) h7 rfl rfl rfl fun a8 h8 => ?_; clear h7
 have hk9 := hB.kept hg3 (by simp)
 refine dk 4 (v := .int .i64 L.first) h8 rfl rfl rfl (fun x hx => by subst hx; exact (rn_load1 rfl rfl Try.isAgg3 (hk9.cell rfl))) fun a10 h10 => ?_; clear h8
 refine dk 5 (v := .int .i64 (n - L.first)) h10 rfl rfl rfl (fun x hx => by subst hx; exact (rn_arith rfl rfl rfl rfl rfl rfl (IntWalk.i64_in _ (by omega)))) fun a11 h11 => ?_; clear h10
 by_cases hs12 : n - L.first < 0
 ·
  refine dk 6 (v := .int .i64 0) h11 rfl rfl rfl (fun x hx => by subst hx; exact (rn_max2 rfl rfl rfl rfl (by omega))) fun a13 h13 => ?_; clear h11
  refine dk0 7 (v := pt b 2) h13 rfl rfl rfl fun a14 h14 => ?_; clear h13
  refine dk0 8 (v := pt b 2) h14 rfl rfl rfl fun a15 h15 => ?_; clear h14
  refine dk0 9 (v := pt b 3) h15 rfl rfl rfl fun a16 h16 => ?_; clear h15
  refine dk 10 (v := u) h16 rfl rfl rfl (fun x hx => by subst hx; exact (rn_load1 rfl rfl Try.isAgg38 (hk9.cell rfl))) fun a17 h17 => ?_; clear h16
  have hr18 := row_kept_new hR hg3
  refine dk 11 (v := .int .i64 ((L.q.length : Nat) : Int)) h17 rfl rfl rfl (fun x hx => by subst hx; exact (rn_lenOwn rfl rfl Try.underlying38 hr18)) fun a19 h19 => ?_; clear h17
  refine dk 12 (v := .int .i64 0) h19 rfl rfl rfl (fun x hx => by subst hx; exact (rn_min1 rfl rfl rfl rfl (by omega))) fun a20 h20 => ?_; clear h19
  refine dk0 13 (v := .int .i64 0) h20 rfl rfl rfl fun a21 h21 => ?_; clear h20
  refine dr_done (by kernel_rfl) ?_
  refine co_then ?_
  refine co_seq ?_
  refine co_reg ?_
  refine pk0 (v := pt b 2) h21 rfl fun a22 h22 => ?_; clear h21
  refine pk0 (v := pt b 2) h22 rfl fun a23 h23 => ?_; clear h22
  refine pk0 (v := pt b 2) h23 rfl fun a24 h24 => ?_; clear h23
  refine pk (v := .int .i64 L.first) h24 rfl (rn_load1 rfl rfl Try.isAgg3 (hk9.cell rfl)) fun a25 h25 => ?_; clear h24
  refine pk0 (v := .int .i64 0) h25 rfl fun a26 h26 => ?_; clear h25
  refine pk (v := .int .i64 (L.first + 0)) h26 rfl (rn_arith rfl rfl rfl rfl rfl rfl (IntWalk.i64_in _ (by omega))) fun a27 h27 => ?_; clear h26
  refine pk0 (v := pt b 2) h27 rfl fun a28 h28 => ?_; clear h27
  refine pk0 (v := pt b 2) h28 rfl fun a29 h29 => ?_; clear h28
  refine pwD h29 rfl (op_store1 rfl rfl rfl rfl Try.sizeOf3 hk9 rfl) ?_; clear h29
  rintro _ w31 a30 ⟨hk32, hz33, hg34⟩ h30
  have hk32' : Blk w31 b 102 #[.int .i64 L.boot, .int .i64 L.stream, .int .i64 (L.first + 0), u, .int .i64 L.told, .int .i64 L.peer, .int .i64 L.in0, .int .i64 L.next, .bool L.owes] := hk32; clear hk32
  have hz35 := hg34.size
  refine pl_nil ?_
  refine co_then ?_
  refine co_seq ?_
  refine co_reg ?_
  refine pk0 (v := pt b 2) h30 rfl fun a36 h36 => ?_; clear h30
  refine pk0 (v := pt b 2) h36 rfl fun a37 h37 => ?_; clear h36
  refine pk0 (v := pt b 2) h37 rfl fun a38 h38 => ?_; clear h37
  refine pk0 (v := pt b 3) h38 rfl fun a39 h39 => ?_; clear h38
  refine pk (v := u) h39 rfl (rn_load1 rfl rfl Try.isAgg38 (hk32'.cell rfl)) fun a40 h40 => ?_; clear h39
  refine pk0 (v := .int .i64 0) h40 rfl fun a41 h41 => ?_; clear h40
  have hr42 := row_kept_at hr18 hg34 (hbu)
  refine pk (v := subV u 0 L.q.length 1) h41 rfl (rn_sliceFrom rfl rfl rfl Try.underlying38 Try.sizeOf9 (row_sl hr42 strE_len) (by omega) (by omega)) fun a43 h43 => ?_; clear h41
  obtain ⟨base47, hb_base47⟩ : ∃ b, b = w31.heap.size := ⟨_, rfl⟩
  have hr46 := row_nilL w31 base47 9 1 strE
  refine pw h43 rfl (op_appendSrc rfl base47 9 (z := .string (⟨#[]⟩)) (size := 1) (bytes := 16) Try.underlying38 (by kernel_rfl) rfl rfl rfl hr46 rfl (sl_drop (row_sl hr42 strE_len) _ (by omega)) (fun y hy => ⟨strE_len y, strE_one y⟩) (by first | omega | (simp only [List.length_nil, List.length_append, List.length_cons, List.length_take, List.length_drop]; omega)) (by first | omega | (simp only [List.length_nil, List.length_append, List.length_cons, List.length_take, List.length_drop]; omega)) (by omega)) ?_; clear h43
  rintro v48 w45 a44 ⟨hr49, hg50⟩ h44
  have hr49' : w45.ownsRow base47 9 1 v48 ((L.q.drop 0).length) ((L.q.drop 0).flatMap strE) := row_app (l := []) hr49; clear hr49
  have hz52 := hg50.size
  refine pk0 (v := pt b 2) h44 rfl fun a53 h53 => ?_; clear h44
  refine pk0 (v := pt b 3) h53 rfl fun a54 h54 => ?_; clear h53
  have hk60 := hk32'.kept hg50 (own_neT hr46 hk32' (by decide))
  refine pwD h54 rfl (op_store1 rfl rfl rfl (row_one hr49') Try.sizeOf38 hk60 rfl) ?_; clear h54
  rintro _ w56 a55 ⟨hk57, hz58, hg59⟩ h55
  have hk57' : Blk w56 b 102 #[.int .i64 L.boot, .int .i64 L.stream, .int .i64 (L.first + 0), v48, .int .i64 L.told, .int .i64 L.peer, .int .i64 L.in0, .int .i64 L.next, .bool L.owes] := hk57; clear hk57
  have hz61 := hg59.size
  refine pl_nil ?_
  refine co_then ?_
  refine co_seq ?_
  refine co_reg ?_
  refine pk0 (v := .int .i64 0) h55 rfl fun a62 h62 => ?_; clear h55
  refine pk0 (v := .int .i64 0) h62 rfl fun a63 h63 => ?_; clear h62
  refine pl_nil ?_
  refine co_then ?_
  refine wp_ret ?_
  refine co_ret1 h63 rfl rfl ?_
  have hr64 := row_kept_at hr49' hg59 (own_neT hr49' hk60 (by decide))
  have hB65 := fbU_new hB0 hg3
  have hB66 := fbU_at hB65 hg34 (fun hlt => by rcases hSb with hq | hq; exact hq; omega)
  have hB67 := fbU_row hB66 (InS.low hr46 (by omega)) hg50
  have hB68 := fbU_at hB67 hg59 (fun hlt => by rcases hSb with hq | hq; exact hq; omega)
  have hg : ((goneN L n : Nat) : Int) = (0 : Int) := by unfold goneN; omega
  exact ⟨_, ret_int hg.symm, (by have h := hk57'; first | exact h | (rw [hg]; exact h) | (rw [hg, Int.add_zero]; exact h) | (rw [hg]; simpa using h)), (row_eq (row_lows hr64 (by omega)) (by congr 1; unfold goneN; omega)), hB68⟩
 ·
  refine dk 6 (v := .int .i64 (n - L.first)) h11 rfl rfl rfl (fun x hx => by subst hx; exact (rn_max1 rfl rfl rfl rfl (by omega))) fun a69 h69 => ?_; clear h11
  refine dk0 7 (v := pt b 2) h69 rfl rfl rfl fun a70 h70 => ?_; clear h69
  refine dk0 8 (v := pt b 2) h70 rfl rfl rfl fun a71 h71 => ?_; clear h70
  refine dk0 9 (v := pt b 3) h71 rfl rfl rfl fun a72 h72 => ?_; clear h71
  refine dk 10 (v := u) h72 rfl rfl rfl (fun x hx => by subst hx; exact (rn_load1 rfl rfl Try.isAgg38 (hk9.cell rfl))) fun a73 h73 => ?_; clear h72
  have hr74 := row_kept_new hR hg3
  refine dk 11 (v := .int .i64 ((L.q.length : Nat) : Int)) h73 rfl rfl rfl (fun x hx => by subst hx; exact (rn_lenOwn rfl rfl Try.underlying38 hr74)) fun a75 h75 => ?_; clear h73
  by_cases hs76 : ((L.q.length : Nat) : Int) < n - L.first
  ·
   refine dk 12 (v := .int .i64 ((L.q.length : Nat) : Int)) h75 rfl rfl rfl (fun x hx => by subst hx; exact (rn_min2 rfl rfl rfl rfl (by omega))) fun a77 h77 => ?_; clear h75
   refine dk0 13 (v := .int .i64 ((L.q.length : Nat) : Int)) h77 rfl rfl rfl fun a78 h78 => ?_; clear h77
   refine dr_done (by kernel_rfl) ?_
   refine co_then ?_
   refine co_seq ?_
   refine co_reg ?_
   refine pk0 (v := pt b 2) h78 rfl fun a79 h79 => ?_; clear h78
   refine pk0 (v := pt b 2) h79 rfl fun a80 h80 => ?_; clear h79
   refine pk0 (v := pt b 2) h80 rfl fun a81 h81 => ?_; clear h80
   refine pk (v := .int .i64 L.first) h81 rfl (rn_load1 rfl rfl Try.isAgg3 (hk9.cell rfl)) fun a82 h82 => ?_; clear h81
   refine pk0 (v := .int .i64 ((L.q.length : Nat) : Int)) h82 rfl fun a83 h83 => ?_; clear h82
   refine pk (v := .int .i64 (L.first + ((L.q.length : Nat) : Int))) h83 rfl (rn_arith rfl rfl rfl rfl rfl rfl (IntWalk.i64_in _ (by omega))) fun a84 h84 => ?_; clear h83
   refine pk0 (v := pt b 2) h84 rfl fun a85 h85 => ?_; clear h84
   refine pk0 (v := pt b 2) h85 rfl fun a86 h86 => ?_; clear h85
   refine pwD h86 rfl (op_store1 rfl rfl rfl rfl Try.sizeOf3 hk9 rfl) ?_; clear h86
   rintro _ w88 a87 ⟨hk89, hz90, hg91⟩ h87
   have hk89' : Blk w88 b 102 #[.int .i64 L.boot, .int .i64 L.stream, .int .i64 (L.first + ((L.q.length : Nat) : Int)), u, .int .i64 L.told, .int .i64 L.peer, .int .i64 L.in0, .int .i64 L.next, .bool L.owes] := hk89; clear hk89
   have hz92 := hg91.size
   refine pl_nil ?_
   refine co_then ?_
   refine co_seq ?_
   refine co_reg ?_
   refine pk0 (v := pt b 2) h87 rfl fun a93 h93 => ?_; clear h87
   refine pk0 (v := pt b 2) h93 rfl fun a94 h94 => ?_; clear h93
   refine pk0 (v := pt b 2) h94 rfl fun a95 h95 => ?_; clear h94
   refine pk0 (v := pt b 3) h95 rfl fun a96 h96 => ?_; clear h95
   refine pk (v := u) h96 rfl (rn_load1 rfl rfl Try.isAgg38 (hk89'.cell rfl)) fun a97 h97 => ?_; clear h96
   refine pk0 (v := .int .i64 ((L.q.length : Nat) : Int)) h97 rfl fun a98 h98 => ?_; clear h97
   have hr99 := row_kept_at hr74 hg91 (hbu)
   refine pk (v := subV u L.q.length L.q.length 1) h98 rfl (rn_sliceFrom rfl rfl rfl Try.underlying38 Try.sizeOf9 (row_sl hr99 strE_len) (by omega) (by omega)) fun a100 h100 => ?_; clear h98
   obtain ⟨base104, hb_base104⟩ : ∃ b, b = w88.heap.size := ⟨_, rfl⟩
   have hr103 := row_nilL w88 base104 9 1 strE
   refine pw h100 rfl (op_appendSrc rfl base104 9 (z := .string (⟨#[]⟩)) (size := 1) (bytes := 16) Try.underlying38 (by kernel_rfl) rfl rfl rfl hr103 rfl (sl_drop (row_sl hr99 strE_len) _ (by omega)) (fun y hy => ⟨strE_len y, strE_one y⟩) (by first | omega | (simp only [List.length_nil, List.length_append, List.length_cons, List.length_take, List.length_drop]; omega)) (by first | omega | (simp only [List.length_nil, List.length_append, List.length_cons, List.length_take, List.length_drop]; omega)) (by omega)) ?_; clear h100
   rintro v105 w102 a101 ⟨hr106, hg107⟩ h101
   have hr106' : w102.ownsRow base104 9 1 v105 ((L.q.drop L.q.length).length) ((L.q.drop L.q.length).flatMap strE) := row_app (l := []) hr106; clear hr106
   have hz109 := hg107.size
   refine pk0 (v := pt b 2) h101 rfl fun a110 h110 => ?_; clear h101
   refine pk0 (v := pt b 3) h110 rfl fun a111 h111 => ?_; clear h110
   have hk117 := hk89'.kept hg107 (own_neT hr103 hk89' (by decide))
   refine pwD h111 rfl (op_store1 rfl rfl rfl (row_one hr106') Try.sizeOf38 hk117 rfl) ?_; clear h111
   rintro _ w113 a112 ⟨hk114, hz115, hg116⟩ h112
   have hk114' : Blk w113 b 102 #[.int .i64 L.boot, .int .i64 L.stream, .int .i64 (L.first + ((L.q.length : Nat) : Int)), v105, .int .i64 L.told, .int .i64 L.peer, .int .i64 L.in0, .int .i64 L.next, .bool L.owes] := hk114; clear hk114
   have hz118 := hg116.size
   refine pl_nil ?_
   refine co_then ?_
   refine co_seq ?_
   refine co_reg ?_
   refine pk0 (v := .int .i64 ((L.q.length : Nat) : Int)) h112 rfl fun a119 h119 => ?_; clear h112
   refine pk0 (v := .int .i64 ((L.q.length : Nat) : Int)) h119 rfl fun a120 h120 => ?_; clear h119
   refine pl_nil ?_
   refine co_then ?_
   refine wp_ret ?_
   refine co_ret1 h120 rfl rfl ?_
   have hr121 := row_kept_at hr106' hg116 (own_neT hr106' hk117 (by decide))
   have hB122 := fbU_new hB0 hg3
   have hB123 := fbU_at hB122 hg91 (fun hlt => by rcases hSb with hq | hq; exact hq; omega)
   have hB124 := fbU_row hB123 (InS.low hr103 (by omega)) hg107
   have hB125 := fbU_at hB124 hg116 (fun hlt => by rcases hSb with hq | hq; exact hq; omega)
   have hg : ((goneN L n : Nat) : Int) = (((L.q.length : Nat) : Int) : Int) := by unfold goneN; omega
   exact ⟨_, ret_int hg.symm, (by have h := hk114'; first | exact h | (rw [hg]; exact h) | (rw [hg, Int.add_zero]; exact h) | (rw [hg]; simpa using h)), (row_eq (row_lows hr121 (by omega)) (by congr 1; unfold goneN; omega)), hB125⟩
  ·
   refine dk 12 (v := .int .i64 (n - L.first)) h75 rfl rfl rfl (fun x hx => by subst hx; exact (rn_min1 rfl rfl rfl rfl (by omega))) fun a126 h126 => ?_; clear h75
   refine dk0 13 (v := .int .i64 (n - L.first)) h126 rfl rfl rfl fun a127 h127 => ?_; clear h126
   refine dr_done (by kernel_rfl) ?_
   refine co_then ?_
   refine co_seq ?_
   refine co_reg ?_
   refine pk0 (v := pt b 2) h127 rfl fun a128 h128 => ?_; clear h127
   refine pk0 (v := pt b 2) h128 rfl fun a129 h129 => ?_; clear h128
   refine pk0 (v := pt b 2) h129 rfl fun a130 h130 => ?_; clear h129
   refine pk (v := .int .i64 L.first) h130 rfl (rn_load1 rfl rfl Try.isAgg3 (hk9.cell rfl)) fun a131 h131 => ?_; clear h130
   refine pk0 (v := .int .i64 (n - L.first)) h131 rfl fun a132 h132 => ?_; clear h131
   refine pk (v := .int .i64 (L.first + (n - L.first))) h132 rfl (rn_arith rfl rfl rfl rfl rfl rfl (IntWalk.i64_in _ (by omega))) fun a133 h133 => ?_; clear h132
   refine pk0 (v := pt b 2) h133 rfl fun a134 h134 => ?_; clear h133
   refine pk0 (v := pt b 2) h134 rfl fun a135 h135 => ?_; clear h134
   refine pwD h135 rfl (op_store1 rfl rfl rfl rfl Try.sizeOf3 hk9 rfl) ?_; clear h135
   rintro _ w137 a136 ⟨hk138, hz139, hg140⟩ h136
   have hk138' : Blk w137 b 102 #[.int .i64 L.boot, .int .i64 L.stream, .int .i64 (L.first + (n - L.first)), u, .int .i64 L.told, .int .i64 L.peer, .int .i64 L.in0, .int .i64 L.next, .bool L.owes] := hk138; clear hk138
   have hz141 := hg140.size
   refine pl_nil ?_
   refine co_then ?_
   refine co_seq ?_
   refine co_reg ?_
   refine pk0 (v := pt b 2) h136 rfl fun a142 h142 => ?_; clear h136
   refine pk0 (v := pt b 2) h142 rfl fun a143 h143 => ?_; clear h142
   refine pk0 (v := pt b 2) h143 rfl fun a144 h144 => ?_; clear h143
   refine pk0 (v := pt b 3) h144 rfl fun a145 h145 => ?_; clear h144
   refine pk (v := u) h145 rfl (rn_load1 rfl rfl Try.isAgg38 (hk138'.cell rfl)) fun a146 h146 => ?_; clear h145
   refine pk0 (v := .int .i64 (n - L.first)) h146 rfl fun a147 h147 => ?_; clear h146
   have hr148 := row_kept_at hr74 hg140 (hbu)
   refine pk (v := subV u ((n - L.first).toNat) L.q.length 1) h147 rfl (rn_sliceFrom rfl rfl rfl Try.underlying38 Try.sizeOf9 (row_sl hr148 strE_len) (by omega) (by omega)) fun a149 h149 => ?_; clear h147
   obtain ⟨base153, hb_base153⟩ : ∃ b, b = w137.heap.size := ⟨_, rfl⟩
   have hr152 := row_nilL w137 base153 9 1 strE
   refine pw h149 rfl (op_appendSrc rfl base153 9 (z := .string (⟨#[]⟩)) (size := 1) (bytes := 16) Try.underlying38 (by kernel_rfl) rfl rfl rfl hr152 rfl (sl_drop (row_sl hr148 strE_len) _ (by omega)) (fun y hy => ⟨strE_len y, strE_one y⟩) (by first | omega | (simp only [List.length_nil, List.length_append, List.length_cons, List.length_take, List.length_drop]; omega)) (by first | omega | (simp only [List.length_nil, List.length_append, List.length_cons, List.length_take, List.length_drop]; omega)) (by omega)) ?_; clear h149
   rintro v154 w151 a150 ⟨hr155, hg156⟩ h150
   have hr155' : w151.ownsRow base153 9 1 v154 ((L.q.drop ((n - L.first).toNat)).length) ((L.q.drop ((n - L.first).toNat)).flatMap strE) := row_app (l := []) hr155; clear hr155
   have hz158 := hg156.size
   refine pk0 (v := pt b 2) h150 rfl fun a159 h159 => ?_; clear h150
   refine pk0 (v := pt b 3) h159 rfl fun a160 h160 => ?_; clear h159
   have hk166 := hk138'.kept hg156 (own_neT hr152 hk138' (by decide))
   refine pwD h160 rfl (op_store1 rfl rfl rfl (row_one hr155') Try.sizeOf38 hk166 rfl) ?_; clear h160
   rintro _ w162 a161 ⟨hk163, hz164, hg165⟩ h161
   have hk163' : Blk w162 b 102 #[.int .i64 L.boot, .int .i64 L.stream, .int .i64 (L.first + (n - L.first)), v154, .int .i64 L.told, .int .i64 L.peer, .int .i64 L.in0, .int .i64 L.next, .bool L.owes] := hk163; clear hk163
   have hz167 := hg165.size
   refine pl_nil ?_
   refine co_then ?_
   refine co_seq ?_
   refine co_reg ?_
   refine pk0 (v := .int .i64 (n - L.first)) h161 rfl fun a168 h168 => ?_; clear h161
   refine pk0 (v := .int .i64 (n - L.first)) h168 rfl fun a169 h169 => ?_; clear h168
   refine pl_nil ?_
   refine co_then ?_
   refine wp_ret ?_
   refine co_ret1 h169 rfl rfl ?_
   have hr170 := row_kept_at hr155' hg165 (own_neT hr155' hk166 (by decide))
   have hB171 := fbU_new hB0 hg3
   have hB172 := fbU_at hB171 hg140 (fun hlt => by rcases hSb with hq | hq; exact hq; omega)
   have hB173 := fbU_row hB172 (InS.low hr152 (by omega)) hg156
   have hB174 := fbU_at hB173 hg165 (fun hlt => by rcases hSb with hq | hq; exact hq; omega)
   have hg : ((goneN L n : Nat) : Int) = (n - L.first : Int) := by unfold goneN; omega
   exact ⟨_, ret_int hg.symm, (by have h := hk163'; first | exact h | (rw [hg]; exact h) | (rw [hg, Int.add_zero]; exact h) | (rw [hg]; simpa using h)), (row_eq (row_lows hr170 (by omega)) (by congr 1; unfold goneN; omega)), hB174⟩
end Go.Proofs.Ythmljllgfigebaa
