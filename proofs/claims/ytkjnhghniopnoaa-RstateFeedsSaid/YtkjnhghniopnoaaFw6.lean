/- Put together: MwEFv, MwFFv, MwGFv, MwHFv, MwIFv, RstLFv, RstMFv, RstFFv, ConfJzFv, NoJFv, RstJFv. Conditions: as each says. -/
import Derived.Test.YtkjnhghniopnoaaFw5
import Derived.Test.YtkjnhghniopnoaaFw3
import Derived.Test.YtkjnhghniopnoaaFw1
/- The document's store: lay. Conditions: at most 70000 keys, 800 versions each. -/
namespace Go.Proofs.Ytkjnhghniopnoaa
open Go.RowKit Go.PlainAid
set_option linter.unusedVariables false
set_option linter.unusedSimpArgs false

set_option maxRecDepth 100000 in
set_option maxHeartbeats 3200000 in
theorem lay_blk (d : Nat) (u : Value) (la : Int) (L : List Kv) (f : Fv) (n : Nat) (k : ByteArray) (c : CellT) (w : World) (hB : Blk w d 56 #[u, .int .u64 la]) (hR : w.ownsRow 0 106 2 u L.length (L.flatMap rwE)) (hE : RwsK w f L) (hK : KOf (L.map (·.1)) f) (hF : ∀ x, (f x).length ≤ n) (hL : L.length ≤ 70000) (hn : n ≤ 800) :
    Calls Try.prog 45 #[pt d 0, .string k, .agg #[.int .u64 c.1, .string c.2.1, .bool c.2.2]] w fun e w' => ∃ (u' : Value) (M : List Kv), e = .returned (.tuple #[]) ∧ Blk w' d 56 #[u', .int .u64 la] ∧ w'.ownsRow 0 106 2 u' M.length (M.flatMap rwE) ∧ RwsK w' (upd f k (f k ++ [c])) M ∧ KOf (M.map (·.1)) (upd f k (f k ++ [c])) ∧ M.length ≤ L.length + 1 ∧ (∀ i, u'.ownBlock = some i → u.ownBlock = some i ∨ w.heap.size ≤ i) ∧ (∀ a ∈ M, (∃ b ∈ L, b.2 = a.2) ∨ ∀ g, (slV a.2).ownBlock = some g → w.heap.size ≤ g) ∧ But (fun q => q = d ∨ u.ownBlock = some q) w w' := by
 have hB0 := But.refl (fun q => q = d ∨ u.ownBlock = some q) w
 have hl_hB := hB.lt
 have hinb : (fun q => q = d ∨ u.ownBlock = some q) d ∨ w.heap.size ≤ d := .inl (.inl rfl)
 have hud := row_under hR (rfl : w.heap.size = _)
 refine co_enter (n := 94) Try.func45 rfl rfl rfl [(0, pt d 0), (1, .string k), (2, .agg #[.int .u64 c.1, .string c.2.1, .bool c.2.2])] rfl (fun a h0 => ?_)
 refine co_seq ?_
 refine co_reg ?_
 refine pw h0 rfl (op_new (v := fun N => pt N 0) (T := 99) (cs := #[.int .u64 c.1, .string c.2.1, .bool c.2.2]) (by kernel_rfl) (by kernel_rfl) (by kernel_rfl)) ?_; clear h0
 rintro _ w2 a1 ⟨N3, rfl, hN6, hz7, hk5, hg4⟩ h1
 have ha8 := row_fresh hR hN6
 have hu9 := row_under hR hN6
 have hz10 := hg4.size
 have hu11 := RwsK.under hE hN6
 try dsimp only at h1
 refine pl_nil ?_
 refine co_then ?_
 refine co_seq ?_
 refine co_reg ?_
 refine pk0 (v := .int .i64 0) h1 rfl fun a12 h12 => ?_; clear h1
 refine pl_nil ?_
 refine co_then ?_
 refine co_seq ?_
 refine wp_block ?_
 have htk9 : ∀ a ∈ L.take 0, klt a.1 k = true := fun a ha => by simp at ha
 have h13 : Slots 94 [(0, pt d 0), (1, .string k), (5, pt N3 0), (6, .int .i64 0)] _ := h12.sub ⟨rfl, rfl, rfl, rfl, trivial⟩; clear h12
 refine co_loop (fun mm a x => ∃ (i : Nat), Slots 94 [(0, pt d 0), (1, .string k), (5, pt N3 0), (6, .int .i64 ((i : Nat) : Int))] a ∧ mm = L.length - i ∧ (i ≤ L.length) ∧ (∀ a ∈ L.take i, klt a.1 k = true) ∧ Blk x d 56 #[u, .int .u64 la] ∧ Blk x N3 99 #[.int .u64 c.1, .string c.2.1, .bool c.2.2] ∧ x.ownsRow 0 106 2 u L.length (L.flatMap rwE) ∧ RwsK x f L ∧ But (fun q => q = d ∨ u.ownBlock = some q) w x) (L.length - 0) ?_ ?_
 have hk14 := hB.kept hg4 (by simp)
 have hr15 := row_kept_new hR hg4
 have hE16 := hE.new hg4
 have hB17 := fbU_new hB0 hg4
 · exact ⟨0, h13.sub ⟨rfl, rfl, rfl, (slot_eq rfl (congrArg (Value.int .i64) (by first | rfl | omega))), trivial⟩, rfl, by omega, by exact htk9, hk14, hk5, hr15, hE16, hB17⟩
 · rintro k18 a19 w20 ⟨i, h19, rfl, hi21, hi22, hf23, hf24, hf25, hf26, hB27⟩
   have hz28 := hB27.size
   have hl29 := hf23.lt
   have hl30 := hf24.lt
   have htkA : ∀ a ∈ L.take i, klt a.1 k = true := by assumption
   refine co_seq ?_
   refine co_seq ?_
   refine co_reg ?_
   refine pk0 (v := .int .i64 ((i : Nat) : Int)) h19 rfl fun a31 h31 => ?_; clear h19
   refine pk0 (v := pt d 0) h31 rfl fun a32 h32 => ?_; clear h31
   refine pk0 (v := pt d 0) h32 rfl fun a33 h33 => ?_; clear h32
   refine pk0 (v := pt d 0) h33 rfl fun a34 h34 => ?_; clear h33
   refine pk (v := u) h34 rfl (rn_load1 rfl rfl Try.isAgg54 (hf23.cell rfl)) fun a35 h35 => ?_; clear h34
   refine pk (v := .int .i64 ((L.length : Nat) : Int)) h35 rfl (rn_lenOwn rfl rfl Try.underlying54 hf25) fun a36 h36 => ?_; clear h35
   refine pk0 (v := .bool (decide (((i : Nat) : Int) < ((L.length : Nat) : Int)))) h36 rfl fun a37 h37 => ?_; clear h36
   refine pk0 (v := .bool (decide (((i : Nat) : Int) < ((L.length : Nat) : Int)))) h37 rfl fun a38 h38 => ?_; clear h37
   cases hc39 : (decide (((i : Nat) : Int) < ((L.length : Nat) : Int)))
   ·
    rw [hc39] at h38
    have hp40 : ¬ (((i : Nat) : Int) < ((L.length : Nat) : Int)) := of_decide_eq_false hc39
    clear hc39
    refine psk h38 rfl fun a41 h41 => ?_; clear h38
    refine psk h41 rfl fun a42 h42 => ?_; clear h41
    refine psk h42 rfl fun a43 h43 => ?_; clear h42
    refine psk h43 rfl fun a44 h44 => ?_; clear h43
    refine psk h44 rfl fun a45 h45 => ?_; clear h44
    refine psk h45 rfl fun a46 h46 => ?_; clear h45
    refine psk h46 rfl fun a47 h47 => ?_; clear h46
    refine psk h47 rfl fun a48 h48 => ?_; clear h47
    refine psk h48 rfl fun a49 h49 => ?_; clear h48
    refine psk h49 rfl fun a50 h50 => ?_; clear h49
    refine pk0 (v := .bool false) h50 rfl fun a51 h51 => ?_; clear h50
    refine pl_nil ?_
    refine co_then ?_
    refine co_false h51 rfl ?_
    refine wp_exit ?_
    refine co_thenX ?_
    refine co_thenX ?_
    refine co_blockX ?_
    refine co_then ?_
    refine co_seq ?_
    refine co_seq ?_
    refine co_reg ?_
    refine pk0 (v := .int .i64 ((i : Nat) : Int)) h51 rfl fun a52 h52 => ?_; clear h51
    refine pk0 (v := pt d 0) h52 rfl fun a53 h53 => ?_; clear h52
    refine pk0 (v := pt d 0) h53 rfl fun a54 h54 => ?_; clear h53
    refine pk0 (v := pt d 0) h54 rfl fun a55 h55 => ?_; clear h54
    refine pk (v := u) h55 rfl (rn_load1 rfl rfl Try.isAgg54 (hf23.cell rfl)) fun a56 h56 => ?_; clear h55
    refine pk (v := .int .i64 ((L.length : Nat) : Int)) h56 rfl (rn_lenOwn rfl rfl Try.underlying54 hf25) fun a57 h57 => ?_; clear h56
    refine pk0 (v := .bool (((i : Nat) : Int) == ((L.length : Nat) : Int))) h57 rfl fun a58 h58 => ?_; clear h57
    refine pk0 (v := .bool (((i : Nat) : Int) == ((L.length : Nat) : Int))) h58 rfl fun a59 h59 => ?_; clear h58
    have hc60 : (((i : Nat) : Int) == ((L.length : Nat) : Int)) = true := by first | (simp; done) | (simp; omega) | exact beq_false_of_ne (by omega) | exact beq_iff_eq.2 (by omega)
    rw [hc60] at h59; clear hc60
    refine psk h59 rfl fun a61 h61 => ?_; clear h59
    refine psk h61 rfl fun a62 h62 => ?_; clear h61
    refine psk h62 rfl fun a63 h63 => ?_; clear h62
    refine psk h63 rfl fun a64 h64 => ?_; clear h63
    refine psk h64 rfl fun a65 h65 => ?_; clear h64
    refine psk h65 rfl fun a66 h66 => ?_; clear h65
    refine psk h66 rfl fun a67 h67 => ?_; clear h66
    refine psk h67 rfl fun a68 h68 => ?_; clear h67
    refine psk h68 rfl fun a69 h69 => ?_; clear h68
    refine psk h69 rfl fun a70 h70 => ?_; clear h69
    refine pk0 (v := .bool true) h70 rfl fun a71 h71 => ?_; clear h70
    refine pl_nil ?_
    refine co_then ?_
    refine co_true h71 rfl ?_
    refine co_seq ?_
    refine co_reg ?_
    refine pw h71 rfl (op_new (v := fun N => .slice (some ⟨N, 0, none⟩) 0 0) (T := 106) (cs := #[]) (by kernel_rfl) (by kernel_rfl) (by kernel_rfl)) ?_; clear h71
    rintro _ w73 a72 ⟨N74, rfl, hN77, hz78, hk76, hg75⟩ h72
    have ha79 := row_fresh hf25 hN77
    have hu80 := row_under hf25 hN77
    have hz81 := hg75.size
    try dsimp only at h72
    refine pk0 (v := pt d 0) h72 rfl fun a82 h82 => ?_; clear h72
    refine pk0 (v := pt d 0) h82 rfl fun a83 h83 => ?_; clear h82
    refine pk0 (v := pt d 0) h83 rfl fun a84 h84 => ?_; clear h83
    have hk85 := hf23.kept hg75 (by simp)
    refine pk (v := u) h84 rfl (rn_load1 rfl rfl Try.isAgg54 (hk85.cell rfl)) fun a86 h86 => ?_; clear h84
    refine pk0 (v := .int .i64 ((i : Nat) : Int)) h86 rfl fun a87 h87 => ?_; clear h86
    have hr88 := row_kept_new hf25 hg75
    have hr89 := row_cut hr88 rwE_len i (by omega) (.inr trivial)
    refine pk (v := subV u 0 i 2) h87 rfl (rn_sliceTo rfl rfl rfl Try.underlying54 Try.sizeOf106 (row_sl hr88 rwE_len) (by omega) (by omega)) fun a90 h90 => ?_; clear h87
    have hr93 := row_of_blkL hk76 (Nat.le_refl _) 2 rwE
    refine pw h90 rfl (op_appendSrc rfl N74 106 (z := .agg #[.string (⟨#[]⟩), .slice none 0 0]) (size := 2) (bytes := 40) Try.underlying54 (by kernel_rfl) rfl rfl rfl hr93 rfl (row_sl hr89 rwE_len) (fun y hy => ⟨rwE_len y, rwE_one y⟩) (by first | omega | (simp only [List.length_nil, List.length_append, List.length_cons, List.length_take, List.length_drop]; omega)) (by first | omega | (simp only [List.length_nil, List.length_append, List.length_cons, List.length_take, List.length_drop]; omega)) (by omega)) ?_; clear h90
    rintro v94 w92 a91 ⟨hr95, hg96⟩ h91
    have hr95' : w92.ownsRow N74 106 2 v94 ((L.take i).length) ((L.take i).flatMap rwE) := row_app (l := []) hr95; clear hr95
    have hz98 := hg96.size
    have hk99 := hf24.kept hg75 (by simp)
    refine pk0 (v := .string k) h91 rfl fun a100 h100 => ?_; clear h91
    refine pk0 (v := .agg #[.string k, .slice none 0 0]) h100 rfl fun a101 h101 => ?_; clear h100
    refine pw h101 rfl (op_new (v := fun N => .slice (some ⟨N, 0, none⟩) 1 1) (T := 106) (cs := #[.string k, .slice none 0 0]) (by kernel_rfl) (by kernel_rfl) (by kernel_rfl)) ?_; clear h101
    rintro _ w103 a102 ⟨N104, rfl, hN107, hz108, hk106, hg105⟩ h102
    have hr110 := row_kept_ap hr88 hr93 hu80 hg96
    have ha109 := row_fresh hr110 hN107
    have hu111 := row_under hr110 hN107
    have ha112 := row_fresh hr95' hN107
    have hu113 := row_under hr95' hN107
    have hz114 := hg105.size
    try dsimp only at h102
    have hr121 := row_kept_new hr95' hg105
    refine pw h102 rfl (op_append rfl N74 106 (z := .agg #[.string (⟨#[]⟩), .slice none 0 0]) (size := 2) (bytes := 40) Try.underlying54 (by kernel_rfl) rfl rfl rfl hr121 rfl hk106 rfl (by kernel_rfl) (by first | omega | (simp only [List.length_nil, List.length_append, List.length_cons, List.length_take, List.length_drop]; omega)) (by first | omega | (simp only [List.length_nil, List.length_append, List.length_cons, List.length_take, List.length_drop]; omega)) (by omega)) ?_; clear h102
    rintro v117 w116 a115 ⟨hr118, hg119⟩ h115
    have hr118' : w116.ownsRow N74 106 2 v117 ((L.take i ++ [(k, (⟨none, 0, 0⟩ : SlT))]).length) ((L.take i ++ [(k, (⟨none, 0, 0⟩ : SlT))]).flatMap rwE) := row_push (y := (k, (⟨none, 0, 0⟩ : SlT))) hr118 rfl rfl; clear hr118
    have hz122 := hg119.size
    have hk123 := hk85.kept hg96 (own_neT hr93 hk85 (by decide))
    have hk124 := hk123.kept hg105 (by simp)
    have hk125 := hk99.kept hg96 (own_neT hr93 hk99 (by decide))
    have hk126 := hk125.kept hg105 (by simp)
    refine pk0 (v := v117) h115 rfl fun a127 h127 => ?_; clear h115
    refine pl_nil ?_
    refine co_then ?_
    refine co_seq ?_
    refine co_reg ?_
    refine pk0 (v := v117) h127 rfl fun a128 h128 => ?_; clear h127
    refine pk0 (v := pt d 0) h128 rfl fun a129 h129 => ?_; clear h128
    refine pk0 (v := pt d 0) h129 rfl fun a130 h130 => ?_; clear h129
    refine pk0 (v := pt d 0) h130 rfl fun a131 h131 => ?_; clear h130
    have hk132 := hk124.kept hg119 (own_neT hr121 hk124 (by decide))
    refine pk (v := u) h131 rfl (rn_load1 rfl rfl Try.isAgg54 (hk132.cell rfl)) fun a133 h133 => ?_; clear h131
    refine pk0 (v := .int .i64 ((i : Nat) : Int)) h133 rfl fun a134 h134 => ?_; clear h133
    have hr135 := row_kept_new hr110 hg105
    have hr136 := row_kept_ap hr135 hr121 hu80 hg119
    refine pk (v := subV u i L.length 2) h134 rfl (rn_sliceFrom rfl rfl rfl Try.underlying54 Try.sizeOf106 (row_sl hr136 rwE_len) (by omega) (by omega)) fun a137 h137 => ?_; clear h134
    refine pw h137 rfl (op_appendSrc rfl N74 106 (z := .agg #[.string (⟨#[]⟩), .slice none 0 0]) (size := 2) (bytes := 40) Try.underlying54 (by kernel_rfl) rfl rfl rfl hr118' rfl (sl_drop (row_sl hr136 rwE_len) _ (by omega)) (fun y hy => ⟨rwE_len y, rwE_one y⟩) (by first | omega | (simp only [List.length_nil, List.length_append, List.length_cons, List.length_take, List.length_drop]; omega)) (by first | omega | (simp only [List.length_nil, List.length_append, List.length_cons, List.length_take, List.length_drop]; omega)) (by omega)) ?_; clear h137
    rintro v140 w139 a138 ⟨hr141, hg142⟩ h138
    have hr141' : w139.ownsRow N74 106 2 v140 ((L.take i ++ [(k, (⟨none, 0, 0⟩ : SlT))] ++ (L.drop i)).length) ((L.take i ++ [(k, (⟨none, 0, 0⟩ : SlT))] ++ (L.drop i)).flatMap rwE) := row_app hr141; clear hr141
    have hz144 := hg142.size
    have hk145 := hk126.kept hg119 (own_neT hr121 hk126 (by decide))
    have hup146 := lay_up hK htkA (by first | exact .inl (by omega) | exact .inr ⟨_, by assumption, by assumption, by assumption⟩ | exact .inr ⟨_, by assumption, by assumption, by simpa using (by assumption : (!(_ == k.toList)) = true)⟩)
    have hE148 := hf26.new hg75
    have hE149 := hE148.row hr93 (by decide) hg96
    have hE150 := hE149.new hg105
    have hE151 := hE150.row hr121 (by decide) hg119
    have hE152 := hE151.row hr118' (by decide) hg142
    have hE147 : RwsK _ f (L.take i ++ [(k, (⟨none, 0, 0⟩ : SlT))] ++ (L.drop i)) := RwsK.ins hE152 hup146.2
    refine pk0 (v := v140) h138 rfl fun a153 h153 => ?_; clear h138
    refine pl_nil ?_
    refine co_then ?_
    refine co_reg ?_
    refine pk0 (v := pt d 0) h153 rfl fun a154 h154 => ?_; clear h153
    refine pk0 (v := v140) h154 rfl fun a155 h155 => ?_; clear h154
    refine pk0 (v := pt d 0) h155 rfl fun a156 h156 => ?_; clear h155
    refine pk0 (v := pt d 0) h156 rfl fun a157 h157 => ?_; clear h156
    have hk163 := hk132.kept hg142 (own_neT hr118' hk132 (by decide))
    refine pwD h157 rfl (op_store1 rfl rfl rfl (row_one hr141') Try.sizeOf54 hk163 rfl) ?_; clear h157
    rintro _ w159 a158 ⟨hk160, hz161, hg162⟩ h158
    have hk160' : Blk w159 d 56 #[v140, .int .u64 la] := hk160; clear hk160
    have hz164 := hg162.size
    refine pl_nil ?_
    refine co_then ?_
    refine co_seq ?_
    refine dr_gen (fun x => But (fun q => q = d ∨ u.ownBlock = some q) w x ∧ Blk x N3 99 #[.int .u64 c.1, .string c.2.1, .bool c.2.2] ∧ x.ownsRow N74 106 2 v140 ((L.take i ++ [(k, (⟨none, 0, 0⟩ : SlT))] ++ (L.drop i)).length) ((L.take i ++ [(k, (⟨none, 0, 0⟩ : SlT))] ++ (L.drop i)).flatMap rwE) ∧ Blk x d 56 #[v140, .int .u64 la]) (by kernel_rfl) (fun w165 hg166 => ?_) (fun w165 hg166 => ?_)
    ·
     have hz167 := hg166.size
     have hB168 := fbU_new hB27 hg75
     have hB169 := fbU_row hB168 (InS.low hr93 (by omega)) hg96
     have hB170 := fbU_new hB169 hg105
     have hB171 := fbU_row hB170 (InS.low hr121 (by omega)) hg119
     have hB172 := fbU_row hB171 (InS.low hr118' (by omega)) hg142
     have hB173 := fbU_at hB172 hg162 (fun hlt => by rcases hinb with hq | hq; exact hq; omega)
     have hB174 := fbU_new hB173 hg166
     have hk175 := hk145.kept hg142 (own_neT hr118' hk145 (by decide))
     have hk176 := hk175.kept hg162 (by simp; omega)
     have hk177 := hk176.kept hg166 (by simp)
     have hr178 := row_kept_at hr141' hg162 (own_neT hr141' hk163 (by decide))
     have hr179 := row_kept_new hr178 hg166
     have hk180 := hk160'.kept hg166 (by simp)
     exact ⟨hB174, hk177, hr179, hk180⟩
    have hz181 := hg166.size
    have hB182 := fbU_new hB27 hg75
    have hB183 := fbU_row hB182 (InS.low hr93 (by omega)) hg96
    have hB184 := fbU_new hB183 hg105
    have hB185 := fbU_row hB184 (InS.low hr121 (by omega)) hg119
    have hB186 := fbU_row hB185 (InS.low hr118' (by omega)) hg142
    have hB187 := fbU_at hB186 hg162 (fun hlt => by rcases hinb with hq | hq; exact hq; omega)
    have hB188 := fbU_new hB187 hg166
    have hk189 := hk145.kept hg142 (own_neT hr118' hk145 (by decide))
    have hk190 := hk189.kept hg162 (by simp; omega)
    have hk191 := hk190.kept hg166 (by simp)
    have hr192 := row_kept_at hr141' hg162 (own_neT hr141' hk163 (by decide))
    have hr193 := row_kept_new hr192 hg166
    have hk194 := hk160'.kept hg166 (by simp)
    refine dk0 1 (v := pt d 0) h158 rfl rfl ⟨hB188, hk191, hr193, hk194⟩ fun a195 h195 => ?_; clear h158
    refine dk0 2 (v := pt d 0) h195 rfl rfl ⟨hB188, hk191, hr193, hk194⟩ fun a196 h196 => ?_; clear h195
    refine dk0 3 (v := pt d 0) h196 rfl rfl ⟨hB188, hk191, hr193, hk194⟩ fun a197 h197 => ?_; clear h196
    refine dk 4 (v := v140) h197 rfl rfl ⟨hB188, hk191, hr193, hk194⟩ (fun x hx => (rn_load1 rfl rfl Try.isAgg54 (hx.2.2.2.cell rfl))) fun a198 h198 => ?_; clear h197
    refine dk0 5 (v := .int .i64 ((i : Nat) : Int)) h198 rfl rfl ⟨hB188, hk191, hr193, hk194⟩ fun a199 h199 => ?_; clear h198
    have hE202 := hE147.blk hk163 (by decide) hg162
    have hE203 := hE202.new hg166
    obtain ⟨y200, hy200⟩ : ∃ z, (L.take i ++ [(k, (⟨none, 0, 0⟩ : SlT))] ++ (L.drop i))[i]? = some z := ⟨_, List.getElem?_eq_getElem (by first | omega | (simp; done) | (simp; omega))⟩
    have oky200 := (fun (z : Kv) (_ : z ∈ (L.take i ++ [(k, (⟨none, 0, 0⟩ : SlT))] ++ (L.drop i))) => trivial) _ (List.mem_of_getElem? hy200)
    have hy201 : World.ownsRow _ 0 99 3 (.slice y200.2.a y200.2.n y200.2.c) (f y200.1).length ((f y200.1).flatMap cellE) := hE203 y200 (List.mem_of_getElem? hy200)
    have hfly200 := hF y200.1
    refine dk 6 (v := pt (blkOf v140) (offOf v140 + i * 2)) h199 rfl rfl ⟨hB188, hk191, hr193, hk194⟩ (fun x hx => (rn_index rfl rfl rfl Try.underlying54 Try.sizeOf106 (row_sl hx.2.2.1 rwE_len) (by omega) (by first | omega | (simp; done) | (simp; omega)))) fun a204 h204 => ?_; clear h199
    refine dk0 7 (v := pt (blkOf v140) (offOf v140 + i * 2 + 1)) h204 rfl rfl ⟨hB188, hk191, hr193, hk194⟩ fun a205 h205 => ?_; clear h204
    refine dk 8 (v := .slice y200.2.a y200.2.n y200.2.c) h205 rfl rfl ⟨hB188, hk191, hr193, hk194⟩ (fun x hx => (rn_load1 rfl rfl Try.isAgg90 ((sl_at (row_sl hx.2.2.1 rwE_len) hy200) 1 _ rfl))) fun a206 h206 => ?_; clear h205
    refine dk 10 (v := .agg #[.int .u64 c.1, .string c.2.1, .bool c.2.2]) h206 rfl rfl ⟨hB188, hk191, hr193, hk194⟩ (fun x hx => (rn_loadN rfl rfl Try.underlying99 rfl (by kernel_rfl) hx.2.1.all)) fun a207 h207 => ?_; clear h206
    refine dr_many [0, 11] (by kernel_rfl) (by simp) ⟨?_, ?_, trivial⟩
    ·
     refine dr_op (i := 0) h207 rfl rfl rfl rfl (op_new (v := fun N => .slice (some ⟨N, 0, none⟩) 0 0) (T := 99) (cs := #[]) (by kernel_rfl) (by kernel_rfl) (by kernel_rfl)) ?_ ?_; clear h207
     ·
      rintro _ w209 ⟨N210, rfl, hN213, hz214, hk212, hg211⟩
      have hr216 := row_kept_ap hr136 hr118' hu80 hg142
      have hr217 := row_kept_at hr216 hg162 (own_neT hr216 hk163 (by decide))
      have hr218 := row_kept_new hr217 hg166
      have ha215 := row_fresh hr218 hN213
      have hu219 := row_under hr218 hN213
      have ha220 := row_fresh hr193 hN213
      have hu221 := row_under hr193 hN213
      have ha222 := row_fresh hy201 hN213
      have hu223 := row_under hy201 hN213
      have hz224 := hg211.size
      have hE226 := hE152.blk hk163 (by decide) hg162
      have hE227 := hE226.new hg166
      have hu225 := RwsK.under hE227 hN213
      have hu228 := RwsK.under hE203 hN213
      have hB229 := fbU_new hB188 hg211
      have hk230 := hk191.kept hg211 (by simp)
      have hr231 := row_kept_new hr193 hg211
      have hk232 := hk194.kept hg211 (by simp)
      exact ⟨hB229, hk230, hr231, hk232⟩
     rintro _ w209 a208 ⟨N210, rfl, hN213, hz214, hk212, hg211⟩ h208
     have hr216 := row_kept_ap hr136 hr118' hu80 hg142
     have hr217 := row_kept_at hr216 hg162 (own_neT hr216 hk163 (by decide))
     have hr218 := row_kept_new hr217 hg166
     have ha215 := row_fresh hr218 hN213
     have hu219 := row_under hr218 hN213
     have ha220 := row_fresh hr193 hN213
     have hu221 := row_under hr193 hN213
     have ha222 := row_fresh hy201 hN213
     have hu223 := row_under hy201 hN213
     have hz224 := hg211.size
     have hE226 := hE152.blk hk163 (by decide) hg162
     have hE227 := hE226.new hg166
     have hu225 := RwsK.under hE227 hN213
     have hu228 := RwsK.under hE203 hN213
     try dsimp only at h208
     have hB229 := fbU_new hB188 hg211
     have hk230 := hk191.kept hg211 (by simp)
     have hr231 := row_kept_new hr193 hg211
     have hk232 := hk194.kept hg211 (by simp)
     refine dr_many [9, 11] (by kernel_rfl) (by simp) ⟨?_, ?_, trivial⟩
     ·
      have hr235 := row_of_blkL hk212 (Nat.le_refl _) 3 cellE
      have hr240 := row_kept_new hy201 hg211
      refine dr_op (i := 9) h208 rfl rfl rfl rfl (op_appendSrc rfl N210 99 (z := .agg #[.int .u64 0, .string (⟨#[]⟩), .bool false]) (size := 3) (bytes := 32) Try.underlying90 (by kernel_rfl) rfl rfl rfl hr235 rfl (row_sl hr240 cellE_len) (fun y hy => ⟨cellE_len y, cellE_oneC y⟩) (by first | omega | (simp only [List.length_nil, List.length_append, List.length_cons, List.length_take, List.length_drop]; omega)) (by first | omega | (simp only [List.length_nil, List.length_append, List.length_cons, List.length_take, List.length_drop]; omega)) (by omega)) ?_ ?_; clear h208
      ·
       rintro v236 w234 ⟨hr237, hg238⟩
       have hr237' : w234.ownsRow N210 99 3 v236 ((f y200.1).length) ((f y200.1).flatMap cellE) := row_app (l := []) hr237; clear hr237
       have hz241 := hg238.size
       obtain ⟨z242, rfl⟩ : ∃ z : SlT, v236 = .slice z.a z.n z.c := by obtain ⟨ao, n, cap, e⟩ := own_sliceT hr237'; exact ⟨⟨ao, n, cap⟩, e⟩
       have hB243 := fbU_row hB229 (InS.low hr235 (by omega)) hg238
       have hk244 := hk230.kept hg238 (by simp [Value.ownBlock]; omega)
       have hr245 := row_kept_ap hr231 hr235 hu221 hg238
       have hk246 := hk232.kept hg238 (own_neT hr235 hk232 (by decide))
       exact ⟨hB243, hk244, hr245, hk246⟩
      rintro v236 w234 a233 ⟨hr237, hg238⟩ h233
      have hr237' : w234.ownsRow N210 99 3 v236 ((f y200.1).length) ((f y200.1).flatMap cellE) := row_app (l := []) hr237; clear hr237
      have hz241 := hg238.size
      obtain ⟨z242, rfl⟩ : ∃ z : SlT, v236 = .slice z.a z.n z.c := by obtain ⟨ao, n, cap, e⟩ := own_sliceT hr237'; exact ⟨⟨ao, n, cap⟩, e⟩
      have hB243 := fbU_row hB229 (InS.low hr235 (by omega)) hg238
      have hk244 := hk230.kept hg238 (by simp [Value.ownBlock]; omega)
      have hr245 := row_kept_ap hr231 hr235 hu221 hg238
      have hk246 := hk232.kept hg238 (own_neT hr235 hk232 (by decide))
      refine d1 11 h233 rfl rfl (op_new (v := fun N => .slice (some ⟨N, 0, none⟩) 1 1) (T := 99) (cs := #[.int .u64 c.1, .string c.2.1, .bool c.2.2]) (by kernel_rfl) (by kernel_rfl) (by kernel_rfl)) ?_ ?_; clear h233
      ·
       rintro _ w248 ⟨N249, rfl, hN252, hz253, hk251, hg250⟩
       have hr255 := row_kept_new hr218 hg211
       have hr256 := row_kept_ap hr255 hr235 hu219 hg238
       have ha254 := row_fresh hr256 hN252
       have hu257 := row_under hr256 hN252
       have ha258 := row_fresh hr245 hN252
       have hu259 := row_under hr245 hN252
       have hr261 := row_kept_ap hr240 hr235 hu223 hg238
       have ha260 := row_fresh hr261 hN252
       have hu262 := row_under hr261 hN252
       have ha263 := row_fresh hr237' hN252
       have hu264 := row_under hr237' hN252
       have hz265 := hg250.size
       have hE267 := hE227.new hg211
       have hE268 := hE267.rowU hu225 hr235 hg238
       have hu266 := RwsK.under hE268 hN252
       have hE270 := hE203.new hg211
       have hE271 := hE270.rowU hu228 hr235 hg238
       have hu269 := RwsK.under hE271 hN252
       have hB272 := fbU_new hB243 hg250
       have hk273 := hk244.kept hg250 (by simp)
       have hr274 := row_kept_new hr245 hg250
       have hk275 := hk246.kept hg250 (by simp)
       exact ⟨hB272, hk273, hr274, hk275⟩
      rintro _ w248 a247 ⟨N249, rfl, hN252, hz253, hk251, hg250⟩ h247
      have hr255 := row_kept_new hr218 hg211
      have hr256 := row_kept_ap hr255 hr235 hu219 hg238
      have ha254 := row_fresh hr256 hN252
      have hu257 := row_under hr256 hN252
      have ha258 := row_fresh hr245 hN252
      have hu259 := row_under hr245 hN252
      have hr261 := row_kept_ap hr240 hr235 hu223 hg238
      have ha260 := row_fresh hr261 hN252
      have hu262 := row_under hr261 hN252
      have ha263 := row_fresh hr237' hN252
      have hu264 := row_under hr237' hN252
      have hz265 := hg250.size
      have hE267 := hE227.new hg211
      have hE268 := hE267.rowU hu225 hr235 hg238
      have hu266 := RwsK.under hE268 hN252
      have hE270 := hE203.new hg211
      have hE271 := hE270.rowU hu228 hr235 hg238
      have hu269 := RwsK.under hE271 hN252
      try dsimp only at h247
      have hB272 := fbU_new hB243 hg250
      have hk273 := hk244.kept hg250 (by simp)
      have hr274 := row_kept_new hr245 hg250
      have hk275 := hk246.kept hg250 (by simp)
      have hr282 := row_kept_new hr237' hg250
      refine d1 12 h247 rfl rfl (op_append rfl N210 99 (z := .agg #[.int .u64 0, .string (⟨#[]⟩), .bool false]) (size := 3) (bytes := 32) Try.underlying90 (by kernel_rfl) rfl rfl rfl hr282 rfl hk251 rfl (by kernel_rfl) (by first | omega | (simp only [List.length_nil, List.length_append, List.length_cons, List.length_take, List.length_drop]; omega)) (by first | omega | (simp only [List.length_nil, List.length_append, List.length_cons, List.length_take, List.length_drop]; omega)) (by omega)) ?_ ?_; clear h247
      ·
       rintro v278 w277 ⟨hr279, hg280⟩
       have hr279' : w277.ownsRow N210 99 3 v278 (((f y200.1) ++ [(c.1, c.2.1, c.2.2)]).length) (((f y200.1) ++ [(c.1, c.2.1, c.2.2)]).flatMap cellE) := row_push (y := (c.1, c.2.1, c.2.2)) hr279 rfl rfl; clear hr279
       have hz283 := hg280.size
       obtain ⟨z284, rfl⟩ : ∃ z : SlT, v278 = .slice z.a z.n z.c := by obtain ⟨ao, n, cap, e⟩ := own_sliceT hr279'; exact ⟨⟨ao, n, cap⟩, e⟩
       have hB285 := fbU_row hB272 (InS.low hr282 (by omega)) hg280
       have hk286 := hk273.kept hg280 (row_ne_lt hr282 (by omega))
       have hr287 := row_kept_ap hr274 hr282 hu221 hg280
       have hk288 := hk275.kept hg280 (own_neT hr282 hk275 (by decide))
       exact ⟨hB285, hk286, hr287, hk288⟩
      rintro v278 w277 a276 ⟨hr279, hg280⟩ h276
      have hr279' : w277.ownsRow N210 99 3 v278 (((f y200.1) ++ [(c.1, c.2.1, c.2.2)]).length) (((f y200.1) ++ [(c.1, c.2.1, c.2.2)]).flatMap cellE) := row_push (y := (c.1, c.2.1, c.2.2)) hr279 rfl rfl; clear hr279
      have hz283 := hg280.size
      obtain ⟨z284, rfl⟩ : ∃ z : SlT, v278 = .slice z.a z.n z.c := by obtain ⟨ao, n, cap, e⟩ := own_sliceT hr279'; exact ⟨⟨ao, n, cap⟩, e⟩
      have hB285 := fbU_row hB272 (InS.low hr282 (by omega)) hg280
      have hk286 := hk273.kept hg280 (row_ne_lt hr282 (by omega))
      have hr287 := row_kept_ap hr274 hr282 hu221 hg280
      have hk288 := hk275.kept hg280 (own_neT hr282 hk275 (by decide))
      refine dk0 13 (v := .slice z284.a z284.n z284.c) h276 rfl rfl ⟨hB285, hk286, hr287, hk288⟩ fun a289 h289 => ?_; clear h276
      refine dr_done (by kernel_rfl) ?_
      refine co_then ?_
      refine co_reg ?_
      refine pk0 (v := pt d 0) h289 rfl fun a290 h290 => ?_; clear h289
      refine pk0 (v := pt d 0) h290 rfl fun a291 h291 => ?_; clear h290
      refine pk0 (v := pt d 0) h291 rfl fun a292 h292 => ?_; clear h291
      refine pk (v := v140) h292 rfl (rn_load1 rfl rfl Try.isAgg54 (hk288.cell rfl)) fun a293 h293 => ?_; clear h292
      refine pk0 (v := .int .i64 ((i : Nat) : Int)) h293 rfl fun a294 h294 => ?_; clear h293
      refine pk0 (v := .slice z284.a z284.n z284.c) h294 rfl fun a295 h295 => ?_; clear h294
      refine pk (v := pt (blkOf v140) (offOf v140 + i * 2)) h295 rfl (rn_index rfl rfl rfl Try.underlying54 Try.sizeOf106 (row_sl hr287 rwE_len) (by omega) (by first | omega | (simp; done) | (simp; omega))) fun a296 h296 => ?_; clear h295
      refine pk0 (v := pt (blkOf v140) (offOf v140 + i * 2 + 1)) h296 rfl fun a297 h297 => ?_; clear h296
      refine pwD h297 rfl (op_storeRow (c := i * 2 + 1) rfl rfl rfl rfl Try.sizeOf90 hr287 (flat_lt rwE_len (by first | omega | (simp; omega)) (by omega)) (by first | rfl | omega)) ?_; clear h297
      rintro _ w299 a298 ⟨hr300, hz301, hg302⟩ h298
      have hr300' := row_set (y' := (y200.1, z284)) hr300 rwE_len hy200 (by omega) rfl; clear hr300
      have hz303 := hg302.size
      have hky9 : y200.1 = k := (lay_key (by omega) hy200)
      have hE305 := hE271.new hg250
      have hE306 := hE305.rowU hu228 hr282 hg280
      have hE307 := hE306.row hr287 (by decide) hg302
      have hr308 := row_kept_row hr279' hr287 hg302 (by decide)
      have hE304 := RwsK.set (z := z284) (l := (f y200.1) ++ [(c.1, c.2.1, c.2.2)]) hE307 hup146.1 hy200 hky9 (by have hz9 := hr308; exact own_low hz9 (Nat.zero_le _))
      refine pl_nil ?_
      refine co_ret0n h298 rfl ?_
      have hk309 := hk288.kept hg302 (own_neT hr287 hk288 (by decide))
      have hB310 := fbU_row hB285 (InS.low hr287 (by omega)) hg302
      have hml9 : (f y200.1) ++ [(c.1, c.2.1, c.2.2)] = f k ++ [c] := by rw [hky9]
      have hQ9 := hE304
      rw [hml9] at hQ9
      have hzl9 : ∀ g, (slV z284).ownBlock = some g → w.heap.size ≤ g := fun g hg => by have hz9 := hr308; have := (hz9.lt g hg).1; omega
      exact ⟨_, _, rfl, hk309, own_low hr300' (Nat.zero_le _), hQ9, lay_new hK hup146.1 hy200 (by simp), by simp only [List.length_set, List.length_append, List.length_take, List.length_drop, List.length_cons, List.length_nil]; omega, (fun i hi => .inr (by have hz9 := hr300'; have := (hz9.lt i hi).1; omega)), from_new hzl9, hB310⟩
     ·
      refine dr_op (i := 11) h208 rfl rfl rfl rfl (op_new (v := fun N => .slice (some ⟨N, 0, none⟩) 1 1) (T := 99) (cs := #[.int .u64 c.1, .string c.2.1, .bool c.2.2]) (by kernel_rfl) (by kernel_rfl) (by kernel_rfl)) ?_ ?_; clear h208
      ·
       rintro _ w312 ⟨N313, rfl, hN316, hz317, hk315, hg314⟩
       have hr319 := row_kept_new hr218 hg211
       have ha318 := row_fresh hr319 hN316
       have hu320 := row_under hr319 hN316
       have ha321 := row_fresh hr231 hN316
       have hu322 := row_under hr231 hN316
       have hr324 := row_kept_new hy201 hg211
       have ha323 := row_fresh hr324 hN316
       have hu325 := row_under hr324 hN316
       have hz326 := hg314.size
       have hE328 := hE227.new hg211
       have hu327 := RwsK.under hE328 hN316
       have hE330 := hE203.new hg211
       have hu329 := RwsK.under hE330 hN316
       have hB331 := fbU_new hB229 hg314
       have hk332 := hk230.kept hg314 (by simp)
       have hr333 := row_kept_new hr231 hg314
       have hk334 := hk232.kept hg314 (by simp)
       exact ⟨hB331, hk332, hr333, hk334⟩
      rintro _ w312 a311 ⟨N313, rfl, hN316, hz317, hk315, hg314⟩ h311
      have hr319 := row_kept_new hr218 hg211
      have ha318 := row_fresh hr319 hN316
      have hu320 := row_under hr319 hN316
      have ha321 := row_fresh hr231 hN316
      have hu322 := row_under hr231 hN316
      have hr324 := row_kept_new hy201 hg211
      have ha323 := row_fresh hr324 hN316
      have hu325 := row_under hr324 hN316
      have hz326 := hg314.size
      have hE328 := hE227.new hg211
      have hu327 := RwsK.under hE328 hN316
      have hE330 := hE203.new hg211
      have hu329 := RwsK.under hE330 hN316
      try dsimp only at h311
      have hB331 := fbU_new hB229 hg314
      have hk332 := hk230.kept hg314 (by simp)
      have hr333 := row_kept_new hr231 hg314
      have hk334 := hk232.kept hg314 (by simp)
      have hk338 := hk212.kept hg314 (by simp)
      have hr337 := row_of_blkL hk338 (Nat.le_refl _) 3 cellE
      have hr343 := row_kept_new hr324 hg314
      refine d1 9 h311 rfl rfl (op_appendSrc rfl N210 99 (z := .agg #[.int .u64 0, .string (⟨#[]⟩), .bool false]) (size := 3) (bytes := 32) Try.underlying90 (by kernel_rfl) rfl rfl rfl hr337 rfl (row_sl hr343 cellE_len) (fun y hy => ⟨cellE_len y, cellE_oneC y⟩) (by first | omega | (simp only [List.length_nil, List.length_append, List.length_cons, List.length_take, List.length_drop]; omega)) (by first | omega | (simp only [List.length_nil, List.length_append, List.length_cons, List.length_take, List.length_drop]; omega)) (by omega)) ?_ ?_; clear h311
      ·
       rintro v339 w336 ⟨hr340, hg341⟩
       have hr340' : w336.ownsRow N210 99 3 v339 ((f y200.1).length) ((f y200.1).flatMap cellE) := row_app (l := []) hr340; clear hr340
       have hz344 := hg341.size
       obtain ⟨z345, rfl⟩ : ∃ z : SlT, v339 = .slice z.a z.n z.c := by obtain ⟨ao, n, cap, e⟩ := own_sliceT hr340'; exact ⟨⟨ao, n, cap⟩, e⟩
       have hB346 := fbU_row hB331 (InS.low hr337 (by omega)) hg341
       have hk347 := hk332.kept hg341 (by simp [Value.ownBlock]; omega)
       have hr348 := row_kept_ap hr333 hr337 hu221 hg341
       have hk349 := hk334.kept hg341 (own_neT hr337 hk334 (by decide))
       exact ⟨hB346, hk347, hr348, hk349⟩
      rintro v339 w336 a335 ⟨hr340, hg341⟩ h335
      have hr340' : w336.ownsRow N210 99 3 v339 ((f y200.1).length) ((f y200.1).flatMap cellE) := row_app (l := []) hr340; clear hr340
      have hz344 := hg341.size
      obtain ⟨z345, rfl⟩ : ∃ z : SlT, v339 = .slice z.a z.n z.c := by obtain ⟨ao, n, cap, e⟩ := own_sliceT hr340'; exact ⟨⟨ao, n, cap⟩, e⟩
      have hB346 := fbU_row hB331 (InS.low hr337 (by omega)) hg341
      have hk347 := hk332.kept hg341 (by simp [Value.ownBlock]; omega)
      have hr348 := row_kept_ap hr333 hr337 hu221 hg341
      have hk349 := hk334.kept hg341 (own_neT hr337 hk334 (by decide))
      have hk356 := hk315.kept hg341 (by simp [Value.ownBlock]; omega)
      refine d1 12 h335 rfl rfl (op_append rfl N210 99 (z := .agg #[.int .u64 0, .string (⟨#[]⟩), .bool false]) (size := 3) (bytes := 32) Try.underlying90 (by kernel_rfl) rfl rfl rfl hr340' rfl hk356 rfl (by kernel_rfl) (by first | omega | (simp only [List.length_nil, List.length_append, List.length_cons, List.length_take, List.length_drop]; omega)) (by first | omega | (simp only [List.length_nil, List.length_append, List.length_cons, List.length_take, List.length_drop]; omega)) (by omega)) ?_ ?_; clear h335
      ·
       rintro v352 w351 ⟨hr353, hg354⟩
       have hr353' : w351.ownsRow N210 99 3 v352 (((f y200.1) ++ [(c.1, c.2.1, c.2.2)]).length) (((f y200.1) ++ [(c.1, c.2.1, c.2.2)]).flatMap cellE) := row_push (y := (c.1, c.2.1, c.2.2)) hr353 rfl rfl; clear hr353
       have hz357 := hg354.size
       obtain ⟨z358, rfl⟩ : ∃ z : SlT, v352 = .slice z.a z.n z.c := by obtain ⟨ao, n, cap, e⟩ := own_sliceT hr353'; exact ⟨⟨ao, n, cap⟩, e⟩
       have hB359 := fbU_row hB346 (InS.low hr340' (by omega)) hg354
       have hk360 := hk347.kept hg354 (row_ne_lt hr340' (by omega))
       have hr361 := row_kept_ap hr348 hr340' hu221 hg354
       have hk362 := hk349.kept hg354 (own_neT hr340' hk349 (by decide))
       exact ⟨hB359, hk360, hr361, hk362⟩
      rintro v352 w351 a350 ⟨hr353, hg354⟩ h350
      have hr353' : w351.ownsRow N210 99 3 v352 (((f y200.1) ++ [(c.1, c.2.1, c.2.2)]).length) (((f y200.1) ++ [(c.1, c.2.1, c.2.2)]).flatMap cellE) := row_push (y := (c.1, c.2.1, c.2.2)) hr353 rfl rfl; clear hr353
      have hz357 := hg354.size
      obtain ⟨z358, rfl⟩ : ∃ z : SlT, v352 = .slice z.a z.n z.c := by obtain ⟨ao, n, cap, e⟩ := own_sliceT hr353'; exact ⟨⟨ao, n, cap⟩, e⟩
      have hB359 := fbU_row hB346 (InS.low hr340' (by omega)) hg354
      have hk360 := hk347.kept hg354 (row_ne_lt hr340' (by omega))
      have hr361 := row_kept_ap hr348 hr340' hu221 hg354
      have hk362 := hk349.kept hg354 (own_neT hr340' hk349 (by decide))
      refine dk0 13 (v := .slice z358.a z358.n z358.c) h350 rfl rfl ⟨hB359, hk360, hr361, hk362⟩ fun a363 h363 => ?_; clear h350
      refine dr_done (by kernel_rfl) ?_
      refine co_then ?_
      refine co_reg ?_
      refine pk0 (v := pt d 0) h363 rfl fun a364 h364 => ?_; clear h363
      refine pk0 (v := pt d 0) h364 rfl fun a365 h365 => ?_; clear h364
      refine pk0 (v := pt d 0) h365 rfl fun a366 h366 => ?_; clear h365
      refine pk (v := v140) h366 rfl (rn_load1 rfl rfl Try.isAgg54 (hk362.cell rfl)) fun a367 h367 => ?_; clear h366
      refine pk0 (v := .int .i64 ((i : Nat) : Int)) h367 rfl fun a368 h368 => ?_; clear h367
      refine pk0 (v := .slice z358.a z358.n z358.c) h368 rfl fun a369 h369 => ?_; clear h368
      refine pk (v := pt (blkOf v140) (offOf v140 + i * 2)) h369 rfl (rn_index rfl rfl rfl Try.underlying54 Try.sizeOf106 (row_sl hr361 rwE_len) (by omega) (by first | omega | (simp; done) | (simp; omega))) fun a370 h370 => ?_; clear h369
      refine pk0 (v := pt (blkOf v140) (offOf v140 + i * 2 + 1)) h370 rfl fun a371 h371 => ?_; clear h370
      refine pwD h371 rfl (op_storeRow (c := i * 2 + 1) rfl rfl rfl rfl Try.sizeOf90 hr361 (flat_lt rwE_len (by first | omega | (simp; omega)) (by omega)) (by first | rfl | omega)) ?_; clear h371
      rintro _ w373 a372 ⟨hr374, hz375, hg376⟩ h372
      have hr374' := row_set (y' := (y200.1, z358)) hr374 rwE_len hy200 (by omega) rfl; clear hr374
      have hz377 := hg376.size
      have hky9 : y200.1 = k := (lay_key (by omega) hy200)
      have hE379 := hE330.new hg314
      have hE380 := hE379.rowU hu228 hr337 hg341
      have hE381 := hE380.rowU hu228 hr340' hg354
      have hE382 := hE381.row hr361 (by decide) hg376
      have hr383 := row_kept_row hr353' hr361 hg376 (by decide)
      have hE378 := RwsK.set (z := z358) (l := (f y200.1) ++ [(c.1, c.2.1, c.2.2)]) hE382 hup146.1 hy200 hky9 (by have hz9 := hr383; exact own_low hz9 (Nat.zero_le _))
      refine pl_nil ?_
      refine co_ret0n h372 rfl ?_
      have hk384 := hk362.kept hg376 (own_neT hr361 hk362 (by decide))
      have hB385 := fbU_row hB359 (InS.low hr361 (by omega)) hg376
      have hml9 : (f y200.1) ++ [(c.1, c.2.1, c.2.2)] = f k ++ [c] := by rw [hky9]
      have hQ9 := hE378
      rw [hml9] at hQ9
      have hzl9 : ∀ g, (slV z358).ownBlock = some g → w.heap.size ≤ g := fun g hg => by have hz9 := hr383; have := (hz9.lt g hg).1; omega
      exact ⟨_, _, rfl, hk384, own_low hr374' (Nat.zero_le _), hQ9, lay_new hK hup146.1 hy200 (by simp), by simp only [List.length_set, List.length_append, List.length_take, List.length_drop, List.length_cons, List.length_nil]; omega, (fun i hi => .inr (by have hz9 := hr374'; have := (hz9.lt i hi).1; omega)), from_new hzl9, hB385⟩
    ·
     refine dr_op (i := 11) h207 rfl rfl rfl rfl (op_new (v := fun N => .slice (some ⟨N, 0, none⟩) 1 1) (T := 99) (cs := #[.int .u64 c.1, .string c.2.1, .bool c.2.2]) (by kernel_rfl) (by kernel_rfl) (by kernel_rfl)) ?_ ?_; clear h207
     ·
      rintro _ w387 ⟨N388, rfl, hN391, hz392, hk390, hg389⟩
      have hr394 := row_kept_ap hr136 hr118' hu80 hg142
      have hr395 := row_kept_at hr394 hg162 (own_neT hr394 hk163 (by decide))
      have hr396 := row_kept_new hr395 hg166
      have ha393 := row_fresh hr396 hN391
      have hu397 := row_under hr396 hN391
      have ha398 := row_fresh hr193 hN391
      have hu399 := row_under hr193 hN391
      have ha400 := row_fresh hy201 hN391
      have hu401 := row_under hy201 hN391
      have hz402 := hg389.size
      have hE404 := hE152.blk hk163 (by decide) hg162
      have hE405 := hE404.new hg166
      have hu403 := RwsK.under hE405 hN391
      have hu406 := RwsK.under hE203 hN391
      have hB407 := fbU_new hB188 hg389
      have hk408 := hk191.kept hg389 (by simp)
      have hr409 := row_kept_new hr193 hg389
      have hk410 := hk194.kept hg389 (by simp)
      exact ⟨hB407, hk408, hr409, hk410⟩
     rintro _ w387 a386 ⟨N388, rfl, hN391, hz392, hk390, hg389⟩ h386
     have hr394 := row_kept_ap hr136 hr118' hu80 hg142
     have hr395 := row_kept_at hr394 hg162 (own_neT hr394 hk163 (by decide))
     have hr396 := row_kept_new hr395 hg166
     have ha393 := row_fresh hr396 hN391
     have hu397 := row_under hr396 hN391
     have ha398 := row_fresh hr193 hN391
     have hu399 := row_under hr193 hN391
     have ha400 := row_fresh hy201 hN391
     have hu401 := row_under hy201 hN391
     have hz402 := hg389.size
     have hE404 := hE152.blk hk163 (by decide) hg162
     have hE405 := hE404.new hg166
     have hu403 := RwsK.under hE405 hN391
     have hu406 := RwsK.under hE203 hN391
     try dsimp only at h386
     have hB407 := fbU_new hB188 hg389
     have hk408 := hk191.kept hg389 (by simp)
     have hr409 := row_kept_new hr193 hg389
     have hk410 := hk194.kept hg389 (by simp)
     refine d1 0 h386 rfl rfl (op_new (v := fun N => .slice (some ⟨N, 0, none⟩) 0 0) (T := 99) (cs := #[]) (by kernel_rfl) (by kernel_rfl) (by kernel_rfl)) ?_ ?_; clear h386
     ·
      rintro _ w412 ⟨N413, rfl, hN416, hz417, hk415, hg414⟩
      have hr419 := row_kept_new hr396 hg389
      have ha418 := row_fresh hr419 hN416
      have hu420 := row_under hr419 hN416
      have ha421 := row_fresh hr409 hN416
      have hu422 := row_under hr409 hN416
      have hr424 := row_kept_new hy201 hg389
      have ha423 := row_fresh hr424 hN416
      have hu425 := row_under hr424 hN416
      have hz426 := hg414.size
      have hE428 := hE405.new hg389
      have hu427 := RwsK.under hE428 hN416
      have hE430 := hE203.new hg389
      have hu429 := RwsK.under hE430 hN416
      have hB431 := fbU_new hB407 hg414
      have hk432 := hk408.kept hg414 (by simp)
      have hr433 := row_kept_new hr409 hg414
      have hk434 := hk410.kept hg414 (by simp)
      exact ⟨hB431, hk432, hr433, hk434⟩
     rintro _ w412 a411 ⟨N413, rfl, hN416, hz417, hk415, hg414⟩ h411
     have hr419 := row_kept_new hr396 hg389
     have ha418 := row_fresh hr419 hN416
     have hu420 := row_under hr419 hN416
     have ha421 := row_fresh hr409 hN416
     have hu422 := row_under hr409 hN416
     have hr424 := row_kept_new hy201 hg389
     have ha423 := row_fresh hr424 hN416
     have hu425 := row_under hr424 hN416
     have hz426 := hg414.size
     have hE428 := hE405.new hg389
     have hu427 := RwsK.under hE428 hN416
     have hE430 := hE203.new hg389
     have hu429 := RwsK.under hE430 hN416
     try dsimp only at h411
     have hB431 := fbU_new hB407 hg414
     have hk432 := hk408.kept hg414 (by simp)
     have hr433 := row_kept_new hr409 hg414
     have hk434 := hk410.kept hg414 (by simp)
     have hr437 := row_of_blkL hk415 (Nat.le_refl _) 3 cellE
     have hr442 := row_kept_new hr424 hg414
     refine d1 9 h411 rfl rfl (op_appendSrc rfl N413 99 (z := .agg #[.int .u64 0, .string (⟨#[]⟩), .bool false]) (size := 3) (bytes := 32) Try.underlying90 (by kernel_rfl) rfl rfl rfl hr437 rfl (row_sl hr442 cellE_len) (fun y hy => ⟨cellE_len y, cellE_oneC y⟩) (by first | omega | (simp only [List.length_nil, List.length_append, List.length_cons, List.length_take, List.length_drop]; omega)) (by first | omega | (simp only [List.length_nil, List.length_append, List.length_cons, List.length_take, List.length_drop]; omega)) (by omega)) ?_ ?_; clear h411
     ·
      rintro v438 w436 ⟨hr439, hg440⟩
      have hr439' : w436.ownsRow N413 99 3 v438 ((f y200.1).length) ((f y200.1).flatMap cellE) := row_app (l := []) hr439; clear hr439
      have hz443 := hg440.size
      obtain ⟨z444, rfl⟩ : ∃ z : SlT, v438 = .slice z.a z.n z.c := by obtain ⟨ao, n, cap, e⟩ := own_sliceT hr439'; exact ⟨⟨ao, n, cap⟩, e⟩
      have hB445 := fbU_row hB431 (InS.low hr437 (by omega)) hg440
      have hk446 := hk432.kept hg440 (by simp [Value.ownBlock]; omega)
      have hr447 := row_kept_ap hr433 hr437 hu422 hg440
      have hk448 := hk434.kept hg440 (own_neT hr437 hk434 (by decide))
      exact ⟨hB445, hk446, hr447, hk448⟩
     rintro v438 w436 a435 ⟨hr439, hg440⟩ h435
     have hr439' : w436.ownsRow N413 99 3 v438 ((f y200.1).length) ((f y200.1).flatMap cellE) := row_app (l := []) hr439; clear hr439
     have hz443 := hg440.size
     obtain ⟨z444, rfl⟩ : ∃ z : SlT, v438 = .slice z.a z.n z.c := by obtain ⟨ao, n, cap, e⟩ := own_sliceT hr439'; exact ⟨⟨ao, n, cap⟩, e⟩
     have hB445 := fbU_row hB431 (InS.low hr437 (by omega)) hg440
     have hk446 := hk432.kept hg440 (by simp [Value.ownBlock]; omega)
     have hr447 := row_kept_ap hr433 hr437 hu422 hg440
     have hk448 := hk434.kept hg440 (own_neT hr437 hk434 (by decide))
     have hk455 := hk390.kept hg414 (by simp)
     have hk456 := hk455.kept hg440 (by simp [Value.ownBlock]; omega)
     refine d1 12 h435 rfl rfl (op_append rfl N413 99 (z := .agg #[.int .u64 0, .string (⟨#[]⟩), .bool false]) (size := 3) (bytes := 32) Try.underlying90 (by kernel_rfl) rfl rfl rfl hr439' rfl hk456 rfl (by kernel_rfl) (by first | omega | (simp only [List.length_nil, List.length_append, List.length_cons, List.length_take, List.length_drop]; omega)) (by first | omega | (simp only [List.length_nil, List.length_append, List.length_cons, List.length_take, List.length_drop]; omega)) (by omega)) ?_ ?_; clear h435
     ·
      rintro v451 w450 ⟨hr452, hg453⟩
      have hr452' : w450.ownsRow N413 99 3 v451 (((f y200.1) ++ [(c.1, c.2.1, c.2.2)]).length) (((f y200.1) ++ [(c.1, c.2.1, c.2.2)]).flatMap cellE) := row_push (y := (c.1, c.2.1, c.2.2)) hr452 rfl rfl; clear hr452
      have hz457 := hg453.size
      obtain ⟨z458, rfl⟩ : ∃ z : SlT, v451 = .slice z.a z.n z.c := by obtain ⟨ao, n, cap, e⟩ := own_sliceT hr452'; exact ⟨⟨ao, n, cap⟩, e⟩
      have hB459 := fbU_row hB445 (InS.low hr439' (by omega)) hg453
      have hk460 := hk446.kept hg453 (row_ne_lt hr439' (by omega))
      have hr461 := row_kept_ap hr447 hr439' hu422 hg453
      have hk462 := hk448.kept hg453 (own_neT hr439' hk448 (by decide))
      exact ⟨hB459, hk460, hr461, hk462⟩
     rintro v451 w450 a449 ⟨hr452, hg453⟩ h449
     have hr452' : w450.ownsRow N413 99 3 v451 (((f y200.1) ++ [(c.1, c.2.1, c.2.2)]).length) (((f y200.1) ++ [(c.1, c.2.1, c.2.2)]).flatMap cellE) := row_push (y := (c.1, c.2.1, c.2.2)) hr452 rfl rfl; clear hr452
     have hz457 := hg453.size
     obtain ⟨z458, rfl⟩ : ∃ z : SlT, v451 = .slice z.a z.n z.c := by obtain ⟨ao, n, cap, e⟩ := own_sliceT hr452'; exact ⟨⟨ao, n, cap⟩, e⟩
     have hB459 := fbU_row hB445 (InS.low hr439' (by omega)) hg453
     have hk460 := hk446.kept hg453 (row_ne_lt hr439' (by omega))
     have hr461 := row_kept_ap hr447 hr439' hu422 hg453
     have hk462 := hk448.kept hg453 (own_neT hr439' hk448 (by decide))
     refine dk0 13 (v := .slice z458.a z458.n z458.c) h449 rfl rfl ⟨hB459, hk460, hr461, hk462⟩ fun a463 h463 => ?_; clear h449
     refine dr_done (by kernel_rfl) ?_
     refine co_then ?_
     refine co_reg ?_
     refine pk0 (v := pt d 0) h463 rfl fun a464 h464 => ?_; clear h463
     refine pk0 (v := pt d 0) h464 rfl fun a465 h465 => ?_; clear h464
     refine pk0 (v := pt d 0) h465 rfl fun a466 h466 => ?_; clear h465
     refine pk (v := v140) h466 rfl (rn_load1 rfl rfl Try.isAgg54 (hk462.cell rfl)) fun a467 h467 => ?_; clear h466
     refine pk0 (v := .int .i64 ((i : Nat) : Int)) h467 rfl fun a468 h468 => ?_; clear h467
     refine pk0 (v := .slice z458.a z458.n z458.c) h468 rfl fun a469 h469 => ?_; clear h468
     refine pk (v := pt (blkOf v140) (offOf v140 + i * 2)) h469 rfl (rn_index rfl rfl rfl Try.underlying54 Try.sizeOf106 (row_sl hr461 rwE_len) (by omega) (by first | omega | (simp; done) | (simp; omega))) fun a470 h470 => ?_; clear h469
     refine pk0 (v := pt (blkOf v140) (offOf v140 + i * 2 + 1)) h470 rfl fun a471 h471 => ?_; clear h470
     refine pwD h471 rfl (op_storeRow (c := i * 2 + 1) rfl rfl rfl rfl Try.sizeOf90 hr461 (flat_lt rwE_len (by first | omega | (simp; omega)) (by omega)) (by first | rfl | omega)) ?_; clear h471
     rintro _ w473 a472 ⟨hr474, hz475, hg476⟩ h472
     have hr474' := row_set (y' := (y200.1, z458)) hr474 rwE_len hy200 (by omega) rfl; clear hr474
     have hz477 := hg476.size
     have hky9 : y200.1 = k := (lay_key (by omega) hy200)
     have hE479 := hE430.new hg414
     have hE480 := hE479.rowU hu429 hr437 hg440
     have hE481 := hE480.rowU hu429 hr439' hg453
     have hE482 := hE481.row hr461 (by decide) hg476
     have hr483 := row_kept_row hr452' hr461 hg476 (by decide)
     have hE478 := RwsK.set (z := z458) (l := (f y200.1) ++ [(c.1, c.2.1, c.2.2)]) hE482 hup146.1 hy200 hky9 (by have hz9 := hr483; exact own_low hz9 (Nat.zero_le _))
     refine pl_nil ?_
     refine co_ret0n h472 rfl ?_
     have hk484 := hk462.kept hg476 (own_neT hr461 hk462 (by decide))
     have hB485 := fbU_row hB459 (InS.low hr461 (by omega)) hg476
     have hml9 : (f y200.1) ++ [(c.1, c.2.1, c.2.2)] = f k ++ [c] := by rw [hky9]
     have hQ9 := hE478
     rw [hml9] at hQ9
     have hzl9 : ∀ g, (slV z458).ownBlock = some g → w.heap.size ≤ g := fun g hg => by have hz9 := hr483; have := (hz9.lt g hg).1; omega
     exact ⟨_, _, rfl, hk484, own_low hr474' (Nat.zero_le _), hQ9, lay_new hK hup146.1 hy200 (by simp), by simp only [List.length_set, List.length_append, List.length_take, List.length_drop, List.length_cons, List.length_nil]; omega, (fun i hi => .inr (by have hz9 := hr474'; have := (hz9.lt i hi).1; omega)), from_new hzl9, hB485⟩
   ·
    rw [hc39] at h38
    have hp486 : ((i : Nat) : Int) < ((L.length : Nat) : Int) := of_decide_eq_true hc39
    clear hc39
    refine pk0 (v := pt d 0) h38 rfl fun a487 h487 => ?_; clear h38
    refine pk0 (v := pt d 0) h487 rfl fun a488 h488 => ?_; clear h487
    refine pk0 (v := pt d 0) h488 rfl fun a489 h489 => ?_; clear h488
    refine pk (v := u) h489 rfl (rn_load1 rfl rfl Try.isAgg54 (hf23.cell rfl)) fun a490 h490 => ?_; clear h489
    refine pk0 (v := .int .i64 ((i : Nat) : Int)) h490 rfl fun a491 h491 => ?_; clear h490
    obtain ⟨y492, hy492⟩ : ∃ z, L[i]? = some z := ⟨_, List.getElem?_eq_getElem (by first | omega | (simp; done) | (simp; omega))⟩
    have oky492 := (fun (z : Kv) (_ : z ∈ L) => trivial) _ (List.mem_of_getElem? hy492)
    have hy493 : World.ownsRow _ 0 99 3 (.slice y492.2.a y492.2.n y492.2.c) (f y492.1).length ((f y492.1).flatMap cellE) := hf26 y492 (List.mem_of_getElem? hy492)
    have hfly492 := hF y492.1
    refine pk (v := pt (blkOf u) (offOf u + i * 2)) h491 rfl (rn_index rfl rfl rfl Try.underlying54 Try.sizeOf106 (row_sl hf25 rwE_len) (by omega) (by first | omega | (simp; done) | (simp; omega))) fun a494 h494 => ?_; clear h491
    refine pk0 (v := pt (blkOf u) (offOf u + i * 2)) h494 rfl fun a495 h495 => ?_; clear h494
    refine pk (v := .string y492.1) h495 rfl (rn_load1 rfl rfl Try.isAgg9 ((sl_at (row_sl hf25 rwE_len) hy492) 0 _ rfl)) fun a496 h496 => ?_; clear h495
    refine pk0 (v := .string k) h496 rfl fun a497 h497 => ?_; clear h496
    refine pk0 (v := .bool (Op.bytesLess y492.1.toList k.toList)) h497 rfl fun a498 h498 => ?_; clear h497
    refine pk0 (v := .bool (Op.bytesLess y492.1.toList k.toList)) h498 rfl fun a499 h499 => ?_; clear h498
    refine pl_nil ?_
    refine co_then ?_
    cases hc500 : (Op.bytesLess y492.1.toList k.toList)
    ·
     rw [hc500] at h499
     refine co_false h499 rfl ?_
     refine wp_exit ?_
     refine co_thenX ?_
     refine co_thenX ?_
     refine co_blockX ?_
     refine co_then ?_
     refine co_seq ?_
     refine co_seq ?_
     refine co_reg ?_
     refine pk0 (v := .int .i64 ((i : Nat) : Int)) h499 rfl fun a501 h501 => ?_; clear h499
     refine pk0 (v := pt d 0) h501 rfl fun a502 h502 => ?_; clear h501
     refine pk0 (v := pt d 0) h502 rfl fun a503 h503 => ?_; clear h502
     refine pk0 (v := pt d 0) h503 rfl fun a504 h504 => ?_; clear h503
     refine pk (v := u) h504 rfl (rn_load1 rfl rfl Try.isAgg54 (hf23.cell rfl)) fun a505 h505 => ?_; clear h504
     refine pk (v := .int .i64 ((L.length : Nat) : Int)) h505 rfl (rn_lenOwn rfl rfl Try.underlying54 hf25) fun a506 h506 => ?_; clear h505
     refine pk0 (v := .bool (((i : Nat) : Int) == ((L.length : Nat) : Int))) h506 rfl fun a507 h507 => ?_; clear h506
     refine pk0 (v := .bool (((i : Nat) : Int) == ((L.length : Nat) : Int))) h507 rfl fun a508 h508 => ?_; clear h507
     have hc509 : (((i : Nat) : Int) == ((L.length : Nat) : Int)) = false := by first | (simp; done) | (simp; omega) | exact beq_false_of_ne (by omega) | exact beq_iff_eq.2 (by omega)
     rw [hc509] at h508; clear hc509
     refine pk0 (v := pt d 0) h508 rfl fun a510 h510 => ?_; clear h508
     refine pk0 (v := pt d 0) h510 rfl fun a511 h511 => ?_; clear h510
     refine pk0 (v := pt d 0) h511 rfl fun a512 h512 => ?_; clear h511
     refine pk (v := u) h512 rfl (rn_load1 rfl rfl Try.isAgg54 (hf23.cell rfl)) fun a513 h513 => ?_; clear h512
     refine pk0 (v := .int .i64 ((i : Nat) : Int)) h513 rfl fun a514 h514 => ?_; clear h513
     refine pk (v := pt (blkOf u) (offOf u + i * 2)) h514 rfl (rn_index rfl rfl rfl Try.underlying54 Try.sizeOf106 (row_sl hf25 rwE_len) (by omega) (by first | omega | (simp; done) | (simp; omega))) fun a515 h515 => ?_; clear h514
     refine pk0 (v := pt (blkOf u) (offOf u + i * 2)) h515 rfl fun a516 h516 => ?_; clear h515
     refine pk (v := .string y492.1) h516 rfl (rn_load1 rfl rfl Try.isAgg9 ((sl_at (row_sl hf25 rwE_len) hy492) 0 _ rfl)) fun a517 h517 => ?_; clear h516
     refine pk0 (v := .string k) h517 rfl fun a518 h518 => ?_; clear h517
     refine pk0 (v := .bool (!(y492.1.toList == k.toList))) h518 rfl fun a519 h519 => ?_; clear h518
     refine pk0 (v := .bool (!(y492.1.toList == k.toList))) h519 rfl fun a520 h520 => ?_; clear h519
     refine pl_nil ?_
     refine co_then ?_
     cases hc521 : (!(y492.1.toList == k.toList))
     ·
      rw [hc521] at h520
      refine co_false h520 rfl ?_
      refine wp_skip ?_
      refine co_then ?_
      refine co_seq ?_
      refine dr_gen (fun x => But (fun q => q = d ∨ u.ownBlock = some q) w x ∧ Blk x d 56 #[u, .int .u64 la] ∧ Blk x N3 99 #[.int .u64 c.1, .string c.2.1, .bool c.2.2] ∧ x.ownsRow 0 106 2 u L.length (L.flatMap rwE)) (by kernel_rfl) (fun w522 hg523 => ?_) (fun w522 hg523 => ?_)
      ·
       have hz524 := hg523.size
       have hB525 := fbU_new hB27 hg523
       have hk526 := hf23.kept hg523 (by simp)
       have hk527 := hf24.kept hg523 (by simp)
       have hr528 := row_kept_new hf25 hg523
       exact ⟨hB525, hk526, hk527, hr528⟩
      have hz529 := hg523.size
      have hB530 := fbU_new hB27 hg523
      have hk531 := hf23.kept hg523 (by simp)
      have hk532 := hf24.kept hg523 (by simp)
      have hr533 := row_kept_new hf25 hg523
      refine dk0 1 (v := pt d 0) h520 rfl rfl ⟨hB530, hk531, hk532, hr533⟩ fun a534 h534 => ?_; clear h520
      refine dk0 2 (v := pt d 0) h534 rfl rfl ⟨hB530, hk531, hk532, hr533⟩ fun a535 h535 => ?_; clear h534
      refine dk0 3 (v := pt d 0) h535 rfl rfl ⟨hB530, hk531, hk532, hr533⟩ fun a536 h536 => ?_; clear h535
      refine dk 4 (v := u) h536 rfl rfl ⟨hB530, hk531, hk532, hr533⟩ (fun x hx => (rn_load1 rfl rfl Try.isAgg54 (hx.2.1.cell rfl))) fun a537 h537 => ?_; clear h536
      refine dk0 5 (v := .int .i64 ((i : Nat) : Int)) h537 rfl rfl ⟨hB530, hk531, hk532, hr533⟩ fun a538 h538 => ?_; clear h537
      refine dk 6 (v := pt (blkOf u) (offOf u + i * 2)) h538 rfl rfl ⟨hB530, hk531, hk532, hr533⟩ (fun x hx => (rn_index rfl rfl rfl Try.underlying54 Try.sizeOf106 (row_sl hx.2.2.2 rwE_len) (by omega) (by first | omega | (simp; done) | (simp; omega)))) fun a539 h539 => ?_; clear h538
      refine dk0 7 (v := pt (blkOf u) (offOf u + i * 2 + 1)) h539 rfl rfl ⟨hB530, hk531, hk532, hr533⟩ fun a540 h540 => ?_; clear h539
      refine dk 8 (v := .slice y492.2.a y492.2.n y492.2.c) h540 rfl rfl ⟨hB530, hk531, hk532, hr533⟩ (fun x hx => (rn_load1 rfl rfl Try.isAgg90 ((sl_at (row_sl hx.2.2.2 rwE_len) hy492) 1 _ rfl))) fun a541 h541 => ?_; clear h540
      refine dk 10 (v := .agg #[.int .u64 c.1, .string c.2.1, .bool c.2.2]) h541 rfl rfl ⟨hB530, hk531, hk532, hr533⟩ (fun x hx => (rn_loadN rfl rfl Try.underlying99 rfl (by kernel_rfl) hx.2.2.1.all)) fun a542 h542 => ?_; clear h541
      refine dr_many [0, 11] (by kernel_rfl) (by simp) ⟨?_, ?_, trivial⟩
      ·
       refine dr_op (i := 0) h542 rfl rfl rfl rfl (op_new (v := fun N => .slice (some ⟨N, 0, none⟩) 0 0) (T := 99) (cs := #[]) (by kernel_rfl) (by kernel_rfl) (by kernel_rfl)) ?_ ?_; clear h542
       ·
        rintro _ w544 ⟨N545, rfl, hN548, hz549, hk547, hg546⟩
        have ha550 := row_fresh hr533 hN548
        have hu551 := row_under hr533 hN548
        have hr553 := row_kept_new hy493 hg523
        have ha552 := row_fresh hr553 hN548
        have hu554 := row_under hr553 hN548
        have hz555 := hg546.size
        have hE557 := hf26.new hg523
        have hu556 := RwsK.under hE557 hN548
        have hB558 := fbU_new hB530 hg546
        have hk559 := hk531.kept hg546 (by simp)
        have hk560 := hk532.kept hg546 (by simp)
        have hr561 := row_kept_new hr533 hg546
        exact ⟨hB558, hk559, hk560, hr561⟩
       rintro _ w544 a543 ⟨N545, rfl, hN548, hz549, hk547, hg546⟩ h543
       have ha550 := row_fresh hr533 hN548
       have hu551 := row_under hr533 hN548
       have hr553 := row_kept_new hy493 hg523
       have ha552 := row_fresh hr553 hN548
       have hu554 := row_under hr553 hN548
       have hz555 := hg546.size
       have hE557 := hf26.new hg523
       have hu556 := RwsK.under hE557 hN548
       try dsimp only at h543
       have hB558 := fbU_new hB530 hg546
       have hk559 := hk531.kept hg546 (by simp)
       have hk560 := hk532.kept hg546 (by simp)
       have hr561 := row_kept_new hr533 hg546
       refine dr_many [9, 11] (by kernel_rfl) (by simp) ⟨?_, ?_, trivial⟩
       ·
        have hr564 := row_of_blkL hk547 (Nat.le_refl _) 3 cellE
        have hr569 := row_kept_new hr553 hg546
        refine dr_op (i := 9) h543 rfl rfl rfl rfl (op_appendSrc rfl N545 99 (z := .agg #[.int .u64 0, .string (⟨#[]⟩), .bool false]) (size := 3) (bytes := 32) Try.underlying90 (by kernel_rfl) rfl rfl rfl hr564 rfl (row_sl hr569 cellE_len) (fun y hy => ⟨cellE_len y, cellE_oneC y⟩) (by first | omega | (simp only [List.length_nil, List.length_append, List.length_cons, List.length_take, List.length_drop]; omega)) (by first | omega | (simp only [List.length_nil, List.length_append, List.length_cons, List.length_take, List.length_drop]; omega)) (by omega)) ?_ ?_; clear h543
        ·
         rintro v565 w563 ⟨hr566, hg567⟩
         have hr566' : w563.ownsRow N545 99 3 v565 ((f y492.1).length) ((f y492.1).flatMap cellE) := row_app (l := []) hr566; clear hr566
         have hz570 := hg567.size
         obtain ⟨z571, rfl⟩ : ∃ z : SlT, v565 = .slice z.a z.n z.c := by obtain ⟨ao, n, cap, e⟩ := own_sliceT hr566'; exact ⟨⟨ao, n, cap⟩, e⟩
         have hB572 := fbU_row hB558 (InS.low hr564 (by omega)) hg567
         have hk573 := hk559.kept hg567 (own_neT hr564 hk559 (by decide))
         have hk574 := hk560.kept hg567 (by simp [Value.ownBlock]; omega)
         have hr575 := row_kept_ap hr561 hr564 hu551 hg567
         exact ⟨hB572, hk573, hk574, hr575⟩
        rintro v565 w563 a562 ⟨hr566, hg567⟩ h562
        have hr566' : w563.ownsRow N545 99 3 v565 ((f y492.1).length) ((f y492.1).flatMap cellE) := row_app (l := []) hr566; clear hr566
        have hz570 := hg567.size
        obtain ⟨z571, rfl⟩ : ∃ z : SlT, v565 = .slice z.a z.n z.c := by obtain ⟨ao, n, cap, e⟩ := own_sliceT hr566'; exact ⟨⟨ao, n, cap⟩, e⟩
        have hB572 := fbU_row hB558 (InS.low hr564 (by omega)) hg567
        have hk573 := hk559.kept hg567 (own_neT hr564 hk559 (by decide))
        have hk574 := hk560.kept hg567 (by simp [Value.ownBlock]; omega)
        have hr575 := row_kept_ap hr561 hr564 hu551 hg567
        refine d1 11 h562 rfl rfl (op_new (v := fun N => .slice (some ⟨N, 0, none⟩) 1 1) (T := 99) (cs := #[.int .u64 c.1, .string c.2.1, .bool c.2.2]) (by kernel_rfl) (by kernel_rfl) (by kernel_rfl)) ?_ ?_; clear h562
        ·
         rintro _ w577 ⟨N578, rfl, hN581, hz582, hk580, hg579⟩
         have ha583 := row_fresh hr575 hN581
         have hu584 := row_under hr575 hN581
         have hr586 := row_kept_ap hr569 hr564 hu554 hg567
         have ha585 := row_fresh hr586 hN581
         have hu587 := row_under hr586 hN581
         have ha588 := row_fresh hr566' hN581
         have hu589 := row_under hr566' hN581
         have hz590 := hg579.size
         have hE592 := hE557.new hg546
         have hE593 := hE592.rowU hu556 hr564 hg567
         have hu591 := RwsK.under hE593 hN581
         have hB594 := fbU_new hB572 hg579
         have hk595 := hk573.kept hg579 (by simp)
         have hk596 := hk574.kept hg579 (by simp)
         have hr597 := row_kept_new hr575 hg579
         exact ⟨hB594, hk595, hk596, hr597⟩
        rintro _ w577 a576 ⟨N578, rfl, hN581, hz582, hk580, hg579⟩ h576
        have ha583 := row_fresh hr575 hN581
        have hu584 := row_under hr575 hN581
        have hr586 := row_kept_ap hr569 hr564 hu554 hg567
        have ha585 := row_fresh hr586 hN581
        have hu587 := row_under hr586 hN581
        have ha588 := row_fresh hr566' hN581
        have hu589 := row_under hr566' hN581
        have hz590 := hg579.size
        have hE592 := hE557.new hg546
        have hE593 := hE592.rowU hu556 hr564 hg567
        have hu591 := RwsK.under hE593 hN581
        try dsimp only at h576
        have hB594 := fbU_new hB572 hg579
        have hk595 := hk573.kept hg579 (by simp)
        have hk596 := hk574.kept hg579 (by simp)
        have hr597 := row_kept_new hr575 hg579
        have hr604 := row_kept_new hr566' hg579
        refine d1 12 h576 rfl rfl (op_append rfl N545 99 (z := .agg #[.int .u64 0, .string (⟨#[]⟩), .bool false]) (size := 3) (bytes := 32) Try.underlying90 (by kernel_rfl) rfl rfl rfl hr604 rfl hk580 rfl (by kernel_rfl) (by first | omega | (simp only [List.length_nil, List.length_append, List.length_cons, List.length_take, List.length_drop]; omega)) (by first | omega | (simp only [List.length_nil, List.length_append, List.length_cons, List.length_take, List.length_drop]; omega)) (by omega)) ?_ ?_; clear h576
        ·
         rintro v600 w599 ⟨hr601, hg602⟩
         have hr601' : w599.ownsRow N545 99 3 v600 (((f y492.1) ++ [(c.1, c.2.1, c.2.2)]).length) (((f y492.1) ++ [(c.1, c.2.1, c.2.2)]).flatMap cellE) := row_push (y := (c.1, c.2.1, c.2.2)) hr601 rfl rfl; clear hr601
         have hz605 := hg602.size
         obtain ⟨z606, rfl⟩ : ∃ z : SlT, v600 = .slice z.a z.n z.c := by obtain ⟨ao, n, cap, e⟩ := own_sliceT hr601'; exact ⟨⟨ao, n, cap⟩, e⟩
         have hB607 := fbU_row hB594 (InS.low hr604 (by omega)) hg602
         have hk608 := hk595.kept hg602 (own_neT hr604 hk595 (by decide))
         have hk609 := hk596.kept hg602 (row_ne_lt hr604 (by omega))
         have hr610 := row_kept_ap hr597 hr604 hu551 hg602
         exact ⟨hB607, hk608, hk609, hr610⟩
        rintro v600 w599 a598 ⟨hr601, hg602⟩ h598
        have hr601' : w599.ownsRow N545 99 3 v600 (((f y492.1) ++ [(c.1, c.2.1, c.2.2)]).length) (((f y492.1) ++ [(c.1, c.2.1, c.2.2)]).flatMap cellE) := row_push (y := (c.1, c.2.1, c.2.2)) hr601 rfl rfl; clear hr601
        have hz605 := hg602.size
        obtain ⟨z606, rfl⟩ : ∃ z : SlT, v600 = .slice z.a z.n z.c := by obtain ⟨ao, n, cap, e⟩ := own_sliceT hr601'; exact ⟨⟨ao, n, cap⟩, e⟩
        have hB607 := fbU_row hB594 (InS.low hr604 (by omega)) hg602
        have hk608 := hk595.kept hg602 (own_neT hr604 hk595 (by decide))
        have hk609 := hk596.kept hg602 (row_ne_lt hr604 (by omega))
        have hr610 := row_kept_ap hr597 hr604 hu551 hg602
        refine dk0 13 (v := .slice z606.a z606.n z606.c) h598 rfl rfl ⟨hB607, hk608, hk609, hr610⟩ fun a611 h611 => ?_; clear h598
        refine dr_done (by kernel_rfl) ?_
        refine co_then ?_
        refine co_reg ?_
        refine pk0 (v := pt d 0) h611 rfl fun a612 h612 => ?_; clear h611
        refine pk0 (v := pt d 0) h612 rfl fun a613 h613 => ?_; clear h612
        refine pk0 (v := pt d 0) h613 rfl fun a614 h614 => ?_; clear h613
        refine pk (v := u) h614 rfl (rn_load1 rfl rfl Try.isAgg54 (hk608.cell rfl)) fun a615 h615 => ?_; clear h614
        refine pk0 (v := .int .i64 ((i : Nat) : Int)) h615 rfl fun a616 h616 => ?_; clear h615
        refine pk0 (v := .slice z606.a z606.n z606.c) h616 rfl fun a617 h617 => ?_; clear h616
        refine pk (v := pt (blkOf u) (offOf u + i * 2)) h617 rfl (rn_index rfl rfl rfl Try.underlying54 Try.sizeOf106 (row_sl hr610 rwE_len) (by omega) (by first | omega | (simp; done) | (simp; omega))) fun a618 h618 => ?_; clear h617
        refine pk0 (v := pt (blkOf u) (offOf u + i * 2 + 1)) h618 rfl fun a619 h619 => ?_; clear h618
        refine pwD h619 rfl (op_storeRow (c := i * 2 + 1) rfl rfl rfl rfl Try.sizeOf90 hr610 (flat_lt rwE_len (by first | omega | (simp; omega)) (by omega)) (by first | rfl | omega)) ?_; clear h619
        rintro _ w621 a620 ⟨hr622, hz623, hg624⟩ h620
        have hr622' := row_set (y' := (y492.1, z606)) hr622 rwE_len hy492 (by omega) rfl; clear hr622
        have hz625 := hg624.size
        have hky9 : y492.1 = k := (toL_eq (show (y492.1.toList == k.toList) = true from (eqB_of (by assumption : (!(y492.1.toList == k.toList)) = false))))
        have hE627 := hE593.new hg579
        have hE628 := hE627.rowU hu556 hr604 hg602
        have hE629 := hE628.row hr610 (by decide) hg624
        have hr630 := row_kept_row hr601' hr610 hg624 (by decide)
        have hE626 := RwsK.set (z := z606) (l := (f y492.1) ++ [(c.1, c.2.1, c.2.2)]) hE629 hK.up hy492 hky9 (by have hz9 := hr630; exact own_low hz9 (Nat.zero_le _))
        refine pl_nil ?_
        refine co_ret0n h620 rfl ?_
        have hk631 := hk608.kept hg624 (own_neT hr610 hk608 (by decide))
        have hB632 := fbU_row hB607 (fun i hi => .inl (.inr hi)) hg624
        have hml9 : (f y492.1) ++ [(c.1, c.2.1, c.2.2)] = f k ++ [c] := by rw [hky9]
        have hQ9 := hE626
        rw [hml9] at hQ9
        have hzl9 : ∀ g, (slV z606).ownBlock = some g → w.heap.size ≤ g := fun g hg => by have hz9 := hr630; have := (hz9.lt g hg).1; omega
        exact ⟨_, _, rfl, hk631, own_low hr622' (Nat.zero_le _), hQ9, lay_old hK hy492 hky9 (by simp), by simp only [List.length_set, List.length_append, List.length_take, List.length_drop, List.length_cons, List.length_nil]; omega, (fun i hi => .inl hi), from_old hzl9, hB632⟩
       ·
        refine dr_op (i := 11) h543 rfl rfl rfl rfl (op_new (v := fun N => .slice (some ⟨N, 0, none⟩) 1 1) (T := 99) (cs := #[.int .u64 c.1, .string c.2.1, .bool c.2.2]) (by kernel_rfl) (by kernel_rfl) (by kernel_rfl)) ?_ ?_; clear h543
        ·
         rintro _ w634 ⟨N635, rfl, hN638, hz639, hk637, hg636⟩
         have ha640 := row_fresh hr561 hN638
         have hu641 := row_under hr561 hN638
         have hr643 := row_kept_new hr553 hg546
         have ha642 := row_fresh hr643 hN638
         have hu644 := row_under hr643 hN638
         have hz645 := hg636.size
         have hE647 := hE557.new hg546
         have hu646 := RwsK.under hE647 hN638
         have hB648 := fbU_new hB558 hg636
         have hk649 := hk559.kept hg636 (by simp)
         have hk650 := hk560.kept hg636 (by simp)
         have hr651 := row_kept_new hr561 hg636
         exact ⟨hB648, hk649, hk650, hr651⟩
        rintro _ w634 a633 ⟨N635, rfl, hN638, hz639, hk637, hg636⟩ h633
        have ha640 := row_fresh hr561 hN638
        have hu641 := row_under hr561 hN638
        have hr643 := row_kept_new hr553 hg546
        have ha642 := row_fresh hr643 hN638
        have hu644 := row_under hr643 hN638
        have hz645 := hg636.size
        have hE647 := hE557.new hg546
        have hu646 := RwsK.under hE647 hN638
        try dsimp only at h633
        have hB648 := fbU_new hB558 hg636
        have hk649 := hk559.kept hg636 (by simp)
        have hk650 := hk560.kept hg636 (by simp)
        have hr651 := row_kept_new hr561 hg636
        have hk655 := hk547.kept hg636 (by simp)
        have hr654 := row_of_blkL hk655 (Nat.le_refl _) 3 cellE
        have hr660 := row_kept_new hr643 hg636
        refine d1 9 h633 rfl rfl (op_appendSrc rfl N545 99 (z := .agg #[.int .u64 0, .string (⟨#[]⟩), .bool false]) (size := 3) (bytes := 32) Try.underlying90 (by kernel_rfl) rfl rfl rfl hr654 rfl (row_sl hr660 cellE_len) (fun y hy => ⟨cellE_len y, cellE_oneC y⟩) (by first | omega | (simp only [List.length_nil, List.length_append, List.length_cons, List.length_take, List.length_drop]; omega)) (by first | omega | (simp only [List.length_nil, List.length_append, List.length_cons, List.length_take, List.length_drop]; omega)) (by omega)) ?_ ?_; clear h633
        ·
         rintro v656 w653 ⟨hr657, hg658⟩
         have hr657' : w653.ownsRow N545 99 3 v656 ((f y492.1).length) ((f y492.1).flatMap cellE) := row_app (l := []) hr657; clear hr657
         have hz661 := hg658.size
         obtain ⟨z662, rfl⟩ : ∃ z : SlT, v656 = .slice z.a z.n z.c := by obtain ⟨ao, n, cap, e⟩ := own_sliceT hr657'; exact ⟨⟨ao, n, cap⟩, e⟩
         have hB663 := fbU_row hB648 (InS.low hr654 (by omega)) hg658
         have hk664 := hk649.kept hg658 (own_neT hr654 hk649 (by decide))
         have hk665 := hk650.kept hg658 (by simp [Value.ownBlock]; omega)
         have hr666 := row_kept_ap hr651 hr654 hu551 hg658
         exact ⟨hB663, hk664, hk665, hr666⟩
        rintro v656 w653 a652 ⟨hr657, hg658⟩ h652
        have hr657' : w653.ownsRow N545 99 3 v656 ((f y492.1).length) ((f y492.1).flatMap cellE) := row_app (l := []) hr657; clear hr657
        have hz661 := hg658.size
        obtain ⟨z662, rfl⟩ : ∃ z : SlT, v656 = .slice z.a z.n z.c := by obtain ⟨ao, n, cap, e⟩ := own_sliceT hr657'; exact ⟨⟨ao, n, cap⟩, e⟩
        have hB663 := fbU_row hB648 (InS.low hr654 (by omega)) hg658
        have hk664 := hk649.kept hg658 (own_neT hr654 hk649 (by decide))
        have hk665 := hk650.kept hg658 (by simp [Value.ownBlock]; omega)
        have hr666 := row_kept_ap hr651 hr654 hu551 hg658
        have hk673 := hk637.kept hg658 (by simp [Value.ownBlock]; omega)
        refine d1 12 h652 rfl rfl (op_append rfl N545 99 (z := .agg #[.int .u64 0, .string (⟨#[]⟩), .bool false]) (size := 3) (bytes := 32) Try.underlying90 (by kernel_rfl) rfl rfl rfl hr657' rfl hk673 rfl (by kernel_rfl) (by first | omega | (simp only [List.length_nil, List.length_append, List.length_cons, List.length_take, List.length_drop]; omega)) (by first | omega | (simp only [List.length_nil, List.length_append, List.length_cons, List.length_take, List.length_drop]; omega)) (by omega)) ?_ ?_; clear h652
        ·
         rintro v669 w668 ⟨hr670, hg671⟩
         have hr670' : w668.ownsRow N545 99 3 v669 (((f y492.1) ++ [(c.1, c.2.1, c.2.2)]).length) (((f y492.1) ++ [(c.1, c.2.1, c.2.2)]).flatMap cellE) := row_push (y := (c.1, c.2.1, c.2.2)) hr670 rfl rfl; clear hr670
         have hz674 := hg671.size
         obtain ⟨z675, rfl⟩ : ∃ z : SlT, v669 = .slice z.a z.n z.c := by obtain ⟨ao, n, cap, e⟩ := own_sliceT hr670'; exact ⟨⟨ao, n, cap⟩, e⟩
         have hB676 := fbU_row hB663 (InS.low hr657' (by omega)) hg671
         have hk677 := hk664.kept hg671 (own_neT hr657' hk664 (by decide))
         have hk678 := hk665.kept hg671 (row_ne_lt hr657' (by omega))
         have hr679 := row_kept_ap hr666 hr657' hu551 hg671
         exact ⟨hB676, hk677, hk678, hr679⟩
        rintro v669 w668 a667 ⟨hr670, hg671⟩ h667
        have hr670' : w668.ownsRow N545 99 3 v669 (((f y492.1) ++ [(c.1, c.2.1, c.2.2)]).length) (((f y492.1) ++ [(c.1, c.2.1, c.2.2)]).flatMap cellE) := row_push (y := (c.1, c.2.1, c.2.2)) hr670 rfl rfl; clear hr670
        have hz674 := hg671.size
        obtain ⟨z675, rfl⟩ : ∃ z : SlT, v669 = .slice z.a z.n z.c := by obtain ⟨ao, n, cap, e⟩ := own_sliceT hr670'; exact ⟨⟨ao, n, cap⟩, e⟩
        have hB676 := fbU_row hB663 (InS.low hr657' (by omega)) hg671
        have hk677 := hk664.kept hg671 (own_neT hr657' hk664 (by decide))
        have hk678 := hk665.kept hg671 (row_ne_lt hr657' (by omega))
        have hr679 := row_kept_ap hr666 hr657' hu551 hg671
        refine dk0 13 (v := .slice z675.a z675.n z675.c) h667 rfl rfl ⟨hB676, hk677, hk678, hr679⟩ fun a680 h680 => ?_; clear h667
        refine dr_done (by kernel_rfl) ?_
        refine co_then ?_
        refine co_reg ?_
        refine pk0 (v := pt d 0) h680 rfl fun a681 h681 => ?_; clear h680
        refine pk0 (v := pt d 0) h681 rfl fun a682 h682 => ?_; clear h681
        refine pk0 (v := pt d 0) h682 rfl fun a683 h683 => ?_; clear h682
        refine pk (v := u) h683 rfl (rn_load1 rfl rfl Try.isAgg54 (hk677.cell rfl)) fun a684 h684 => ?_; clear h683
        refine pk0 (v := .int .i64 ((i : Nat) : Int)) h684 rfl fun a685 h685 => ?_; clear h684
        refine pk0 (v := .slice z675.a z675.n z675.c) h685 rfl fun a686 h686 => ?_; clear h685
        refine pk (v := pt (blkOf u) (offOf u + i * 2)) h686 rfl (rn_index rfl rfl rfl Try.underlying54 Try.sizeOf106 (row_sl hr679 rwE_len) (by omega) (by first | omega | (simp; done) | (simp; omega))) fun a687 h687 => ?_; clear h686
        refine pk0 (v := pt (blkOf u) (offOf u + i * 2 + 1)) h687 rfl fun a688 h688 => ?_; clear h687
        refine pwD h688 rfl (op_storeRow (c := i * 2 + 1) rfl rfl rfl rfl Try.sizeOf90 hr679 (flat_lt rwE_len (by first | omega | (simp; omega)) (by omega)) (by first | rfl | omega)) ?_; clear h688
        rintro _ w690 a689 ⟨hr691, hz692, hg693⟩ h689
        have hr691' := row_set (y' := (y492.1, z675)) hr691 rwE_len hy492 (by omega) rfl; clear hr691
        have hz694 := hg693.size
        have hky9 : y492.1 = k := (toL_eq (show (y492.1.toList == k.toList) = true from (eqB_of (by assumption : (!(y492.1.toList == k.toList)) = false))))
        have hE696 := hE647.new hg636
        have hE697 := hE696.rowU hu556 hr654 hg658
        have hE698 := hE697.rowU hu556 hr657' hg671
        have hE699 := hE698.row hr679 (by decide) hg693
        have hr700 := row_kept_row hr670' hr679 hg693 (by decide)
        have hE695 := RwsK.set (z := z675) (l := (f y492.1) ++ [(c.1, c.2.1, c.2.2)]) hE699 hK.up hy492 hky9 (by have hz9 := hr700; exact own_low hz9 (Nat.zero_le _))
        refine pl_nil ?_
        refine co_ret0n h689 rfl ?_
        have hk701 := hk677.kept hg693 (own_neT hr679 hk677 (by decide))
        have hB702 := fbU_row hB676 (fun i hi => .inl (.inr hi)) hg693
        have hml9 : (f y492.1) ++ [(c.1, c.2.1, c.2.2)] = f k ++ [c] := by rw [hky9]
        have hQ9 := hE695
        rw [hml9] at hQ9
        have hzl9 : ∀ g, (slV z675).ownBlock = some g → w.heap.size ≤ g := fun g hg => by have hz9 := hr700; have := (hz9.lt g hg).1; omega
        exact ⟨_, _, rfl, hk701, own_low hr691' (Nat.zero_le _), hQ9, lay_old hK hy492 hky9 (by simp), by simp only [List.length_set, List.length_append, List.length_take, List.length_drop, List.length_cons, List.length_nil]; omega, (fun i hi => .inl hi), from_old hzl9, hB702⟩
      ·
       refine dr_op (i := 11) h542 rfl rfl rfl rfl (op_new (v := fun N => .slice (some ⟨N, 0, none⟩) 1 1) (T := 99) (cs := #[.int .u64 c.1, .string c.2.1, .bool c.2.2]) (by kernel_rfl) (by kernel_rfl) (by kernel_rfl)) ?_ ?_; clear h542
       ·
        rintro _ w704 ⟨N705, rfl, hN708, hz709, hk707, hg706⟩
        have ha710 := row_fresh hr533 hN708
        have hu711 := row_under hr533 hN708
        have hr713 := row_kept_new hy493 hg523
        have ha712 := row_fresh hr713 hN708
        have hu714 := row_under hr713 hN708
        have hz715 := hg706.size
        have hE717 := hf26.new hg523
        have hu716 := RwsK.under hE717 hN708
        have hB718 := fbU_new hB530 hg706
        have hk719 := hk531.kept hg706 (by simp)
        have hk720 := hk532.kept hg706 (by simp)
        have hr721 := row_kept_new hr533 hg706
        exact ⟨hB718, hk719, hk720, hr721⟩
       rintro _ w704 a703 ⟨N705, rfl, hN708, hz709, hk707, hg706⟩ h703
       have ha710 := row_fresh hr533 hN708
       have hu711 := row_under hr533 hN708
       have hr713 := row_kept_new hy493 hg523
       have ha712 := row_fresh hr713 hN708
       have hu714 := row_under hr713 hN708
       have hz715 := hg706.size
       have hE717 := hf26.new hg523
       have hu716 := RwsK.under hE717 hN708
       try dsimp only at h703
       have hB718 := fbU_new hB530 hg706
       have hk719 := hk531.kept hg706 (by simp)
       have hk720 := hk532.kept hg706 (by simp)
       have hr721 := row_kept_new hr533 hg706
       refine d1 0 h703 rfl rfl (op_new (v := fun N => .slice (some ⟨N, 0, none⟩) 0 0) (T := 99) (cs := #[]) (by kernel_rfl) (by kernel_rfl) (by kernel_rfl)) ?_ ?_; clear h703
       ·
        rintro _ w723 ⟨N724, rfl, hN727, hz728, hk726, hg725⟩
        have ha729 := row_fresh hr721 hN727
        have hu730 := row_under hr721 hN727
        have hr732 := row_kept_new hr713 hg706
        have ha731 := row_fresh hr732 hN727
        have hu733 := row_under hr732 hN727
        have hz734 := hg725.size
        have hE736 := hE717.new hg706
        have hu735 := RwsK.under hE736 hN727
        have hB737 := fbU_new hB718 hg725
        have hk738 := hk719.kept hg725 (by simp)
        have hk739 := hk720.kept hg725 (by simp)
        have hr740 := row_kept_new hr721 hg725
        exact ⟨hB737, hk738, hk739, hr740⟩
       rintro _ w723 a722 ⟨N724, rfl, hN727, hz728, hk726, hg725⟩ h722
       have ha729 := row_fresh hr721 hN727
       have hu730 := row_under hr721 hN727
       have hr732 := row_kept_new hr713 hg706
       have ha731 := row_fresh hr732 hN727
       have hu733 := row_under hr732 hN727
       have hz734 := hg725.size
       have hE736 := hE717.new hg706
       have hu735 := RwsK.under hE736 hN727
       try dsimp only at h722
       have hB737 := fbU_new hB718 hg725
       have hk738 := hk719.kept hg725 (by simp)
       have hk739 := hk720.kept hg725 (by simp)
       have hr740 := row_kept_new hr721 hg725
       have hr743 := row_of_blkL hk726 (Nat.le_refl _) 3 cellE
       have hr748 := row_kept_new hr732 hg725
       refine d1 9 h722 rfl rfl (op_appendSrc rfl N724 99 (z := .agg #[.int .u64 0, .string (⟨#[]⟩), .bool false]) (size := 3) (bytes := 32) Try.underlying90 (by kernel_rfl) rfl rfl rfl hr743 rfl (row_sl hr748 cellE_len) (fun y hy => ⟨cellE_len y, cellE_oneC y⟩) (by first | omega | (simp only [List.length_nil, List.length_append, List.length_cons, List.length_take, List.length_drop]; omega)) (by first | omega | (simp only [List.length_nil, List.length_append, List.length_cons, List.length_take, List.length_drop]; omega)) (by omega)) ?_ ?_; clear h722
       ·
        rintro v744 w742 ⟨hr745, hg746⟩
        have hr745' : w742.ownsRow N724 99 3 v744 ((f y492.1).length) ((f y492.1).flatMap cellE) := row_app (l := []) hr745; clear hr745
        have hz749 := hg746.size
        obtain ⟨z750, rfl⟩ : ∃ z : SlT, v744 = .slice z.a z.n z.c := by obtain ⟨ao, n, cap, e⟩ := own_sliceT hr745'; exact ⟨⟨ao, n, cap⟩, e⟩
        have hB751 := fbU_row hB737 (InS.low hr743 (by omega)) hg746
        have hk752 := hk738.kept hg746 (own_neT hr743 hk738 (by decide))
        have hk753 := hk739.kept hg746 (by simp [Value.ownBlock]; omega)
        have hr754 := row_kept_ap hr740 hr743 hu730 hg746
        exact ⟨hB751, hk752, hk753, hr754⟩
       rintro v744 w742 a741 ⟨hr745, hg746⟩ h741
       have hr745' : w742.ownsRow N724 99 3 v744 ((f y492.1).length) ((f y492.1).flatMap cellE) := row_app (l := []) hr745; clear hr745
       have hz749 := hg746.size
       obtain ⟨z750, rfl⟩ : ∃ z : SlT, v744 = .slice z.a z.n z.c := by obtain ⟨ao, n, cap, e⟩ := own_sliceT hr745'; exact ⟨⟨ao, n, cap⟩, e⟩
       have hB751 := fbU_row hB737 (InS.low hr743 (by omega)) hg746
       have hk752 := hk738.kept hg746 (own_neT hr743 hk738 (by decide))
       have hk753 := hk739.kept hg746 (by simp [Value.ownBlock]; omega)
       have hr754 := row_kept_ap hr740 hr743 hu730 hg746
       have hk761 := hk707.kept hg725 (by simp)
       have hk762 := hk761.kept hg746 (by simp [Value.ownBlock]; omega)
       refine d1 12 h741 rfl rfl (op_append rfl N724 99 (z := .agg #[.int .u64 0, .string (⟨#[]⟩), .bool false]) (size := 3) (bytes := 32) Try.underlying90 (by kernel_rfl) rfl rfl rfl hr745' rfl hk762 rfl (by kernel_rfl) (by first | omega | (simp only [List.length_nil, List.length_append, List.length_cons, List.length_take, List.length_drop]; omega)) (by first | omega | (simp only [List.length_nil, List.length_append, List.length_cons, List.length_take, List.length_drop]; omega)) (by omega)) ?_ ?_; clear h741
       ·
        rintro v757 w756 ⟨hr758, hg759⟩
        have hr758' : w756.ownsRow N724 99 3 v757 (((f y492.1) ++ [(c.1, c.2.1, c.2.2)]).length) (((f y492.1) ++ [(c.1, c.2.1, c.2.2)]).flatMap cellE) := row_push (y := (c.1, c.2.1, c.2.2)) hr758 rfl rfl; clear hr758
        have hz763 := hg759.size
        obtain ⟨z764, rfl⟩ : ∃ z : SlT, v757 = .slice z.a z.n z.c := by obtain ⟨ao, n, cap, e⟩ := own_sliceT hr758'; exact ⟨⟨ao, n, cap⟩, e⟩
        have hB765 := fbU_row hB751 (InS.low hr745' (by omega)) hg759
        have hk766 := hk752.kept hg759 (own_neT hr745' hk752 (by decide))
        have hk767 := hk753.kept hg759 (row_ne_lt hr745' (by omega))
        have hr768 := row_kept_ap hr754 hr745' hu730 hg759
        exact ⟨hB765, hk766, hk767, hr768⟩
       rintro v757 w756 a755 ⟨hr758, hg759⟩ h755
       have hr758' : w756.ownsRow N724 99 3 v757 (((f y492.1) ++ [(c.1, c.2.1, c.2.2)]).length) (((f y492.1) ++ [(c.1, c.2.1, c.2.2)]).flatMap cellE) := row_push (y := (c.1, c.2.1, c.2.2)) hr758 rfl rfl; clear hr758
       have hz763 := hg759.size
       obtain ⟨z764, rfl⟩ : ∃ z : SlT, v757 = .slice z.a z.n z.c := by obtain ⟨ao, n, cap, e⟩ := own_sliceT hr758'; exact ⟨⟨ao, n, cap⟩, e⟩
       have hB765 := fbU_row hB751 (InS.low hr745' (by omega)) hg759
       have hk766 := hk752.kept hg759 (own_neT hr745' hk752 (by decide))
       have hk767 := hk753.kept hg759 (row_ne_lt hr745' (by omega))
       have hr768 := row_kept_ap hr754 hr745' hu730 hg759
       refine dk0 13 (v := .slice z764.a z764.n z764.c) h755 rfl rfl ⟨hB765, hk766, hk767, hr768⟩ fun a769 h769 => ?_; clear h755
       refine dr_done (by kernel_rfl) ?_
       refine co_then ?_
       refine co_reg ?_
       refine pk0 (v := pt d 0) h769 rfl fun a770 h770 => ?_; clear h769
       refine pk0 (v := pt d 0) h770 rfl fun a771 h771 => ?_; clear h770
       refine pk0 (v := pt d 0) h771 rfl fun a772 h772 => ?_; clear h771
       refine pk (v := u) h772 rfl (rn_load1 rfl rfl Try.isAgg54 (hk766.cell rfl)) fun a773 h773 => ?_; clear h772
       refine pk0 (v := .int .i64 ((i : Nat) : Int)) h773 rfl fun a774 h774 => ?_; clear h773
       refine pk0 (v := .slice z764.a z764.n z764.c) h774 rfl fun a775 h775 => ?_; clear h774
       refine pk (v := pt (blkOf u) (offOf u + i * 2)) h775 rfl (rn_index rfl rfl rfl Try.underlying54 Try.sizeOf106 (row_sl hr768 rwE_len) (by omega) (by first | omega | (simp; done) | (simp; omega))) fun a776 h776 => ?_; clear h775
       refine pk0 (v := pt (blkOf u) (offOf u + i * 2 + 1)) h776 rfl fun a777 h777 => ?_; clear h776
       refine pwD h777 rfl (op_storeRow (c := i * 2 + 1) rfl rfl rfl rfl Try.sizeOf90 hr768 (flat_lt rwE_len (by first | omega | (simp; omega)) (by omega)) (by first | rfl | omega)) ?_; clear h777
       rintro _ w779 a778 ⟨hr780, hz781, hg782⟩ h778
       have hr780' := row_set (y' := (y492.1, z764)) hr780 rwE_len hy492 (by omega) rfl; clear hr780
       have hz783 := hg782.size
       have hky9 : y492.1 = k := (toL_eq (show (y492.1.toList == k.toList) = true from (eqB_of (by assumption : (!(y492.1.toList == k.toList)) = false))))
       have hE785 := hE736.new hg725
       have hE786 := hE785.rowU hu735 hr743 hg746
       have hE787 := hE786.rowU hu735 hr745' hg759
       have hE788 := hE787.row hr768 (by decide) hg782
       have hr789 := row_kept_row hr758' hr768 hg782 (by decide)
       have hE784 := RwsK.set (z := z764) (l := (f y492.1) ++ [(c.1, c.2.1, c.2.2)]) hE788 hK.up hy492 hky9 (by have hz9 := hr789; exact own_low hz9 (Nat.zero_le _))
       refine pl_nil ?_
       refine co_ret0n h778 rfl ?_
       have hk790 := hk766.kept hg782 (own_neT hr768 hk766 (by decide))
       have hB791 := fbU_row hB765 (fun i hi => .inl (.inr hi)) hg782
       have hml9 : (f y492.1) ++ [(c.1, c.2.1, c.2.2)] = f k ++ [c] := by rw [hky9]
       have hQ9 := hE784
       rw [hml9] at hQ9
       have hzl9 : ∀ g, (slV z764).ownBlock = some g → w.heap.size ≤ g := fun g hg => by have hz9 := hr789; have := (hz9.lt g hg).1; omega
       exact ⟨_, _, rfl, hk790, own_low hr780' (Nat.zero_le _), hQ9, lay_old hK hy492 hky9 (by simp), by simp only [List.length_set, List.length_append, List.length_take, List.length_drop, List.length_cons, List.length_nil]; omega, (fun i hi => .inl hi), from_old hzl9, hB791⟩
     ·
      rw [hc521] at h520
      refine co_true h520 rfl ?_
      refine co_seq ?_
      refine co_reg ?_
      refine pw h520 rfl (op_new (v := fun N => .slice (some ⟨N, 0, none⟩) 0 0) (T := 106) (cs := #[]) (by kernel_rfl) (by kernel_rfl) (by kernel_rfl)) ?_; clear h520
      rintro _ w793 a792 ⟨N794, rfl, hN797, hz798, hk796, hg795⟩ h792
      have ha799 := row_fresh hf25 hN797
      have hu800 := row_under hf25 hN797
      have ha801 := row_fresh hy493 hN797
      have hu802 := row_under hy493 hN797
      have hz803 := hg795.size
      try dsimp only at h792
      refine pk0 (v := pt d 0) h792 rfl fun a804 h804 => ?_; clear h792
      refine pk0 (v := pt d 0) h804 rfl fun a805 h805 => ?_; clear h804
      refine pk0 (v := pt d 0) h805 rfl fun a806 h806 => ?_; clear h805
      have hk807 := hf23.kept hg795 (by simp)
      refine pk (v := u) h806 rfl (rn_load1 rfl rfl Try.isAgg54 (hk807.cell rfl)) fun a808 h808 => ?_; clear h806
      refine pk0 (v := .int .i64 ((i : Nat) : Int)) h808 rfl fun a809 h809 => ?_; clear h808
      have hr810 := row_kept_new hf25 hg795
      have hr811 := row_cut hr810 rwE_len i (by omega) (.inr trivial)
      refine pk (v := subV u 0 i 2) h809 rfl (rn_sliceTo rfl rfl rfl Try.underlying54 Try.sizeOf106 (row_sl hr810 rwE_len) (by omega) (by omega)) fun a812 h812 => ?_; clear h809
      have hr815 := row_of_blkL hk796 (Nat.le_refl _) 2 rwE
      refine pw h812 rfl (op_appendSrc rfl N794 106 (z := .agg #[.string (⟨#[]⟩), .slice none 0 0]) (size := 2) (bytes := 40) Try.underlying54 (by kernel_rfl) rfl rfl rfl hr815 rfl (row_sl hr811 rwE_len) (fun y hy => ⟨rwE_len y, rwE_one y⟩) (by first | omega | (simp only [List.length_nil, List.length_append, List.length_cons, List.length_take, List.length_drop]; omega)) (by first | omega | (simp only [List.length_nil, List.length_append, List.length_cons, List.length_take, List.length_drop]; omega)) (by omega)) ?_; clear h812
      rintro v816 w814 a813 ⟨hr817, hg818⟩ h813
      have hr817' : w814.ownsRow N794 106 2 v816 ((L.take i).length) ((L.take i).flatMap rwE) := row_app (l := []) hr817; clear hr817
      have hz820 := hg818.size
      have hk821 := hf24.kept hg795 (by simp)
      refine pk0 (v := .string k) h813 rfl fun a822 h822 => ?_; clear h813
      refine pk0 (v := .agg #[.string k, .slice none 0 0]) h822 rfl fun a823 h823 => ?_; clear h822
      refine pw h823 rfl (op_new (v := fun N => .slice (some ⟨N, 0, none⟩) 1 1) (T := 106) (cs := #[.string k, .slice none 0 0]) (by kernel_rfl) (by kernel_rfl) (by kernel_rfl)) ?_; clear h823
      rintro _ w825 a824 ⟨N826, rfl, hN829, hz830, hk828, hg827⟩ h824
      have hr832 := row_kept_ap hr810 hr815 hu800 hg818
      have ha831 := row_fresh hr832 hN829
      have hu833 := row_under hr832 hN829
      have hr835 := row_kept_new hy493 hg795
      have hr836 := row_kept_ap hr835 hr815 hu802 hg818
      have ha834 := row_fresh hr836 hN829
      have hu837 := row_under hr836 hN829
      have ha838 := row_fresh hr817' hN829
      have hu839 := row_under hr817' hN829
      have hz840 := hg827.size
      try dsimp only at h824
      have hr847 := row_kept_new hr817' hg827
      refine pw h824 rfl (op_append rfl N794 106 (z := .agg #[.string (⟨#[]⟩), .slice none 0 0]) (size := 2) (bytes := 40) Try.underlying54 (by kernel_rfl) rfl rfl rfl hr847 rfl hk828 rfl (by kernel_rfl) (by first | omega | (simp only [List.length_nil, List.length_append, List.length_cons, List.length_take, List.length_drop]; omega)) (by first | omega | (simp only [List.length_nil, List.length_append, List.length_cons, List.length_take, List.length_drop]; omega)) (by omega)) ?_; clear h824
      rintro v843 w842 a841 ⟨hr844, hg845⟩ h841
      have hr844' : w842.ownsRow N794 106 2 v843 ((L.take i ++ [(k, (⟨none, 0, 0⟩ : SlT))]).length) ((L.take i ++ [(k, (⟨none, 0, 0⟩ : SlT))]).flatMap rwE) := row_push (y := (k, (⟨none, 0, 0⟩ : SlT))) hr844 rfl rfl; clear hr844
      have hz848 := hg845.size
      have hk849 := hk807.kept hg818 (own_neT hr815 hk807 (by decide))
      have hk850 := hk849.kept hg827 (by simp)
      have hk851 := hk821.kept hg818 (own_neT hr815 hk821 (by decide))
      have hk852 := hk851.kept hg827 (by simp)
      refine pk0 (v := v843) h841 rfl fun a853 h853 => ?_; clear h841
      refine pl_nil ?_
      refine co_then ?_
      refine co_seq ?_
      refine co_reg ?_
      refine pk0 (v := v843) h853 rfl fun a854 h854 => ?_; clear h853
      refine pk0 (v := pt d 0) h854 rfl fun a855 h855 => ?_; clear h854
      refine pk0 (v := pt d 0) h855 rfl fun a856 h856 => ?_; clear h855
      refine pk0 (v := pt d 0) h856 rfl fun a857 h857 => ?_; clear h856
      have hk858 := hk850.kept hg845 (own_neT hr847 hk850 (by decide))
      refine pk (v := u) h857 rfl (rn_load1 rfl rfl Try.isAgg54 (hk858.cell rfl)) fun a859 h859 => ?_; clear h857
      refine pk0 (v := .int .i64 ((i : Nat) : Int)) h859 rfl fun a860 h860 => ?_; clear h859
      have hr861 := row_kept_new hr832 hg827
      have hr862 := row_kept_ap hr861 hr847 hu800 hg845
      refine pk (v := subV u i L.length 2) h860 rfl (rn_sliceFrom rfl rfl rfl Try.underlying54 Try.sizeOf106 (row_sl hr862 rwE_len) (by omega) (by omega)) fun a863 h863 => ?_; clear h860
      refine pw h863 rfl (op_appendSrc rfl N794 106 (z := .agg #[.string (⟨#[]⟩), .slice none 0 0]) (size := 2) (bytes := 40) Try.underlying54 (by kernel_rfl) rfl rfl rfl hr844' rfl (sl_drop (row_sl hr862 rwE_len) _ (by omega)) (fun y hy => ⟨rwE_len y, rwE_one y⟩) (by first | omega | (simp only [List.length_nil, List.length_append, List.length_cons, List.length_take, List.length_drop]; omega)) (by first | omega | (simp only [List.length_nil, List.length_append, List.length_cons, List.length_take, List.length_drop]; omega)) (by omega)) ?_; clear h863
      rintro v866 w865 a864 ⟨hr867, hg868⟩ h864
      have hr867' : w865.ownsRow N794 106 2 v866 ((L.take i ++ [(k, (⟨none, 0, 0⟩ : SlT))] ++ (L.drop i)).length) ((L.take i ++ [(k, (⟨none, 0, 0⟩ : SlT))] ++ (L.drop i)).flatMap rwE) := row_app hr867; clear hr867
      have hz870 := hg868.size
      have hk871 := hk852.kept hg845 (own_neT hr847 hk852 (by decide))
      have hup872 := lay_up hK htkA (by first | exact .inl (by omega) | exact .inr ⟨_, by assumption, by assumption, by assumption⟩ | exact .inr ⟨_, by assumption, by assumption, by simpa using (by assumption : (!(_ == k.toList)) = true)⟩)
      have hE874 := hf26.new hg795
      have hE875 := hE874.row hr815 (by decide) hg818
      have hE876 := hE875.new hg827
      have hE877 := hE876.row hr847 (by decide) hg845
      have hE878 := hE877.row hr844' (by decide) hg868
      have hE873 : RwsK _ f (L.take i ++ [(k, (⟨none, 0, 0⟩ : SlT))] ++ (L.drop i)) := RwsK.ins hE878 hup872.2
      refine pk0 (v := v866) h864 rfl fun a879 h879 => ?_; clear h864
      refine pl_nil ?_
      refine co_then ?_
      refine co_reg ?_
      refine pk0 (v := pt d 0) h879 rfl fun a880 h880 => ?_; clear h879
      refine pk0 (v := v866) h880 rfl fun a881 h881 => ?_; clear h880
      refine pk0 (v := pt d 0) h881 rfl fun a882 h882 => ?_; clear h881
      refine pk0 (v := pt d 0) h882 rfl fun a883 h883 => ?_; clear h882
      have hk889 := hk858.kept hg868 (own_neT hr844' hk858 (by decide))
      refine pwD h883 rfl (op_store1 rfl rfl rfl (row_one hr867') Try.sizeOf54 hk889 rfl) ?_; clear h883
      rintro _ w885 a884 ⟨hk886, hz887, hg888⟩ h884
      have hk886' : Blk w885 d 56 #[v866, .int .u64 la] := hk886; clear hk886
      have hz890 := hg888.size
      refine pl_nil ?_
      refine co_then ?_
      refine co_seq ?_
      refine dr_gen (fun x => But (fun q => q = d ∨ u.ownBlock = some q) w x ∧ Blk x N3 99 #[.int .u64 c.1, .string c.2.1, .bool c.2.2] ∧ x.ownsRow N794 106 2 v866 ((L.take i ++ [(k, (⟨none, 0, 0⟩ : SlT))] ++ (L.drop i)).length) ((L.take i ++ [(k, (⟨none, 0, 0⟩ : SlT))] ++ (L.drop i)).flatMap rwE) ∧ Blk x d 56 #[v866, .int .u64 la]) (by kernel_rfl) (fun w891 hg892 => ?_) (fun w891 hg892 => ?_)
      ·
       have hz893 := hg892.size
       have hB894 := fbU_new hB27 hg795
       have hB895 := fbU_row hB894 (InS.low hr815 (by omega)) hg818
       have hB896 := fbU_new hB895 hg827
       have hB897 := fbU_row hB896 (InS.low hr847 (by omega)) hg845
       have hB898 := fbU_row hB897 (InS.low hr844' (by omega)) hg868
       have hB899 := fbU_at hB898 hg888 (fun hlt => by rcases hinb with hq | hq; exact hq; omega)
       have hB900 := fbU_new hB899 hg892
       have hk901 := hk871.kept hg868 (own_neT hr844' hk871 (by decide))
       have hk902 := hk901.kept hg888 (by simp; omega)
       have hk903 := hk902.kept hg892 (by simp)
       have hr904 := row_kept_at hr867' hg888 (own_neT hr867' hk889 (by decide))
       have hr905 := row_kept_new hr904 hg892
       have hk906 := hk886'.kept hg892 (by simp)
       exact ⟨hB900, hk903, hr905, hk906⟩
      have hz907 := hg892.size
      have hB908 := fbU_new hB27 hg795
      have hB909 := fbU_row hB908 (InS.low hr815 (by omega)) hg818
      have hB910 := fbU_new hB909 hg827
      have hB911 := fbU_row hB910 (InS.low hr847 (by omega)) hg845
      have hB912 := fbU_row hB911 (InS.low hr844' (by omega)) hg868
      have hB913 := fbU_at hB912 hg888 (fun hlt => by rcases hinb with hq | hq; exact hq; omega)
      have hB914 := fbU_new hB913 hg892
      have hk915 := hk871.kept hg868 (own_neT hr844' hk871 (by decide))
      have hk916 := hk915.kept hg888 (by simp; omega)
      have hk917 := hk916.kept hg892 (by simp)
      have hr918 := row_kept_at hr867' hg888 (own_neT hr867' hk889 (by decide))
      have hr919 := row_kept_new hr918 hg892
      have hk920 := hk886'.kept hg892 (by simp)
      refine dk0 1 (v := pt d 0) h884 rfl rfl ⟨hB914, hk917, hr919, hk920⟩ fun a921 h921 => ?_; clear h884
      refine dk0 2 (v := pt d 0) h921 rfl rfl ⟨hB914, hk917, hr919, hk920⟩ fun a922 h922 => ?_; clear h921
      refine dk0 3 (v := pt d 0) h922 rfl rfl ⟨hB914, hk917, hr919, hk920⟩ fun a923 h923 => ?_; clear h922
      refine dk 4 (v := v866) h923 rfl rfl ⟨hB914, hk917, hr919, hk920⟩ (fun x hx => (rn_load1 rfl rfl Try.isAgg54 (hx.2.2.2.cell rfl))) fun a924 h924 => ?_; clear h923
      refine dk0 5 (v := .int .i64 ((i : Nat) : Int)) h924 rfl rfl ⟨hB914, hk917, hr919, hk920⟩ fun a925 h925 => ?_; clear h924
      have hE928 := hE873.blk hk889 (by decide) hg888
      have hE929 := hE928.new hg892
      obtain ⟨y926, hy926⟩ : ∃ z, (L.take i ++ [(k, (⟨none, 0, 0⟩ : SlT))] ++ (L.drop i))[i]? = some z := ⟨_, List.getElem?_eq_getElem (by first | omega | (simp; done) | (simp; omega))⟩
      have oky926 := (fun (z : Kv) (_ : z ∈ (L.take i ++ [(k, (⟨none, 0, 0⟩ : SlT))] ++ (L.drop i))) => trivial) _ (List.mem_of_getElem? hy926)
      have hy927 : World.ownsRow _ 0 99 3 (.slice y926.2.a y926.2.n y926.2.c) (f y926.1).length ((f y926.1).flatMap cellE) := hE929 y926 (List.mem_of_getElem? hy926)
      have hfly926 := hF y926.1
      refine dk 6 (v := pt (blkOf v866) (offOf v866 + i * 2)) h925 rfl rfl ⟨hB914, hk917, hr919, hk920⟩ (fun x hx => (rn_index rfl rfl rfl Try.underlying54 Try.sizeOf106 (row_sl hx.2.2.1 rwE_len) (by omega) (by first | omega | (simp; done) | (simp; omega)))) fun a930 h930 => ?_; clear h925
      refine dk0 7 (v := pt (blkOf v866) (offOf v866 + i * 2 + 1)) h930 rfl rfl ⟨hB914, hk917, hr919, hk920⟩ fun a931 h931 => ?_; clear h930
      refine dk 8 (v := .slice y926.2.a y926.2.n y926.2.c) h931 rfl rfl ⟨hB914, hk917, hr919, hk920⟩ (fun x hx => (rn_load1 rfl rfl Try.isAgg90 ((sl_at (row_sl hx.2.2.1 rwE_len) hy926) 1 _ rfl))) fun a932 h932 => ?_; clear h931
      refine dk 10 (v := .agg #[.int .u64 c.1, .string c.2.1, .bool c.2.2]) h932 rfl rfl ⟨hB914, hk917, hr919, hk920⟩ (fun x hx => (rn_loadN rfl rfl Try.underlying99 rfl (by kernel_rfl) hx.2.1.all)) fun a933 h933 => ?_; clear h932
      refine dr_many [0, 11] (by kernel_rfl) (by simp) ⟨?_, ?_, trivial⟩
      ·
       refine dr_op (i := 0) h933 rfl rfl rfl rfl (op_new (v := fun N => .slice (some ⟨N, 0, none⟩) 0 0) (T := 99) (cs := #[]) (by kernel_rfl) (by kernel_rfl) (by kernel_rfl)) ?_ ?_; clear h933
       ·
        rintro _ w935 ⟨N936, rfl, hN939, hz940, hk938, hg937⟩
        have hr942 := row_kept_ap hr862 hr844' hu800 hg868
        have hr943 := row_kept_at hr942 hg888 (own_neT hr942 hk889 (by decide))
        have hr944 := row_kept_new hr943 hg892
        have ha941 := row_fresh hr944 hN939
        have hu945 := row_under hr944 hN939
        have hr947 := row_kept_new hr836 hg827
        have hr948 := row_kept_ap hr947 hr847 hu802 hg845
        have hr949 := row_kept_ap hr948 hr844' hu802 hg868
        have hr950 := row_kept_at hr949 hg888 (own_neT hr949 hk889 (by decide))
        have hr951 := row_kept_new hr950 hg892
        have ha946 := row_fresh hr951 hN939
        have hu952 := row_under hr951 hN939
        have ha953 := row_fresh hr919 hN939
        have hu954 := row_under hr919 hN939
        have ha955 := row_fresh hy927 hN939
        have hu956 := row_under hy927 hN939
        have hz957 := hg937.size
        have hE959 := hE878.blk hk889 (by decide) hg888
        have hE960 := hE959.new hg892
        have hu958 := RwsK.under hE960 hN939
        have hu961 := RwsK.under hE929 hN939
        have hB962 := fbU_new hB914 hg937
        have hk963 := hk917.kept hg937 (by simp)
        have hr964 := row_kept_new hr919 hg937
        have hk965 := hk920.kept hg937 (by simp)
        exact ⟨hB962, hk963, hr964, hk965⟩
       rintro _ w935 a934 ⟨N936, rfl, hN939, hz940, hk938, hg937⟩ h934
       have hr942 := row_kept_ap hr862 hr844' hu800 hg868
       have hr943 := row_kept_at hr942 hg888 (own_neT hr942 hk889 (by decide))
       have hr944 := row_kept_new hr943 hg892
       have ha941 := row_fresh hr944 hN939
       have hu945 := row_under hr944 hN939
       have hr947 := row_kept_new hr836 hg827
       have hr948 := row_kept_ap hr947 hr847 hu802 hg845
       have hr949 := row_kept_ap hr948 hr844' hu802 hg868
       have hr950 := row_kept_at hr949 hg888 (own_neT hr949 hk889 (by decide))
       have hr951 := row_kept_new hr950 hg892
       have ha946 := row_fresh hr951 hN939
       have hu952 := row_under hr951 hN939
       have ha953 := row_fresh hr919 hN939
       have hu954 := row_under hr919 hN939
       have ha955 := row_fresh hy927 hN939
       have hu956 := row_under hy927 hN939
       have hz957 := hg937.size
       have hE959 := hE878.blk hk889 (by decide) hg888
       have hE960 := hE959.new hg892
       have hu958 := RwsK.under hE960 hN939
       have hu961 := RwsK.under hE929 hN939
       try dsimp only at h934
       have hB962 := fbU_new hB914 hg937
       have hk963 := hk917.kept hg937 (by simp)
       have hr964 := row_kept_new hr919 hg937
       have hk965 := hk920.kept hg937 (by simp)
       refine dr_many [9, 11] (by kernel_rfl) (by simp) ⟨?_, ?_, trivial⟩
       ·
        have hr968 := row_of_blkL hk938 (Nat.le_refl _) 3 cellE
        have hr973 := row_kept_new hy927 hg937
        refine dr_op (i := 9) h934 rfl rfl rfl rfl (op_appendSrc rfl N936 99 (z := .agg #[.int .u64 0, .string (⟨#[]⟩), .bool false]) (size := 3) (bytes := 32) Try.underlying90 (by kernel_rfl) rfl rfl rfl hr968 rfl (row_sl hr973 cellE_len) (fun y hy => ⟨cellE_len y, cellE_oneC y⟩) (by first | omega | (simp only [List.length_nil, List.length_append, List.length_cons, List.length_take, List.length_drop]; omega)) (by first | omega | (simp only [List.length_nil, List.length_append, List.length_cons, List.length_take, List.length_drop]; omega)) (by omega)) ?_ ?_; clear h934
        ·
         rintro v969 w967 ⟨hr970, hg971⟩
         have hr970' : w967.ownsRow N936 99 3 v969 ((f y926.1).length) ((f y926.1).flatMap cellE) := row_app (l := []) hr970; clear hr970
         have hz974 := hg971.size
         obtain ⟨z975, rfl⟩ : ∃ z : SlT, v969 = .slice z.a z.n z.c := by obtain ⟨ao, n, cap, e⟩ := own_sliceT hr970'; exact ⟨⟨ao, n, cap⟩, e⟩
         have hB976 := fbU_row hB962 (InS.low hr968 (by omega)) hg971
         have hk977 := hk963.kept hg971 (by simp [Value.ownBlock]; omega)
         have hr978 := row_kept_ap hr964 hr968 hu954 hg971
         have hk979 := hk965.kept hg971 (own_neT hr968 hk965 (by decide))
         exact ⟨hB976, hk977, hr978, hk979⟩
        rintro v969 w967 a966 ⟨hr970, hg971⟩ h966
        have hr970' : w967.ownsRow N936 99 3 v969 ((f y926.1).length) ((f y926.1).flatMap cellE) := row_app (l := []) hr970; clear hr970
        have hz974 := hg971.size
        obtain ⟨z975, rfl⟩ : ∃ z : SlT, v969 = .slice z.a z.n z.c := by obtain ⟨ao, n, cap, e⟩ := own_sliceT hr970'; exact ⟨⟨ao, n, cap⟩, e⟩
        have hB976 := fbU_row hB962 (InS.low hr968 (by omega)) hg971
        have hk977 := hk963.kept hg971 (by simp [Value.ownBlock]; omega)
        have hr978 := row_kept_ap hr964 hr968 hu954 hg971
        have hk979 := hk965.kept hg971 (own_neT hr968 hk965 (by decide))
        refine d1 11 h966 rfl rfl (op_new (v := fun N => .slice (some ⟨N, 0, none⟩) 1 1) (T := 99) (cs := #[.int .u64 c.1, .string c.2.1, .bool c.2.2]) (by kernel_rfl) (by kernel_rfl) (by kernel_rfl)) ?_ ?_; clear h966
        ·
         rintro _ w981 ⟨N982, rfl, hN985, hz986, hk984, hg983⟩
         have hr988 := row_kept_new hr944 hg937
         have hr989 := row_kept_ap hr988 hr968 hu945 hg971
         have ha987 := row_fresh hr989 hN985
         have hu990 := row_under hr989 hN985
         have hr992 := row_kept_new hr951 hg937
         have hr993 := row_kept_ap hr992 hr968 hu952 hg971
         have ha991 := row_fresh hr993 hN985
         have hu994 := row_under hr993 hN985
         have ha995 := row_fresh hr978 hN985
         have hu996 := row_under hr978 hN985
         have hr998 := row_kept_ap hr973 hr968 hu956 hg971
         have ha997 := row_fresh hr998 hN985
         have hu999 := row_under hr998 hN985
         have ha1000 := row_fresh hr970' hN985
         have hu1001 := row_under hr970' hN985
         have hz1002 := hg983.size
         have hE1004 := hE960.new hg937
         have hE1005 := hE1004.rowU hu958 hr968 hg971
         have hu1003 := RwsK.under hE1005 hN985
         have hE1007 := hE929.new hg937
         have hE1008 := hE1007.rowU hu961 hr968 hg971
         have hu1006 := RwsK.under hE1008 hN985
         have hB1009 := fbU_new hB976 hg983
         have hk1010 := hk977.kept hg983 (by simp)
         have hr1011 := row_kept_new hr978 hg983
         have hk1012 := hk979.kept hg983 (by simp)
         exact ⟨hB1009, hk1010, hr1011, hk1012⟩
        rintro _ w981 a980 ⟨N982, rfl, hN985, hz986, hk984, hg983⟩ h980
        have hr988 := row_kept_new hr944 hg937
        have hr989 := row_kept_ap hr988 hr968 hu945 hg971
        have ha987 := row_fresh hr989 hN985
        have hu990 := row_under hr989 hN985
        have hr992 := row_kept_new hr951 hg937
        have hr993 := row_kept_ap hr992 hr968 hu952 hg971
        have ha991 := row_fresh hr993 hN985
        have hu994 := row_under hr993 hN985
        have ha995 := row_fresh hr978 hN985
        have hu996 := row_under hr978 hN985
        have hr998 := row_kept_ap hr973 hr968 hu956 hg971
        have ha997 := row_fresh hr998 hN985
        have hu999 := row_under hr998 hN985
        have ha1000 := row_fresh hr970' hN985
        have hu1001 := row_under hr970' hN985
        have hz1002 := hg983.size
        have hE1004 := hE960.new hg937
        have hE1005 := hE1004.rowU hu958 hr968 hg971
        have hu1003 := RwsK.under hE1005 hN985
        have hE1007 := hE929.new hg937
        have hE1008 := hE1007.rowU hu961 hr968 hg971
        have hu1006 := RwsK.under hE1008 hN985
        try dsimp only at h980
        have hB1009 := fbU_new hB976 hg983
        have hk1010 := hk977.kept hg983 (by simp)
        have hr1011 := row_kept_new hr978 hg983
        have hk1012 := hk979.kept hg983 (by simp)
        have hr1019 := row_kept_new hr970' hg983
        refine d1 12 h980 rfl rfl (op_append rfl N936 99 (z := .agg #[.int .u64 0, .string (⟨#[]⟩), .bool false]) (size := 3) (bytes := 32) Try.underlying90 (by kernel_rfl) rfl rfl rfl hr1019 rfl hk984 rfl (by kernel_rfl) (by first | omega | (simp only [List.length_nil, List.length_append, List.length_cons, List.length_take, List.length_drop]; omega)) (by first | omega | (simp only [List.length_nil, List.length_append, List.length_cons, List.length_take, List.length_drop]; omega)) (by omega)) ?_ ?_; clear h980
        ·
         rintro v1015 w1014 ⟨hr1016, hg1017⟩
         have hr1016' : w1014.ownsRow N936 99 3 v1015 (((f y926.1) ++ [(c.1, c.2.1, c.2.2)]).length) (((f y926.1) ++ [(c.1, c.2.1, c.2.2)]).flatMap cellE) := row_push (y := (c.1, c.2.1, c.2.2)) hr1016 rfl rfl; clear hr1016
         have hz1020 := hg1017.size
         obtain ⟨z1021, rfl⟩ : ∃ z : SlT, v1015 = .slice z.a z.n z.c := by obtain ⟨ao, n, cap, e⟩ := own_sliceT hr1016'; exact ⟨⟨ao, n, cap⟩, e⟩
         have hB1022 := fbU_row hB1009 (InS.low hr1019 (by omega)) hg1017
         have hk1023 := hk1010.kept hg1017 (row_ne_lt hr1019 (by omega))
         have hr1024 := row_kept_ap hr1011 hr1019 hu954 hg1017
         have hk1025 := hk1012.kept hg1017 (own_neT hr1019 hk1012 (by decide))
         exact ⟨hB1022, hk1023, hr1024, hk1025⟩
        rintro v1015 w1014 a1013 ⟨hr1016, hg1017⟩ h1013
        have hr1016' : w1014.ownsRow N936 99 3 v1015 (((f y926.1) ++ [(c.1, c.2.1, c.2.2)]).length) (((f y926.1) ++ [(c.1, c.2.1, c.2.2)]).flatMap cellE) := row_push (y := (c.1, c.2.1, c.2.2)) hr1016 rfl rfl; clear hr1016
        have hz1020 := hg1017.size
        obtain ⟨z1021, rfl⟩ : ∃ z : SlT, v1015 = .slice z.a z.n z.c := by obtain ⟨ao, n, cap, e⟩ := own_sliceT hr1016'; exact ⟨⟨ao, n, cap⟩, e⟩
        have hB1022 := fbU_row hB1009 (InS.low hr1019 (by omega)) hg1017
        have hk1023 := hk1010.kept hg1017 (row_ne_lt hr1019 (by omega))
        have hr1024 := row_kept_ap hr1011 hr1019 hu954 hg1017
        have hk1025 := hk1012.kept hg1017 (own_neT hr1019 hk1012 (by decide))
        refine dk0 13 (v := .slice z1021.a z1021.n z1021.c) h1013 rfl rfl ⟨hB1022, hk1023, hr1024, hk1025⟩ fun a1026 h1026 => ?_; clear h1013
        refine dr_done (by kernel_rfl) ?_
        refine co_then ?_
        refine co_reg ?_
        refine pk0 (v := pt d 0) h1026 rfl fun a1027 h1027 => ?_; clear h1026
        refine pk0 (v := pt d 0) h1027 rfl fun a1028 h1028 => ?_; clear h1027
        refine pk0 (v := pt d 0) h1028 rfl fun a1029 h1029 => ?_; clear h1028
        refine pk (v := v866) h1029 rfl (rn_load1 rfl rfl Try.isAgg54 (hk1025.cell rfl)) fun a1030 h1030 => ?_; clear h1029
        refine pk0 (v := .int .i64 ((i : Nat) : Int)) h1030 rfl fun a1031 h1031 => ?_; clear h1030
        refine pk0 (v := .slice z1021.a z1021.n z1021.c) h1031 rfl fun a1032 h1032 => ?_; clear h1031
        refine pk (v := pt (blkOf v866) (offOf v866 + i * 2)) h1032 rfl (rn_index rfl rfl rfl Try.underlying54 Try.sizeOf106 (row_sl hr1024 rwE_len) (by omega) (by first | omega | (simp; done) | (simp; omega))) fun a1033 h1033 => ?_; clear h1032
        refine pk0 (v := pt (blkOf v866) (offOf v866 + i * 2 + 1)) h1033 rfl fun a1034 h1034 => ?_; clear h1033
        refine pwD h1034 rfl (op_storeRow (c := i * 2 + 1) rfl rfl rfl rfl Try.sizeOf90 hr1024 (flat_lt rwE_len (by first | omega | (simp; omega)) (by omega)) (by first | rfl | omega)) ?_; clear h1034
        rintro _ w1036 a1035 ⟨hr1037, hz1038, hg1039⟩ h1035
        have hr1037' := row_set (y' := (y926.1, z1021)) hr1037 rwE_len hy926 (by omega) rfl; clear hr1037
        have hz1040 := hg1039.size
        have hky9 : y926.1 = k := (lay_key (by omega) hy926)
        have hE1042 := hE1008.new hg983
        have hE1043 := hE1042.rowU hu961 hr1019 hg1017
        have hE1044 := hE1043.row hr1024 (by decide) hg1039
        have hr1045 := row_kept_row hr1016' hr1024 hg1039 (by decide)
        have hE1041 := RwsK.set (z := z1021) (l := (f y926.1) ++ [(c.1, c.2.1, c.2.2)]) hE1044 hup872.1 hy926 hky9 (by have hz9 := hr1045; exact own_low hz9 (Nat.zero_le _))
        refine pl_nil ?_
        refine co_ret0n h1035 rfl ?_
        have hk1046 := hk1025.kept hg1039 (own_neT hr1024 hk1025 (by decide))
        have hB1047 := fbU_row hB1022 (InS.low hr1024 (by omega)) hg1039
        have hml9 : (f y926.1) ++ [(c.1, c.2.1, c.2.2)] = f k ++ [c] := by rw [hky9]
        have hQ9 := hE1041
        rw [hml9] at hQ9
        have hzl9 : ∀ g, (slV z1021).ownBlock = some g → w.heap.size ≤ g := fun g hg => by have hz9 := hr1045; have := (hz9.lt g hg).1; omega
        exact ⟨_, _, rfl, hk1046, own_low hr1037' (Nat.zero_le _), hQ9, lay_new hK hup872.1 hy926 (by simp), by simp only [List.length_set, List.length_append, List.length_take, List.length_drop, List.length_cons, List.length_nil]; omega, (fun i hi => .inr (by have hz9 := hr1037'; have := (hz9.lt i hi).1; omega)), from_new hzl9, hB1047⟩
       ·
        refine dr_op (i := 11) h934 rfl rfl rfl rfl (op_new (v := fun N => .slice (some ⟨N, 0, none⟩) 1 1) (T := 99) (cs := #[.int .u64 c.1, .string c.2.1, .bool c.2.2]) (by kernel_rfl) (by kernel_rfl) (by kernel_rfl)) ?_ ?_; clear h934
        ·
         rintro _ w1049 ⟨N1050, rfl, hN1053, hz1054, hk1052, hg1051⟩
         have hr1056 := row_kept_new hr944 hg937
         have ha1055 := row_fresh hr1056 hN1053
         have hu1057 := row_under hr1056 hN1053
         have hr1059 := row_kept_new hr951 hg937
         have ha1058 := row_fresh hr1059 hN1053
         have hu1060 := row_under hr1059 hN1053
         have ha1061 := row_fresh hr964 hN1053
         have hu1062 := row_under hr964 hN1053
         have hr1064 := row_kept_new hy927 hg937
         have ha1063 := row_fresh hr1064 hN1053
         have hu1065 := row_under hr1064 hN1053
         have hz1066 := hg1051.size
         have hE1068 := hE960.new hg937
         have hu1067 := RwsK.under hE1068 hN1053
         have hE1070 := hE929.new hg937
         have hu1069 := RwsK.under hE1070 hN1053
         have hB1071 := fbU_new hB962 hg1051
         have hk1072 := hk963.kept hg1051 (by simp)
         have hr1073 := row_kept_new hr964 hg1051
         have hk1074 := hk965.kept hg1051 (by simp)
         exact ⟨hB1071, hk1072, hr1073, hk1074⟩
        rintro _ w1049 a1048 ⟨N1050, rfl, hN1053, hz1054, hk1052, hg1051⟩ h1048
        have hr1056 := row_kept_new hr944 hg937
        have ha1055 := row_fresh hr1056 hN1053
        have hu1057 := row_under hr1056 hN1053
        have hr1059 := row_kept_new hr951 hg937
        have ha1058 := row_fresh hr1059 hN1053
        have hu1060 := row_under hr1059 hN1053
        have ha1061 := row_fresh hr964 hN1053
        have hu1062 := row_under hr964 hN1053
        have hr1064 := row_kept_new hy927 hg937
        have ha1063 := row_fresh hr1064 hN1053
        have hu1065 := row_under hr1064 hN1053
        have hz1066 := hg1051.size
        have hE1068 := hE960.new hg937
        have hu1067 := RwsK.under hE1068 hN1053
        have hE1070 := hE929.new hg937
        have hu1069 := RwsK.under hE1070 hN1053
        try dsimp only at h1048
        have hB1071 := fbU_new hB962 hg1051
        have hk1072 := hk963.kept hg1051 (by simp)
        have hr1073 := row_kept_new hr964 hg1051
        have hk1074 := hk965.kept hg1051 (by simp)
        have hk1078 := hk938.kept hg1051 (by simp)
        have hr1077 := row_of_blkL hk1078 (Nat.le_refl _) 3 cellE
        have hr1083 := row_kept_new hr1064 hg1051
        refine d1 9 h1048 rfl rfl (op_appendSrc rfl N936 99 (z := .agg #[.int .u64 0, .string (⟨#[]⟩), .bool false]) (size := 3) (bytes := 32) Try.underlying90 (by kernel_rfl) rfl rfl rfl hr1077 rfl (row_sl hr1083 cellE_len) (fun y hy => ⟨cellE_len y, cellE_oneC y⟩) (by first | omega | (simp only [List.length_nil, List.length_append, List.length_cons, List.length_take, List.length_drop]; omega)) (by first | omega | (simp only [List.length_nil, List.length_append, List.length_cons, List.length_take, List.length_drop]; omega)) (by omega)) ?_ ?_; clear h1048
        ·
         rintro v1079 w1076 ⟨hr1080, hg1081⟩
         have hr1080' : w1076.ownsRow N936 99 3 v1079 ((f y926.1).length) ((f y926.1).flatMap cellE) := row_app (l := []) hr1080; clear hr1080
         have hz1084 := hg1081.size
         obtain ⟨z1085, rfl⟩ : ∃ z : SlT, v1079 = .slice z.a z.n z.c := by obtain ⟨ao, n, cap, e⟩ := own_sliceT hr1080'; exact ⟨⟨ao, n, cap⟩, e⟩
         have hB1086 := fbU_row hB1071 (InS.low hr1077 (by omega)) hg1081
         have hk1087 := hk1072.kept hg1081 (by simp [Value.ownBlock]; omega)
         have hr1088 := row_kept_ap hr1073 hr1077 hu954 hg1081
         have hk1089 := hk1074.kept hg1081 (own_neT hr1077 hk1074 (by decide))
         exact ⟨hB1086, hk1087, hr1088, hk1089⟩
        rintro v1079 w1076 a1075 ⟨hr1080, hg1081⟩ h1075
        have hr1080' : w1076.ownsRow N936 99 3 v1079 ((f y926.1).length) ((f y926.1).flatMap cellE) := row_app (l := []) hr1080; clear hr1080
        have hz1084 := hg1081.size
        obtain ⟨z1085, rfl⟩ : ∃ z : SlT, v1079 = .slice z.a z.n z.c := by obtain ⟨ao, n, cap, e⟩ := own_sliceT hr1080'; exact ⟨⟨ao, n, cap⟩, e⟩
        have hB1086 := fbU_row hB1071 (InS.low hr1077 (by omega)) hg1081
        have hk1087 := hk1072.kept hg1081 (by simp [Value.ownBlock]; omega)
        have hr1088 := row_kept_ap hr1073 hr1077 hu954 hg1081
        have hk1089 := hk1074.kept hg1081 (own_neT hr1077 hk1074 (by decide))
        have hk1096 := hk1052.kept hg1081 (by simp [Value.ownBlock]; omega)
        refine d1 12 h1075 rfl rfl (op_append rfl N936 99 (z := .agg #[.int .u64 0, .string (⟨#[]⟩), .bool false]) (size := 3) (bytes := 32) Try.underlying90 (by kernel_rfl) rfl rfl rfl hr1080' rfl hk1096 rfl (by kernel_rfl) (by first | omega | (simp only [List.length_nil, List.length_append, List.length_cons, List.length_take, List.length_drop]; omega)) (by first | omega | (simp only [List.length_nil, List.length_append, List.length_cons, List.length_take, List.length_drop]; omega)) (by omega)) ?_ ?_; clear h1075
        ·
         rintro v1092 w1091 ⟨hr1093, hg1094⟩
         have hr1093' : w1091.ownsRow N936 99 3 v1092 (((f y926.1) ++ [(c.1, c.2.1, c.2.2)]).length) (((f y926.1) ++ [(c.1, c.2.1, c.2.2)]).flatMap cellE) := row_push (y := (c.1, c.2.1, c.2.2)) hr1093 rfl rfl; clear hr1093
         have hz1097 := hg1094.size
         obtain ⟨z1098, rfl⟩ : ∃ z : SlT, v1092 = .slice z.a z.n z.c := by obtain ⟨ao, n, cap, e⟩ := own_sliceT hr1093'; exact ⟨⟨ao, n, cap⟩, e⟩
         have hB1099 := fbU_row hB1086 (InS.low hr1080' (by omega)) hg1094
         have hk1100 := hk1087.kept hg1094 (row_ne_lt hr1080' (by omega))
         have hr1101 := row_kept_ap hr1088 hr1080' hu954 hg1094
         have hk1102 := hk1089.kept hg1094 (own_neT hr1080' hk1089 (by decide))
         exact ⟨hB1099, hk1100, hr1101, hk1102⟩
        rintro v1092 w1091 a1090 ⟨hr1093, hg1094⟩ h1090
        have hr1093' : w1091.ownsRow N936 99 3 v1092 (((f y926.1) ++ [(c.1, c.2.1, c.2.2)]).length) (((f y926.1) ++ [(c.1, c.2.1, c.2.2)]).flatMap cellE) := row_push (y := (c.1, c.2.1, c.2.2)) hr1093 rfl rfl; clear hr1093
        have hz1097 := hg1094.size
        obtain ⟨z1098, rfl⟩ : ∃ z : SlT, v1092 = .slice z.a z.n z.c := by obtain ⟨ao, n, cap, e⟩ := own_sliceT hr1093'; exact ⟨⟨ao, n, cap⟩, e⟩
        have hB1099 := fbU_row hB1086 (InS.low hr1080' (by omega)) hg1094
        have hk1100 := hk1087.kept hg1094 (row_ne_lt hr1080' (by omega))
        have hr1101 := row_kept_ap hr1088 hr1080' hu954 hg1094
        have hk1102 := hk1089.kept hg1094 (own_neT hr1080' hk1089 (by decide))
        refine dk0 13 (v := .slice z1098.a z1098.n z1098.c) h1090 rfl rfl ⟨hB1099, hk1100, hr1101, hk1102⟩ fun a1103 h1103 => ?_; clear h1090
        refine dr_done (by kernel_rfl) ?_
        refine co_then ?_
        refine co_reg ?_
        refine pk0 (v := pt d 0) h1103 rfl fun a1104 h1104 => ?_; clear h1103
        refine pk0 (v := pt d 0) h1104 rfl fun a1105 h1105 => ?_; clear h1104
        refine pk0 (v := pt d 0) h1105 rfl fun a1106 h1106 => ?_; clear h1105
        refine pk (v := v866) h1106 rfl (rn_load1 rfl rfl Try.isAgg54 (hk1102.cell rfl)) fun a1107 h1107 => ?_; clear h1106
        refine pk0 (v := .int .i64 ((i : Nat) : Int)) h1107 rfl fun a1108 h1108 => ?_; clear h1107
        refine pk0 (v := .slice z1098.a z1098.n z1098.c) h1108 rfl fun a1109 h1109 => ?_; clear h1108
        refine pk (v := pt (blkOf v866) (offOf v866 + i * 2)) h1109 rfl (rn_index rfl rfl rfl Try.underlying54 Try.sizeOf106 (row_sl hr1101 rwE_len) (by omega) (by first | omega | (simp; done) | (simp; omega))) fun a1110 h1110 => ?_; clear h1109
        refine pk0 (v := pt (blkOf v866) (offOf v866 + i * 2 + 1)) h1110 rfl fun a1111 h1111 => ?_; clear h1110
        refine pwD h1111 rfl (op_storeRow (c := i * 2 + 1) rfl rfl rfl rfl Try.sizeOf90 hr1101 (flat_lt rwE_len (by first | omega | (simp; omega)) (by omega)) (by first | rfl | omega)) ?_; clear h1111
        rintro _ w1113 a1112 ⟨hr1114, hz1115, hg1116⟩ h1112
        have hr1114' := row_set (y' := (y926.1, z1098)) hr1114 rwE_len hy926 (by omega) rfl; clear hr1114
        have hz1117 := hg1116.size
        have hky9 : y926.1 = k := (lay_key (by omega) hy926)
        have hE1119 := hE1070.new hg1051
        have hE1120 := hE1119.rowU hu961 hr1077 hg1081
        have hE1121 := hE1120.rowU hu961 hr1080' hg1094
        have hE1122 := hE1121.row hr1101 (by decide) hg1116
        have hr1123 := row_kept_row hr1093' hr1101 hg1116 (by decide)
        have hE1118 := RwsK.set (z := z1098) (l := (f y926.1) ++ [(c.1, c.2.1, c.2.2)]) hE1122 hup872.1 hy926 hky9 (by have hz9 := hr1123; exact own_low hz9 (Nat.zero_le _))
        refine pl_nil ?_
        refine co_ret0n h1112 rfl ?_
        have hk1124 := hk1102.kept hg1116 (own_neT hr1101 hk1102 (by decide))
        have hB1125 := fbU_row hB1099 (InS.low hr1101 (by omega)) hg1116
        have hml9 : (f y926.1) ++ [(c.1, c.2.1, c.2.2)] = f k ++ [c] := by rw [hky9]
        have hQ9 := hE1118
        rw [hml9] at hQ9
        have hzl9 : ∀ g, (slV z1098).ownBlock = some g → w.heap.size ≤ g := fun g hg => by have hz9 := hr1123; have := (hz9.lt g hg).1; omega
        exact ⟨_, _, rfl, hk1124, own_low hr1114' (Nat.zero_le _), hQ9, lay_new hK hup872.1 hy926 (by simp), by simp only [List.length_set, List.length_append, List.length_take, List.length_drop, List.length_cons, List.length_nil]; omega, (fun i hi => .inr (by have hz9 := hr1114'; have := (hz9.lt i hi).1; omega)), from_new hzl9, hB1125⟩
      ·
       refine dr_op (i := 11) h933 rfl rfl rfl rfl (op_new (v := fun N => .slice (some ⟨N, 0, none⟩) 1 1) (T := 99) (cs := #[.int .u64 c.1, .string c.2.1, .bool c.2.2]) (by kernel_rfl) (by kernel_rfl) (by kernel_rfl)) ?_ ?_; clear h933
       ·
        rintro _ w1127 ⟨N1128, rfl, hN1131, hz1132, hk1130, hg1129⟩
        have hr1134 := row_kept_ap hr862 hr844' hu800 hg868
        have hr1135 := row_kept_at hr1134 hg888 (own_neT hr1134 hk889 (by decide))
        have hr1136 := row_kept_new hr1135 hg892
        have ha1133 := row_fresh hr1136 hN1131
        have hu1137 := row_under hr1136 hN1131
        have hr1139 := row_kept_new hr836 hg827
        have hr1140 := row_kept_ap hr1139 hr847 hu802 hg845
        have hr1141 := row_kept_ap hr1140 hr844' hu802 hg868
        have hr1142 := row_kept_at hr1141 hg888 (own_neT hr1141 hk889 (by decide))
        have hr1143 := row_kept_new hr1142 hg892
        have ha1138 := row_fresh hr1143 hN1131
        have hu1144 := row_under hr1143 hN1131
        have ha1145 := row_fresh hr919 hN1131
        have hu1146 := row_under hr919 hN1131
        have ha1147 := row_fresh hy927 hN1131
        have hu1148 := row_under hy927 hN1131
        have hz1149 := hg1129.size
        have hE1151 := hE878.blk hk889 (by decide) hg888
        have hE1152 := hE1151.new hg892
        have hu1150 := RwsK.under hE1152 hN1131
        have hu1153 := RwsK.under hE929 hN1131
        have hB1154 := fbU_new hB914 hg1129
        have hk1155 := hk917.kept hg1129 (by simp)
        have hr1156 := row_kept_new hr919 hg1129
        have hk1157 := hk920.kept hg1129 (by simp)
        exact ⟨hB1154, hk1155, hr1156, hk1157⟩
       rintro _ w1127 a1126 ⟨N1128, rfl, hN1131, hz1132, hk1130, hg1129⟩ h1126
       have hr1134 := row_kept_ap hr862 hr844' hu800 hg868
       have hr1135 := row_kept_at hr1134 hg888 (own_neT hr1134 hk889 (by decide))
       have hr1136 := row_kept_new hr1135 hg892
       have ha1133 := row_fresh hr1136 hN1131
       have hu1137 := row_under hr1136 hN1131
       have hr1139 := row_kept_new hr836 hg827
       have hr1140 := row_kept_ap hr1139 hr847 hu802 hg845
       have hr1141 := row_kept_ap hr1140 hr844' hu802 hg868
       have hr1142 := row_kept_at hr1141 hg888 (own_neT hr1141 hk889 (by decide))
       have hr1143 := row_kept_new hr1142 hg892
       have ha1138 := row_fresh hr1143 hN1131
       have hu1144 := row_under hr1143 hN1131
       have ha1145 := row_fresh hr919 hN1131
       have hu1146 := row_under hr919 hN1131
       have ha1147 := row_fresh hy927 hN1131
       have hu1148 := row_under hy927 hN1131
       have hz1149 := hg1129.size
       have hE1151 := hE878.blk hk889 (by decide) hg888
       have hE1152 := hE1151.new hg892
       have hu1150 := RwsK.under hE1152 hN1131
       have hu1153 := RwsK.under hE929 hN1131
       try dsimp only at h1126
       have hB1154 := fbU_new hB914 hg1129
       have hk1155 := hk917.kept hg1129 (by simp)
       have hr1156 := row_kept_new hr919 hg1129
       have hk1157 := hk920.kept hg1129 (by simp)
       refine d1 0 h1126 rfl rfl (op_new (v := fun N => .slice (some ⟨N, 0, none⟩) 0 0) (T := 99) (cs := #[]) (by kernel_rfl) (by kernel_rfl) (by kernel_rfl)) ?_ ?_; clear h1126
       ·
        rintro _ w1159 ⟨N1160, rfl, hN1163, hz1164, hk1162, hg1161⟩
        have hr1166 := row_kept_new hr1136 hg1129
        have ha1165 := row_fresh hr1166 hN1163
        have hu1167 := row_under hr1166 hN1163
        have hr1169 := row_kept_new hr1143 hg1129
        have ha1168 := row_fresh hr1169 hN1163
        have hu1170 := row_under hr1169 hN1163
        have ha1171 := row_fresh hr1156 hN1163
        have hu1172 := row_under hr1156 hN1163
        have hr1174 := row_kept_new hy927 hg1129
        have ha1173 := row_fresh hr1174 hN1163
        have hu1175 := row_under hr1174 hN1163
        have hz1176 := hg1161.size
        have hE1178 := hE1152.new hg1129
        have hu1177 := RwsK.under hE1178 hN1163
        have hE1180 := hE929.new hg1129
        have hu1179 := RwsK.under hE1180 hN1163
        have hB1181 := fbU_new hB1154 hg1161
        have hk1182 := hk1155.kept hg1161 (by simp)
        have hr1183 := row_kept_new hr1156 hg1161
        have hk1184 := hk1157.kept hg1161 (by simp)
        exact ⟨hB1181, hk1182, hr1183, hk1184⟩
       rintro _ w1159 a1158 ⟨N1160, rfl, hN1163, hz1164, hk1162, hg1161⟩ h1158
       have hr1166 := row_kept_new hr1136 hg1129
       have ha1165 := row_fresh hr1166 hN1163
       have hu1167 := row_under hr1166 hN1163
       have hr1169 := row_kept_new hr1143 hg1129
       have ha1168 := row_fresh hr1169 hN1163
       have hu1170 := row_under hr1169 hN1163
       have ha1171 := row_fresh hr1156 hN1163
       have hu1172 := row_under hr1156 hN1163
       have hr1174 := row_kept_new hy927 hg1129
       have ha1173 := row_fresh hr1174 hN1163
       have hu1175 := row_under hr1174 hN1163
       have hz1176 := hg1161.size
       have hE1178 := hE1152.new hg1129
       have hu1177 := RwsK.under hE1178 hN1163
       have hE1180 := hE929.new hg1129
       have hu1179 := RwsK.under hE1180 hN1163
       try dsimp only at h1158
       have hB1181 := fbU_new hB1154 hg1161
       have hk1182 := hk1155.kept hg1161 (by simp)
       have hr1183 := row_kept_new hr1156 hg1161
       have hk1184 := hk1157.kept hg1161 (by simp)
       have hr1187 := row_of_blkL hk1162 (Nat.le_refl _) 3 cellE
       have hr1192 := row_kept_new hr1174 hg1161
       refine d1 9 h1158 rfl rfl (op_appendSrc rfl N1160 99 (z := .agg #[.int .u64 0, .string (⟨#[]⟩), .bool false]) (size := 3) (bytes := 32) Try.underlying90 (by kernel_rfl) rfl rfl rfl hr1187 rfl (row_sl hr1192 cellE_len) (fun y hy => ⟨cellE_len y, cellE_oneC y⟩) (by first | omega | (simp only [List.length_nil, List.length_append, List.length_cons, List.length_take, List.length_drop]; omega)) (by first | omega | (simp only [List.length_nil, List.length_append, List.length_cons, List.length_take, List.length_drop]; omega)) (by omega)) ?_ ?_; clear h1158
       ·
        rintro v1188 w1186 ⟨hr1189, hg1190⟩
        have hr1189' : w1186.ownsRow N1160 99 3 v1188 ((f y926.1).length) ((f y926.1).flatMap cellE) := row_app (l := []) hr1189; clear hr1189
        have hz1193 := hg1190.size
        obtain ⟨z1194, rfl⟩ : ∃ z : SlT, v1188 = .slice z.a z.n z.c := by obtain ⟨ao, n, cap, e⟩ := own_sliceT hr1189'; exact ⟨⟨ao, n, cap⟩, e⟩
        have hB1195 := fbU_row hB1181 (InS.low hr1187 (by omega)) hg1190
        have hk1196 := hk1182.kept hg1190 (by simp [Value.ownBlock]; omega)
        have hr1197 := row_kept_ap hr1183 hr1187 hu1172 hg1190
        have hk1198 := hk1184.kept hg1190 (own_neT hr1187 hk1184 (by decide))
        exact ⟨hB1195, hk1196, hr1197, hk1198⟩
       rintro v1188 w1186 a1185 ⟨hr1189, hg1190⟩ h1185
       have hr1189' : w1186.ownsRow N1160 99 3 v1188 ((f y926.1).length) ((f y926.1).flatMap cellE) := row_app (l := []) hr1189; clear hr1189
       have hz1193 := hg1190.size
       obtain ⟨z1194, rfl⟩ : ∃ z : SlT, v1188 = .slice z.a z.n z.c := by obtain ⟨ao, n, cap, e⟩ := own_sliceT hr1189'; exact ⟨⟨ao, n, cap⟩, e⟩
       have hB1195 := fbU_row hB1181 (InS.low hr1187 (by omega)) hg1190
       have hk1196 := hk1182.kept hg1190 (by simp [Value.ownBlock]; omega)
       have hr1197 := row_kept_ap hr1183 hr1187 hu1172 hg1190
       have hk1198 := hk1184.kept hg1190 (own_neT hr1187 hk1184 (by decide))
       have hk1205 := hk1130.kept hg1161 (by simp)
       have hk1206 := hk1205.kept hg1190 (by simp [Value.ownBlock]; omega)
       refine d1 12 h1185 rfl rfl (op_append rfl N1160 99 (z := .agg #[.int .u64 0, .string (⟨#[]⟩), .bool false]) (size := 3) (bytes := 32) Try.underlying90 (by kernel_rfl) rfl rfl rfl hr1189' rfl hk1206 rfl (by kernel_rfl) (by first | omega | (simp only [List.length_nil, List.length_append, List.length_cons, List.length_take, List.length_drop]; omega)) (by first | omega | (simp only [List.length_nil, List.length_append, List.length_cons, List.length_take, List.length_drop]; omega)) (by omega)) ?_ ?_; clear h1185
       ·
        rintro v1201 w1200 ⟨hr1202, hg1203⟩
        have hr1202' : w1200.ownsRow N1160 99 3 v1201 (((f y926.1) ++ [(c.1, c.2.1, c.2.2)]).length) (((f y926.1) ++ [(c.1, c.2.1, c.2.2)]).flatMap cellE) := row_push (y := (c.1, c.2.1, c.2.2)) hr1202 rfl rfl; clear hr1202
        have hz1207 := hg1203.size
        obtain ⟨z1208, rfl⟩ : ∃ z : SlT, v1201 = .slice z.a z.n z.c := by obtain ⟨ao, n, cap, e⟩ := own_sliceT hr1202'; exact ⟨⟨ao, n, cap⟩, e⟩
        have hB1209 := fbU_row hB1195 (InS.low hr1189' (by omega)) hg1203
        have hk1210 := hk1196.kept hg1203 (row_ne_lt hr1189' (by omega))
        have hr1211 := row_kept_ap hr1197 hr1189' hu1172 hg1203
        have hk1212 := hk1198.kept hg1203 (own_neT hr1189' hk1198 (by decide))
        exact ⟨hB1209, hk1210, hr1211, hk1212⟩
       rintro v1201 w1200 a1199 ⟨hr1202, hg1203⟩ h1199
       have hr1202' : w1200.ownsRow N1160 99 3 v1201 (((f y926.1) ++ [(c.1, c.2.1, c.2.2)]).length) (((f y926.1) ++ [(c.1, c.2.1, c.2.2)]).flatMap cellE) := row_push (y := (c.1, c.2.1, c.2.2)) hr1202 rfl rfl; clear hr1202
       have hz1207 := hg1203.size
       obtain ⟨z1208, rfl⟩ : ∃ z : SlT, v1201 = .slice z.a z.n z.c := by obtain ⟨ao, n, cap, e⟩ := own_sliceT hr1202'; exact ⟨⟨ao, n, cap⟩, e⟩
       have hB1209 := fbU_row hB1195 (InS.low hr1189' (by omega)) hg1203
       have hk1210 := hk1196.kept hg1203 (row_ne_lt hr1189' (by omega))
       have hr1211 := row_kept_ap hr1197 hr1189' hu1172 hg1203
       have hk1212 := hk1198.kept hg1203 (own_neT hr1189' hk1198 (by decide))
       refine dk0 13 (v := .slice z1208.a z1208.n z1208.c) h1199 rfl rfl ⟨hB1209, hk1210, hr1211, hk1212⟩ fun a1213 h1213 => ?_; clear h1199
       refine dr_done (by kernel_rfl) ?_
       refine co_then ?_
       refine co_reg ?_
       refine pk0 (v := pt d 0) h1213 rfl fun a1214 h1214 => ?_; clear h1213
       refine pk0 (v := pt d 0) h1214 rfl fun a1215 h1215 => ?_; clear h1214
       refine pk0 (v := pt d 0) h1215 rfl fun a1216 h1216 => ?_; clear h1215
       refine pk (v := v866) h1216 rfl (rn_load1 rfl rfl Try.isAgg54 (hk1212.cell rfl)) fun a1217 h1217 => ?_; clear h1216
       refine pk0 (v := .int .i64 ((i : Nat) : Int)) h1217 rfl fun a1218 h1218 => ?_; clear h1217
       refine pk0 (v := .slice z1208.a z1208.n z1208.c) h1218 rfl fun a1219 h1219 => ?_; clear h1218
       refine pk (v := pt (blkOf v866) (offOf v866 + i * 2)) h1219 rfl (rn_index rfl rfl rfl Try.underlying54 Try.sizeOf106 (row_sl hr1211 rwE_len) (by omega) (by first | omega | (simp; done) | (simp; omega))) fun a1220 h1220 => ?_; clear h1219
       refine pk0 (v := pt (blkOf v866) (offOf v866 + i * 2 + 1)) h1220 rfl fun a1221 h1221 => ?_; clear h1220
       refine pwD h1221 rfl (op_storeRow (c := i * 2 + 1) rfl rfl rfl rfl Try.sizeOf90 hr1211 (flat_lt rwE_len (by first | omega | (simp; omega)) (by omega)) (by first | rfl | omega)) ?_; clear h1221
       rintro _ w1223 a1222 ⟨hr1224, hz1225, hg1226⟩ h1222
       have hr1224' := row_set (y' := (y926.1, z1208)) hr1224 rwE_len hy926 (by omega) rfl; clear hr1224
       have hz1227 := hg1226.size
       have hky9 : y926.1 = k := (lay_key (by omega) hy926)
       have hE1229 := hE1180.new hg1161
       have hE1230 := hE1229.rowU hu1179 hr1187 hg1190
       have hE1231 := hE1230.rowU hu1179 hr1189' hg1203
       have hE1232 := hE1231.row hr1211 (by decide) hg1226
       have hr1233 := row_kept_row hr1202' hr1211 hg1226 (by decide)
       have hE1228 := RwsK.set (z := z1208) (l := (f y926.1) ++ [(c.1, c.2.1, c.2.2)]) hE1232 hup872.1 hy926 hky9 (by have hz9 := hr1233; exact own_low hz9 (Nat.zero_le _))
       refine pl_nil ?_
       refine co_ret0n h1222 rfl ?_
       have hk1234 := hk1212.kept hg1226 (own_neT hr1211 hk1212 (by decide))
       have hB1235 := fbU_row hB1209 (InS.low hr1211 (by omega)) hg1226
       have hml9 : (f y926.1) ++ [(c.1, c.2.1, c.2.2)] = f k ++ [c] := by rw [hky9]
       have hQ9 := hE1228
       rw [hml9] at hQ9
       have hzl9 : ∀ g, (slV z1208).ownBlock = some g → w.heap.size ≤ g := fun g hg => by have hz9 := hr1233; have := (hz9.lt g hg).1; omega
       exact ⟨_, _, rfl, hk1234, own_low hr1224' (Nat.zero_le _), hQ9, lay_new hK hup872.1 hy926 (by simp), by simp only [List.length_set, List.length_append, List.length_take, List.length_drop, List.length_cons, List.length_nil]; omega, (fun i hi => .inr (by have hz9 := hr1224'; have := (hz9.lt i hi).1; omega)), from_new hzl9, hB1235⟩
    ·
     rw [hc500] at h499
     refine co_true h499 rfl ?_
     refine wp_skip ?_
     refine co_then ?_
     refine wp_block ?_
     refine co_reg ?_
     refine pk0 (v := .int .i64 ((i : Nat) : Int)) h499 rfl fun a1236 h1236 => ?_; clear h499
     refine pk (v := .int .i64 ((i + 1 : Nat) : Int)) h1236 rfl (rn_arith' rfl rfl rfl rfl rfl rfl (IntWalk.i64_in _ (by omega)) (by omega)) fun a1237 h1237 => ?_; clear h1236
     refine pk0 (v := .int .i64 ((i + 1 : Nat) : Int)) h1237 rfl fun a1238 h1238 => ?_; clear h1237
     refine pl_nil ?_
     refine co_blockN ?_
     refine co_then ?_
     refine ⟨(L.length - (i + 1)), by omega, ?_⟩
     have htk9 := lay_step htkA hy492 (by assumption)
     exact ⟨i + 1, h1238.sub ⟨rfl, rfl, rfl, rfl, trivial⟩, rfl, by omega, by exact htk9, hf23, hf24, hf25, hf26, hB27⟩
end Go.Proofs.Ytkjnhghniopnoaa

/- The document's store: Put. Conditions: at most 60000 keys, 700 versions each, 20 operations. -/
namespace Go.Proofs.Ytkjnhghniopnoaa
open Go.RowKit Go.PlainAid
set_option linter.unusedVariables false
set_option linter.unusedSimpArgs false


section
variable {L M N : List Kv} {n m : Nat} {f : Fv} {la ts : Int} {l : List OpT} {i : Nat} {y : OpT}
theorem from_trans (h : ∀ a ∈ M, (∃ b ∈ L, b.2 = a.2) ∨ ∀ g, (slV a.2).ownBlock = some g → n ≤ g) (h2 : ∀ a ∈ N, (∃ b ∈ M, b.2 = a.2) ∨ ∀ g, (slV a.2).ownBlock = some g → m ≤ g) (hm : n ≤ m) : ∀ a ∈ N, (∃ b ∈ L, b.2 = a.2) ∨ ∀ g, (slV a.2).ownBlock = some g → n ≤ g := fun a ha => by
  rcases h2 a ha with ⟨b, hb, e⟩ | h3
  · rcases h b hb with ⟨c, hc, e2⟩ | h4
    · exact .inl ⟨c, hc, e2.trans e⟩
    · exact .inr fun g hg => h4 g (by rw [e]; exact hg)
  · exact .inr fun g hg => Nat.le_trans hm (h3 g hg)
theorem from_self (L : List Kv) (n : Nat) : ∀ a ∈ L, (∃ b ∈ L, b.2 = a.2) ∨ ∀ g, (slV a.2).ownBlock = some g → n ≤ g := fun a ha => .inl ⟨a, ha, rfl⟩
theorem puts_len (hF : FOk f la n) (hlt : la < ts) (h0 : 0 < ts ∧ ts < 18446744073709551616) (hup : l.Pairwise (fun a b => klt a.1 b.1 = true)) : ∀ x, (putsF f ts (l.take i) x).length ≤ n + 1 := fun x => (hF.puts hlt h0 (hup.sublist (List.take_sublist _ _))).len x
end

set_option maxRecDepth 100000 in
set_option maxHeartbeats 3200000 in
theorem rput_blk (d : Nat) (u : Value) (la : Int) (L : List Kv) (f : Fv) (n : Nat) (ts : Int) (v : Value) (l : List OpT) (w : World) (hB : Blk w d 56 #[u, .int .u64 la]) (hR : w.ownsRow 0 106 2 u L.length (L.flatMap rwE)) (hE : RwsK w f L) (hK : KOf (L.map (·.1)) f) (hF : FOk f la n) (hL : L.length ≤ 60000) (hn : n ≤ 700) (hs : SliceOf opE 3 w v l) (hvS : l ≠ [] → ∀ k, v.ownBlock = some k → ¬ (k = d ∨ u.ownBlock = some k)) (hts : 0 ≤ ts ∧ ts < 18446744073709551616) (hla : 0 ≤ la ∧ la < 18446744073709551616) (hl : l.length ≤ 20) :
    Calls Try.prog 16 #[pt d 0, .int .u64 ts, v] w fun e w' => ∃ (u' : Value) (M : List Kv), e = .returned (.int .i64 (mvE la ts l)) ∧ Blk w' d 56 #[u', .int .u64 (mvLa la ts l)] ∧ w'.ownsRow 0 106 2 u' M.length (M.flatMap rwE) ∧ RwsK w' (mvF f la ts l) M ∧ KOf (M.map (·.1)) (mvF f la ts l) ∧ M.length ≤ L.length + l.length ∧ (∀ i, u'.ownBlock = some i → u.ownBlock = some i ∨ w.heap.size ≤ i) ∧ (∀ a ∈ M, (∃ b ∈ L, b.2 = a.2) ∨ ∀ g, (slV a.2).ownBlock = some g → w.heap.size ≤ g) ∧ But (fun q => q = d ∨ u.ownBlock = some q) w w' := by
 have hB0 := But.refl (fun q => q = d ∨ u.ownBlock = some q) w
 have hl_hB := hB.lt
 have hl_hs := sl_len hs
 have hinb : (fun q => q = d ∨ u.ownBlock = some q) d ∨ w.heap.size ≤ d := .inl (.inl rfl)
 refine co_enter (n := 52) Try.func16 rfl rfl rfl [(0, pt d 0), (1, .int .u64 ts), (2, v)] rfl (fun a h0 => ?_)
 refine co_seq ?_
 refine co_reg ?_
 refine pk0 (v := .int .i64 0) h0 rfl fun a1 h1 => ?_; clear h0
 refine pl_nil ?_
 refine co_then ?_
 refine co_seq ?_
 refine co_seq ?_
 refine co_reg ?_
 refine pk0 (v := .int .u64 ts) h1 rfl fun a2 h2 => ?_; clear h1
 refine pk0 (v := .bool (ts == 0)) h2 rfl fun a3 h3 => ?_; clear h2
 refine pl_nil ?_
 refine co_then ?_
 cases hc4 : (ts == 0)
 ·
  rw [hc4] at h3
  have hp5 : ¬ (ts = 0) := by first | simpa using hc4 | simpa [and_assoc] using hc4
  clear hc4
  refine co_false h3 rfl ?_
  refine wp_skip ?_
  refine co_then ?_
  refine co_seq ?_
  refine co_seq ?_
  refine co_reg ?_
  refine pk0 (v := .int .u64 ts) h3 rfl fun a6 h6 => ?_; clear h3
  refine pk0 (v := pt d 0) h6 rfl fun a7 h7 => ?_; clear h6
  refine pk0 (v := pt d 0) h7 rfl fun a8 h8 => ?_; clear h7
  refine pk0 (v := pt d 1) h8 rfl fun a9 h9 => ?_; clear h8
  refine pk (v := .int .u64 la) h9 rfl (rn_load1 rfl rfl Try.isAgg27 (hB.cell rfl)) fun a10 h10 => ?_; clear h9
  refine pk0 (v := .bool (decide (ts ≤ la))) h10 rfl fun a11 h11 => ?_; clear h10
  refine pl_nil ?_
  refine co_then ?_
  cases hc12 : (decide (ts ≤ la))
  ·
   rw [hc12] at h11
   have hp13 : ¬ (ts ≤ la) := of_decide_eq_false hc12
   clear hc12
   refine co_false h11 rfl ?_
   refine wp_skip ?_
   refine co_then ?_
   refine co_seq ?_
   refine co_seq ?_
   refine co_reg ?_
   refine pk0 (v := v) h11 rfl fun a14 h14 => ?_; clear h11
   refine pk (v := .agg #[.int .i64 0, .int .i64 1, v]) h14 rfl (by obtain ⟨_, _, _, hq⟩ := sl_form (sl_butNM hs hB0 hvS); subst hq; kernel_rfl) fun a15 h15 => ?_; clear h14
   refine pw h15 rfl (op_call (args := #[.agg #[.int .i64 0, .int .i64 1, v]]) (R := fun res xw => res = .int .i64 (chkB 0 1 l) ∧ Below w.heap.size w xw) rfl rfl rfl (by kernel_rfl) (by kernel_rfl) (Try.call44 _ _) (ropsCheck_any 0 1 v l w (sl_butNM hs hB0 hvS)) (by rintro e x ⟨rfl, h⟩; exact ⟨_, rfl, rfl, h⟩)) ?_; clear h15
   rintro _ w17 a16 ⟨rfl, hb18⟩ h16
   have hz19 := hb18.size
   refine pk0 (v := .int .i64 (chkB 0 1 l)) h16 rfl fun a20 h20 => ?_; clear h16
   refine pl_nil ?_
   refine co_then ?_
   refine co_seq ?_
   refine co_reg ?_
   refine pk0 (v := .int .i64 (chkB 0 1 l)) h20 rfl fun a21 h21 => ?_; clear h20
   refine pk0 (v := .bool ((chkB 0 1 l) != 0)) h21 rfl fun a22 h22 => ?_; clear h21
   refine pl_nil ?_
   refine co_then ?_
   have hB24 := fbU_call hB0 hb18
   cases hc23 : ((chkB 0 1 l) != 0)
   ·
    rw [hc23] at h22
    have hp25 : ¬ ((chkB 0 1 l) ≠ 0) := by first | simpa using hc23 | simpa [and_assoc] using hc23
    clear hc23
    refine co_false h22 rfl ?_
    refine wp_skip ?_
    refine co_then ?_
    refine co_seq ?_
    refine co_seq ?_
    refine co_reg ?_
    refine pk0 (v := .int .i64 0) h22 rfl fun a26 h26 => ?_; clear h22
    refine pl_nil ?_
    refine co_then ?_
    refine wp_block ?_
    have hE0 : chkB 0 1 l = 0 := by omega
    have hup := chkB_up hE0
    have hlt9 : la < ts := by omega
    have h09 : 0 < ts ∧ ts < 18446744073709551616 := ⟨by omega, by omega⟩
    have hE9 : mvE la ts l = 0 := by rw [mvE_c (by omega) (by omega)]; exact hE0
    have hln9 : l.length ≤ 4 := (chkB_ok hE0).2.2.1
    have hk9 : KOf (L.map (·.1)) (putsF f ts (l.take 0)) := hK
    have hu9 : ∀ i, u.ownBlock = some i → u.ownBlock = some i ∨ w.heap.size ≤ i := fun i hi => .inl hi
    have hm9 := from_self L w.heap.size
    have h27 : Slots 52 [(0, pt d 0), (1, .int .u64 ts), (2, v), (8, .int .i64 0)] _ := h26.sub ⟨rfl, rfl, rfl, rfl, trivial⟩; clear h26
    refine co_loop (fun mm a x => ∃ (i : Nat) (uu : Value) (MM : List Kv), Slots 52 [(0, pt d 0), (1, .int .u64 ts), (2, v), (8, .int .i64 ((i : Nat) : Int))] a ∧ mm = l.length - i ∧ (i ≤ l.length) ∧ (KOf (MM.map (·.1)) (putsF f ts (l.take i))) ∧ (MM.length ≤ L.length + i) ∧ (∀ i, uu.ownBlock = some i → u.ownBlock = some i ∨ w.heap.size ≤ i) ∧ (∀ a ∈ MM, (∃ b ∈ L, b.2 = a.2) ∨ ∀ g, (slV a.2).ownBlock = some g → w.heap.size ≤ g) ∧ Blk x d 56 #[uu, .int .u64 la] ∧ x.ownsRow 0 106 2 uu MM.length (MM.flatMap rwE) ∧ RwsK x (putsF f ts (l.take i)) MM ∧ But (fun q => q = d ∨ u.ownBlock = some q) w x) (l.length - 0) ?_ ?_
    have hk28 := hB.below hb18
    have hr29 := row_kept_new hR (below_grown hb18)
    have hE30 := hE.new (below_grown hb18)
    · exact ⟨0, u, L, h27.sub ⟨rfl, rfl, rfl, (slot_eq rfl (congrArg (Value.int .i64) (by first | rfl | omega))), trivial⟩, rfl, by omega, by exact hk9, by omega, by exact hu9, by exact hm9, hk28, (row_eq hr29 (rfl)), hE30, hB24⟩
    · rintro k31 a32 w33 ⟨i, uu, MM, h32, rfl, hi34, hi35, hi36, hi37, hi38, hf39, hf40, hf41, hB42⟩
      have hz43 := hB42.size
      have hl44 := hf39.lt
      have hkA : KOf (MM.map (·.1)) (putsF f ts (l.take i)) := by assumption
      have huA : ∀ i, uu.ownBlock = some i → u.ownBlock = some i ∨ w.heap.size ≤ i := by assumption
      have hmA : ∀ a ∈ MM, (∃ b ∈ L, b.2 = a.2) ∨ ∀ g, (slV a.2).ownBlock = some g → w.heap.size ≤ g := by assumption
      have hflA := puts_len (i := i) hF hlt9 h09 hup
      refine co_seq ?_
      refine co_seq ?_
      refine co_reg ?_
      refine pk0 (v := .int .i64 ((i : Nat) : Int)) h32 rfl fun a45 h45 => ?_; clear h32
      refine pk0 (v := v) h45 rfl fun a46 h46 => ?_; clear h45
      refine pk (v := .int .i64 ((l.length : Nat) : Int)) h46 rfl (rn_len rfl rfl Try.underlying36 (sl_butNM hs hB42 hvS)) fun a47 h47 => ?_; clear h46
      refine pk0 (v := .bool (decide (((i : Nat) : Int) < ((l.length : Nat) : Int)))) h47 rfl fun a48 h48 => ?_; clear h47
      refine pl_nil ?_
      refine co_then ?_
      cases hc49 : (decide (((i : Nat) : Int) < ((l.length : Nat) : Int)))
      ·
       rw [hc49] at h48
       have hp50 : ¬ (((i : Nat) : Int) < ((l.length : Nat) : Int)) := of_decide_eq_false hc49
       clear hc49
       refine co_false h48 rfl ?_
       refine wp_exit ?_
       refine co_thenX ?_
       refine co_thenX ?_
       refine co_blockX ?_
       refine co_then ?_
       refine co_seq ?_
       refine co_reg ?_
       refine pk0 (v := pt d 0) h48 rfl fun a51 h51 => ?_; clear h48
       refine pk0 (v := .int .u64 ts) h51 rfl fun a52 h52 => ?_; clear h51
       refine pk0 (v := pt d 0) h52 rfl fun a53 h53 => ?_; clear h52
       refine pk0 (v := pt d 1) h53 rfl fun a54 h54 => ?_; clear h53
       refine pwD h54 rfl (op_store1 rfl rfl rfl rfl Try.sizeOf27 hf39 rfl) ?_; clear h54
       rintro _ w56 a55 ⟨hk57, hz58, hg59⟩ h55
       have hk57' : Blk w56 d 56 #[uu, .int .u64 ts] := hk57; clear hk57
       have hz60 := hg59.size
       refine pl_nil ?_
       refine co_then ?_
       refine co_seq ?_
       refine co_reg ?_
       refine pk0 (v := .int .i64 0) h55 rfl fun a61 h61 => ?_; clear h55
       refine pl_nil ?_
       refine co_then ?_
       refine wp_ret ?_
       refine co_ret1 h61 rfl rfl ?_
       have hE62 := hf41.blk hf39 (by decide) hg59
       have hr63 := row_kept_at hf40 hg59 (own_neT hf40 hf39 (by decide))
       have hB64 := fbU_at hB42 hg59 (fun hlt => by rcases hinb with hq | hq; exact hq; omega)
       have hk9 : l.take i = l := List.take_of_length_le (by omega)
       have hE := hE9
       have hQ1 := hE62
       have hQ2 := hkA
       rw [hk9] at hQ1 hQ2
       exact ⟨_, _, by rw [hE], by unfold mvLa; rw [if_pos hE]; exact hk57', hr63, by unfold mvF; rw [if_pos hE]; exact hQ1, by unfold mvF; rw [if_pos hE]; exact hQ2, by omega, huA, hmA, hB64⟩
      ·
       rw [hc49] at h48
       have hp65 : ((i : Nat) : Int) < ((l.length : Nat) : Int) := of_decide_eq_true hc49
       clear hc49
       refine co_true h48 rfl ?_
       refine wp_skip ?_
       refine co_then ?_
       refine co_seq ?_
       refine wp_block ?_
       refine dr_gen (fun x => But (fun q => q = d ∨ u.ownBlock = some q) w x) (by kernel_rfl) (fun w66 hg67 => ?_) (fun w66 hg67 => ?_)
       ·
        have hz68 := hg67.size
        have hB69 := fbU_new hB42 hg67
        exact hB69
       have hz70 := hg67.size
       have hB71 := fbU_new hB42 hg67
       refine dk0 0 (v := pt d 0) h48 rfl rfl hB71 fun a72 h72 => ?_; clear h48
       refine dk0 1 (v := v) h72 rfl rfl hB71 fun a73 h73 => ?_; clear h72
       refine dk0 2 (v := .int .i64 ((i : Nat) : Int)) h73 rfl rfl hB71 fun a74 h74 => ?_; clear h73
       obtain ⟨y75, hy75⟩ : ∃ z, l[i]? = some z := ⟨_, List.getElem?_eq_getElem (by first | omega | (simp; done) | (simp; omega))⟩
       refine dk 3 (v := pt (blkOf v) (offOf v + i * 3)) h74 rfl rfl hB71 (fun x hx => (rn_index rfl rfl rfl Try.underlying36 Try.sizeOf74 (sl_butNM hs hx hvS) (by omega) (by first | omega | (simp; done) | (simp; omega)))) fun a76 h76 => ?_; clear h74
       refine dk0 4 (v := pt (blkOf v) (offOf v + i * 3)) h76 rfl rfl hB71 fun a77 h77 => ?_; clear h76
       refine dk 5 (v := .string y75.1) h77 rfl rfl hB71 (fun x hx => (rn_load1 rfl rfl Try.isAgg9 ((sl_at (sl_butNM hs hx hvS) hy75) 0 _ rfl))) fun a78 h78 => ?_; clear h77
       refine dk0 6 (v := .int .u64 ts) h78 rfl rfl hB71 fun a79 h79 => ?_; clear h78
       refine dk0 7 (v := v) h79 rfl rfl hB71 fun a80 h80 => ?_; clear h79
       refine dk0 8 (v := .int .i64 ((i : Nat) : Int)) h80 rfl rfl hB71 fun a81 h81 => ?_; clear h80
       refine dk 9 (v := pt (blkOf v) (offOf v + i * 3)) h81 rfl rfl hB71 (fun x hx => (rn_index rfl rfl rfl Try.underlying36 Try.sizeOf74 (sl_butNM hs hx hvS) (by omega) (by first | omega | (simp; done) | (simp; omega)))) fun a82 h82 => ?_; clear h81
       refine dk0 10 (v := pt (blkOf v) (offOf v + i * 3 + 1)) h82 rfl rfl hB71 fun a83 h83 => ?_; clear h82
       refine dk 11 (v := .string y75.2.1) h83 rfl rfl hB71 (fun x hx => (rn_load1 rfl rfl Try.isAgg9 ((sl_at (sl_butNM hs hx hvS) hy75) 1 _ rfl))) fun a84 h84 => ?_; clear h83
       refine dk0 12 (v := v) h84 rfl rfl hB71 fun a85 h85 => ?_; clear h84
       refine dk0 13 (v := .int .i64 ((i : Nat) : Int)) h85 rfl rfl hB71 fun a86 h86 => ?_; clear h85
       refine dk 14 (v := pt (blkOf v) (offOf v + i * 3)) h86 rfl rfl hB71 (fun x hx => (rn_index rfl rfl rfl Try.underlying36 Try.sizeOf74 (sl_butNM hs hx hvS) (by omega) (by first | omega | (simp; done) | (simp; omega)))) fun a87 h87 => ?_; clear h86
       refine dk0 15 (v := pt (blkOf v) (offOf v + i * 3 + 2)) h87 rfl rfl hB71 fun a88 h88 => ?_; clear h87
       refine dk 16 (v := .bool y75.2.2) h88 rfl rfl hB71 (fun x hx => (rn_load1 rfl rfl Try.isAgg4 ((sl_at (sl_butNM hs hx hvS) hy75) 2 _ rfl))) fun a89 h89 => ?_; clear h88
       refine dk0 17 (v := .agg #[.int .u64 ts, .string y75.2.1, .bool y75.2.2]) h89 rfl rfl hB71 fun a90 h90 => ?_; clear h89
       have hk103 := hf39.kept hg67 (by simp)
       have hr104 := row_kept_new hf40 hg67
       have hE105 := hf41.new hg67
       refine d1 18 h90 rfl rfl (op_call (args := #[pt d 0, .string y75.1, .agg #[.int .u64 ts, .string y75.2.1, .bool y75.2.2]]) (R := fun res xw => ∃ (u' : Value) (M' : List Kv), res = .tuple #[] ∧ Blk xw d 56 #[u', .int .u64 la] ∧ xw.ownsRow 0 106 2 u' M'.length (M'.flatMap rwE) ∧ RwsK xw (upd (putsF f ts (l.take i)) y75.1 ((putsF f ts (l.take i)) y75.1 ++ [(ts, y75.2.1, y75.2.2)])) M' ∧ KOf (M'.map (·.1)) (upd (putsF f ts (l.take i)) y75.1 ((putsF f ts (l.take i)) y75.1 ++ [(ts, y75.2.1, y75.2.2)])) ∧ M'.length ≤ MM.length + 1 ∧ (∀ i, u'.ownBlock = some i → uu.ownBlock = some i ∨ w66.heap.size ≤ i) ∧ (∀ a ∈ M', (∃ b ∈ MM, b.2 = a.2) ∨ ∀ g, (slV a.2).ownBlock = some g → w66.heap.size ≤ g) ∧ But (fun q => q = d ∨ uu.ownBlock = some q) w66 xw) rfl rfl rfl (by kernel_rfl) (by kernel_rfl) (Try.call45 _ _) (lay_blk d uu la MM (putsF f ts (l.take i)) (n + 1) y75.1 (ts, y75.2.1, y75.2.2) w66 hk103 hr104 hE105 hkA hflA (by omega) (by omega)) (by rintro e x ⟨u', M', h0, h⟩; exact ⟨_, h0, u', M', rfl, h⟩)) ?_ ?_; clear h90
       ·
        rintro _ w92 ⟨uu93, M94, rfl, hB95, hR96, hE97, hK98, hLl99, hu100, hm101, hb102⟩
        have hB106 := fbU_foot hB71 hb102 (fun i hi hS => by rcases hS with rfl | hS; exact .inl rfl; rcases huA i hS with q | q; exact .inr q; omega)
        have hz107 := hb102.size
        have hz108 := hB106.size
        exact hB106
       rintro _ w92 a91 ⟨uu93, M94, rfl, hB95, hR96, hE97, hK98, hLl99, hu100, hm101, hb102⟩ h91
       have hB106 := fbU_foot hB71 hb102 (fun i hi hS => by rcases hS with rfl | hS; exact .inl rfl; rcases huA i hS with q | q; exact .inr q; omega)
       have hz107 := hb102.size
       have hz108 := hB106.size
       refine dr_done (by kernel_rfl) ?_
       refine co_blockN ?_
       refine co_then ?_
       refine co_reg ?_
       refine pk0 (v := .int .i64 ((i : Nat) : Int)) h91 rfl fun a109 h109 => ?_; clear h91
       refine pk (v := .int .i64 ((i + 1 : Nat) : Int)) h109 rfl (rn_arith' rfl rfl rfl rfl rfl rfl (IntWalk.i64_in _ (by omega)) (by omega)) fun a110 h110 => ?_; clear h109
       refine pk0 (v := .int .i64 ((i + 1 : Nat) : Int)) h110 rfl fun a111 h111 => ?_; clear h110
       refine pl_nil ?_
       refine co_then ?_
       refine ⟨(l.length - (i + 1)), by omega, ?_⟩
       have hk9 : KOf (M94.map (·.1)) (putsF f ts (l.take (i + 1))) := by rw [mv_take (by assumption)]; exact hK98
       have hu9 : ∀ i, uu93.ownBlock = some i → u.ownBlock = some i ∨ w.heap.size ≤ i := fun i hi => by rcases hu100 i hi with q | q; exact huA i q; exact .inr (by omega)
       have hm9 := from_trans hmA hm101 (by omega)
       exact ⟨i + 1, uu93, M94, h111.sub ⟨rfl, rfl, rfl, rfl, trivial⟩, rfl, by omega, by exact hk9, by omega, by exact hu9, by exact hm9, hB95, (row_eq hR96 (rfl)), (by rw [mv_take (by assumption)]; exact hE97), hB106⟩
   ·
    rw [hc23] at h22
    have hp112 : (chkB 0 1 l) ≠ 0 := by first | simpa using hc23 | simpa [and_assoc] using hc23
    clear hc23
    refine co_true h22 rfl ?_
    refine co_seq ?_
    refine co_reg ?_
    refine pk0 (v := .int .i64 (chkB 0 1 l)) h22 rfl fun a113 h113 => ?_; clear h22
    refine pk0 (v := .int .i64 (chkB 0 1 l)) h113 rfl fun a114 h114 => ?_; clear h113
    refine pl_nil ?_
    refine co_then ?_
    refine wp_ret ?_
    refine co_thenR ?_
    refine co_ret1 h114 rfl rfl ?_
    have hk115 := hB.below hb18
    have hr116 := row_kept_new hR (below_grown hb18)
    have hE117 := hE.new (below_grown hb18)
    have hEv : mvE la ts l = (chkB 0 1 l) := mvE_c (by omega) (by omega)
    have hz9 : ¬ mvE la ts l = 0 := by rw [hEv]; omega
    exact ⟨_, _, by rw [hEv], by unfold mvLa; rw [if_neg hz9]; exact hk115, hr116, by unfold mvF; rw [if_neg hz9]; exact hE117, by unfold mvF; rw [if_neg hz9]; exact hK, by omega, fun i hi => .inl hi, from_self L _, hB24⟩
  ·
   rw [hc12] at h11
   have hp118 : ts ≤ la := of_decide_eq_true hc12
   clear hc12
   refine co_true h11 rfl ?_
   refine co_seq ?_
   refine co_reg ?_
   refine pk0 (v := .int .i64 18) h11 rfl fun a119 h119 => ?_; clear h11
   refine pl_nil ?_
   refine co_then ?_
   refine wp_ret ?_
   refine co_thenR ?_
   refine co_ret1 h119 rfl rfl ?_
   have hEv : mvE la ts l = 18 := mvE_b (by omega) (by omega)
   have hz9 : ¬ mvE la ts l = 0 := by rw [hEv]; omega
   exact ⟨_, _, by rw [hEv], by unfold mvLa; rw [if_neg hz9]; exact hB, hR, by unfold mvF; rw [if_neg hz9]; exact hE, by unfold mvF; rw [if_neg hz9]; exact hK, by omega, fun i hi => .inl hi, from_self L _, hB0⟩
 ·
  rw [hc4] at h3
  have hp120 : ts = 0 := by first | simpa using hc4 | simpa [and_assoc] using hc4
  clear hc4
  refine co_true h3 rfl ?_
  refine co_seq ?_
  refine co_reg ?_
  refine pk0 (v := .int .i64 5) h3 rfl fun a121 h121 => ?_; clear h3
  refine pl_nil ?_
  refine co_then ?_
  refine wp_ret ?_
  refine co_thenR ?_
  refine co_ret1 h121 rfl rfl ?_
  have hEv : mvE la ts l = 5 := mvE_a (by omega)
  have hz9 : ¬ mvE la ts l = 0 := by rw [hEv]; omega
  exact ⟨_, _, by rw [hEv], by unfold mvLa; rw [if_neg hz9]; exact hB, hR, by unfold mvF; rw [if_neg hz9]; exact hE, by unfold mvF; rw [if_neg hz9]; exact hK, by omega, fun i hi => .inl hi, from_self L _, hB0⟩
end Go.Proofs.Ytkjnhghniopnoaa

/- The document's store as an object: Put, Prune, Get, Scan, Cells. Conditions: at most 100 calls, 20 operations each. -/
namespace Go.Proofs.Ytkjnhghniopnoaa
open Go.RowKit Go.PlainAid Go.Shelf
set_option linter.unusedVariables false

/-- How many versions there are. -/
def csK (f : Fv) (K : List ByteArray) : Nat := (K.map fun k => (f k).length).sum
theorem csL_K (f : Fv) (L : List Kv) : csL f L = csK f (L.map (·.1)) := by unfold csL csK; rw [List.map_map]; rfl
/-- A store of the document's; m calls at most so far. -/
def RsO (S : Nat → Prop) (w : World) (d : Nat) (f : Fv) (la : Int) (m : Nat) : Prop :=
  ∃ (u : Value) (L : List Kv), Blk w d 56 #[u, .int .u64 la] ∧ w.ownsRow 0 106 2 u L.length (L.flatMap rwE) ∧ RwsK w f L ∧ KOf (L.map (·.1)) f ∧ FOk f la m ∧ (0 ≤ la ∧ la < 18446744073709551616) ∧ L.length ≤ 20 * m ∧
    S d ∧ (∀ i, u.ownBlock = some i → S i) ∧ (∀ a ∈ L, ∀ g, (slV a.2).ownBlock = some g → S g) ∧ ∀ q, S q → q < w.heap.size
section
variable {S D : Nat → Prop} {w x : World} {d m : Nat} {f : Fv} {la : Int}
theorem RsO.ofS (h : RsO S w d f la m) : ∀ q, S q → q < w.heap.size := by
  obtain ⟨u, L, h1, h2, h3, h4, h5, h6, h7, h8, h9, h10, h11⟩ := h; exact h11
theorem RsO.keep (h : RsO S w d f la m) (hk : ∀ q, S q → x.heap[q]? = w.heap[q]?) (hz : w.heap.size ≤ x.heap.size) : RsO S x d f la m := by
  obtain ⟨u, L, h1, h2, h3, h4, h5, h6, h7, h8, h9, h10, h11⟩ := h
  refine ⟨u, L, ?_, row_sameL h2 (fun i hi => hk i (h9 i hi)), fun a ha => (h3 a ha).keep fun i hi => hk i (h10 a ha i hi), h4, h5, h6, h7, h8, h9, h10, fun q hq => Nat.lt_of_lt_of_le (h11 q hq) hz⟩
  unfold Blk at h1 ⊢
  rw [hk d h8]; exact h1
theorem RsO.gr {row : Option Nat} (h : RsO S w d f la m) (hg : w.grownBy x row) (hr : ∀ k, row = some k → ¬ S k) : RsO S x d f la m :=
  h.keep (fun q hq => hg.block q (h.ofS q hq) (fun e => hr q e.symm hq)) hg.size
theorem RsO.but (h : RsO S w d f la m) (hb : But D w x) (ha : ∀ q, D q → S q → False) : RsO S x d f la m :=
  h.keep (fun q hq => hb.block q (h.ofS q hq) (fun hd => ha q hd hq)) hb.size
theorem RsO.blk (h : RsO S w d f la m) : ∃ u, Blk w d 56 #[u, .int .u64 la] := by obtain ⟨u, L, h1, _⟩ := h; exact ⟨u, h1⟩
theorem RsO.mk0 (hb : Blk w d 56 #[.slice none 0 0, .int .u64 0]) : RsO (fun q => q = d) w d (fun _ => []) 0 0 :=
  ⟨_, [], hb, World.ownsRow_nil _ _ _ _, fun a ha => by simp at ha, ⟨List.Pairwise.nil, by simp⟩, ⟨by simp, fun _ => rfl, fun _ => Int.le_refl _, by simp⟩, ⟨by omega, by omega⟩, Nat.le_refl _, rfl, (fun i hi => by cases hi), (fun a ha => by simp at ha), (fun q hq => by have e : q = d := hq; rw [e]; exact hb.lt)⟩
/-- The footprint behind a call that made new rows of old and new parts. -/
theorem rs_grew {u u' : Value} {L M : List Kv} (hS : ∀ q, S q → q < w.heap.size) (h9 : ∀ i, u.ownBlock = some i → S i) (h10 : ∀ a ∈ L, ∀ g, (slV a.2).ownBlock = some g → S g) (hu : ∀ i, u'.ownBlock = some i → u.ownBlock = some i ∨ w.heap.size ≤ i) (hm : ∀ a ∈ M, (∃ b ∈ L, b.2 = a.2) ∨ ∀ g, (slV a.2).ownBlock = some g → w.heap.size ≤ g) (hb : But S w x) :
    Grew S (fun q => S q ∨ u'.ownBlock = some q ∨ ∃ a ∈ M, (slV a.2).ownBlock = some q) w x := ⟨fun q hq => by
  rcases hq with hq | hq | ⟨a, ha, hq⟩
  · exact .inl hq
  · rcases hu q hq with h | h
    · exact .inl (h9 q h)
    · exact .inr h
  · rcases hm a ha with ⟨b, hb2, e⟩ | h
    · exact .inl (h10 b hb2 q (by rw [e]; exact hq))
    · exact .inr (h q hq), hb⟩
theorem rsPut (w : World) (ts : Int) (v : Value) (l : List OpT) (h : RsO S w d f la m) (hs : SliceOf opE 3 w v l) (hvS : l ≠ [] → ∀ k, v.ownBlock = some k → ¬ S k) (hl : l.length ≤ 20) (hts : 0 ≤ ts ∧ ts < 18446744073709551616) (hm : m ≤ 100) :
    Calls Try.prog 16 #[pt d 0, .int .u64 ts, v] w fun e w' => ∃ S' : Nat → Prop, e = .returned (.int .i64 (mvE la ts l)) ∧ RsO S' w' d (mvF f la ts l) (mvLa la ts l) (m + 1) ∧ Grew S S' w w' := by
  obtain ⟨u, L, h1, h2, h3, h4, h5, h6, h7, h8, h9, h10, h11⟩ := h
  refine (rput_blk d u la L f m ts v l w h1 h2 h3 h4 h5 (by omega) (by omega) hs (fun hn k hk hq => hvS hn k hk (by rcases hq with rfl | hq; exact h8; exact h9 k hq)) hts h6 hl).mono ?_
  rintro e w' ⟨u', M, rfl, k1, k2, k3, k4, k5, k6, k7, k8⟩
  refine ⟨_, rfl, ⟨u', M, k1, k2, k3, k4, h5.mv hts, (mvLa_bd h6 hts).1, by omega, .inl h8, fun i hi => .inr (.inl hi), fun a ha g hg => .inr (.inr ⟨a, ha, hg⟩), fun q hq => ?_⟩, rs_grew h11 h9 h10 k6 k7 (k8.mono fun q _ hq => by rcases hq with rfl | hq; exact h8; exact h9 q hq)⟩
  rcases hq with hq | hq | ⟨a, ha, hq⟩
  · exact Nat.lt_of_lt_of_le (h11 q hq) k8.size
  · exact (k2.lt q hq).2
  · exact ((k3 a ha).lt q hq).2
theorem rsCells (w : World) (h : RsO S w d f la m) (hm : m ≤ 100) :
    Calls Try.prog 23 #[pt d 0] w fun e w' => e = .returned (.int .i64 (csK f (ksOf f) : Nat)) ∧ Below w.heap.size w w' := by
  obtain ⟨u, L, h1, h2, h3, h4, h5, h6, h7, _⟩ := h
  have := rcells_blk d u la L f m w h1 (row_sl h2 rwE_len) h3.ok h4 h5 (by omega) (by omega)
  rw [csL_K, ← ksOf_eq h4] at this
  exact this
end
end Go.Proofs.Ytkjnhghniopnoaa

/- How many versions there are behind Put and Prune. Conditions: none. -/
namespace Go.Proofs.Ytkjnhghniopnoaa
open Go.RowKit Go.PlainAid
set_option linter.unusedVariables false

section
variable {f g : Fv} {h la ts : Int} {K K' : List ByteArray} {k : ByteArray} {l : List CellT} {c : CellT}
theorem up_insY (hK : Kup K) (k : ByteArray) : Kup (insY K k) := by
  have h1 : Srt (K.map fun x => (x, (⟨none, 0, 0⟩ : SlT))) := up_srt.2 (by rw [List.map_map]; exact (List.map_id' K).symm ▸ hK)
  have h2 := up_srt.1 (insL_srt (k := k) (v := (⟨none, 0, 0⟩ : SlT)) h1)
  rw [ins_keys, List.map_map] at h2
  have e : List.map ((fun x : Kv => x.1) ∘ fun x => (x, (⟨none, 0, 0⟩ : SlT))) K = K := List.map_id' K
  rw [e] at h2; exact h2
theorem kof_insY (hK : KOf K f) (k : ByteArray) (hl : l ≠ []) : KOf (insY K k) (upd f k l) := by
  refine ⟨up_insY hK.up k, fun x => ?_⟩
  rw [mem_insY]
  by_cases e : x = k
  · subst e; rw [upd_eq]; exact ⟨fun _ => hl, fun _ => .inl rfl⟩
  · rw [upd_ne e, ← hK.mem x]; exact ⟨fun q => q.resolve_left e, .inr⟩
theorem csK_off {l : List CellT} : ∀ {K : List ByteArray}, k ∉ K → csK (upd f k l) K = csK f K
  | [], _ => rfl
  | a :: r, h => by
    have h1 : a ≠ k := fun e => h (by rw [e]; exact List.mem_cons_self)
    have ih := csK_off (l := l) (K := r) (fun q => h (List.mem_cons_of_mem _ q))
    unfold csK at ih ⊢
    simp only [List.map_cons, List.sum_cons, upd_ne h1, ih]
theorem csK_ins : ∀ {K : List ByteArray}, Kup K → (k ∉ K → f k = []) → csK (upd f k (f k ++ [c])) (insY K k) = csK f K + 1
  | [], _, h0 => by
    have := h0 (by simp)
    unfold csK insY; simp [upd_eq, this]
  | a :: r, hK, h0 => by
    obtain ⟨h1, h2⟩ := List.pairwise_cons.1 hK
    unfold insY
    split
    · rename_i q
      have hn : k ∉ a :: r := fun hm => by
        rcases List.mem_cons.1 hm with e | hm
        · rw [e, klt_irr] at q; cases q
        · have := klt_tr q (h1 k hm); rw [klt_irr] at this; cases this
      have := csK_off (f := f) (l := f k ++ [c]) hn
      have hlen : (upd f k (f k ++ [c]) k).length = 1 := by rw [upd_eq, h0 hn]; rfl
      unfold csK at this ⊢
      simp only [List.map_cons, List.sum_cons] at this ⊢
      omega
    · split
      · rename_i q
        have hne : a ≠ k := klt_ne q
        have ih := csK_ins h2 (fun hm => h0 (fun hq => by rcases List.mem_cons.1 hq with e | hq; exact hne e.symm; exact hm hq))
        unfold csK at ih ⊢
        simp only [List.map_cons, List.sum_cons, upd_ne hne, ih]; omega
      · rename_i q1 q2
        have e := klt_eq (by simpa using q1) (by simpa using q2)
        subst e
        have hn : k ∉ r := fun hm => by have := h1 k hm; rw [klt_irr] at this; cases this
        have := csK_off (f := f) (l := f k ++ [c]) hn
        unfold csK at this ⊢
        simp only [List.map_cons, List.sum_cons, upd_eq] at this ⊢
        simp; omega
theorem cs_putsF (hK : KOf (ksOf f) f) (ts : Int) (l : List OpT) : KOf (ksOf (putsF f ts l)) (putsF f ts l) ∧ csK (putsF f ts l) (ksOf (putsF f ts l)) = csK f (ksOf f) + l.length := by
  induction l using snocRec with
  | nil => exact ⟨hK, rfl⟩
  | append_singleton l o ih =>
    obtain ⟨i1, i2⟩ := ih
    rw [putsF_snoc]
    have h1 := kof_insY (l := putsF f ts l o.1 ++ [(ts, o.2.1, o.2.2)]) i1 o.1 (by simp)
    rw [ksOf_eq h1]
    refine ⟨h1, ?_⟩
    rw [csK_ins i1.up (fun hm => by
      by_cases e : putsF f ts l o.1 = []
      · exact e
      · exact absurd ((i1.mem _).2 e) hm), i2, List.length_append, List.length_singleton]; omega
theorem cs_put (hK : KOf (ksOf f) f) {ce : Int} {l : List OpT} (h : ce = (csK f (ksOf f) : Nat)) : mvCe la ts ce l = (csK (mvF f la ts l) (ksOf (mvF f la ts l)) : Nat) := by
  unfold mvCe mvF
  by_cases hE : mvE la ts l = 0
  · rw [if_pos hE, if_pos hE, (cs_putsF hK ts l).2, h]; simp
  · rw [if_neg hE, if_neg hE]; exact h
end
end Go.Proofs.Ytkjnhghniopnoaa

/- catenalaw16.same; both stores in a walk. Conditions: none. -/
namespace Go.Proofs.Ytkjnhghniopnoaa
open Go.RowKit Go.PlainAid
set_option linter.unusedVariables false
set_option linter.unusedSimpArgs false


section
variable {S D : Nat → Prop} {w : World} {b d m : Nat} {f : Fv} {la ce : Int}
theorem RsO.kof (h : RsO D w d f la m) : KOf (ksOf f) f := by obtain ⟨u, L, h1, h2, h3, h4, _⟩ := h; rw [ksOf_eq h4]; exact h4
theorem RsO.last (h : RsO D w d f la m) : w.cell? ⟨d, 1, none⟩ = some (.int .u64 la) := by obtain ⟨u, hb⟩ := h.blk; exact hb.cell (k := 1) rfl
theorem cs_0 : (0 : Int) = ((csK (fun _ => []) (ksOf (fun _ => [])) : Nat) : Int) := by rw [ksOf_eq (K := []) ⟨List.Pairwise.nil, by simp⟩]; rfl
end


theorem MvO.more {S : Nat → Prop} {w : World} {b m : Nat} {f : Fv} {la ce : Int} (h : MvO S w b f la ce m) : MvO S w b f la ce (m + 1) := by
  obtain ⟨tb, S1, K, h1, h2, h3, h4, h5, h6, h7, h8⟩ := h
  exact ⟨tb, S1, K, h1, h2, h3, h4, h5.mono (Int.le_refl _) (by omega), h6, by omega, by omega⟩
theorem RsO.more {S : Nat → Prop} {w : World} {d m : Nat} {f : Fv} {la : Int} (h : RsO S w d f la m) : RsO S w d f la (m + 1) := by
  obtain ⟨u, L, h1, h2, h3, h4, h5, h6, h7, h8⟩ := h
  exact ⟨u, L, h1, h2, h3, h4, h5.mono (Int.le_refl _) (by omega), h6, by omega, h8⟩

end Go.Proofs.Ytkjnhghniopnoaa

/- What a store comes to by the entries of a right log. Conditions: none. -/
namespace Go.Proofs.Ytkjnhghniopnoaa
open Go.RowKit Go.PlainAid
set_option linter.unusedVariables false
set_option linter.unusedSimpArgs false

noncomputable def fdZ : FdT := (fun _ => [], 0, 0)
theorem fdI_two {x : FdT} {L : List EntT} {a b c : Int} (h0 : 0 ≤ a) (h1 : a ≤ b) (h2 : b ≤ c) (h3 : c ≤ L.length) : fdI (fdI x L a b) L b c = fdI x L a c := by
  unfold fdI
  rw [← List.foldl_append]
  congr 1
  have e1 : L.take c.toNat = L.take b.toNat ++ (L.drop b.toNat).take (c.toNat - b.toNat) := by
    rw [← List.take_add]; congr 1; omega
  have e2 : (L.take c.toNat).drop b.toNat = (L.drop b.toNat).take (c.toNat - b.toNat) := by
    rw [e1, List.drop_append, List.drop_eq_nil_of_le (by rw [List.length_take]; omega), List.length_take, show b.toNat - min b.toNat L.length = 0 from by omega]; rfl
  rw [e2]
  rw [e1, List.drop_append_of_le_length (by rw [List.length_take]; omega)]
theorem fd1_e0 {x : FdT} {e : EntT} : fd1 x (e0 e) = fd1 x e := rfl
theorem fdl_e0 : ∀ (l : List EntT) (x : FdT), (l.map e0).foldl fd1 x = l.foldl fd1 x
  | [], _ => rfl
  | e :: r, x => by show (r.map e0).foldl fd1 (fd1 x (e0 e)) = _; rw [fd1_e0]; exact fdl_e0 r _
theorem fdI_e0 {x : FdT} {L L2 : List EntT} {a z : Int} (h : L2.map e0 = L.map e0) : fdI x L2 a z = fdI x L a z := by
  unfold fdI
  rw [← fdl_e0, ← fdl_e0 (List.drop _ (List.take _ L)), List.map_drop, List.map_take, h, List.map_drop, List.map_take]
/-- What holds behind so many entries. -/
structure FdP (L : List EntT) (z : Nat) (x : FdT) : Prop where
  kof : KOf (ksOf x.1) x.1
  ce : x.2.2 = ((csK x.1 (ksOf x.1) : Nat) : Int)
  n : csK x.1 (ksOf x.1) ≤ 4 * z
  la : (z = 0 ∧ x.2.1 = 0) ∨ ∃ y, 0 < z ∧ L[z - 1]? = some y ∧ x.2.1 = y.ts
  fok : FOk x.1 x.2.1 z
theorem kof_0 : KOf (ksOf (fun _ => [])) (fun _ => []) := by rw [ks_0]; exact ⟨List.Pairwise.nil, by simp⟩
theorem fdP_0 (L : List EntT) : FdP L 0 fdZ := ⟨kof_0, cs_0, by show csK (fun _ => []) (ksOf (fun _ => [])) ≤ _; rw [ks_0]; exact Nat.le_refl _, .inl ⟨rfl, rfl⟩, ⟨by simp [fdZ], fun _ => rfl, fun _ => Int.le_refl _, by simp [fdZ]⟩⟩
theorem FdP.good {L : List EntT} {z : Nat} {x : FdT} {y : EntT} (h : FdP L z x) (hR : RI L) (ht : 0 ≤ y.ts) (hz : z < stN L) (hy : L[z]? = some y) : mvE x.2.1 y.ts y.opl = 0 := by
  have h0 := stN_at hz hy
  have hc := hR.chk y (List.mem_of_getElem? hy)
  have hla : x.2.1 < y.ts := by
    rcases h.la with ⟨rfl, e⟩ | ⟨p, hp, h1, e⟩
    · omega
    · have := hR.up (z - 1) y p (by rw [show z - 1 + 1 = z from by omega]; exact hy) h1 h0
      rw [e]; exact this.2
  rw [mvE_c h0 (by omega)]
  rw [chkB_iff] at hc ⊢
  exact ⟨by omega, by omega, hc.2.2⟩
theorem FdP.step {L : List EntT} {z : Nat} {x : FdT} {y : EntT} (h : FdP L z x) (hR : RI L) (ht : 0 ≤ y.ts ∧ y.ts < 18446744073709551616) (hz : z < stN L) (hy : L[z]? = some y) : FdP L (z + 1) (fd1 x y) := by
  have hE := h.good hR ht.1 hz hy
  have hc := hR.chk y (List.mem_of_getElem? hy)
  have hl := (chkB_ok hc).2.2.1
  obtain ⟨c1, c2⟩ := cs_putsF h.kof y.ts y.opl
  have e1 : mvF x.1 x.2.1 y.ts y.opl = putsF x.1 y.ts y.opl := by unfold mvF; rw [if_pos hE]
  refine ⟨?_, cs_put h.kof h.ce, ?_, .inr ⟨y, by omega, by rw [show z + 1 - 1 = z from by omega]; exact hy, ?_⟩, h.fok.mv ht⟩
  · show KOf (ksOf (mvF x.1 x.2.1 y.ts y.opl)) (mvF x.1 x.2.1 y.ts y.opl)
    rw [e1]; exact c1
  · show csK (mvF x.1 x.2.1 y.ts y.opl) (ksOf (mvF x.1 x.2.1 y.ts y.opl)) ≤ _
    rw [e1, c2]; have := h.n; omega
  · show mvLa x.2.1 y.ts y.opl = y.ts
    unfold mvLa; rw [if_pos hE]
theorem fd_inv {L : List EntT} (hR : RI L) (ht : ∀ e ∈ L, 0 ≤ e.ts ∧ e.ts < 18446744073709551616) : ∀ z : Nat, z ≤ stN L → FdP L z (fdI fdZ L 0 z)
  | 0, _ => by rw [show ((0 : Nat) : Int) = 0 from rfl, fdI_0]; exact fdP_0 L
  | z + 1, h => by
    have hl := stN_le L
    obtain ⟨y, hy⟩ : ∃ y, L[z]? = some y := ⟨_, List.getElem?_eq_getElem (by omega)⟩
    have e : fdI fdZ L 0 ((z + 1 : Nat) : Int) = fd1 (fdI fdZ L 0 z) y := by
      have := fdI_at (x := fdZ) (L := L) (a := 0) (z := (z : Int)) (by omega) (by omega) (by omega)
      rw [atE_y (by omega) (by rw [Int.toNat_natCast]; exact hy)] at this
      exact this
    rw [e]
    exact (fd_inv hR ht z (by omega)).step hR (ht y (List.mem_of_getElem? hy)) (by omega) hy
theorem fdI_y {x : FdT} {L : List EntT} {z : Nat} {y : EntT} (hy : L[z]? = some y) : fdI x L 0 ((z : Int) + 1) = fd1 (fdI x L 0 z) y := by
  have hz := (List.getElem?_eq_some_iff.1 hy).1
  have := fdI_at (x := x) (L := L) (a := 0) (z := (z : Int)) (by omega) (by omega) (by omega)
  rw [atE_y (by omega) (by rw [Int.toNat_natCast]; exact hy)] at this
  exact this
/-- Each key has a cell. -/
theorem ks_cs {f : Fv} (h : KOf (ksOf f) f) : (ksOf f).length ≤ csK f (ksOf f) := by
  have : ∀ K : List ByteArray, (∀ k ∈ K, f k ≠ []) → K.length ≤ csK f K := by
    intro K
    induction K with
    | nil => intro _; exact Nat.le_refl _
    | cons a r ih =>
      intro hm
      have h1 := ih (fun k hk => hm k (List.mem_cons_of_mem _ hk))
      have h2 : 0 < (f a).length := List.length_pos_iff.2 (hm a List.mem_cons_self)
      unfold csK at h1 ⊢
      simp only [List.map_cons, List.sum_cons, List.length_cons]
      omega
  exact this _ (fun k hk => (h.mem k).1 hk)
theorem FdP.hits {L : List EntT} {z : Nat} {x : FdT} {t : Int} {F T : ByteArray} (h : FdP L z x) : (hitsF x.1 t F T).length ≤ 4 * z := by
  have h1 := hits_len (f := x.1) (t := t) (F := F) (T := T); have h2 := ks_cs h.kof; have h3 := h.n; omega
theorem RsO.fok {S : Nat → Prop} {w : World} {d m : Nat} {f : Fv} {la : Int} (h : RsO S w d f la m) : FOk f la m := by obtain ⟨u, L, h1, h2, h3, h4, h5, _⟩ := h; exact h5
end Go.Proofs.Ytkjnhghniopnoaa

/- Package rstate: a state and a store: Feed, All; a list of entries as an object. Conditions: none. -/
namespace Go.Proofs.Ytkjnhghniopnoaa
open Go.RowKit Go.PlainAid
set_option linter.unusedVariables false
set_option linter.unusedSimpArgs false

section
variable {S D A : Nat → Prop} {w x : World} {b m n d : Nat} {L : List EntT} {ep hz la ce : Int} {f : Fv}
theorem StO.len (h : StO S w b L ep hz) : L.length ≤ 100 := by
  obtain ⟨_, _, _, _, _, _, _, _, ⟨_, _, _, h3⟩, _⟩ := h; exact h3.len
theorem TwS.ri (h : TwS S w b m L ep hz f la ce n) : RI L := by obtain ⟨_, _, h1, _⟩ := h; exact h1.ri
theorem TwS.len (h : TwS S w b m L ep hz f la ce n) : L.length ≤ 100 := by obtain ⟨_, _, h1, _⟩ := h; exact h1.len
theorem twFeed (w : World) (i j : Int) (h : TwS S w b m L ep hz f la ce n) (hn : (n : Int) + stN L - mxI i 0 ≤ 100) :
    Calls Try.prog 15 #[pt b 0, pt m 0, .int .i64 i, .int .i64 j] w fun e w' => ∃ (r : Nat) (S' : Nat → Prop), e = .returned (.int .i64 (mxI (mxI i 0) (mnI j ((stN L : Nat) : Int)))) ∧
      TwS S' w' b m L ep hz (fdI (f, la, ce) L (mxI i 0) (mxI (mxI i 0) (mnI j ((stN L : Nat) : Int)))).1 (fdI (f, la, ce) L (mxI i 0) (mxI (mxI i 0) (mnI j ((stN L : Nat) : Int)))).2.1 (fdI (f, la, ce) L (mxI i 0) (mxI (mxI i 0) (mnI j ((stN L : Nat) : Int)))).2.2 (n + r) ∧
      mxI (mxI i 0) (mnI j ((stN L : Nat) : Int)) = mxI i 0 + r ∧ Grew S S' w w' := by
  have hlen := h.len
  obtain ⟨A0, D, ⟨q, g, A, cv, ms, fl, h1, h2, h3, h4, h5, h6, h7, h8, h9, h10, h11⟩, i2, i3, i4⟩ := h
  have dA : ∀ k, A k → D k → False := fun k ha hd => i3 k ((h11 k).2 (.inr (.inr (.inl ha)))) hd
  have dv : ∀ k, cv.ownBlock = some k → ¬ D k := fun k ha hd => i3 k ((h11 k).2 (.inr (.inr (.inr ha)))) hd
  have db : ¬ D b := fun hd => i3 b ((h11 b).2 (.inl rfl)) hd
  have dq : ¬ D q := fun hd => i3 q ((h11 q).2 (.inr (.inl rfl))) hd
  refine (rsFeed_blk b q g A L ep cv fl hz m D f la ce n i j w h1 h2 h3 h7 h8 i2 dA db dq hn hlen).mono ?_
  rintro e x ⟨r, A', D', rfl, k1, k2, k3, k4, k5, kr, k6⟩
  have hn : ∀ k, k < w.heap.size → ¬ A k → ¬ A' k := fun k hk hA hj => by
    rcases k3 k hj with e | e
    · exact hA e
    · omega
  have hd : ∀ k, k < w.heap.size → ¬ D k → ¬ D' k := fun k hk hA hj => by
    rcases k4 k hj with e | e
    · exact hA e
    · omega
  refine ⟨r, fun k => (k = b ∨ k = q ∨ A' k ∨ cv.ownBlock = some k) ∨ D' k, rfl, ⟨fun k => k = b ∨ k = q ∨ A' k ∨ cv.ownBlock = some k, D', ⟨q, g, A', cv, ms, fl, h1.butS k6 (by rintro (e | e); exact h7 e; exact db e), h2.butS k6 (by rintro (e | e); exact h8 e; exact dq e), k1, own_butS h4 k6 (fun i hi => by rintro (e | e); exact h6 i hi e; exact dv i hi e), h5, fun i hi => hn i (h4.lt i hi).2 (h6 i hi), hn b h1.lt h7, hn q h2.lt h8, h9, h10, fun k => Iff.rfl⟩, k2, ?_, fun k => Iff.rfl⟩, kr, fun k hk => ?_, k6.mono fun k _ hk => (i4 k).2 (hk.imp (fun j => (h11 k).2 (.inr (.inr (.inl j)))) id)⟩
  · rintro k (rfl | rfl | hk | hk) hD
    · exact hd _ h1.lt db hD
    · exact hd _ h2.lt dq hD
    · exact k5 k hk hD
    · exact hd k (h4.lt k hk).2 (dv k hk) hD
  · rcases hk with (rfl | rfl | hk | hk) | hk
    · exact .inl ((i4 _).2 (.inl ((h11 _).2 (.inl rfl))))
    · exact .inl ((i4 _).2 (.inl ((h11 _).2 (.inr (.inl rfl)))))
    · rcases k3 k hk with e | e
      · exact .inl ((i4 k).2 (.inl ((h11 k).2 (.inr (.inr (.inl e))))))
      · exact .inr e
    · exact .inl ((i4 k).2 (.inl ((h11 k).2 (.inr (.inr (.inr hk))))))
    · rcases k4 k hk with e | e
      · exact .inl ((i4 k).2 (.inr e))
      · exact .inr e
theorem sl_keep {α : Type} {enc : α → List Value} {sz : Nat} {w x : World} {v : Value} {l : List α} (h : SliceOf enc sz w v l) (hv : ∀ k, v.ownBlock = some k → x.heap[k]? = w.heap[k]?) : SliceOf enc sz x v l := by
  obtain ⟨ao, cap, rfl, h1, h2, h3, h4⟩ := h
  refine ⟨ao, cap, rfl, h1, h2, h3, fun j hj => ?_⟩
  obtain ⟨b, off, e, hr⟩ := h4 j hj
  subst e
  exact ⟨b, off, rfl, fun i u hu => (World.cell?_of_block (w := w) (hv b rfl)).trans (hr i u hu)⟩
/-- A list of entries, whose blocks lie in S. -/
def SlY (S : Nat → Prop) (w : World) (v : Value) (l : List EntT) : Prop :=
  (SliceOf entE 4 w v l ∧ ∀ z ∈ l, EntOk w z) ∧ (∀ z ∈ l, z.opl.length ≤ 20) ∧ (∀ i, v.ownBlock = some i → S i) ∧ (∀ z ∈ l, ∀ i, z.ops.ownBlock = some i → S i) ∧ ∀ q, S q → q < w.heap.size
variable {v : Value} {l : List EntT}
theorem SlY.ofS (h : SlY S w v l) : ∀ q, S q → q < w.heap.size := h.2.2.2.2
theorem SlY.keep (h : SlY S w v l) (hk : ∀ q, S q → x.heap[q]? = w.heap[q]?) (hz : w.heap.size ≤ x.heap.size) : SlY S x v l := by
  obtain ⟨⟨h1, h2⟩, h3, h4, h5, h6⟩ := h
  exact ⟨⟨sl_keep h1 fun k e => hk k (h4 k e), fun z hm => ⟨sl_keep (h2 z hm).ops fun k e => hk k (h5 z hm k e), (h2 z hm).each, (h2 z hm).ts0, (h2 z hm).ts1, (h2 z hm).cl, (h2 z hm).rq⟩⟩, h3, h4, h5, fun q hq => Nat.lt_of_lt_of_le (h6 q hq) hz⟩
theorem SlY.below (h : SlY S w v l) (hb : Below w.heap.size w x) : SlY S x v l := h.keep (fun q hq => hb.block q (h.ofS q hq)) hb.size
theorem SlY.new (h : SlY S w v l) (hg : w.grownBy x none) : SlY S x v l := h.keep (fun q hq => hg.block q (h.ofS q hq) (fun e => by cases e)) hg.size
theorem SlY.but (h : SlY S w v l) (hb : But D w x) (ha : ∀ q, S q → D q → False) : SlY S x v l := h.keep (fun q hq => hb.block q (h.ofS q hq) (fun hd => ha q hq hd)) hb.size
theorem SlY.one (h : SlY S w v l) {k : Nat} {y : EntT} (hy : l[k]? = some y) : SliceOf opE 3 w y.ops y.opl ∧ y.opl.length ≤ 20 ∧ 0 ≤ y.ts ∧ y.ts < 18446744073709551616 ∧ ∀ i, y.ops.ownBlock = some i → S i :=
  have hm := List.mem_of_getElem? hy
  ⟨(h.1.2 y hm).ops, h.2.1 y hm, (h.1.2 y hm).ts0, (h.1.2 y hm).ts1, h.2.2.2.1 y hm⟩
theorem slY_mk {w1 : World} {u : Value} (hr : w.ownsRow w1.heap.size 40 4 u l.length (l.flatMap entE)) (he : EntsK (fun _ => False) w1.heap.size w l) :
    ∃ S : Nat → Prop, SlY S w u l ∧ ∀ q, S q → w1.heap.size ≤ q := by
  refine ⟨fun q => u.ownBlock = some q ∨ ∃ z ∈ l, z.ops.ownBlock = some q, ⟨⟨row_sl hr entE_len, entsK_got he⟩, fun z hz => (he z hz).len, fun i hi => .inl hi, fun z hz i hi => .inr ⟨z, hz, hi⟩, ?_⟩, ?_⟩
  · rintro q (hq | ⟨z, hz, hq⟩)
    · exact (hr.lt q hq).2
    · exact ((he z hz).row.lt q hq).2
  · rintro q (hq | ⟨z, hz, hq⟩)
    · exact (hr.lt q hq).1
    · rcases (he z hz).ins q hq with e | e
      · exact e.elim
      · exact e
theorem twAll (w : World) (h : TwS S w b m L ep hz f la ce n) : Calls Try.prog 13 #[pt b 0] w fun e w' => ∃ (L2 : List EntT) (u2 : Value) (S' : Nat → Prop), e = .returned u2 ∧ TwS S' w' b m L ep hz f la ce n ∧ w'.ownsRow w.heap.size 40 4 u2 L2.length (L2.flatMap entE) ∧ EntsK (fun _ => False) w.heap.size w' L2 ∧ L2.map e0 = L.map e0 ∧ Grew S S' w w' := by
  obtain ⟨A, D, h1, h2, h3, h4⟩ := h
  refine (stAll w h1).mono ?_
  rintro e x ⟨L2, u2, A', rfl, k1, j1, j2, j3, g⟩
  obtain ⟨S', q1, q2⟩ := TwS.re h2 h3 h4 k1 g
  exact ⟨L2, u2, S', rfl, q1, j1, j2, j3, q2⟩
theorem TwS.mv (h : TwS S w b m L ep hz f la ce n) : ∃ D, MvO D w m f la ce n := by obtain ⟨A, D, h1, h2, _⟩ := h; exact ⟨D, h2⟩
end
end Go.Proofs.Ytkjnhghniopnoaa

/- catenalaw30: awake. Conditions: none. -/
namespace Go.Proofs.Ytkjnhghniopnoaa
open Go.RowKit Go.PlainAid
set_option linter.unusedVariables false
set_option linter.unusedSimpArgs false


def dPut : NoteD := ⟨2, 0, 0, 0, [], 0, [], 0, 1, [opA], 0, 0, 0, 0, 0, 0, 0, 0⟩
def dSta : NoteD := ⟨3, 0, 5, 0, [], 0, [], 0, 0, [], 0, 0, 0, 0, 0, 0, 0, 0⟩
def dLeg : NoteD := ⟨5, 0, 0, 0, [], 0, [], 0, 0, [], 0, 0, 0, 0, 0, 0, 0, 0⟩
theorem d3_R (d : NoteD) (h : d = dPut ∨ d = dSta ∨ d = dLeg) : NoteR d := by
  rcases h with rfl | rfl | rfl <;> exact ⟨(fun m hm => by cases hm), by decide⟩
theorem rw_ok : chkB 0 1 [opA] = 0 := by rfl
theorem c_put : chkN dPut = 0 := by rw [chkN_2 rfl]; exact rw_ok
theorem c_sta : chkN dSta = 0 := by rw [chkN_3 (.inl rfl)]; rfl
theorem c_leg : chkN dLeg = 0 := by rw [chkN_3 (.inr (.inr (.inl rfl)))]; rfl
theorem awA1 {r ep' hz' : Int} {L' : List EntT} (h : ApR dPut 0 0 [] r ep' hz' L') : r = 0 ∧ ep' = 0 ∧ hz' = 0 ∧ ∃ v, L' = [enA v 0] := by
  rcases h with ⟨_, _, h1, h2, h3, h4⟩ | ⟨_, h, _⟩ | ⟨_, h, _⟩ | ⟨_, h, _⟩ | ⟨h, _⟩
  · refine ⟨h1.trans (by rfl), h3, h4, ?_⟩
    rcases h2 with ⟨h, _⟩ | ⟨_, ⟨h, _⟩ | ⟨_, v, h⟩⟩
    · exact absurd (by rfl) h
    · cases h
    · exact ⟨v, h⟩
  · exact absurd h (by decide)
  · exact absurd h (by decide)
  · exact absurd h (by decide)
  · rcases h with ⟨h, _⟩ | ⟨_, h, _⟩ | ⟨_, _, h, _⟩
    · exact absurd c_put h
    · rcases h with ⟨h, _⟩ | ⟨h, _⟩ <;> exact absurd h (by decide)
    · exact absurd rfl h
theorem awA2 {v : Value} {r ep' hz' : Int} {L' : List EntT} (h : ApR dSta 0 0 [enA v 0] r ep' hz' L') : r = 0 ∧ ep' = 0 ∧ hz' = 0 ∧ L' = [enA v 5] := by
  rcases h with ⟨_, h, _⟩ | ⟨_, _, h1, h2, h3, h4⟩ | ⟨_, h, _⟩ | ⟨_, h, _⟩ | ⟨h, _⟩
  · exact absurd h (by decide)
  · exact ⟨h1.trans (by rfl), h3, h4, h2.trans (by rfl)⟩
  · exact absurd h (by decide)
  · exact absurd h (by decide)
  · rcases h with ⟨h, _⟩ | ⟨_, h, _⟩ | ⟨_, _, _, h, _⟩
    · exact absurd c_sta h
    · rcases h with ⟨h, _⟩ | ⟨h, _⟩ <;> exact absurd h (by decide)
    · exact absurd rfl h
theorem awA3 {v : Value} {r ep' hz' : Int} {L' : List EntT} (h : ApR dLeg 0 0 [enA v 5] r ep' hz' L') : r = 11 ∧ ep' = 0 ∧ hz' = 0 ∧ L' = [enA v 5] := by
  rcases h with ⟨_, h, _⟩ | ⟨_, h, _⟩ | ⟨_, h, _⟩ | ⟨_, h, _⟩ | ⟨h, h2, h3, h4⟩
  · exact absurd h (by decide)
  · exact absurd h (by decide)
  · exact absurd h (by decide)
  · exact absurd h (by decide)
  · rcases h with ⟨h, _⟩ | ⟨_, h, _⟩ | ⟨_, _, _, _, _, h⟩
    · exact absurd c_leg h
    · rcases h with ⟨h, _⟩ | ⟨h, _⟩ <;> exact absurd h (by decide)
    · exact ⟨h, h3, h4, h2⟩
section
variable {S : Nat → Prop} {b m n : Nat} {la ce : Int} {f : Fv}
theorem awAp1 (w : World) (ev : Value) (h : StO S w b [] 0 0) (he : SliceOf opE 3 w ev [opA]) (ho : [opA] ≠ [] → ∀ k, ev.ownBlock = some k → ¬ S k) :
    Calls Try.prog 11 #[pt b 0, .agg #[.int .i64 2, .int .i64 0, .int .u64 0, .int .i64 0, .slice none 0 0, .int .u64 0, .slice none 0 0, .int .i64 0, .int .i64 1, ev, .int .u64 0, .int .i64 0, .int .u64 0, .int .i64 0, .int .i64 0, .int .i64 0, .int .i64 0, .int .i64 0]] w fun e w' => ∃ (v : Value) (S' : Nat → Prop), e = .returned (.int .i64 0) ∧ StO S' w' b [enA v 0] 0 0 ∧ Grew S S' w w' := by
  refine (stApply w dPut (.slice none 0 0) (.slice none 0 0) ev h (sl_nil _) (sl_nil _) he (d3_R _ (.inl rfl)) (fun h => absurd rfl h) (fun h => absurd rfl h) ho).mono ?_
  rintro e x ⟨r, L', ep', hz', S', rfl, k1, k2, g⟩
  obtain ⟨rfl, rfl, rfl, v, rfl⟩ := awA1 k2
  exact ⟨v, S', rfl, k1, g⟩
theorem awAp2 (w : World) (v : Value) (h : StO S w b [enA v 0] 0 0) :
    Calls Try.prog 11 #[pt b 0, .agg #[.int .i64 3, .int .i64 0, .int .u64 5, .int .i64 0, .slice none 0 0, .int .u64 0, .slice none 0 0, .int .i64 0, .int .i64 0, .slice none 0 0, .int .u64 0, .int .i64 0, .int .u64 0, .int .i64 0, .int .i64 0, .int .i64 0, .int .i64 0, .int .i64 0]] w fun e w' => ∃ (S' : Nat → Prop), e = .returned (.int .i64 0) ∧ StO S' w' b [enA v 5] 0 0 ∧ Grew S S' w w' := by
  refine (stApply w dSta (.slice none 0 0) (.slice none 0 0) (.slice none 0 0) h (sl_nil _) (sl_nil _) (sl_nil _) (d3_R _ (.inr (.inl rfl))) (fun h => absurd rfl h) (fun h => absurd rfl h) (fun h => absurd rfl h)).mono ?_
  rintro e x ⟨r, L', ep', hz', S', rfl, k1, k2, g⟩
  obtain ⟨rfl, rfl, rfl, rfl⟩ := awA2 k2
  exact ⟨S', rfl, k1, g⟩
theorem awAp3 (w : World) (v : Value) (h : TwS S w b m [enA v 5] 0 0 f la ce n) :
    Calls Try.prog 11 #[pt b 0, .agg #[.int .i64 5, .int .i64 0, .int .u64 0, .int .i64 0, .slice none 0 0, .int .u64 0, .slice none 0 0, .int .i64 0, .int .i64 0, .slice none 0 0, .int .u64 0, .int .i64 0, .int .u64 0, .int .i64 0, .int .i64 0, .int .i64 0, .int .i64 0, .int .i64 0]] w fun e w' => ∃ (S' : Nat → Prop), e = .returned (.int .i64 11) ∧ TwS S' w' b m [enA v 5] 0 0 f la ce n ∧ Grew S S' w w' := by
  refine (twApply w dLeg (.slice none 0 0) (.slice none 0 0) (.slice none 0 0) h (sl_nil _) (sl_nil _) (sl_nil _) (d3_R _ (.inr (.inr rfl))) (fun h => absurd rfl h) (fun h => absurd rfl h) (fun h => absurd rfl h)).mono ?_
  rintro e x ⟨r, L', ep', hz', S', rfl, k1, k2, g⟩
  obtain ⟨rfl, rfl, rfl, rfl⟩ := awA3 k2
  exact ⟨S', rfl, k1, g⟩
end
theorem rw_e : mvE 0 5 [opA] = 0 := by rw [mvE_c (by decide) (by decide), rw_ok]
theorem rw_get : atS (mvF (fun _ => []) 0 5 [opA] ⟨#[97]⟩) 5 = (⟨#[49]⟩, true) := by
  have e1 : mvF (fun _ => []) 0 5 [opA] ⟨#[97]⟩ = [(5, ⟨#[49]⟩, false)] := by
    unfold mvF; rw [if_pos rw_e]
    have e : putsF (fun _ => []) 5 [opA] = upd (fun _ => []) ⟨#[97]⟩ ([] ++ [(5, ⟨#[49]⟩, false)]) := rfl
    rw [e, upd_eq]; rfl
  rw [e1]; rfl

set_option maxRecDepth 100000 in
set_option maxHeartbeats 1600000 in
theorem awake30  (w : World)  :
    Calls Try.prog 7 #[] w fun e w' => e = .returned (.bool true) ∧ Below w.heap.size w w' := by
 have hB0 := Below.refl w.heap.size w
 refine co_enter (n := 56) Try.func7 rfl rfl rfl [] rfl (fun a h0 => ?_)
 refine co_seq ?_
 refine co_reg ?_
 refine pk0 (v := .bool false) h0 rfl fun a1 h1 => ?_; clear h0
 refine pl_nil ?_
 refine co_then ?_
 refine co_seq ?_
 refine co_reg ?_
 refine pw h1 rfl (op_call (args := #[]) (R := fun res xw => ∃ N S, res = pt N 0 ∧ StO S xw N [] 0 0 ∧ (∀ q, S q → w.heap.size ≤ q) ∧ Below w.heap.size w xw) rfl rfl rfl (by kernel_rfl) (by kernel_rfl) (Try.call8 _ _) (stNew w) (by rintro e x ⟨N, S, rfl, h⟩; exact ⟨_, rfl, N, S, rfl, h⟩)) ?_; clear h1
 rintro _ w3 a2 ⟨N4, S5, rfl, hO6, hlo7, hb8⟩ h2
 have hz9 := hb8.size
 have hlo10 : ∀ q, S5 q → w.heap.size ≤ q := fun q hq => by have := hlo7 q hq; omega
 refine pk0 (v := pt N4 0) h2 rfl fun a11 h11 => ?_; clear h2
 refine pl_nil ?_
 refine co_then ?_
 refine co_seq ?_
 refine co_reg ?_
 refine pk0 (v := pt N4 0) h11 rfl fun a12 h12 => ?_; clear h11
 refine pk0 (v := .agg #[.string (⟨#[97]⟩), .string (⟨#[49]⟩), .bool false]) h12 rfl fun a13 h13 => ?_; clear h12
 refine pw h13 rfl (op_new (v := fun N => .slice (some ⟨N, 0, none⟩) 1 1) (T := 74) (cs := #[.string (⟨#[97]⟩), .string (⟨#[49]⟩), .bool false]) (by kernel_rfl) (by kernel_rfl) (by kernel_rfl)) ?_; clear h13
 rintro _ w15 a14 ⟨N16, rfl, hN19, hz20, hk18, hg17⟩ h14
 have hz21 := hg17.size
 have ho22 := off_new (StO.ofS hO6) hN19
 try dsimp only at h14
 refine pk0 (v := .agg #[.int .i64 0, .int .i64 1, .slice (some ⟨N16, 0, none⟩) 1 1]) h14 rfl fun a23 h23 => ?_; clear h14
 refine pk0 (v := .agg #[.int .i64 0, .int .i64 1, .slice (some ⟨N16, 0, none⟩) 1 1, .int .u64 0]) h23 rfl fun a24 h24 => ?_; clear h23
 refine pk0 (v := .agg #[.int .i64 2, .int .i64 0, .int .u64 0, .int .i64 0, .slice none 0 0, .int .u64 0, .slice none 0 0, .int .i64 0, .int .i64 1, .slice (some ⟨N16, 0, none⟩) 1 1, .int .u64 0, .int .i64 0, .int .u64 0, .int .i64 0, .int .i64 0, .int .i64 0, .int .i64 0, .int .i64 0]) h24 rfl fun a25 h25 => ?_; clear h24
 have hB28 := hb_call hB0 hb8
 have hB29 := hb_new hB28 hg17
 have hO31 := StO.gr hO6 hg17 (fun k e => by cases e)
 have ho30 := StO.ofS hO31
 have hr32 := row_of_cells (enc := opE) (sz := 3) ([(⟨#[97]⟩, ⟨#[49]⟩, false)] : List OpT) hk18 (Nat.le_refl _) rfl rfl (by unfold maxLen; simp)
 refine pw h25 rfl (op_call (args := #[pt N4 0, .agg #[.int .i64 2, .int .i64 0, .int .u64 0, .int .i64 0, .slice none 0 0, .int .u64 0, .slice none 0 0, .int .i64 0, .int .i64 1, .slice (some ⟨N16, 0, none⟩) 1 1, .int .u64 0, .int .i64 0, .int .u64 0, .int .i64 0, .int .i64 0, .int .i64 0, .int .i64 0, .int .i64 0]]) (R := fun res xw => ∃ v : Value, ∃ S' : Nat → Prop, res = .int .i64 0 ∧ StO S' xw N4 [enA v 0] 0 0 ∧ Grew S5 S' w15 xw) rfl rfl rfl (by kernel_rfl) (by kernel_rfl) (Try.call11 _ _) (awAp1 w15 (.slice (some ⟨N16, 0, none⟩) 1 1) hO31 (row_sl hr32 opE_len) (fun _ => (fun k hk => by cases hk; exact ho22))) (by rintro e x ⟨v, S', h0, h⟩; exact ⟨_, h0, v, S', rfl, h⟩)) ?_; clear h25
 rintro _ w27 a26 ⟨v33, S34, rfl, hO35, hx36⟩ h26
 have hlo38 : ∀ q, S34 q → w.heap.size ≤ q := hx36.lo hlo10 (by omega)
 have hB37 := hbL hB29 hlo10 hx36.but
 have hz39 := hB37.size
 have hz40 := hx36.but.size
 refine pk0 (v := .int .i64 0) h26 rfl fun a41 h41 => ?_; clear h26
 refine pl_nil ?_
 refine co_then ?_
 refine co_seq ?_
 refine co_reg ?_
 refine pk0 (v := pt N4 0) h41 rfl fun a42 h42 => ?_; clear h41
 refine pk0 (v := .agg #[.int .i64 3, .int .i64 0, .int .u64 5, .int .i64 0, .slice none 0 0, .int .u64 0, .slice none 0 0, .int .i64 0, .int .i64 0, .slice none 0 0, .int .u64 0, .int .i64 0, .int .u64 0, .int .i64 0, .int .i64 0, .int .i64 0, .int .i64 0, .int .i64 0]) h42 rfl fun a43 h43 => ?_; clear h42
 have ho46 := StO.ofS hO35
 refine pw h43 rfl (op_call (args := #[pt N4 0, .agg #[.int .i64 3, .int .i64 0, .int .u64 5, .int .i64 0, .slice none 0 0, .int .u64 0, .slice none 0 0, .int .i64 0, .int .i64 0, .slice none 0 0, .int .u64 0, .int .i64 0, .int .u64 0, .int .i64 0, .int .i64 0, .int .i64 0, .int .i64 0, .int .i64 0]]) (R := fun res xw => ∃ S' : Nat → Prop, res = .int .i64 0 ∧ StO S' xw N4 [enA v33 5] 0 0 ∧ Grew S34 S' w27 xw) rfl rfl rfl (by kernel_rfl) (by kernel_rfl) (Try.call11 _ _) (awAp2 w27 v33 hO35) (by rintro e x ⟨S', h0, h⟩; exact ⟨_, h0, S', rfl, h⟩)) ?_; clear h43
 rintro _ w45 a44 ⟨S47, rfl, hO48, hx49⟩ h44
 have hr50 := own_butS hr32 hx36.but (fun k hk => by cases hk; exact ho22)
 have hlo52 : ∀ q, S47 q → w.heap.size ≤ q := hx49.lo hlo38 (by omega)
 have hB51 := hbL hB37 hlo38 hx49.but
 have hz53 := hB51.size
 have hz54 := hx49.but.size
 refine pk0 (v := .int .i64 0) h44 rfl fun a55 h55 => ?_; clear h44
 refine pl_nil ?_
 refine co_then ?_
 refine co_seq ?_
 refine co_reg ?_
 refine pw h55 rfl (op_call (args := #[]) (R := fun res xw => ∃ N : Nat, ∃ S' : Nat → Prop, res = pt N 0 ∧ TwS S' xw N4 N [enA v33 5] 0 0 (fun _ => []) 0 0 0 ∧ Grew S47 S' w45 xw) rfl rfl rfl (by kernel_rfl) (by kernel_rfl) (Try.call14 _ _) (twNew w45 hO48) (by rintro e x ⟨N, S', h0, h⟩; exact ⟨_, h0, N, S', rfl, h⟩)) ?_; clear h55
 rintro _ w57 a56 ⟨N58, S59, rfl, hO60, hx61⟩ h56
 have hr62 := own_butS hr50 hx49.but (Grew.offR hx36 hr32 (fun k hk => by cases hk; exact ho22))
 have hlo64 : ∀ q, S59 q → w.heap.size ≤ q := hx61.lo hlo52 (by omega)
 have hB63 := hbL hB51 hlo52 hx61.but
 have hz65 := hB63.size
 have hz66 := hx61.but.size
 refine pk0 (v := pt N58 0) h56 rfl fun a67 h67 => ?_; clear h56
 refine pl_nil ?_
 refine co_then ?_
 refine co_seq ?_
 refine co_reg ?_
 refine pk0 (v := pt N4 0) h67 rfl fun a68 h68 => ?_; clear h67
 refine pk0 (v := pt N58 0) h68 rfl fun a69 h69 => ?_; clear h68
 refine pw h69 rfl (op_call (args := #[pt N4 0, pt N58 0, .int .i64 0, .int .i64 9]) (R := fun res xw => ∃ S' : Nat → Prop, res = .int .i64 1 ∧ TwS S' xw N4 N58 [enA v33 5] 0 0 (mvF (fun _ => []) 0 5 [opA]) (mvLa 0 5 [opA]) (mvCe 0 5 0 [opA]) 1 ∧ Grew S59 S' w57 xw) rfl rfl rfl (by kernel_rfl) (by kernel_rfl) (Try.call15 _ _) (twFeed1 w57 v33 hO60) (by rintro e x ⟨S', h0, h⟩; exact ⟨_, h0, S', rfl, h⟩)) ?_; clear h69
 rintro _ w71 a70 ⟨S72, rfl, hO73, hx74⟩ h70
 have hr75 := own_butS hr62 hx61.but (Grew.offR hx49 hr50 (Grew.offR hx36 hr32 (fun k hk => by cases hk; exact ho22)))
 have hlo77 : ∀ q, S72 q → w.heap.size ≤ q := hx74.lo hlo64 (by omega)
 have hB76 := hbL hB63 hlo64 hx74.but
 have hz78 := hB76.size
 have hz79 := hx74.but.size
 refine pk0 (v := .int .i64 1) h70 rfl fun a80 h80 => ?_; clear h70
 refine pl_nil ?_
 refine co_then ?_
 refine co_seq ?_
 refine co_reg ?_
 refine pk0 (v := pt N58 0) h80 rfl fun a81 h81 => ?_; clear h80
 refine pw h81 rfl (op_call (args := #[pt N58 0, .string (⟨#[97]⟩), .int .u64 5]) (R := fun res xw => res = .tuple #[.string (⟨#[49]⟩), .bool true] ∧ Below w71.heap.size w71 xw) rfl rfl rfl (by kernel_rfl) (by kernel_rfl) (Try.call28 _ _) (twGet w71 (⟨#[97]⟩) 5 hO73) (by rintro e x ⟨rfl, h⟩; rw [rw_get]; exact ⟨_, rfl, rfl, h⟩)) ?_; clear h81
 rintro _ w83 a82 ⟨rfl, hb84⟩ h82
 have hz85 := hb84.size
 have ho86 := TwS.ofS hO73
 refine pk0 (v := .tuple #[.string (⟨#[49]⟩), .bool true]) h82 rfl fun a87 h87 => ?_; clear h82
 refine pk0 (v := .string (⟨#[49]⟩)) h87 rfl fun a88 h88 => ?_; clear h87
 refine pk0 (v := .bool true) h88 rfl fun a89 h89 => ?_; clear h88
 refine pk0 (v := .string (⟨#[49]⟩)) h89 rfl fun a90 h90 => ?_; clear h89
 refine pk0 (v := .bool true) h90 rfl fun a91 h91 => ?_; clear h90
 refine pl_nil ?_
 refine co_then ?_
 refine co_seq ?_
 refine co_reg ?_
 refine pk0 (v := .int .i64 0) h91 rfl fun a92 h92 => ?_; clear h91
 refine pk0 (v := .bool ((0 : Int) == 0)) h92 rfl fun a93 h93 => ?_; clear h92
 refine pk0 (v := .bool ((0 : Int) == 0)) h93 rfl fun a94 h94 => ?_; clear h93
 have hc95 : ((0 : Int) == 0) = true := by first | (simp; done) | (simp; omega) | exact beq_false_of_ne (by omega) | exact beq_iff_eq.2 (by omega)
 rw [hc95] at h94; clear hc95
 refine pk0 (v := .int .i64 0) h94 rfl fun a96 h96 => ?_; clear h94
 refine pk0 (v := .bool ((0 : Int) == 0)) h96 rfl fun a97 h97 => ?_; clear h96
 refine pk0 (v := .bool ((0 : Int) == 0)) h97 rfl fun a98 h98 => ?_; clear h97
 refine pk0 (v := .bool ((0 : Int) == 0)) h98 rfl fun a99 h99 => ?_; clear h98
 have hc100 : ((0 : Int) == 0) = true := by first | (simp; done) | (simp; omega) | exact beq_false_of_ne (by omega) | exact beq_iff_eq.2 (by omega)
 rw [hc100] at h99; clear hc100
 refine pk0 (v := pt N4 0) h99 rfl fun a101 h101 => ?_; clear h99
 have hB104 := hb_call hB76 hb84
 have hr105 := own_butS hr75 hx74.but (Grew.offR hx61 hr62 (Grew.offR hx49 hr50 (Grew.offR hx36 hr32 (fun k hk => by cases hk; exact ho22))))
 have hr106 := row_kept_new hr105 (below_grown hb84)
 have hO107 := TwS.gr hO73 (below_grown hb84) (fun k e => by cases e)
 refine pw h101 rfl (op_call (args := #[pt N4 0]) (R := fun res xw => ∃ S' : Nat → Prop, res = .int .i64 1 ∧ TwS S' xw N4 N58 [enA v33 5] 0 0 (mvF (fun _ => []) 0 5 [opA]) (mvLa 0 5 [opA]) (mvCe 0 5 0 [opA]) 1 ∧ Grew S72 S' w83 xw) rfl rfl rfl (by kernel_rfl) (by kernel_rfl) (Try.call19 _ _) (twStamped w83 hO107) (by rintro e x ⟨S', h0, h⟩; exact ⟨_, h0, S', rfl, h⟩)) ?_; clear h101
 rintro _ w103 a102 ⟨S108, rfl, hO109, hx110⟩ h102
 have hlo112 : ∀ q, S108 q → w.heap.size ≤ q := hx110.lo hlo77 (by omega)
 have hB111 := hbL hB104 hlo77 hx110.but
 have hz113 := hB111.size
 have hz114 := hx110.but.size
 refine pk0 (v := .bool ((1 : Int) == 1)) h102 rfl fun a115 h115 => ?_; clear h102
 refine pk0 (v := .bool ((1 : Int) == 1)) h115 rfl fun a116 h116 => ?_; clear h115
 refine pk0 (v := .bool ((1 : Int) == 1)) h116 rfl fun a117 h117 => ?_; clear h116
 have hc118 : ((1 : Int) == 1) = true := by first | (simp; done) | (simp; omega) | exact beq_false_of_ne (by omega) | exact beq_iff_eq.2 (by omega)
 rw [hc118] at h117; clear hc118
 refine pk0 (v := .int .i64 1) h117 rfl fun a119 h119 => ?_; clear h117
 refine pk0 (v := .bool ((1 : Int) == 1)) h119 rfl fun a120 h120 => ?_; clear h119
 refine pk0 (v := .bool ((1 : Int) == 1)) h120 rfl fun a121 h121 => ?_; clear h120
 refine pk0 (v := .bool ((1 : Int) == 1)) h121 rfl fun a122 h122 => ?_; clear h121
 have hc123 : ((1 : Int) == 1) = true := by first | (simp; done) | (simp; omega) | exact beq_false_of_ne (by omega) | exact beq_iff_eq.2 (by omega)
 rw [hc123] at h122; clear hc123
 refine pk0 (v := .string (⟨#[49]⟩)) h122 rfl fun a124 h124 => ?_; clear h122
 refine pk0 (v := .bool ((⟨#[49]⟩ : ByteArray).toList == (⟨#[49]⟩ : ByteArray).toList)) h124 rfl fun a125 h125 => ?_; clear h124
 refine pk0 (v := .bool ((⟨#[49]⟩ : ByteArray).toList == (⟨#[49]⟩ : ByteArray).toList)) h125 rfl fun a126 h126 => ?_; clear h125
 refine pk0 (v := .bool ((⟨#[49]⟩ : ByteArray).toList == (⟨#[49]⟩ : ByteArray).toList)) h126 rfl fun a127 h127 => ?_; clear h126
 have hc128 : ((⟨#[49]⟩ : ByteArray).toList == (⟨#[49]⟩ : ByteArray).toList) = true := by first | (simp; done) | (simp; omega) | exact beq_false_of_ne (by omega) | exact beq_iff_eq.2 (by omega)
 rw [hc128] at h127; clear hc128
 refine pk0 (v := .bool true) h127 rfl fun a129 h129 => ?_; clear h127
 refine pk0 (v := .bool true) h129 rfl fun a130 h130 => ?_; clear h129
 refine pk0 (v := .bool true) h130 rfl fun a131 h131 => ?_; clear h130
 refine pk0 (v := pt N4 0) h131 rfl fun a132 h132 => ?_; clear h131
 refine pk0 (v := .agg #[.int .i64 5, .int .i64 0, .int .u64 0, .int .i64 0, .slice none 0 0, .int .u64 0, .slice none 0 0, .int .i64 0, .int .i64 0, .slice none 0 0, .int .u64 0, .int .i64 0, .int .u64 0, .int .i64 0, .int .i64 0, .int .i64 0, .int .i64 0, .int .i64 0]) h132 rfl fun a133 h133 => ?_; clear h132
 have ho136 := TwS.ofS hO109
 refine pw h133 rfl (op_call (args := #[pt N4 0, .agg #[.int .i64 5, .int .i64 0, .int .u64 0, .int .i64 0, .slice none 0 0, .int .u64 0, .slice none 0 0, .int .i64 0, .int .i64 0, .slice none 0 0, .int .u64 0, .int .i64 0, .int .u64 0, .int .i64 0, .int .i64 0, .int .i64 0, .int .i64 0, .int .i64 0]]) (R := fun res xw => ∃ S' : Nat → Prop, res = .int .i64 11 ∧ TwS S' xw N4 N58 [enA v33 5] 0 0 (mvF (fun _ => []) 0 5 [opA]) (mvLa 0 5 [opA]) (mvCe 0 5 0 [opA]) 1 ∧ Grew S108 S' w103 xw) rfl rfl rfl (by kernel_rfl) (by kernel_rfl) (Try.call11 _ _) (awAp3 w103 v33 hO109) (by rintro e x ⟨S', h0, h⟩; exact ⟨_, h0, S', rfl, h⟩)) ?_; clear h133
 rintro _ w135 a134 ⟨S137, rfl, hO138, hx139⟩ h134
 have hr140 := own_butS hr106 hx110.but (Grew.offR hx74 hr75 (Grew.offR hx61 hr62 (Grew.offR hx49 hr50 (Grew.offR hx36 hr32 (fun k hk => by cases hk; exact ho22)))))
 have hlo142 : ∀ q, S137 q → w.heap.size ≤ q := hx139.lo hlo112 (by omega)
 have hB141 := hbL hB111 hlo112 hx139.but
 have hz143 := hB141.size
 have hz144 := hx139.but.size
 refine pk0 (v := .bool ((11 : Int) == 11)) h134 rfl fun a145 h145 => ?_; clear h134
 refine pk0 (v := .bool ((11 : Int) == 11)) h145 rfl fun a146 h146 => ?_; clear h145
 refine pk0 (v := .bool ((11 : Int) == 11)) h146 rfl fun a147 h147 => ?_; clear h146
 refine pl_nil ?_
 refine co_then ?_
 refine wp_ret ?_
 refine co_ret1 h147 rfl rfl ?_
 exact ⟨rfl, hB141⟩
end Go.Proofs.Ytkjnhghniopnoaa

/- Configurations and members that came in by value, opened. Conditions: none. -/
namespace Go.Proofs.Ytkjnhghniopnoaa
open Go.RowKit Go.ChangeShapes Go.WideShapes Go.Deep
section
variable {H : Type} {enc : TypeId × Value → H} {w : World} {base : Nat} {spare : Nat → Bool} {held : Bool}
set_option maxRecDepth 10000 in
theorem elem_mem (n : Nat) (cs : List Value) (x : DataW H × List MemPlace) (h : DataW.trod enc Try.prog w base spare held n 117 cs = some x) : ∃ p, cs = memE p ∧ memOk p := by
  obtain ⟨hl, m, hf⟩ := trod_fields Try.underlying117 (by kernel_rfl) (by kernel_rfl) h
  have hl2 : cs.length = 2 := hl
  clear hl
  match cs, hl2 with
  | [c0, c1], _ =>
    obtain ⟨_, y0, e0, h0⟩ := hf 0 _ rfl
    obtain ⟨_, y1, e1, h1⟩ := hf 1 _ rfl
    cases e0; cases e1
    obtain ⟨a, e0, _, w0⟩ := DataW.trod_int Try.underlying3 h0
    obtain ⟨b, e1, _, w1⟩ := DataW.trod_int Try.underlying3 h1
    simp only [List.cons.injEq, and_true] at e0 e1
    subst e0 e1
    exact ⟨(a, b), rfl, wf_i64 w0, wf_i64 w1⟩
theorem open_mems {fuel : Nat} {cs : List Value} {x : DataW H × List MemPlace} (h : DataW.trod enc Try.prog w base spare held fuel 29 cs = some x) :
    ∃ (l : List MemT) (v : Value), cs = [v] ∧ SliceOf memE 2 w v l ∧ ∀ p ∈ l, memOk p :=
  open_rows memE 2 memOk Try.underlying29 (by kernel_rfl) (by omega) elem_mem h
set_option maxRecDepth 10000 in
theorem elem_conf (n : Nat) (cs : List Value) (x : DataW H × List MemPlace) (h : DataW.trod enc Try.prog w base spare held n 31 cs = some x) : ∃ c : ConfT, cs = confE c ∧ ConfOk w c := by
  obtain ⟨hl, m, hf⟩ := trod_fields Try.underlying31 (by kernel_rfl) (by kernel_rfl) h
  have hl3 : cs.length = 3 := hl
  clear hl
  match cs, hl3 with
  | [c0, c1, c2], _ =>
    obtain ⟨_, y0, e0, h0⟩ := hf 0 _ rfl
    obtain ⟨_, y1, e1, h1⟩ := hf 1 _ rfl
    obtain ⟨_, y2, e2, h2⟩ := hf 2 _ rfl
    cases e0; cases e1; cases e2
    obtain ⟨a, e0, _, w0⟩ := DataW.trod_int Try.underlying3 h0
    obtain ⟨l, v, e1, hs, hall⟩ := open_mems h1
    obtain ⟨b, e2, _, w2⟩ := DataW.trod_int Try.underlying27 h2
    simp only [List.cons.injEq, and_true] at e0 e1 e2
    subst e0 e1 e2
    have k0 := wf_i64 w0; have k2 := wf_u64 w2
    exact ⟨⟨a, c1, l, b⟩, rfl, ⟨hs, hall, k0.1, k0.2, k2.1, k2.2⟩⟩
end
end Go.Proofs.Ytkjnhghniopnoaa

/- Notes that came in by value, opened. Conditions: none. -/
namespace Go.Proofs.Ytkjnhghniopnoaa
open Go.RowKit Go.ChangeShapes Go.WideShapes Go.Deep
structure NoteX where
  d : NoteD
  mv : Value
  lv : Value
  ev : Value
def noteE (x : NoteX) : List Value := [.int .i64 x.d.k, .int .i64 x.d.n, .int .u64 x.d.t, .int .i64 x.d.ep, x.mv, .int .u64 x.d.fl, x.lv, .int .i64 x.d.ec, .int .i64 x.d.er, x.ev, .int .u64 x.d.ets, .int .i64 x.d.pid, .int .u64 x.d.pat, .int .i64 x.d.plf, .int .i64 x.d.sc, .int .i64 x.d.sr, .int .i64 x.d.se, .int .i64 x.d.sp]
structure NoteOk (w : World) (x : NoteX) : Prop where
  hm : SliceOf memE 2 w x.mv x.d.ms
  hg : SliceOf (intE .i64) 1 w x.lv x.d.lg
  he : SliceOf opE 3 w x.ev x.d.el
  hR : NoteR x.d
section
variable {H : Type} {enc : TypeId × Value → H} {w : World} {base : Nat} {spare : Nat → Bool} {held : Bool}
theorem open_i64s {fuel : Nat} {cs : List Value} {x : DataW H × List MemPlace} (h : DataW.trod enc Try.prog w base spare held fuel 35 cs = some x) :
    ∃ (l : List Int) (v : Value), cs = [v] ∧ SliceOf (intE .i64) 1 w v l ∧ ∀ n ∈ l, (Lit.int .i64 n).wf = true :=
  open_rows (intE .i64) 1 _ Try.underlying35 (by kernel_rfl) (by omega) (fun n cs x h => by
    obtain ⟨a, e, _, hw⟩ := DataW.trod_int Try.underlying3 h
    exact ⟨a, e, hw⟩) h
set_option maxRecDepth 10000 in
theorem elem_note (n : Nat) (cs : List Value) (x : DataW H × List MemPlace) (h : DataW.trod enc Try.prog w base spare held n 46 cs = some x) : ∃ y : NoteX, cs = noteE y ∧ NoteOk w y := by
  obtain ⟨xs, m, _, _, hl, hxl, hf⟩ := DataW.trod_struct Try.underlying46 h
  have hl18 : cs.length = 18 := hl
  have hx8 : xs.length = 8 := hxl
  clear hl hxl
  match cs, hl18, xs, hx8 with
  | [c0, c1, c2, c3, c4, c5, c6, c7, c8, c9, c10, c11, c12, c13, c14, c15, c16, c17], _, [x0, x1, x2, x3, x4, x5, x6, x7], _ =>
    have h0 : DataW.trod enc Try.prog w base spare held m 3 [c0] = some x0 := hf 0 _ rfl
    have h1 : DataW.trod enc Try.prog w base spare held m 3 [c1] = some x1 := hf 1 _ rfl
    have h2 : DataW.trod enc Try.prog w base spare held m 27 [c2] = some x2 := hf 2 _ rfl
    have h3 : DataW.trod enc Try.prog w base spare held m 31 [c3, c4, c5] = some x3 := hf 3 _ rfl
    have h4 : DataW.trod enc Try.prog w base spare held m 35 [c6] = some x4 := hf 4 _ rfl
    have h5 : DataW.trod enc Try.prog w base spare held m 40 [c7, c8, c9, c10] = some x5 := hf 5 _ rfl
    have h6 : DataW.trod enc Try.prog w base spare held m 42 [c11, c12, c13] = some x6 := hf 6 _ rfl
    have h7 : DataW.trod enc Try.prog w base spare held m 44 [c14, c15, c16, c17] = some x7 := hf 7 _ rfl
    clear hf h
    obtain ⟨k, e0, _, _⟩ := DataW.trod_int Try.underlying3 h0
    obtain ⟨nn, e1, _, _⟩ := DataW.trod_int Try.underlying3 h1
    obtain ⟨t, e2, _, w2⟩ := DataW.trod_int Try.underlying27 h2
    obtain ⟨c, e3, hc⟩ := elem_conf _ _ _ h3
    obtain ⟨lg, lv, e4, hg, _⟩ := open_i64s h4
    obtain ⟨ys, m5, _, _, _, hyl, hf5⟩ := DataW.trod_struct Try.underlying40 h5
    have hy2 : ys.length = 2 := hyl
    clear hyl h5
    match ys, hy2 with
    | [y0, y1], _ =>
      have b0 : DataW.trod enc Try.prog w base spare held m5 38 [c7, c8, c9] = some y0 := hf5 0 _ rfl
      have b1 : DataW.trod enc Try.prog w base spare held m5 27 [c10] = some y1 := hf5 1 _ rfl
      clear hf5
      obtain ⟨ets, e10, _, w10⟩ := DataW.trod_int Try.underlying27 b1
      obtain ⟨_, m6, hf6⟩ := trod_fields Try.underlying38 (by kernel_rfl) (by kernel_rfl) b0
      obtain ⟨_, z0, f0, g0⟩ := hf6 0 _ rfl
      obtain ⟨_, z1, f1, g1⟩ := hf6 1 _ rfl
      obtain ⟨_, z2, f2, g2⟩ := hf6 2 _ rfl
      cases f0; cases f1; cases f2
      obtain ⟨ec, e7, _, _⟩ := DataW.trod_int Try.underlying3 g0
      obtain ⟨er, e8, _, _⟩ := DataW.trod_int Try.underlying3 g1
      obtain ⟨el, ev, e9, he, _⟩ := open_opsS g2
      obtain ⟨_, m7, hf7⟩ := trod_fields Try.underlying42 (by kernel_rfl) (by kernel_rfl) h6
      obtain ⟨_, z3, f3, g3⟩ := hf7 0 _ rfl
      obtain ⟨_, z4, f4, g4⟩ := hf7 1 _ rfl
      obtain ⟨_, z5, f5, g5⟩ := hf7 2 _ rfl
      cases f3; cases f4; cases f5
      obtain ⟨pid, e11, _, _⟩ := DataW.trod_int Try.underlying3 g3
      obtain ⟨pat, e12, _, w12⟩ := DataW.trod_int Try.underlying27 g4
      obtain ⟨plf, e13, _, _⟩ := DataW.trod_int Try.underlying3 g5
      obtain ⟨_, m8, hf8⟩ := trod_fields Try.underlying44 (by kernel_rfl) (by kernel_rfl) h7
      obtain ⟨_, z6, f6, g6⟩ := hf8 0 _ rfl
      obtain ⟨_, z7, f7, g7⟩ := hf8 1 _ rfl
      obtain ⟨_, z8, f8, g8⟩ := hf8 2 _ rfl
      obtain ⟨_, z9, f9, g9⟩ := hf8 3 _ rfl
      cases f6; cases f7; cases f8; cases f9
      obtain ⟨sc, e14, _, _⟩ := DataW.trod_int Try.underlying3 g6
      obtain ⟨sr, e15, _, _⟩ := DataW.trod_int Try.underlying3 g7
      obtain ⟨se, e16, _, _⟩ := DataW.trod_int Try.underlying33 g8
      obtain ⟨sp, e17, _, _⟩ := DataW.trod_int Try.underlying3 g9
      clear h0 h1 h2 h3 h4 h6 h7 hf6 hf7 hf8 g0 g1 g2 g3 g4 g5 g6 g7 g8 g9 b0 b1
      simp only [confE, List.cons.injEq, and_true] at e0 e1 e2 e3 e4 e7 e8 e9 e10 e11 e12 e13 e14 e15 e16 e17
      obtain ⟨rfl, rfl, rfl⟩ := e3
      subst e0 e1 e2 e4 e7 e8 e9 e10 e11 e12 e13 e14 e15 e16 e17
      exact ⟨⟨⟨k, nn, t, c.ep, c.ms, c.fl, lg, ec, er, el, ets, pid, pat, plf, sc, sr, se, sp⟩, c.mv, _, _⟩, rfl, ⟨hc.ms, hg, he, ⟨hc.each, ⟨hc.e0, hc.e1⟩, ⟨hc.f0, hc.f1⟩, wf_u64 w2, wf_u64 w10, wf_u64 w12⟩⟩⟩
end
end Go.Proofs.Ytkjnhghniopnoaa

/- catenalaw30: RstateRight. Conditions: none. -/
namespace Go.Proofs.Ytkjnhghniopnoaa
open Go.RowKit Go.PlainAid
set_option linter.unusedVariables false
set_option linter.unusedSimpArgs false


instance : Inhabited NoteX := ⟨⟨zN 0, .slice none 0 0, .slice none 0 0, .slice none 0 0⟩⟩
theorem NoteOk.below {w x : World} {y : NoteX} (h : NoteOk w y) (hb : Below w.heap.size w x) : NoteOk x y := ⟨h.hm.below hb, h.hg.below hb, h.he.below hb, h.hR⟩
theorem memE_ne (l : List MemT) : ∀ y ∈ l, memE y ≠ [] := fun y _ e => by cases e
theorem intE_ne (l : List Int) : ∀ y ∈ l, intE .i64 y ≠ [] := fun y _ e => by cases e
section
open Go.ChangeShapes Go.WideShapes Go.Deep
theorem open_notes {H : Type} {enc : TypeId × Value → H} {w : World} {base : Nat} {spare : Nat → Bool} {held : Bool} {fuel : Nat} {cs : List Value} {x : DataW H × List MemPlace} (h : DataW.trod enc Try.prog w base spare held fuel 22 cs = some x) :
    ∃ (l : List NoteX) (v : Value), cs = [v] ∧ SliceOf noteE 18 w v l ∧ ∀ p ∈ l, NoteOk w p :=
  open_rows noteE 18 (NoteOk w) Try.underlying22 (by kernel_rfl) (by omega) elem_note h
end


set_option maxRecDepth 100000 in
theorem partsL_any (v : Value) (l : List NoteX) (w : World) (hs : SliceOf noteE 18 w v l) (hok : ∀ z ∈ l, NoteOk w z) :
    Calls Try.prog 6 #[v] w fun e w' => ∃ (r : Int), e = .returned (.int .i64 r) ∧ Below w.heap.size w w' := by
 have hB0 := Below.refl w.heap.size w
 have hl_hs := sl_len hs
 refine co_enter (n := 39) Try.func6 rfl rfl rfl [(0, v)] rfl (fun a h0 => ?_)
 refine co_seq ?_
 refine co_reg ?_
 refine pk0 (v := .int .i64 0) h0 rfl fun a1 h1 => ?_; clear h0
 refine pl_nil ?_
 refine co_then ?_
 refine co_seq ?_
 refine co_reg ?_
 refine pk0 (v := .int .i64 0) h1 rfl fun a2 h2 => ?_; clear h1
 refine pl_nil ?_
 refine co_then ?_
 refine co_seq ?_
 refine co_seq ?_
 refine co_reg ?_
 refine pk0 (v := .int .i64 0) h2 rfl fun a3 h3 => ?_; clear h2
 refine pl_nil ?_
 refine co_then ?_
 refine wp_block ?_
 have h4 : Slots 39 [(0, v), (3, .int .i64 0), (4, .int .i64 0)] _ := h3.sub ⟨rfl, rfl, rfl, trivial⟩; clear h3
 refine co_loop (fun mm a x => ∃ (i : Nat) (z : Int), Slots 39 [(0, v), (3, .int .i64 z), (4, .int .i64 ((i : Nat) : Int))] a ∧ mm = l.length - i ∧ (i ≤ l.length) ∧ (i ≤ 60) ∧ Below w.heap.size w x) (l.length - 0) ?_ ?_
 · exact ⟨0, 0, h4.sub ⟨rfl, rfl, (slot_eq rfl (congrArg (Value.int .i64) (by first | rfl | omega))), trivial⟩, rfl, by omega, by omega, hB0⟩
 · rintro k5 a6 w7 ⟨i, z, h6, rfl, hi8, hi9, hB10⟩
   have hz11 := hB10.size
   refine co_seq ?_
   refine co_seq ?_
   refine co_reg ?_
   refine pk0 (v := .int .i64 ((i : Nat) : Int)) h6 rfl fun a12 h12 => ?_; clear h6
   refine pk0 (v := v) h12 rfl fun a13 h13 => ?_; clear h12
   refine pk (v := .int .i64 ((l.length : Nat) : Int)) h13 rfl (rn_len rfl rfl Try.underlying22 (hs.below hB10)) fun a14 h14 => ?_; clear h13
   refine pk0 (v := .bool (decide (((i : Nat) : Int) < ((l.length : Nat) : Int)))) h14 rfl fun a15 h15 => ?_; clear h14
   refine pk0 (v := .bool (decide (((i : Nat) : Int) < ((l.length : Nat) : Int)))) h15 rfl fun a16 h16 => ?_; clear h15
   cases hc17 : (decide (((i : Nat) : Int) < ((l.length : Nat) : Int)))
   ·
    rw [hc17] at h16
    have hp18 : ¬ (((i : Nat) : Int) < ((l.length : Nat) : Int)) := of_decide_eq_false hc17
    clear hc17
    refine psk h16 rfl fun a19 h19 => ?_; clear h16
    refine psk h19 rfl fun a20 h20 => ?_; clear h19
    refine pk0 (v := .bool false) h20 rfl fun a21 h21 => ?_; clear h20
    refine pl_nil ?_
    refine co_then ?_
    refine co_false h21 rfl ?_
    refine wp_exit ?_
    refine co_thenX ?_
    refine co_thenX ?_
    refine co_blockX ?_
    refine co_then ?_
    refine co_seq ?_
    refine co_reg ?_
    refine pk0 (v := .int .i64 z) h21 rfl fun a22 h22 => ?_; clear h21
    refine pk0 (v := .int .i64 z) h22 rfl fun a23 h23 => ?_; clear h22
    refine pl_nil ?_
    refine co_then ?_
    refine wp_ret ?_
    refine co_ret1 h23 rfl rfl ?_
    exact ⟨_, rfl, hB10⟩
   ·
    rw [hc17] at h16
    have hp24 : ((i : Nat) : Int) < ((l.length : Nat) : Int) := of_decide_eq_true hc17
    clear hc17
    refine pk0 (v := .int .i64 ((i : Nat) : Int)) h16 rfl fun a25 h25 => ?_; clear h16
    refine pk0 (v := .bool (decide (((i : Nat) : Int) < 60))) h25 rfl fun a26 h26 => ?_; clear h25
    refine pk0 (v := .bool (decide (((i : Nat) : Int) < 60))) h26 rfl fun a27 h27 => ?_; clear h26
    refine pl_nil ?_
    refine co_then ?_
    cases hc28 : (decide (((i : Nat) : Int) < 60))
    ·
     rw [hc28] at h27
     have hp29 : ¬ (((i : Nat) : Int) < 60) := of_decide_eq_false hc28
     clear hc28
     refine co_false h27 rfl ?_
     refine wp_exit ?_
     refine co_thenX ?_
     refine co_thenX ?_
     refine co_blockX ?_
     refine co_then ?_
     refine co_seq ?_
     refine co_reg ?_
     refine pk0 (v := .int .i64 z) h27 rfl fun a30 h30 => ?_; clear h27
     refine pk0 (v := .int .i64 z) h30 rfl fun a31 h31 => ?_; clear h30
     refine pl_nil ?_
     refine co_then ?_
     refine wp_ret ?_
     refine co_ret1 h31 rfl rfl ?_
     exact ⟨_, rfl, hB10⟩
    ·
     rw [hc28] at h27
     have hp32 : ((i : Nat) : Int) < 60 := of_decide_eq_true hc28
     clear hc28
     refine co_true h27 rfl ?_
     refine wp_skip ?_
     refine co_then ?_
     refine co_seq ?_
     refine wp_block ?_
     refine dr_eq (by kernel_rfl) (fun w33 hg34 => ?_)
     have hz35 := hg34.size
     refine dk0 0 (v := .int .i64 z) h27 rfl rfl rfl fun a36 h36 => ?_; clear h27
     refine dk0 1 (v := v) h36 rfl rfl rfl fun a37 h37 => ?_; clear h36
     refine dk0 2 (v := .int .i64 ((i : Nat) : Int)) h37 rfl rfl rfl fun a38 h38 => ?_; clear h37
     have hB40 := hb_new hB10 hg34
     obtain ⟨y39, hy39⟩ : ∃ z, l[i]? = some z := ⟨_, List.getElem?_eq_getElem (by first | omega | (simp; done) | (simp; omega))⟩
     have oky39 := hok _ (List.mem_of_getElem? hy39)
     refine dk 3 (v := pt (blkOf v) (offOf v + i * 18)) h38 rfl rfl rfl (fun x hx => by subst hx; exact (rn_index rfl rfl rfl Try.underlying22 Try.sizeOf46 (hs.below hB40) (by omega) (by first | omega | (simp; done) | (simp; omega)))) fun a41 h41 => ?_; clear h38
     refine dk0 4 (v := pt (blkOf v) (offOf v + i * 18 + 3)) h41 rfl rfl rfl fun a42 h42 => ?_; clear h41
     refine dk0 5 (v := pt (blkOf v) (offOf v + i * 18 + 3 + 1)) h42 rfl rfl rfl fun a43 h43 => ?_; clear h42
     refine dk 6 (v := y39.mv) h43 rfl rfl rfl (fun x hx => by subst hx; exact (rn_load1 rfl rfl Try.isAgg29 ((sl_at (hs.below hB40) hy39) 4 _ rfl))) fun a44 h44 => ?_; clear h43
     refine dk 7 (v := .int .i64 ((y39.d.ms.length : Nat) : Int)) h44 rfl rfl rfl (fun x hx => by subst hx; exact (rn_len rfl rfl Try.underlying29 (oky39.hm.below hB40))) fun a45 h45 => ?_; clear h44
     refine dk0 8 (v := v) h45 rfl rfl rfl fun a46 h46 => ?_; clear h45
     refine dk0 9 (v := .int .i64 ((i : Nat) : Int)) h46 rfl rfl rfl fun a47 h47 => ?_; clear h46
     refine dk 10 (v := pt (blkOf v) (offOf v + i * 18)) h47 rfl rfl rfl (fun x hx => by subst hx; exact (rn_index rfl rfl rfl Try.underlying22 Try.sizeOf46 (hs.below hB40) (by omega) (by first | omega | (simp; done) | (simp; omega)))) fun a48 h48 => ?_; clear h47
     refine dk0 11 (v := pt (blkOf v) (offOf v + i * 18 + 6)) h48 rfl rfl rfl fun a49 h49 => ?_; clear h48
     refine dk 12 (v := y39.lv) h49 rfl rfl rfl (fun x hx => by subst hx; exact (rn_load1 rfl rfl Try.isAgg35 ((sl_at (hs.below hB40) hy39) 6 _ rfl))) fun a50 h50 => ?_; clear h49
     refine dk 13 (v := .int .i64 ((y39.d.lg.length : Nat) : Int)) h50 rfl rfl rfl (fun x hx => by subst hx; exact (rn_len rfl rfl Try.underlying35 (oky39.hg.below hB40))) fun a51 h51 => ?_; clear h50
     refine dk0 14 (v := v) h51 rfl rfl rfl fun a52 h52 => ?_; clear h51
     refine dk0 15 (v := .int .i64 ((i : Nat) : Int)) h52 rfl rfl rfl fun a53 h53 => ?_; clear h52
     refine dk 16 (v := pt (blkOf v) (offOf v + i * 18)) h53 rfl rfl rfl (fun x hx => by subst hx; exact (rn_index rfl rfl rfl Try.underlying22 Try.sizeOf46 (hs.below hB40) (by omega) (by first | omega | (simp; done) | (simp; omega)))) fun a54 h54 => ?_; clear h53
     refine dk0 17 (v := pt (blkOf v) (offOf v + i * 18 + 7)) h54 rfl rfl rfl fun a55 h55 => ?_; clear h54
     refine dk0 18 (v := pt (blkOf v) (offOf v + i * 18 + 7)) h55 rfl rfl rfl fun a56 h56 => ?_; clear h55
     refine dk0 19 (v := pt (blkOf v) (offOf v + i * 18 + 7 + 2)) h56 rfl rfl rfl fun a57 h57 => ?_; clear h56
     refine dk 20 (v := y39.ev) h57 rfl rfl rfl (fun x hx => by subst hx; exact (rn_load1 rfl rfl Try.isAgg36 ((sl_at (hs.below hB40) hy39) 9 _ rfl))) fun a58 h58 => ?_; clear h57
     refine dk 21 (v := .int .i64 ((y39.d.el.length : Nat) : Int)) h58 rfl rfl rfl (fun x hx => by subst hx; exact (rn_len rfl rfl Try.underlying36 (oky39.he.below hB40))) fun a59 h59 => ?_; clear h58
     have hmm60 := mxI_p z ((y39.d.ms.length : Nat) : Int)
     have hmm61 := mxI_p (mxI z ((y39.d.ms.length : Nat) : Int)) ((y39.d.lg.length : Nat) : Int)
     have hmm62 := mxI_p (mxI (mxI z ((y39.d.ms.length : Nat) : Int)) ((y39.d.lg.length : Nat) : Int)) ((y39.d.el.length : Nat) : Int)
     refine dk0 22 (v := .int .i64 (mxI (mxI (mxI z ((y39.d.ms.length : Nat) : Int)) ((y39.d.lg.length : Nat) : Int)) ((y39.d.el.length : Nat) : Int))) h59 rfl rfl rfl fun a63 h63 => ?_; clear h59
     refine dk0 23 (v := .int .i64 (mxI (mxI (mxI z ((y39.d.ms.length : Nat) : Int)) ((y39.d.lg.length : Nat) : Int)) ((y39.d.el.length : Nat) : Int))) h63 rfl rfl rfl fun a64 h64 => ?_; clear h63
     refine dr_done (by kernel_rfl) ?_
     refine co_blockN ?_
     refine co_then ?_
     refine co_reg ?_
     refine pk0 (v := .int .i64 ((i : Nat) : Int)) h64 rfl fun a65 h65 => ?_; clear h64
     refine pk (v := .int .i64 ((i + 1 : Nat) : Int)) h65 rfl (rn_arith' rfl rfl rfl rfl rfl rfl (IntWalk.i64_in _ (by omega)) (by omega)) fun a66 h66 => ?_; clear h65
     refine pk0 (v := .int .i64 ((i + 1 : Nat) : Int)) h66 rfl fun a67 h67 => ?_; clear h66
     refine pl_nil ?_
     refine co_then ?_
     refine ⟨(l.length - (i + 1)), by omega, ?_⟩
     exact ⟨i + 1, (mxI (mxI (mxI z ((y39.d.ms.length : Nat) : Int)) ((y39.d.lg.length : Nat) : Int)) ((y39.d.el.length : Nat) : Int)), h67.sub ⟨rfl, rfl, rfl, trivial⟩, rfl, by omega, by omega, hB40⟩
end Go.Proofs.Ytkjnhghniopnoaa
