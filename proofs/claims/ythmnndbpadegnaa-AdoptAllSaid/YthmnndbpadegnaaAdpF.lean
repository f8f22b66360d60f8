/- catenalaw18: awake; what the laws keep. Conditions: none. -/
import Derived.Test.YthmnndbpadegnaaAdpE
namespace Go.Proofs.Ythmnndbpadegnaa
open Go.RowKit Go.PlainAid
set_option linter.unusedVariables false
set_option linter.unusedSimpArgs false


section
variable {w x : World} {v u : Value} {l l2 L X P : List EntT} {NS : List NtT} {g k m n : Nat} {N : Nat} {y : NtT} {a b : EntT}
theorem SlX.new (h : SlX w v l) (hg : w.grownBy x none) : SlX x v l := h.below (hb_new (Below.refl _ _) hg)
theorem NtX.new (h : NtX w u NS) (hg : w.grownBy x none) : NtX x u NS := h.below (hb_new (Below.refl _ _) hg)
/-- So far all is adopted. -/
def AllI (X O : List EntT) (g : Nat) : Prop := RI X ∧ X.length ≤ 100 ∧ Agr (X.map e0) O g
theorem ri_nrm (h : RI X) : RI (X.map e0) := RI.e0 (A := X) (by rw [e0_e0]) h
theorem len_nrm (X : List EntT) : (X.map e0).length = X.length := List.length_map _
theorem AllI.re {K : List EntT} (h1 : RI K) (h2 : K.length ≤ 100) (h3 : Agr K l2 g) (hX : X.map e0 = K) : AllI X l2 g := by
  subst hX
  exact ⟨RI.e0 (by rw [e0_e0]) h1, by rw [← len_nrm]; exact h2, h3⟩
theorem all_step (h : AllI X l2 g) (hO : RI l2) (ho : l2.length ≤ 60) (m : Nat) (hm : g < m ∧ m ≤ l2.length) : (tkF (X.map e0) g g ((l2.take m).drop g)).2.1 = m ∧ ∀ X' : List EntT, X'.map e0 = (tkF (X.map e0) g g ((l2.take m).drop g)).2.2 → AllI X' l2 m := by
  have hl : g + ((l2.take m).drop g).length = m := by rw [List.length_drop, List.length_take]; omega
  obtain ⟨h1, h2, h3, h4⟩ := tk_all hO (by omega) ((l2.take m).drop g) (X.map e0) g (ri_nrm h.1) (by rw [len_nrm]; exact h.2.1) h.2.2 (fun i e he => by
    rw [List.getElem?_drop] at he
    by_cases hi : g + i < m
    · rwa [List.getElem?_take_of_lt hi] at he
    · rw [List.getElem?_eq_none (by rw [List.length_take]; omega)] at he; cases he)
  rw [hl] at h1 h2
  exact ⟨h1, fun X' hX => AllI.re h3 h4 h2 hX⟩
theorem all_at (h : AllI X l2 g) {i : Nat} (hi : i < g) (ha : X[i]? = some a) (hb : l2[i]? = some b) : a.client = b.client ∧ a.req = b.req ∧ (b.ts = 0 ∨ a.ts = b.ts) := by
  obtain ⟨h1, h2⟩ := h.2.2.tw i (e0 a) b hi (by rw [List.getElem?_map, ha]; rfl) hb
  have h1 := Prod.mk.inj h1
  refine ⟨h1.1, h1.2, ?_⟩
  by_cases hz : b.ts = 0
  · exact .inl hz
  · exact .inr (h2 hz)
/-- Two entries as a list. -/
theorem slx_two (hk : Blk w N 47 #[.int .i64 a.client, .int .i64 a.req, .slice none 0 0, .int .u64 a.ts, .int .i64 b.client, .int .i64 b.req, .slice none 0 0, .int .u64 b.ts]) (ha : ItK a ∧ a.opl = [] ∧ a.ops = .slice none 0 0) (hb : ItK b ∧ b.opl = [] ∧ b.ops = .slice none 0 0) : SlX w (.slice (some ⟨N, 0, none⟩) 2 2) [a, b] := by
  have ok : ∀ z : EntT, ItK z ∧ z.opl = [] ∧ z.ops = .slice none 0 0 → EntOk w z ∧ z.opl.length ≤ 20 := fun z ⟨h1, h2, h3⟩ => ⟨⟨by rw [h2, h3]; exact sl_nil _, h1.en.1, h1.ts.1, h1.ts.2, h1.en.2.1, h1.en.2.2⟩, h1.len⟩
  refine ⟨⟨some ⟨N, 0, none⟩, 2, rfl, Nat.le_refl _, by omega, (fun h => by cases h), fun j hj => ⟨N, 0, rfl, fun q u hu => ?_⟩⟩, fun z hz => ?_⟩
  · have h2 : j = 0 ∨ j = 1 := by simp at hj; omega
    have h4 : q = 0 ∨ q = 1 ∨ q = 2 ∨ q = 3 := by
      have := (List.getElem?_eq_some_iff.1 hu).1
      rcases h2 with rfl | rfl <;> simp [entE] at this <;> omega
    obtain ⟨_, _, ha3⟩ := ha; obtain ⟨_, _, hb3⟩ := hb
    rcases h2 with rfl | rfl <;> rcases h4 with rfl | rfl | rfl | rfl <;> simp [entE, ha3, hb3] at hu <;> subst hu <;> exact hk.cell rfl
  · simp at hz
    rcases hz with rfl | rfl
    · exact ok _ ha
    · exact ok _ hb
def ea : EntT := EntT.mk 0 1 (.slice none 0 0) [] 3
def eb : EntT := EntT.mk 0 2 (.slice none 0 0) [] 5
def ed : EntT := EntT.mk 0 4 (.slice none 0 0) [] 0
theorem ea_it : ItK ea ∧ ea.opl = [] ∧ ea.ops = .slice none 0 0 := ⟨⟨by decide, by decide, (fun o ho => by cases ho), rfl, rfl⟩, rfl, rfl⟩
theorem eb_it : ItK eb ∧ eb.opl = [] ∧ eb.ops = .slice none 0 0 := ⟨⟨by decide, by decide, (fun o ho => by cases ho), rfl, rfl⟩, rfl, rfl⟩
theorem ed_it : ItK ed ∧ ed.opl = [] ∧ ed.ops = .slice none 0 0 := ⟨⟨by decide, by decide, (fun o ho => by cases ho), rfl, rfl⟩, rfl, rfl⟩
theorem aw_ri : RI [ea, eb] := RI.of_right (by rfl)
theorem aw_tk : (tkF ([ea, eb].map e0) 0 0 [ea, ed]).2.1 = 2 ∧ (tkF ([ea, eb].map e0) 0 0 [ea, ed]).1.map Prod.fst = [1] := by
  refine ⟨?_, ?_⟩ <;> rfl
theorem aw_len (h : NS.map ntP = (tkF ([ea, eb].map e0) 0 0 [ea, ed]).1) : NS.length = 1 := by
  have h2 := congrArg (List.map Prod.fst) h
  rw [aw_tk.2, List.map_map] at h2
  have := congrArg List.length h2
  simpa using this
theorem aw_n (h : NS.map ntP = (tkF ([ea, eb].map e0) 0 0 [ea, ed]).1) (hy : NS[0]? = some y) (h0 : 0 ≤ y.n) : y.n = 1 := by
  have h2 := congrArg (List.map Prod.fst) h
  rw [aw_tk.2, List.map_map] at h2
  have h3 := congrArg (fun l => l[0]?) h2
  simp only [List.getElem?_map, hy] at h3
  have h4 : y.n.toNat = 1 := by injection h3
  omega
theorem aw_base : BaseP [ea, eb] [ea, ed] 1 :=
  ⟨by decide, by decide, fun i hi p q hp hq => by
    obtain rfl : i = 0 := by omega
    cases hp; cases hq; rfl, fun _ _ p q hp hq => by cases hp; cases hq; decide⟩
end

set_option maxRecDepth 100000 in
set_option maxHeartbeats 1600000 in
theorem awake18  (w : World)  :
    Calls Try.prog 42 #[] w fun e w' => e = .returned (.bool true) ∧ Below w.heap.size w w' := by
 have hB0 := Below.refl w.heap.size w
 refine co_enter (n := 46) Try.func42 rfl rfl rfl [] rfl (fun a h0 => ?_)
 refine co_seq ?_
 refine co_reg ?_
 refine pk0 (v := .bool false) h0 rfl fun a1 h1 => ?_; clear h0
 refine pl_nil ?_
 refine co_then ?_
 refine co_seq ?_
 refine co_reg ?_
 refine pk0 (v := .agg #[.int .i64 0, .int .i64 1, .slice none 0 0]) h1 rfl fun a2 h2 => ?_; clear h1
 refine pk0 (v := .agg #[.int .i64 0, .int .i64 1, .slice none 0 0, .int .u64 3]) h2 rfl fun a3 h3 => ?_; clear h2
 refine pw h3 rfl (op_new (v := fun N => pt N 0) (T := 47) (cs := #[.int .i64 0, .int .i64 0, .slice none 0 0, .int .u64 0]) (by kernel_rfl) (by kernel_rfl) (by kernel_rfl)) ?_; clear h3
 rintro _ w5 a4 ⟨N6, rfl, hN9, hz10, hk8, hg7⟩ h4
 have hz11 := hg7.size
 try dsimp only at h4
 refine pwD h4 rfl (op_storeN rfl rfl rfl (all_cons rfl (all_cons rfl (all_cons rfl (all_cons rfl all_nil)))) (by kernel_rfl) hk8 rfl) ?_; clear h4
 rintro _ w13 a12 ⟨hk14, hz15, hg16⟩ h12
 have hk14' : Blk w13 N6 47 #[.int .i64 0, .int .i64 1, .slice none 0 0, .int .u64 3] := hk14; clear hk14
 have hz17 := hg16.size
 refine pl_nil ?_
 refine co_then ?_
 refine co_seq ?_
 refine co_reg ?_
 refine pk0 (v := .agg #[.int .i64 0, .int .i64 2, .slice none 0 0]) h12 rfl fun a18 h18 => ?_; clear h12
 refine pk0 (v := .agg #[.int .i64 0, .int .i64 2, .slice none 0 0, .int .u64 5]) h18 rfl fun a19 h19 => ?_; clear h18
 refine pw h19 rfl (op_new (v := fun N => pt N 0) (T := 47) (cs := #[.int .i64 0, .int .i64 0, .slice none 0 0, .int .u64 0]) (by kernel_rfl) (by kernel_rfl) (by kernel_rfl)) ?_; clear h19
 rintro _ w21 a20 ⟨N22, rfl, hN25, hz26, hk24, hg23⟩ h20
 have hz27 := hg23.size
 try dsimp only at h20
 refine pwD h20 rfl (op_storeN rfl rfl rfl (all_cons rfl (all_cons rfl (all_cons rfl (all_cons rfl all_nil)))) (by kernel_rfl) hk24 rfl) ?_; clear h20
 rintro _ w29 a28 ⟨hk30, hz31, hg32⟩ h28
 have hk30' : Blk w29 N22 47 #[.int .i64 0, .int .i64 2, .slice none 0 0, .int .u64 5] := hk30; clear hk30
 have hz33 := hg32.size
 refine pl_nil ?_
 refine co_then ?_
 refine co_seq ?_
 refine co_reg ?_
 refine pk0 (v := .agg #[.int .i64 0, .int .i64 4, .slice none 0 0]) h28 rfl fun a34 h34 => ?_; clear h28
 refine pk0 (v := .agg #[.int .i64 0, .int .i64 4, .slice none 0 0, .int .u64 0]) h34 rfl fun a35 h35 => ?_; clear h34
 refine pw h35 rfl (op_new (v := fun N => pt N 0) (T := 47) (cs := #[.int .i64 0, .int .i64 0, .slice none 0 0, .int .u64 0]) (by kernel_rfl) (by kernel_rfl) (by kernel_rfl)) ?_; clear h35
 rintro _ w37 a36 ⟨N38, rfl, hN41, hz42, hk40, hg39⟩ h36
 have hz43 := hg39.size
 try dsimp only at h36
 refine pwD h36 rfl (op_storeN rfl rfl rfl (all_cons rfl (all_cons rfl (all_cons rfl (all_cons rfl all_nil)))) (by kernel_rfl) hk40 rfl) ?_; clear h36
 rintro _ w45 a44 ⟨hk46, hz47, hg48⟩ h44
 have hk46' : Blk w45 N38 47 #[.int .i64 0, .int .i64 4, .slice none 0 0, .int .u64 0] := hk46; clear hk46
 have hz49 := hg48.size
 refine pl_nil ?_
 refine co_then ?_
 refine co_seq ?_
 refine co_reg ?_
 have hk50 := hk14'.kept hg23 (by simp)
 have hk51 := hk50.kept hg32 (by simp; omega)
 have hk52 := hk51.kept hg39 (by simp)
 have hk53 := hk52.kept hg48 (by simp; omega)
 refine pk (v := .agg #[.int .i64 0, .int .i64 1, .slice none 0 0, .int .u64 3]) h44 rfl (rn_loadN rfl rfl Try.underlying47 rfl (by kernel_rfl) hk53.all) fun a54 h54 => ?_; clear h44
 have hk55 := hk30'.kept hg39 (by simp)
 have hk56 := hk55.kept hg48 (by simp; omega)
 refine pk (v := .agg #[.int .i64 0, .int .i64 2, .slice none 0 0, .int .u64 5]) h54 rfl (rn_loadN rfl rfl Try.underlying47 rfl (by kernel_rfl) hk56.all) fun a57 h57 => ?_; clear h54
 refine pw h57 rfl (op_new (v := fun N => .slice (some ⟨N, 0, none⟩) 2 2) (T := 47) (cs := #[.int .i64 0, .int .i64 1, .slice none 0 0, .int .u64 3, .int .i64 0, .int .i64 2, .slice none 0 0, .int .u64 5]) (by kernel_rfl) (by kernel_rfl) (by kernel_rfl)) ?_; clear h57
 rintro _ w59 a58 ⟨N60, rfl, hN63, hz64, hk62, hg61⟩ h58
 have hz65 := hg61.size
 try dsimp only at h58
 have hk66 := hk53.kept hg61 (by simp)
 refine pk (v := .agg #[.int .i64 0, .int .i64 1, .slice none 0 0, .int .u64 3]) h58 rfl (rn_loadN rfl rfl Try.underlying47 rfl (by kernel_rfl) hk66.all) fun a67 h67 => ?_; clear h58
 have hk68 := hk46'.kept hg61 (by simp)
 refine pk (v := .agg #[.int .i64 0, .int .i64 4, .slice none 0 0, .int .u64 0]) h67 rfl (rn_loadN rfl rfl Try.underlying47 rfl (by kernel_rfl) hk68.all) fun a69 h69 => ?_; clear h67
 refine pw h69 rfl (op_new (v := fun N => .slice (some ⟨N, 0, none⟩) 2 2) (T := 47) (cs := #[.int .i64 0, .int .i64 1, .slice none 0 0, .int .u64 3, .int .i64 0, .int .i64 4, .slice none 0 0, .int .u64 0]) (by kernel_rfl) (by kernel_rfl) (by kernel_rfl)) ?_; clear h69
 rintro _ w71 a70 ⟨N72, rfl, hN75, hz76, hk74, hg73⟩ h70
 have hz77 := hg73.size
 try dsimp only at h70
 have hB80 := hb_new hB0 hg7
 have hB81 := hb_at hB80 hg16 (by omega)
 have hB82 := hb_new hB81 hg23
 have hB83 := hb_at hB82 hg32 (by omega)
 have hB84 := hb_new hB83 hg39
 have hB85 := hb_at hB84 hg48 (by omega)
 have hB86 := hb_new hB85 hg61
 have hB87 := hb_new hB86 hg73
 have hk88 := hk56.kept hg61 (by simp)
 have hk89 := hk88.kept hg73 (by simp)
 have hk90 := hk62.kept hg73 (by simp)
 refine pw h70 rfl (op_call (args := #[.slice (some ⟨N60, 0, none⟩) 2 2, .int .i64 0, .int .i64 0, .slice (some ⟨N72, 0, none⟩) 2 2]) (R := fun res xw => ∃ (u : Value) (NS : List NtT), res = .tuple #[u, .int .i64 ((2 : Nat) : Int)] ∧ NtX xw u NS ∧ NS.map ntP = (tkF (([ea, eb]).map e0) 0 0 ([ea, ed])).1 ∧ Below w71.heap.size w71 xw) rfl rfl rfl (by kernel_rfl) (by kernel_rfl) (Try.call43 _ _) (takeX 0 0 w71 (slx_two (a := ea) (b := eb) hk90 ea_it eb_it) (slx_two (a := ea) (b := ed) hk74 ea_it ed_it) aw_ri (by decide) (by decide) (by omega)) (by rintro e x ⟨u, NS, h0, h⟩; rw [aw_tk.1] at h0; exact ⟨_, h0, u, NS, rfl, h⟩)) ?_; clear h70
 rintro _ w79 a78 ⟨u91, NS92, rfl, hN93, hq94, hb95⟩ h78
 have hz96 := hb95.size
 have hl97 := sl_len hN93.1
 have hNl := aw_len hq94
 refine pk0 (v := .tuple #[u91, .int .i64 ((2 : Nat) : Int)]) h78 rfl fun a98 h98 => ?_; clear h78
 refine pk0 (v := u91) h98 rfl fun a99 h99 => ?_; clear h98
 refine pk0 (v := .int .i64 ((2 : Nat) : Int)) h99 rfl fun a100 h100 => ?_; clear h99
 refine pk0 (v := u91) h100 rfl fun a101 h101 => ?_; clear h100
 refine pk0 (v := .int .i64 ((2 : Nat) : Int)) h101 rfl fun a102 h102 => ?_; clear h101
 refine pl_nil ?_
 refine co_then ?_
 refine co_seq ?_
 refine co_reg ?_
 refine pk0 (v := u91) h102 rfl fun a103 h103 => ?_; clear h102
 refine pk (v := .int .i64 ((NS92.length : Nat) : Int)) h103 rfl (rn_len rfl rfl Try.underlying72 (hN93.1)) fun a104 h104 => ?_; clear h103
 refine pk0 (v := .bool (((NS92.length : Nat) : Int) == 1)) h104 rfl fun a105 h105 => ?_; clear h104
 refine pk0 (v := .bool (((NS92.length : Nat) : Int) == 1)) h105 rfl fun a106 h106 => ?_; clear h105
 have hc107 : (((NS92.length : Nat) : Int) == 1) = true := by first | (simp; done) | (simp; omega) | exact beq_false_of_ne (by omega) | exact beq_iff_eq.2 (by omega)
 rw [hc107] at h106; clear hc107
 refine pk0 (v := u91) h106 rfl fun a108 h108 => ?_; clear h106
 obtain ⟨y109, hy109⟩ : ∃ z, NS92[0]? = some z := ⟨_, List.getElem?_eq_getElem (by first | omega | (simp; done) | (simp; omega))⟩
 have hn1 := aw_n hq94 hy109 (hN93.2 _ (List.mem_of_getElem? hy109)).2
 refine pk (v := pt (blkOf u91) (offOf u91 + 0 * 18)) h108 rfl (rn_index rfl rfl rfl Try.underlying72 Try.sizeOf93 (hN93.1) (by omega) (by first | omega | (simp; done) | (simp; omega))) fun a110 h110 => ?_; clear h108
 refine pk0 (v := pt (blkOf u91) (offOf u91 + 0 * 18 + 1)) h110 rfl fun a111 h111 => ?_; clear h110
 refine pk (v := .int .i64 y109.n) h111 rfl (rn_load1 rfl rfl Try.isAgg3 ((sl_at (hN93.1) hy109) 1 _ rfl)) fun a112 h112 => ?_; clear h111
 refine pk0 (v := .bool (y109.n == 1)) h112 rfl fun a113 h113 => ?_; clear h112
 refine pk0 (v := .bool (y109.n == 1)) h113 rfl fun a114 h114 => ?_; clear h113
 refine pk0 (v := .bool (y109.n == 1)) h114 rfl fun a115 h115 => ?_; clear h114
 have hc116 : (y109.n == 1) = true := by first | (simp; done) | (simp; omega) | exact beq_false_of_ne (by omega) | exact beq_iff_eq.2 (by omega)
 rw [hc116] at h115; clear hc116
 refine pk0 (v := .int .i64 ((2 : Nat) : Int)) h115 rfl fun a117 h117 => ?_; clear h115
 refine pk0 (v := .bool (((2 : Nat) : Int) == 2)) h117 rfl fun a118 h118 => ?_; clear h117
 refine pk0 (v := .bool (((2 : Nat) : Int) == 2)) h118 rfl fun a119 h119 => ?_; clear h118
 refine pk0 (v := .bool (((2 : Nat) : Int) == 2)) h119 rfl fun a120 h120 => ?_; clear h119
 have hc121 : (((2 : Nat) : Int) == 2) = true := by first | (simp; done) | (simp; omega) | exact beq_false_of_ne (by omega) | exact beq_iff_eq.2 (by omega)
 rw [hc121] at h120; clear hc121
 have hk122 := hk66.kept hg73 (by simp)
 have hk123 := hk122.below hb95
 refine pk (v := .agg #[.int .i64 0, .int .i64 1, .slice none 0 0, .int .u64 3]) h120 rfl (rn_loadN rfl rfl Try.underlying47 rfl (by kernel_rfl) hk123.all) fun a124 h124 => ?_; clear h120
 have hk125 := hk89.below hb95
 refine pk (v := .agg #[.int .i64 0, .int .i64 2, .slice none 0 0, .int .u64 5]) h124 rfl (rn_loadN rfl rfl Try.underlying47 rfl (by kernel_rfl) hk125.all) fun a126 h126 => ?_; clear h124
 refine pw h126 rfl (op_new (v := fun N => .slice (some ⟨N, 0, none⟩) 2 2) (T := 47) (cs := #[.int .i64 0, .int .i64 1, .slice none 0 0, .int .u64 3, .int .i64 0, .int .i64 2, .slice none 0 0, .int .u64 5]) (by kernel_rfl) (by kernel_rfl) (by kernel_rfl)) ?_; clear h126
 rintro _ w128 a127 ⟨N129, rfl, hN132, hz133, hk131, hg130⟩ h127
 have hz134 := hg130.size
 try dsimp only at h127
 have hk135 := hk123.kept hg130 (by simp)
 refine pk (v := .agg #[.int .i64 0, .int .i64 1, .slice none 0 0, .int .u64 3]) h127 rfl (rn_loadN rfl rfl Try.underlying47 rfl (by kernel_rfl) hk135.all) fun a136 h136 => ?_; clear h127
 have hk137 := hk68.kept hg73 (by simp)
 have hk138 := hk137.below hb95
 have hk139 := hk138.kept hg130 (by simp)
 refine pk (v := .agg #[.int .i64 0, .int .i64 4, .slice none 0 0, .int .u64 0]) h136 rfl (rn_loadN rfl rfl Try.underlying47 rfl (by kernel_rfl) hk139.all) fun a140 h140 => ?_; clear h136
 refine pw h140 rfl (op_new (v := fun N => .slice (some ⟨N, 0, none⟩) 2 2) (T := 47) (cs := #[.int .i64 0, .int .i64 1, .slice none 0 0, .int .u64 3, .int .i64 0, .int .i64 4, .slice none 0 0, .int .u64 0]) (by kernel_rfl) (by kernel_rfl) (by kernel_rfl)) ?_; clear h140
 rintro _ w142 a141 ⟨N143, rfl, hN146, hz147, hk145, hg144⟩ h141
 have hz148 := hg144.size
 try dsimp only at h141
 have hB151 := hb_call hB87 hb95
 have hB152 := hb_new hB151 hg130
 have hB153 := hb_new hB152 hg144
 have hk154 := hk125.kept hg130 (by simp)
 have hk155 := hk154.kept hg144 (by simp)
 have hk156 := hk90.below hb95
 have hk157 := hk156.kept hg130 (by simp)
 have hk158 := hk157.kept hg144 (by simp)
 have hk159 := hk74.below hb95
 have hk160 := hk159.kept hg130 (by simp)
 have hk161 := hk160.kept hg144 (by simp)
 have hX162 := hN93.new hg130
 have hX163 := hX162.new hg144
 have hk164 := hk131.kept hg144 (by simp)
 refine pw h141 rfl (op_call (args := #[.slice (some ⟨N129, 0, none⟩) 2 2, .slice (some ⟨N143, 0, none⟩) 2 2]) (R := fun res xw => res = .int .i64 ((1 : Nat) : Int) ∧ Below w142.heap.size w142 xw) rfl rfl rfl (by kernel_rfl) (by kernel_rfl) (Try.call48 _ _) (adoptBase_any (.slice (some ⟨N129, 0, none⟩) 2 2) ([ea, eb]) (.slice (some ⟨N143, 0, none⟩) 2 2) ([ea, ed]) w142 (slx_two (a := ea) (b := eb) hk164 ea_it eb_it).1 (slx_two (a := ea) (b := ed) hk145 ea_it ed_it).1) (by rintro e x ⟨n, h0, h1, h⟩; rw [base_eq h1 aw_base] at h0; exact ⟨_, h0, rfl, h⟩)) ?_; clear h141
 rintro _ w150 a149 ⟨rfl, hb165⟩ h149
 have hz166 := hb165.size
 refine pk0 (v := .bool (((1 : Nat) : Int) == 1)) h149 rfl fun a167 h167 => ?_; clear h149
 refine pk0 (v := .bool (((1 : Nat) : Int) == 1)) h167 rfl fun a168 h168 => ?_; clear h167
 refine pk0 (v := .bool (((1 : Nat) : Int) == 1)) h168 rfl fun a169 h169 => ?_; clear h168
 refine pl_nil ?_
 refine co_then ?_
 refine wp_ret ?_
 refine co_ret1 h169 rfl rfl ?_
 have hB170 := hb_call hB153 hb165
 exact ⟨rfl, hB170⟩
end Go.Proofs.Ythmnndbpadegnaa
