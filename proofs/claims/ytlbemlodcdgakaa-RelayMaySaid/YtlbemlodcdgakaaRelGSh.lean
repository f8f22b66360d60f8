/- catenalaw32: awake; what may be written. Conditions: none. -/
import Derived.Test.YtlbemlodcdgakaaRelFSh
import Derived.Test.YtlbemlodcdgakaaMeDSh
import Derived.Test.YtlbemlodcdgakaaAdRSh
namespace Go.Proofs.Ytlbemlodcdgakaa
open Go.RowKit Go.PlainAid
set_option linter.unusedVariables false
set_option linter.unusedSimpArgs false


section
variable {L l L2 : List EntT} {e : EntT} {k : Nat}
theorem UqN.drop (h : UqN L) (i : Nat) : UqN (L.drop i) := by unfold UqN at h ⊢; rw [List.map_drop]; exact List.Nodup.sublist (List.drop_sublist _ _) h
theorem RI.drop (h : RI L) (k : Nat) : RI (L.drop k) := ⟨fun e he => h.chk e (List.mem_of_mem_drop he), h.uq.drop k, fun i y p hy hp hn => by
  rw [List.getElem?_drop] at hy hp
  exact h.up (k + i) y p hy hp hn⟩
theorem fwE_ri (h : RI l) (gd fr : Int) : RI (fwE l gd fr) := by unfold fwE fwR fwA; exact ((h.take _).drop _).take _
theorem fwE_len (l : List EntT) (gd fr : Int) : (fwE l gd fr).length ≤ 4 := by
  unfold fwE; rw [List.length_take]
  have := mnI_p (((fwR l gd fr).length : Nat) : Int) 4
  omega
theorem fwA_len (l : List EntT) (gd : Int) : (fwA l gd).length ≤ l.length := by unfold fwA; rw [List.length_take]; omega
theorem akS_len (l : List EntT) (gd fr : Int) : (akS l gd fr).length ≤ 8 := by
  unfold akS; rw [tsL_len, List.length_take]
  have := mnI_p ((stN (fwR l gd fr) : Nat) : Int) 8
  omega
theorem cF_all0 {α : Type} {f : α → Int} : ∀ {l : List α}, (∀ y ∈ l, f y = 0) → chkF f l = 0
  | [], _ => rfl
  | x :: r, h => by unfold chkF; rw [if_neg (by rw [h x (by simp)]; omega)]; exact cF_all0 fun y hy => h y (by simp [hy])
theorem cLs_0 {α : Type} {f : α → Int} {l : List α} {m : Int} (hl : (l.length : Int) ≤ m) (h : ∀ y ∈ l, f y = 0) : chkLs m f l = 0 := by unfold chkLs; rw [if_neg (by omega)]; exact cF_all0 h
theorem cn_0 {d : MsgD} {p : Int} (h : p = 101 ∨ p = 115 ∨ p = 113 ∨ p = 110 ∨ p = 109 ∨ p = 112) (hb : 0 ≤ numP d p ∧ numP d p ≤ 1073741824) : chkP d p = 0 := by rw [cp_n h, if_neg (by omega)]
def fwD (ep ba fr sb hz gd : Int) (l L2 : List EntT) : MsgD := ⟨3, mxI ep 0, mxI sb 0, 0, false, hz, 0, mxI ba 0, mxI (fwF l gd fr) 0, mxI ((stN (fwA l gd) : Nat) : Int) 0, 0, ⟨#[]⟩, ⟨#[]⟩, 0, [], 0, 0, 0, [], L2, [], []⟩
def akD (ep gd he fr : Int) (l : List EntT) (st : List Int) : MsgD := ⟨4, mxI ep 0, 0, 0, false, 0, 0, mxI (((fwA l gd).length : Nat) : Int) 0, mxI he 0, mxI (fwF l gd fr) 0, 0, ⟨#[]⟩, ⟨#[]⟩, 0, [], 0, 0, 0, [], [], st, []⟩
theorem mx_bd {a : Int} (h : 0 ≤ a ∧ a ≤ 300) : 0 ≤ mxI a 0 ∧ mxI a 0 ≤ 1073741824 := by have := mxI_p a 0; omega
theorem fwF_bd (hl : l.length ≤ 200) (gd fr : Int) : 0 ≤ fwF l gd fr ∧ fwF l gd fr ≤ 300 := by
  unfold fwF; have h1 := bwI_p fr (fwA l gd).length; have h2 := fwA_len l gd; omega
theorem may_fwd {ep ba fr sb hz gd : Int} (h1 : 0 ≤ ep ∧ ep ≤ 300) (h2 : 0 ≤ ba ∧ ba ≤ 300) (h3 : 0 ≤ sb ∧ sb ≤ 300) (hl : l.length ≤ 200) (hR : RI l) (he : L2.map e0 = (fwE l gd fr).map e0) : chkMg (fwD ep ba fr sb hz gd l L2) = 0 := by
  have hR2 : RI L2 := RI.e0 he.symm (fwE_ri hR gd fr)
  have hl2 : L2.length ≤ 4 := by have := congrArg List.length he; rw [List.length_map, List.length_map] at this; rw [this]; exact fwE_len l gd fr
  have hst : stN (fwA l gd) ≤ 300 := Nat.le_trans (stN_le _) (Nat.le_trans (fwA_len l gd) (by omega))
  unfold chkMg
  rw [if_pos (show 1 ≤ (fwD ep ba fr sb hz gd l L2).k ∧ (fwD ep ba fr sb hz gd l L2).k ≤ 15 from ⟨by show (1 : Int) ≤ 3; omega, by show (3 : Int) ≤ 15; omega⟩)]
  refine cF_all0 fun c hc => ?_
  have hc' : c ∈ ([101, 110, 109, 112, 113, 97, 76] : List UInt8) := hc
  show chkP _ _ = 0
  simp only [List.mem_cons, List.not_mem_nil, or_false] at hc'
  rcases hc' with rfl | rfl | rfl | rfl | rfl | rfl | rfl
  · exact cn_0 (.inl rfl) (mx_bd h1)
  · exact cn_0 (by decide) (mx_bd h2)
  · exact cn_0 (by decide) (mx_bd (fwF_bd hl gd fr))
  · exact cn_0 (by decide) (mx_bd (a := ((stN (fwA l gd) : Nat) : Int)) ⟨by omega, by omega⟩)
  · exact cn_0 (by decide) (mx_bd h3)
  · exact cp_0 (by decide)
  · rw [cp_L (by decide)]
    exact cLs_0 (show ((L2.length : Nat) : Int) ≤ 4 by omega) fun y hy => hR2.chk y hy
theorem may_ack {ep gd he fr : Int} {st : List Int} (h1 : 0 ≤ ep ∧ ep ≤ 300) (h2 : 0 ≤ he ∧ he ≤ 300) (hl : l.length ≤ 200) (hs : st.length ≤ 8) : chkMg (akD ep gd he fr l st) = 0 := by
  have hA : (fwA l gd).length ≤ 300 := Nat.le_trans (fwA_len l gd) (by omega)
  unfold chkMg
  rw [if_pos (show 1 ≤ (akD ep gd he fr l st).k ∧ (akD ep gd he fr l st).k ≤ 15 from ⟨by show (1 : Int) ≤ 4; omega, by show (4 : Int) ≤ 15; omega⟩)]
  refine cF_all0 fun c hc => ?_
  have hc' : c ∈ ([101, 110, 109, 112, 83] : List UInt8) := hc
  show chkP _ _ = 0
  simp only [List.mem_cons, List.not_mem_nil, or_false] at hc'
  rcases hc' with rfl | rfl | rfl | rfl | rfl
  · exact cn_0 (.inl rfl) (mx_bd h1)
  · exact cn_0 (by decide) (mx_bd (a := (((fwA l gd).length : Nat) : Int)) ⟨by omega, by omega⟩)
  · exact cn_0 (by decide) (mx_bd h2)
  · exact cn_0 (by decide) (mx_bd (fwF_bd hl gd fr))
  · rw [cp_S (by decide)]
    exact cLs_0 (show ((st.length : Nat) : Int) ≤ 8 by omega) fun y hy => rfl
theorem zr_ : -9223372036854775808 ≤ (0 : Int) ∧ (0 : Int) ≤ 9223372036854775807 := by omega
theorem z6_ : 0 ≤ (0 : Int) ∧ (0 : Int) < 18446744073709551616 := by omega
theorem fwD_R {ep ba fr sb hz gd : Int} (h : 0 ≤ hz ∧ hz < 18446744073709551616) : MsgR (fwD ep ba fr sb hz gd l L2) := ⟨(fun m hm => by cases hm), ⟨zr_, z6_, h, z6_⟩, (fun t ht => by cases ht)⟩
theorem tsL_bd {w : World} (h : ∀ z ∈ l, EntOk w z) : ∀ t ∈ tsL l, 0 ≤ t ∧ t < 18446744073709551616 := fun t ht => by
  unfold tsL at ht; rw [List.mem_map] at ht; obtain ⟨z, hz, rfl⟩ := ht; exact ⟨(h z hz).ts0, (h z hz).ts1⟩
theorem akS_bd {w : World} (h : ∀ z ∈ l, EntOk w z) (gd fr : Int) : ∀ t ∈ akS l gd fr, 0 ≤ t ∧ t < 18446744073709551616 :=
  tsL_bd fun z hz => h z (List.mem_of_mem_take (List.mem_of_mem_drop (List.mem_of_mem_take hz)))
theorem akD_R {ep gd he fr : Int} {st : List Int} (h : ∀ t ∈ st, 0 ≤ t ∧ t < 18446744073709551616) : MsgR (akD ep gd he fr l st) := ⟨(fun m hm => by cases hm), ⟨zr_, z6_, z6_, z6_⟩, h⟩
theorem ri_len4 (h : RI l) : ∀ z ∈ l, z.opl.length ≤ 4 := fun z hz => ((chkB_iff _ _ _).1 (h.chk z hz)).2.2.1
theorem ri_L2 {gd fr : Int} (h : RI l) (he : L2.map e0 = (fwE l gd fr).map e0) : rightI L2 = 0 := (RI.e0 he.symm (fwE_ri h gd fr)).right
def eA : EntT := EntT.mk 0 1 (.slice none 0 0) [] 3
def eB : EntT := EntT.mk 0 2 (.slice none 0 0) [] 5
theorem ab_ok (w : World) : ∀ z ∈ ([eA, eB] : List EntT), EntOk w z := fun z hz => by
  simp at hz
  rcases hz with rfl | rfl <;> exact ⟨SliceOf.nil _ _ _, (fun o ho => by cases ho), by decide, by decide, rfl, rfl⟩
theorem ab_20 : ∀ z ∈ ([eA, eB] : List EntT), z.opl.length ≤ 100 := fun z hz => by
  simp at hz
  rcases hz with rfl | rfl <;> simp [eA, eB]
theorem ab_ak : akS [eA, eB] 2 1 = [5] := by decide +kernel
theorem ab_fw (h : L2.map e0 = (fwE [eA, eB] 2 1).map e0) : L2.length = 1 := by
  have := congrArg List.length h; rw [List.length_map, List.length_map] at this; rw [this]; decide +kernel
theorem ab_p : mxI ((stN (fwA [eA, eB] 2) : Nat) : Int) 0 = 2 := by decide +kernel
end

set_option maxRecDepth 100000 in
theorem awake32  (w : World)  :
    Calls Try.prog 25 #[] w fun e w' => e = .returned (.bool true) ∧ Below w.heap.size w w' := by
 obtain ⟨AB, hAB⟩ : ∃ L : List EntT, L = [eA, eB] := ⟨_, rfl⟩
 have hB0 := Below.refl w.heap.size w
 refine co_enter (n := 45) Try.func25 rfl rfl rfl [] rfl (fun a h0 => ?_)
 refine co_seq ?_
 refine co_reg ?_
 refine pk0 (v := .bool false) h0 rfl fun a1 h1 => ?_; clear h0
 refine pl_nil ?_
 refine co_then ?_
 refine co_seq ?_
 refine co_reg ?_
 refine pk0 (v := .agg #[.int .i64 0, .int .i64 1, .slice none 0 0]) h1 rfl fun a2 h2 => ?_; clear h1
 refine pk0 (v := .agg #[.int .i64 0, .int .i64 1, .slice none 0 0, .int .u64 3]) h2 rfl fun a3 h3 => ?_; clear h2
 refine pk0 (v := .agg #[.int .i64 0, .int .i64 2, .slice none 0 0]) h3 rfl fun a4 h4 => ?_; clear h3
 refine pk0 (v := .agg #[.int .i64 0, .int .i64 2, .slice none 0 0, .int .u64 5]) h4 rfl fun a5 h5 => ?_; clear h4
 refine pw h5 rfl (op_new (v := fun N => .slice (some ⟨N, 0, none⟩) 2 2) (T := 38) (cs := #[.int .i64 0, .int .i64 1, .slice none 0 0, .int .u64 3, .int .i64 0, .int .i64 2, .slice none 0 0, .int .u64 5]) (by kernel_rfl) (by kernel_rfl) (by kernel_rfl)) ?_; clear h5
 rintro _ w7 a6 ⟨N8, rfl, hN11, hz12, hk10, hg9⟩ h6
 have hz13 := hg9.size
 try dsimp only at h6
 refine pk0 (v := .slice (some ⟨N8, 0, none⟩) 2 2) h6 rfl fun a14 h14 => ?_; clear h6
 refine pl_nil ?_
 refine co_then ?_
 refine co_seq ?_
 refine co_reg ?_
 refine pk0 (v := .slice (some ⟨N8, 0, none⟩) 2 2) h14 rfl fun a15 h15 => ?_; clear h14
 have hr18 : w7.ownsRow N8 38 4 (.slice (some ⟨N8, 0, none⟩) 2 2) AB.length (AB.flatMap entE) := by rw [hAB]; exact row_of_cells (enc := entE) (sz := 4) ([eA, eB] : List EntT) hk10 (Nat.le_refl _) rfl rfl (by unfold maxLen; simp)
 refine pw h15 rfl (op_call (args := #[.int .i64 1, .int .i64 2, .int .i64 2, .int .i64 1, .slice (some ⟨N8, 0, none⟩) 2 2]) (R := fun res xw => ∃ u : Value, res = .agg #[.int .i64 4, .int .i64 (mxI 1 0), .int .i64 0, .int .i64 0, .bool false, .int .u64 0, .int .u64 0, .int .i64 (mxI (((fwA AB 2).length : Nat) : Int) 0), .int .i64 (mxI 2 0), .int .i64 (mxI (fwF AB 2 1) 0), .int .i64 0, .string (⟨#[]⟩), .string (⟨#[]⟩), .int .i64 0, .slice none 0 0, .int .u64 0, .int .i64 0, .int .i64 0, .slice none 0 0, .slice none 0 0, u, .slice none 0 0] ∧ xw.ownsRow w7.heap.size 29 1 u (akS AB 2 1).length ((akS AB 2 1).flatMap (intE .u64)) ∧ Below w7.heap.size w7 xw) rfl rfl rfl (by kernel_rfl) (by kernel_rfl) (Try.call28 _ _) (ack_any 1 2 2 1 (.slice (some ⟨N8, 0, none⟩) 2 2) AB w7 (row_sl hr18 entE_len) (by rw [hAB]; exact ab_ok _)) (by rintro e x ⟨u, rfl, hq20, hb21⟩; exact ⟨_, rfl, ⟨u, rfl, hq20, hb21⟩⟩)) ?_; clear h15
 rintro _ w17 a16 ⟨u19, rfl, hq20, hb21⟩ h16
 have hz22 := hb21.size
 have hl23 := sl_len (row_sl hq20 (intE_len .u64))
 have hl24 : (akS AB 2 1).length = 1 := by rw [hAB, ab_ak]; rfl
 refine pw h16 rfl (op_new (v := fun N => pt N 0) (T := 74) (cs := #[.int .i64 0, .int .i64 0, .int .i64 0, .int .i64 0, .bool false, .int .u64 0, .int .u64 0, .int .i64 0, .int .i64 0, .int .i64 0, .int .i64 0, .string (⟨#[]⟩), .string (⟨#[]⟩), .int .i64 0, .slice none 0 0, .int .u64 0, .int .i64 0, .int .i64 0, .slice none 0 0, .slice none 0 0, .slice none 0 0, .slice none 0 0]) (by kernel_rfl) (by kernel_rfl) (by kernel_rfl)) ?_; clear h16
 rintro _ w26 a25 ⟨N27, rfl, hN30, hz31, hk29, hg28⟩ h25
 have hr33 := row_kept_new hr18 (below_grown hb21)
 have ha32 := row_fresh hr33 hN30
 have ha34 := row_fresh hq20 hN30
 have hz35 := hg28.size
 try dsimp only at h25
 have hr41 := row_kept_new hq20 hg28
 refine pwD h25 rfl (op_storeN rfl rfl rfl (all_cons rfl (all_cons rfl (all_cons rfl (all_cons rfl (all_cons rfl (all_cons rfl (all_cons rfl (all_cons rfl (all_cons rfl (all_cons rfl (all_cons rfl (all_cons rfl (all_cons rfl (all_cons rfl (all_cons rfl (all_cons rfl (all_cons rfl (all_cons rfl (all_cons rfl (all_cons rfl (all_cons (row_one hr41) (all_cons rfl all_nil)))))))))))))))))))))) (by kernel_rfl) hk29 rfl) ?_; clear h25
 rintro _ w37 a36 ⟨hk38, hz39, hg40⟩ h36
 have hk38' : Blk w37 N27 74 #[.int .i64 4, .int .i64 (mxI 1 0), .int .i64 0, .int .i64 0, .bool false, .int .u64 0, .int .u64 0, .int .i64 (mxI (((fwA AB 2).length : Nat) : Int) 0), .int .i64 (mxI 2 0), .int .i64 (mxI (fwF AB 2 1) 0), .int .i64 0, .string (⟨#[]⟩), .string (⟨#[]⟩), .int .i64 0, .slice none 0 0, .int .u64 0, .int .i64 0, .int .i64 0, .slice none 0 0, .slice none 0 0, u19, .slice none 0 0] := hk38; clear hk38
 have hz42 := hg40.size
 refine pl_nil ?_
 refine co_then ?_
 refine co_seq ?_
 refine co_reg ?_
 refine pk0 (v := .slice (some ⟨N8, 0, none⟩) 2 2) h36 rfl fun a43 h43 => ?_; clear h36
 have hr46 := row_kept_new hr33 hg28
 have hr47 := row_kept_at hr46 hg40 (ha32)
 refine pw h43 rfl (op_call (args := #[.int .i64 1, .int .i64 0, .int .i64 1, .int .i64 0, .int .u64 9, .slice (some ⟨N8, 0, none⟩) 2 2, .int .i64 2]) (R := fun res xw => ∃ L2 : List EntT, ∃ u : Value, res = .agg #[.int .i64 3, .int .i64 (mxI 1 0), .int .i64 (mxI 0 0), .int .i64 0, .bool false, .int .u64 9, .int .u64 0, .int .i64 (mxI 0 0), .int .i64 (mxI (fwF AB 2 1) 0), .int .i64 (mxI ((stN (fwA AB 2) : Nat) : Int) 0), .int .i64 0, .string (⟨#[]⟩), .string (⟨#[]⟩), .int .i64 0, .slice none 0 0, .int .u64 0, .int .i64 0, .int .i64 0, .slice none 0 0, u, .slice none 0 0, .slice none 0 0] ∧ xw.ownsRow w37.heap.size 38 4 u L2.length (L2.flatMap entE) ∧ EntsH (fun _ => False) w37.heap.size xw L2 ∧ L2.map e0 = (fwE AB 2 1).map e0 ∧ Below w37.heap.size w37 xw) rfl rfl rfl (by kernel_rfl) (by kernel_rfl) (Try.call26 _ _) (fwd_any 1 0 1 0 9 (.slice (some ⟨N8, 0, none⟩) 2 2) AB 2 w37 (row_sl hr47 entE_len) (by rw [hAB]; exact ab_ok _) (by rw [hAB]; exact ab_20)) (by rintro e x ⟨L2, u, rfl, hq50, hq51, hq52, hb53⟩; exact ⟨_, rfl, ⟨L2, u, rfl, hq50, hq51, hq52, hb53⟩⟩)) ?_; clear h43
 rintro _ w45 a44 ⟨L248, u49, rfl, hq50, hq51, hq52, hb53⟩ h44
 have hz54 := hb53.size
 have hl55 := sl_len (row_sl hq50 entE_len)
 have hl56 := ab_fw (L2 := L248) (by rw [← hAB]; exact hq52)
 have hp57 : mxI ((stN (fwA AB 2) : Nat) : Int) 0 = 2 := by rw [hAB]; exact ab_p
 refine pw h44 rfl (op_new (v := fun N => pt N 0) (T := 74) (cs := #[.int .i64 0, .int .i64 0, .int .i64 0, .int .i64 0, .bool false, .int .u64 0, .int .u64 0, .int .i64 0, .int .i64 0, .int .i64 0, .int .i64 0, .string (⟨#[]⟩), .string (⟨#[]⟩), .int .i64 0, .slice none 0 0, .int .u64 0, .int .i64 0, .int .i64 0, .slice none 0 0, .slice none 0 0, .slice none 0 0, .slice none 0 0]) (by kernel_rfl) (by kernel_rfl) (by kernel_rfl)) ?_; clear h44
 rintro _ w59 a58 ⟨N60, rfl, hN63, hz64, hk62, hg61⟩ h58
 have hr66 := row_kept_new hr47 (below_grown hb53)
 have ha65 := row_fresh hr66 hN63
 have hr68 := row_kept_at hr41 hg40 (ha34)
 have hr69 := row_kept_new hr68 (below_grown hb53)
 have ha67 := row_fresh hr69 hN63
 have ha70 := row_fresh hq50 hN63
 have hz71 := hg61.size
 try dsimp only at h58
 have hr77 := row_kept_new hq50 hg61
 refine pwD h58 rfl (op_storeN rfl rfl rfl (all_cons rfl (all_cons rfl (all_cons rfl (all_cons rfl (all_cons rfl (all_cons rfl (all_cons rfl (all_cons rfl (all_cons rfl (all_cons rfl (all_cons rfl (all_cons rfl (all_cons rfl (all_cons rfl (all_cons rfl (all_cons rfl (all_cons rfl (all_cons rfl (all_cons rfl (all_cons (row_one hr77) (all_cons rfl (all_cons rfl all_nil)))))))))))))))))))))) (by kernel_rfl) hk62 rfl) ?_; clear h58
 rintro _ w73 a72 ⟨hk74, hz75, hg76⟩ h72
 have hk74' : Blk w73 N60 74 #[.int .i64 3, .int .i64 (mxI 1 0), .int .i64 (mxI 0 0), .int .i64 0, .bool false, .int .u64 9, .int .u64 0, .int .i64 (mxI 0 0), .int .i64 (mxI (fwF AB 2 1) 0), .int .i64 (mxI ((stN (fwA AB 2) : Nat) : Int) 0), .int .i64 0, .string (⟨#[]⟩), .string (⟨#[]⟩), .int .i64 0, .slice none 0 0, .int .u64 0, .int .i64 0, .int .i64 0, .slice none 0 0, u49, .slice none 0 0, .slice none 0 0] := hk74; clear hk74
 have hz78 := hg76.size
 refine pl_nil ?_
 refine co_then ?_
 refine co_seq ?_
 refine co_reg ?_
 refine pk0 (v := pt N27 0) h72 rfl fun a79 h79 => ?_; clear h72
 have hk80 := hk38'.below hb53
 have hk81 := hk80.kept hg61 (by simp)
 have hk82 := hk81.kept hg76 (by simp; omega)
 refine pk (v := .int .i64 4) h79 rfl (rn_load1 rfl rfl Try.isAgg3 (hk82.cell rfl)) fun a83 h83 => ?_; clear h79
 refine pk0 (v := .bool ((4 : Int) == 4)) h83 rfl fun a84 h84 => ?_; clear h83
 refine pk0 (v := .bool ((4 : Int) == 4)) h84 rfl fun a85 h85 => ?_; clear h84
 have hc86 : ((4 : Int) == 4) = true := by first | (simp; done) | (simp; omega) | exact beq_false_of_ne (by omega) | exact beq_iff_eq.2 (by omega)
 rw [hc86] at h85; clear hc86
 refine pk0 (v := pt N27 20) h85 rfl fun a87 h87 => ?_; clear h85
 refine pk (v := u19) h87 rfl (rn_load1 rfl rfl Try.isAgg71 (hk82.cell rfl)) fun a88 h88 => ?_; clear h87
 have hr89 := row_kept_new hr69 hg61
 have hr90 := row_kept_at hr89 hg76 (ha67)
 refine pk (v := .int .i64 (((akS AB 2 1).length : Nat) : Int)) h88 rfl (rn_lenOwn rfl rfl Try.underlying71 hr90) fun a91 h91 => ?_; clear h88
 refine pk0 (v := .bool ((((akS AB 2 1).length : Nat) : Int) == 1)) h91 rfl fun a92 h92 => ?_; clear h91
 refine pk0 (v := .bool ((((akS AB 2 1).length : Nat) : Int) == 1)) h92 rfl fun a93 h93 => ?_; clear h92
 refine pk0 (v := .bool ((((akS AB 2 1).length : Nat) : Int) == 1)) h93 rfl fun a94 h94 => ?_; clear h93
 have hc95 : ((((akS AB 2 1).length : Nat) : Int) == 1) = true := by first | (simp; done) | (simp; omega) | exact beq_false_of_ne (by omega) | exact beq_iff_eq.2 (by omega)
 rw [hc95] at h94; clear hc95
 refine pk0 (v := pt N27 20) h94 rfl fun a96 h96 => ?_; clear h94
 refine pk (v := u19) h96 rfl (rn_load1 rfl rfl Try.isAgg71 (hk82.cell rfl)) fun a97 h97 => ?_; clear h96
 obtain ⟨y98, hy98⟩ : ∃ z, (akS AB 2 1)[0]? = some z := ⟨_, List.getElem?_eq_getElem (by first | omega | (simp; done) | (simp; omega))⟩
 have h5y98 : y98 = 5 := by have h := hy98; rw [hAB, ab_ak] at h; simpa using h.symm
 refine pk (v := pt (blkOf u19) (offOf u19 + 0 * 1)) h97 rfl (rn_index rfl rfl rfl Try.underlying71 Try.sizeOf29 (row_sl hr90 (intE_len .u64)) (by omega) (by first | omega | (simp; done) | (simp; omega))) fun a99 h99 => ?_; clear h97
 refine pk (v := .int .u64 y98) h99 rfl (rn_load1 rfl rfl Try.isAgg29 ((sl_at (row_sl hr90 (intE_len .u64)) hy98) 0 _ rfl)) fun a100 h100 => ?_; clear h99
 refine pk0 (v := .bool (y98 == 5)) h100 rfl fun a101 h101 => ?_; clear h100
 refine pk0 (v := .bool (y98 == 5)) h101 rfl fun a102 h102 => ?_; clear h101
 refine pk0 (v := .bool (y98 == 5)) h102 rfl fun a103 h103 => ?_; clear h102
 have hc104 : (y98 == 5) = true := by first | (simp; done) | (simp; omega) | exact beq_false_of_ne (by omega) | exact beq_iff_eq.2 (by omega)
 rw [hc104] at h103; clear hc104
 refine pk0 (v := pt N60 19) h103 rfl fun a105 h105 => ?_; clear h103
 refine pk (v := u49) h105 rfl (rn_load1 rfl rfl Try.isAgg69 (hk74'.cell rfl)) fun a106 h106 => ?_; clear h105
 have hr107 := row_kept_at hr77 hg76 (ha70)
 refine pk (v := .int .i64 ((L248.length : Nat) : Int)) h106 rfl (rn_lenOwn rfl rfl Try.underlying69 hr107) fun a108 h108 => ?_; clear h106
 refine pk0 (v := .bool (((L248.length : Nat) : Int) == 1)) h108 rfl fun a109 h109 => ?_; clear h108
 refine pk0 (v := .bool (((L248.length : Nat) : Int) == 1)) h109 rfl fun a110 h110 => ?_; clear h109
 refine pk0 (v := .bool (((L248.length : Nat) : Int) == 1)) h110 rfl fun a111 h111 => ?_; clear h110
 have hc112 : (((L248.length : Nat) : Int) == 1) = true := by first | (simp; done) | (simp; omega) | exact beq_false_of_ne (by omega) | exact beq_iff_eq.2 (by omega)
 rw [hc112] at h111; clear hc112
 refine pk0 (v := pt N60 9) h111 rfl fun a113 h113 => ?_; clear h111
 refine pk (v := .int .i64 (mxI ((stN (fwA AB 2) : Nat) : Int) 0)) h113 rfl (rn_load1 rfl rfl Try.isAgg3 (hk74'.cell rfl)) fun a114 h114 => ?_; clear h113
 refine pk0 (v := .bool (mxI ((stN (fwA AB 2) : Nat) : Int) 0 == 2)) h114 rfl fun a115 h115 => ?_; clear h114
 refine pk0 (v := .bool (mxI ((stN (fwA AB 2) : Nat) : Int) 0 == 2)) h115 rfl fun a116 h116 => ?_; clear h115
 refine pk0 (v := .bool (mxI ((stN (fwA AB 2) : Nat) : Int) 0 == 2)) h116 rfl fun a117 h117 => ?_; clear h116
 have hc118 : (mxI ((stN (fwA AB 2) : Nat) : Int) 0 == 2) = true := by first | (simp; done) | (simp; omega) | exact beq_false_of_ne (by omega) | exact beq_iff_eq.2 (by omega)
 rw [hc118] at h117; clear hc118
 refine pk0 (v := pt N60 5) h117 rfl fun a119 h119 => ?_; clear h117
 refine pk (v := .int .u64 9) h119 rfl (rn_load1 rfl rfl Try.isAgg29 (hk74'.cell rfl)) fun a120 h120 => ?_; clear h119
 refine pk0 (v := .bool ((9 : Int) == 9)) h120 rfl fun a121 h121 => ?_; clear h120
 refine pk0 (v := .bool ((9 : Int) == 9)) h121 rfl fun a122 h122 => ?_; clear h121
 refine pk0 (v := .bool ((9 : Int) == 9)) h122 rfl fun a123 h123 => ?_; clear h122
 refine pl_nil ?_
 refine co_then ?_
 refine wp_ret ?_
 refine co_ret1 h123 rfl rfl ?_
 have hB124 := hb_new hB0 hg9
 have hB125 := hb_call hB124 hb21
 have hB126 := hb_new hB125 hg28
 have hB127 := hb_at hB126 hg40 (by omega)
 have hB128 := hb_call hB127 hb53
 have hB129 := hb_new hB128 hg61
 have hB130 := hb_at hB129 hg76 (by omega)
 exact ⟨rfl, hB130⟩
end Go.Proofs.Ytlbemlodcdgakaa
