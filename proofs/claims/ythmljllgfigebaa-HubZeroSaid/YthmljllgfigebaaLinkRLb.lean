/- Package link: Put of both. Conditions: a text of at most 140737488351232 bytes. -/
import Derived.Test.YthmljllgfigebaaLinkBLb
import Derived.Test.YthmljllgfigebaaObjELb
namespace Go.Proofs.Ythmljllgfigebaa
open Go.RowKit Go.PlainAid
set_option linter.unusedVariables false


def numsP (l : List Int) (p : List UInt8 × Int) : List UInt8 × Int := l.foldl (fun p n => wNum n p) p
theorem numsP_step {l : List Int} {k : Nat} {y : Int} {p : List UInt8 × Int} (h : l[k]? = some y) : wNum y (numsP (l.take k) p) = numsP (l.take (k + 1)) p := by unfold numsP; rw [List.take_add_one, h]; simp
/-- A segment, written. -/
def segP (s : SegT) : List UInt8 × Int := wText s.body (wFlag s.has (wNum s.asq (wNum s.ast (wNum s.ab (wNum s.seq (wNum s.stream (wNum s.boot (([] : List UInt8), (0 : Int)))))))))
def putG (s : SegT) : ByteArray × Int := if (doneW (segP s)).2 ≠ 0 then (⟨#[]⟩, (doneW (segP s)).2) else if 65536 < s.body.size then (⟨#[]⟩, 3) else doneW (segP s)
def SegB (s : SegT) : Prop := (s.boot ≤ 9223372036854775807 ∧ s.stream ≤ 9223372036854775807 ∧ s.seq ≤ 9223372036854775807 ∧ s.ab ≤ 9223372036854775807 ∧ s.ast ≤ 9223372036854775807 ∧ s.asq ≤ 9223372036854775807) ∧ s.body.size ≤ 140737488351232
theorem putG_a {s : SegT} {d : ByteArray × Int} (hd : d = doneW (segP s)) (h : ¬ d.2 = 0) : putG s = (⟨#[]⟩, d.2) := by subst hd; unfold putG; rw [if_pos h]
theorem putG_b {s : SegT} {d : ByteArray × Int} (hd : d = doneW (segP s)) (h : d.2 = 0) (h2 : 65536 < s.body.size) : putG s = (⟨#[]⟩, 3) := by subst hd; unfold putG; rw [if_neg (by omega), if_pos h2]
theorem putG_c {s : SegT} {d : ByteArray × Int} (hd : d = doneW (segP s)) (h : d.2 = 0) (h2 : ¬ 65536 < s.body.size) : putG s = (d.1, 0) := by subst hd; unfold putG; rw [if_neg (by omega), if_neg h2, ← h]

set_option maxRecDepth 100000 in
theorem lkPut_any (s : SegT) (w : World) (hsb : SegB s) :
    Calls Try.prog 44 #[.agg #[.int .i64 s.boot, .int .i64 s.stream, .int .i64 s.seq, .int .i64 s.ab, .int .i64 s.ast, .int .i64 s.asq, .bool s.has, .string s.body]] w fun e w' => e = .returned (.tuple #[.string ((putG s).1), .int .i64 ((putG s).2)]) ∧ Below w.heap.size w w' := by
 obtain ⟨⟨q1, q2, q3, q4, q5, q6⟩, q7⟩ := id hsb
 have hB0 := Below.refl w.heap.size w
 refine co_enter (n := 45) Try.func44 rfl rfl rfl [(0, .agg #[.int .i64 s.boot, .int .i64 s.stream, .int .i64 s.seq, .int .i64 s.ab, .int .i64 s.ast, .int .i64 s.asq, .bool s.has, .string s.body])] rfl (fun a h0 => ?_)
 refine co_seq ?_
 refine co_reg ?_
 refine pw h0 rfl (op_new (v := fun N => pt N 0) (T := 61) (cs := #[.int .i64 s.boot, .int .i64 s.stream, .int .i64 s.seq, .int .i64 s.ab, .int .i64 s.ast, .int .i64 s.asq, .bool s.has, .string s.body]) (by kernel_rfl) (by kernel_rfl) (by kernel_rfl)) ?_; clear h0
 rintro _ w2 a1 ⟨N3, rfl, hN6, hz7, hk5, hg4⟩ h1
 have hz8 := hg4.size
 try dsimp only at h1
 refine pk0 (v := .string (⟨#[]⟩)) h1 rfl fun a9 h9 => ?_; clear h1
 refine pk0 (v := .int .i64 0) h9 rfl fun a10 h10 => ?_; clear h9
 refine pl_nil ?_
 refine co_then ?_
 refine co_seq ?_
 refine dr_gen (fun x => Below w.heap.size w x ∧ Blk x N3 61 #[.int .i64 s.boot, .int .i64 s.stream, .int .i64 s.seq, .int .i64 s.ab, .int .i64 s.ast, .int .i64 s.asq, .bool s.has, .string s.body]) (by kernel_rfl) (fun w11 hg12 => ?_) (fun w11 hg12 => ?_)
 ·
  have hz13 := hg12.size
  have hB14 := hb_new hB0 hg4
  have hB15 := hb_new hB14 hg12
  have hk16 := hk5.kept hg12 (by simp)
  exact ⟨hB15, hk16⟩
 have hz17 := hg12.size
 have hB18 := hb_new hB0 hg4
 have hB19 := hb_new hB18 hg12
 have hk20 := hk5.kept hg12 (by simp)
 refine dk0 1 (v := pt N3 0) h10 rfl rfl ⟨hB19, hk20⟩ fun a21 h21 => ?_; clear h10
 refine dk 2 (v := .int .i64 s.boot) h21 rfl rfl ⟨hB19, hk20⟩ (fun x hx => (rn_load1 rfl rfl Try.isAgg3 (hx.2.cell rfl))) fun a22 h22 => ?_; clear h21
 refine dk0 4 (v := pt N3 1) h22 rfl rfl ⟨hB19, hk20⟩ fun a23 h23 => ?_; clear h22
 refine dk 5 (v := .int .i64 s.stream) h23 rfl rfl ⟨hB19, hk20⟩ (fun x hx => (rn_load1 rfl rfl Try.isAgg3 (hx.2.cell rfl))) fun a24 h24 => ?_; clear h23
 refine dk0 7 (v := pt N3 2) h24 rfl rfl ⟨hB19, hk20⟩ fun a25 h25 => ?_; clear h24
 refine dk 8 (v := .int .i64 s.seq) h25 rfl rfl ⟨hB19, hk20⟩ (fun x hx => (rn_load1 rfl rfl Try.isAgg3 (hx.2.cell rfl))) fun a26 h26 => ?_; clear h25
 refine dk0 10 (v := pt N3 3) h26 rfl rfl ⟨hB19, hk20⟩ fun a27 h27 => ?_; clear h26
 refine dk 11 (v := .int .i64 s.ab) h27 rfl rfl ⟨hB19, hk20⟩ (fun x hx => (rn_load1 rfl rfl Try.isAgg3 (hx.2.cell rfl))) fun a28 h28 => ?_; clear h27
 refine dk0 13 (v := pt N3 4) h28 rfl rfl ⟨hB19, hk20⟩ fun a29 h29 => ?_; clear h28
 refine dk 14 (v := .int .i64 s.ast) h29 rfl rfl ⟨hB19, hk20⟩ (fun x hx => (rn_load1 rfl rfl Try.isAgg3 (hx.2.cell rfl))) fun a30 h30 => ?_; clear h29
 refine dk0 16 (v := pt N3 5) h30 rfl rfl ⟨hB19, hk20⟩ fun a31 h31 => ?_; clear h30
 refine dk 17 (v := .int .i64 s.asq) h31 rfl rfl ⟨hB19, hk20⟩ (fun x hx => (rn_load1 rfl rfl Try.isAgg3 (hx.2.cell rfl))) fun a32 h32 => ?_; clear h31
 refine d1 0 h32 rfl rfl (op_call (args := #[]) (R := fun res xw => ∃ b : Nat, res = pt b 0 ∧ b = w11.heap.size ∧ OW b ([], 0) 0 xw ∧ Below w11.heap.size w11 xw) rfl rfl rfl (by kernel_rfl) (by kernel_rfl) (Try.call78 _ _) (ow_new w11) (by rintro e x ⟨b, rfl, h0, h1, h2⟩; exact ⟨_, rfl, b, rfl, h0, h1, h2⟩)) ?_ ?_; clear h32
 ·
  rintro _ w34 ⟨b35, rfl, hN36, ho37, hb38⟩
  have hz39 := hb38.size
  have hl40 := ho37.lt
  have hB41 := hb_call hB19 hb38
  have hk42 := hk20.below hb38
  exact ⟨hB41, hk42⟩
 rintro _ w34 a33 ⟨b35, rfl, hN36, ho37, hb38⟩ h33
 have hz39 := hb38.size
 have hl40 := ho37.lt
 have hB41 := hb_call hB19 hb38
 have hk42 := hk20.below hb38
 refine d1 3 h33 rfl rfl (op_call (args := #[pt b35 0, .int .i64 s.boot]) (R := fun res xw => res = pt b35 0 ∧ OW b35 (wNum s.boot (([] : List UInt8), (0 : Int))) (0 + 9) xw ∧ But (Rw w34 b35) w34 xw) rfl rfl rfl (by kernel_rfl) (by kernel_rfl) (Try.call79 _ _) (ow_num b35 (([] : List UInt8), (0 : Int)) 0 s.boot w34 ho37 (by omega) (by omega)) (by rintro e x ⟨rfl, h1, h2⟩; exact ⟨_, rfl, rfl, h1, h2⟩)) ?_ ?_; clear h33
 ·
  rintro _ w44 ⟨rfl, ho45, hx46⟩
  have hz47 := hx46.size
  have hl48 := ho45.lt
  have hB49 := hb_wr hB41 ho37 (by omega) hx46
  have hk50 := blk_wr hk42 ho37 (by decide) (by omega) hx46
  exact ⟨hB49, hk50⟩
 rintro _ w44 a43 ⟨rfl, ho45, hx46⟩ h43
 have hz47 := hx46.size
 have hl48 := ho45.lt
 have hB49 := hb_wr hB41 ho37 (by omega) hx46
 have hk50 := blk_wr hk42 ho37 (by decide) (by omega) hx46
 refine d1 6 h43 rfl rfl (op_call (args := #[pt b35 0, .int .i64 s.stream]) (R := fun res xw => res = pt b35 0 ∧ OW b35 (wNum s.stream (wNum s.boot (([] : List UInt8), (0 : Int)))) (0 + 9 + 9) xw ∧ But (Rw w44 b35) w44 xw) rfl rfl rfl (by kernel_rfl) (by kernel_rfl) (Try.call79 _ _) (ow_num b35 (wNum s.boot (([] : List UInt8), (0 : Int))) (0 + 9) s.stream w44 ho45 (by omega) (by omega)) (by rintro e x ⟨rfl, h1, h2⟩; exact ⟨_, rfl, rfl, h1, h2⟩)) ?_ ?_; clear h43
 ·
  rintro _ w52 ⟨rfl, ho53, hx54⟩
  have hz55 := hx54.size
  have hl56 := ho53.lt
  have hB57 := hb_wr hB49 ho45 (by omega) hx54
  have hk58 := blk_wr hk50 ho45 (by decide) (by omega) hx54
  exact ⟨hB57, hk58⟩
 rintro _ w52 a51 ⟨rfl, ho53, hx54⟩ h51
 have hz55 := hx54.size
 have hl56 := ho53.lt
 have hB57 := hb_wr hB49 ho45 (by omega) hx54
 have hk58 := blk_wr hk50 ho45 (by decide) (by omega) hx54
 refine d1 9 h51 rfl rfl (op_call (args := #[pt b35 0, .int .i64 s.seq]) (R := fun res xw => res = pt b35 0 ∧ OW b35 (wNum s.seq (wNum s.stream (wNum s.boot (([] : List UInt8), (0 : Int))))) (0 + 9 + 9 + 9) xw ∧ But (Rw w52 b35) w52 xw) rfl rfl rfl (by kernel_rfl) (by kernel_rfl) (Try.call79 _ _) (ow_num b35 (wNum s.stream (wNum s.boot (([] : List UInt8), (0 : Int)))) (0 + 9 + 9) s.seq w52 ho53 (by omega) (by omega)) (by rintro e x ⟨rfl, h1, h2⟩; exact ⟨_, rfl, rfl, h1, h2⟩)) ?_ ?_; clear h51
 ·
  rintro _ w60 ⟨rfl, ho61, hx62⟩
  have hz63 := hx62.size
  have hl64 := ho61.lt
  have hB65 := hb_wr hB57 ho53 (by omega) hx62
  have hk66 := blk_wr hk58 ho53 (by decide) (by omega) hx62
  exact ⟨hB65, hk66⟩
 rintro _ w60 a59 ⟨rfl, ho61, hx62⟩ h59
 have hz63 := hx62.size
 have hl64 := ho61.lt
 have hB65 := hb_wr hB57 ho53 (by omega) hx62
 have hk66 := blk_wr hk58 ho53 (by decide) (by omega) hx62
 refine d1 12 h59 rfl rfl (op_call (args := #[pt b35 0, .int .i64 s.ab]) (R := fun res xw => res = pt b35 0 ∧ OW b35 (wNum s.ab (wNum s.seq (wNum s.stream (wNum s.boot (([] : List UInt8), (0 : Int)))))) (0 + 9 + 9 + 9 + 9) xw ∧ But (Rw w60 b35) w60 xw) rfl rfl rfl (by kernel_rfl) (by kernel_rfl) (Try.call79 _ _) (ow_num b35 (wNum s.seq (wNum s.stream (wNum s.boot (([] : List UInt8), (0 : Int))))) (0 + 9 + 9 + 9) s.ab w60 ho61 (by omega) (by omega)) (by rintro e x ⟨rfl, h1, h2⟩; exact ⟨_, rfl, rfl, h1, h2⟩)) ?_ ?_; clear h59
 ·
  rintro _ w68 ⟨rfl, ho69, hx70⟩
  have hz71 := hx70.size
  have hl72 := ho69.lt
  have hB73 := hb_wr hB65 ho61 (by omega) hx70
  have hk74 := blk_wr hk66 ho61 (by decide) (by omega) hx70
  exact ⟨hB73, hk74⟩
 rintro _ w68 a67 ⟨rfl, ho69, hx70⟩ h67
 have hz71 := hx70.size
 have hl72 := ho69.lt
 have hB73 := hb_wr hB65 ho61 (by omega) hx70
 have hk74 := blk_wr hk66 ho61 (by decide) (by omega) hx70
 refine d1 15 h67 rfl rfl (op_call (args := #[pt b35 0, .int .i64 s.ast]) (R := fun res xw => res = pt b35 0 ∧ OW b35 (wNum s.ast (wNum s.ab (wNum s.seq (wNum s.stream (wNum s.boot (([] : List UInt8), (0 : Int))))))) (0 + 9 + 9 + 9 + 9 + 9) xw ∧ But (Rw w68 b35) w68 xw) rfl rfl rfl (by kernel_rfl) (by kernel_rfl) (Try.call79 _ _) (ow_num b35 (wNum s.ab (wNum s.seq (wNum s.stream (wNum s.boot (([] : List UInt8), (0 : Int)))))) (0 + 9 + 9 + 9 + 9) s.ast w68 ho69 (by omega) (by omega)) (by rintro e x ⟨rfl, h1, h2⟩; exact ⟨_, rfl, rfl, h1, h2⟩)) ?_ ?_; clear h67
 ·
  rintro _ w76 ⟨rfl, ho77, hx78⟩
  have hz79 := hx78.size
  have hl80 := ho77.lt
  have hB81 := hb_wr hB73 ho69 (by omega) hx78
  have hk82 := blk_wr hk74 ho69 (by decide) (by omega) hx78
  exact ⟨hB81, hk82⟩
 rintro _ w76 a75 ⟨rfl, ho77, hx78⟩ h75
 have hz79 := hx78.size
 have hl80 := ho77.lt
 have hB81 := hb_wr hB73 ho69 (by omega) hx78
 have hk82 := blk_wr hk74 ho69 (by decide) (by omega) hx78
 refine d1 18 h75 rfl rfl (op_call (args := #[pt b35 0, .int .i64 s.asq]) (R := fun res xw => res = pt b35 0 ∧ OW b35 (wNum s.asq (wNum s.ast (wNum s.ab (wNum s.seq (wNum s.stream (wNum s.boot (([] : List UInt8), (0 : Int)))))))) (0 + 9 + 9 + 9 + 9 + 9 + 9) xw ∧ But (Rw w76 b35) w76 xw) rfl rfl rfl (by kernel_rfl) (by kernel_rfl) (Try.call79 _ _) (ow_num b35 (wNum s.ast (wNum s.ab (wNum s.seq (wNum s.stream (wNum s.boot (([] : List UInt8), (0 : Int))))))) (0 + 9 + 9 + 9 + 9 + 9) s.asq w76 ho77 (by omega) (by omega)) (by rintro e x ⟨rfl, h1, h2⟩; exact ⟨_, rfl, rfl, h1, h2⟩)) ?_ ?_; clear h75
 ·
  rintro _ w84 ⟨rfl, ho85, hx86⟩
  have hz87 := hx86.size
  have hl88 := ho85.lt
  have hB89 := hb_wr hB81 ho77 (by omega) hx86
  have hk90 := blk_wr hk82 ho77 (by decide) (by omega) hx86
  exact ⟨hB89, hk90⟩
 rintro _ w84 a83 ⟨rfl, ho85, hx86⟩ h83
 have hz87 := hx86.size
 have hl88 := ho85.lt
 have hB89 := hb_wr hB81 ho77 (by omega) hx86
 have hk90 := blk_wr hk82 ho77 (by decide) (by omega) hx86
 refine dk0 19 (v := pt b35 0) h83 rfl rfl ⟨hB89, hk90⟩ fun a91 h91 => ?_; clear h83
 refine dr_done (by kernel_rfl) ?_
 refine co_then ?_
 refine co_seq ?_
 refine dr_gen (fun x => Below w.heap.size w x ∧ Blk x N3 61 #[.int .i64 s.boot, .int .i64 s.stream, .int .i64 s.seq, .int .i64 s.ab, .int .i64 s.ast, .int .i64 s.asq, .bool s.has, .string s.body]) (by kernel_rfl) (fun w92 hg93 => ?_) (fun w92 hg93 => ?_)
 ·
  have hz94 := hg93.size
  have hB95 := hb_new hB89 hg93
  have hk96 := hk90.kept hg93 (by simp)
  exact ⟨hB95, hk96⟩
 have hz97 := hg93.size
 have hB98 := hb_new hB89 hg93
 have hk99 := hk90.kept hg93 (by simp)
 refine dk0 0 (v := pt b35 0) h91 rfl rfl ⟨hB98, hk99⟩ fun a100 h100 => ?_; clear h91
 refine dk0 1 (v := pt N3 6) h100 rfl rfl ⟨hB98, hk99⟩ fun a101 h101 => ?_; clear h100
 refine dk 2 (v := .bool s.has) h101 rfl rfl ⟨hB98, hk99⟩ (fun x hx => (rn_load1 rfl rfl Try.isAgg4 (hx.2.cell rfl))) fun a102 h102 => ?_; clear h101
 refine dk0 4 (v := pt N3 7) h102 rfl rfl ⟨hB98, hk99⟩ fun a103 h103 => ?_; clear h102
 refine dk 5 (v := .string s.body) h103 rfl rfl ⟨hB98, hk99⟩ (fun x hx => (rn_load1 rfl rfl Try.isAgg9 (hx.2.cell rfl))) fun a104 h104 => ?_; clear h103
 have ho109 := ho85.new hg93
 refine d1 3 h104 rfl rfl (op_call (args := #[pt b35 0, .bool s.has]) (R := fun res xw => res = pt b35 0 ∧ OW b35 (wFlag s.has (wNum s.asq (wNum s.ast (wNum s.ab (wNum s.seq (wNum s.stream (wNum s.boot (([] : List UInt8), (0 : Int))))))))) (0 + 9 + 9 + 9 + 9 + 9 + 9 + 1) xw ∧ But (Rw w92 b35) w92 xw) rfl rfl rfl (by kernel_rfl) (by kernel_rfl) (Try.call80 _ _) (ow_flag b35 (wNum s.asq (wNum s.ast (wNum s.ab (wNum s.seq (wNum s.stream (wNum s.boot (([] : List UInt8), (0 : Int)))))))) (0 + 9 + 9 + 9 + 9 + 9 + 9) s.has w92 ho109 (by omega)) (by rintro e x ⟨rfl, h1, h2⟩; exact ⟨_, rfl, rfl, h1, h2⟩)) ?_ ?_; clear h104
 ·
  rintro _ w106 ⟨rfl, ho107, hx108⟩
  have hz110 := hx108.size
  have hl111 := ho107.lt
  have hB112 := hb_wr hB98 ho109 (by omega) hx108
  have hk113 := blk_wr hk99 ho109 (by decide) (by omega) hx108
  exact ⟨hB112, hk113⟩
 rintro _ w106 a105 ⟨rfl, ho107, hx108⟩ h105
 have hz110 := hx108.size
 have hl111 := ho107.lt
 have hB112 := hb_wr hB98 ho109 (by omega) hx108
 have hk113 := blk_wr hk99 ho109 (by decide) (by omega) hx108
 refine d1 6 h105 rfl rfl (op_call (args := #[pt b35 0, .string s.body]) (R := fun res xw => res = pt b35 0 ∧ OW b35 (wText s.body (wFlag s.has (wNum s.asq (wNum s.ast (wNum s.ab (wNum s.seq (wNum s.stream (wNum s.boot (([] : List UInt8), (0 : Int)))))))))) (0 + 9 + 9 + 9 + 9 + 9 + 9 + 1 + (9 + s.body.size)) xw ∧ But (Rw w106 b35) w106 xw) rfl rfl rfl (by kernel_rfl) (by kernel_rfl) (Try.call81 _ _) (ow_text b35 (wFlag s.has (wNum s.asq (wNum s.ast (wNum s.ab (wNum s.seq (wNum s.stream (wNum s.boot (([] : List UInt8), (0 : Int))))))))) (0 + 9 + 9 + 9 + 9 + 9 + 9 + 1) s.body w106 ho107 (by first | omega | (simp; done) | (simp; omega))) (by rintro e x ⟨rfl, h1, h2⟩; exact ⟨_, rfl, rfl, h1, h2⟩)) ?_ ?_; clear h105
 ·
  rintro _ w115 ⟨rfl, ho116, hx117⟩
  have hz118 := hx117.size
  have hl119 := ho116.lt
  have hB120 := hb_wr hB112 ho107 (by omega) hx117
  have hk121 := blk_wr hk113 ho107 (by decide) (by omega) hx117
  exact ⟨hB120, hk121⟩
 rintro _ w115 a114 ⟨rfl, ho116, hx117⟩ h114
 have hz118 := hx117.size
 have hl119 := ho116.lt
 have hB120 := hb_wr hB112 ho107 (by omega) hx117
 have hk121 := blk_wr hk113 ho107 (by decide) (by omega) hx117
 refine d1 7 h114 rfl rfl (op_call (args := #[pt b35 0]) (R := fun res xw => res = .tuple #[.string ((doneW (wText s.body (wFlag s.has (wNum s.asq (wNum s.ast (wNum s.ab (wNum s.seq (wNum s.stream (wNum s.boot (([] : List UInt8), (0 : Int))))))))))).1), .int .i64 ((doneW (wText s.body (wFlag s.has (wNum s.asq (wNum s.ast (wNum s.ab (wNum s.seq (wNum s.stream (wNum s.boot (([] : List UInt8), (0 : Int))))))))))).2)] ∧ Below w115.heap.size w115 xw) rfl rfl rfl (by kernel_rfl) (by kernel_rfl) (Try.call82 _ _) (ow_done b35 (wText s.body (wFlag s.has (wNum s.asq (wNum s.ast (wNum s.ab (wNum s.seq (wNum s.stream (wNum s.boot (([] : List UInt8), (0 : Int)))))))))) (0 + 9 + 9 + 9 + 9 + 9 + 9 + 1 + (9 + s.body.size)) w115 ho116) (by rintro e x ⟨rfl, h2⟩; exact ⟨_, rfl, rfl, h2⟩)) ?_ ?_; clear h114
 ·
  rintro _ w123 ⟨rfl, hb124⟩
  have hz126 := hb124.size
  have hB127 := hb_call hB120 hb124
  have hk128 := hk121.below hb124
  exact ⟨hB127, hk128⟩
 rintro _ w123 a122 ⟨rfl, hb124⟩ h122
 have hz126 := hb124.size
 have hB127 := hb_call hB120 hb124
 have hk128 := hk121.below hb124
 refine dk0 8 (v := .tuple #[.string ((doneW (wText s.body (wFlag s.has (wNum s.asq (wNum s.ast (wNum s.ab (wNum s.seq (wNum s.stream (wNum s.boot (([] : List UInt8), (0 : Int))))))))))).1), .int .i64 ((doneW (wText s.body (wFlag s.has (wNum s.asq (wNum s.ast (wNum s.ab (wNum s.seq (wNum s.stream (wNum s.boot (([] : List UInt8), (0 : Int))))))))))).2)]) h122 rfl rfl ⟨hB127, hk128⟩ fun a129 h129 => ?_; clear h122
 refine dk0 9 (v := .string ((doneW (wText s.body (wFlag s.has (wNum s.asq (wNum s.ast (wNum s.ab (wNum s.seq (wNum s.stream (wNum s.boot (([] : List UInt8), (0 : Int))))))))))).1)) h129 rfl rfl ⟨hB127, hk128⟩ fun a130 h130 => ?_; clear h129
 refine dk0 10 (v := .int .i64 ((doneW (wText s.body (wFlag s.has (wNum s.asq (wNum s.ast (wNum s.ab (wNum s.seq (wNum s.stream (wNum s.boot (([] : List UInt8), (0 : Int))))))))))).2)) h130 rfl rfl ⟨hB127, hk128⟩ fun a131 h131 => ?_; clear h130
 refine dk0 11 (v := .string ((doneW (wText s.body (wFlag s.has (wNum s.asq (wNum s.ast (wNum s.ab (wNum s.seq (wNum s.stream (wNum s.boot (([] : List UInt8), (0 : Int))))))))))).1)) h131 rfl rfl ⟨hB127, hk128⟩ fun a132 h132 => ?_; clear h131
 refine dk0 12 (v := .int .i64 ((doneW (wText s.body (wFlag s.has (wNum s.asq (wNum s.ast (wNum s.ab (wNum s.seq (wNum s.stream (wNum s.boot (([] : List UInt8), (0 : Int))))))))))).2)) h132 rfl rfl ⟨hB127, hk128⟩ fun a133 h133 => ?_; clear h132
 refine dr_done (by kernel_rfl) ?_
 refine co_then ?_
 refine co_seq ?_
 refine co_seq ?_
 refine co_reg ?_
 refine pk0 (v := .int .i64 ((doneW (wText s.body (wFlag s.has (wNum s.asq (wNum s.ast (wNum s.ab (wNum s.seq (wNum s.stream (wNum s.boot (([] : List UInt8), (0 : Int))))))))))).2)) h133 rfl fun a134 h134 => ?_; clear h133
 refine pk0 (v := .bool ((doneW (wText s.body (wFlag s.has (wNum s.asq (wNum s.ast (wNum s.ab (wNum s.seq (wNum s.stream (wNum s.boot (([] : List UInt8), (0 : Int))))))))))).2 != 0)) h134 rfl fun a135 h135 => ?_; clear h134
 refine pl_nil ?_
 refine co_then ?_
 cases hc136 : ((doneW (wText s.body (wFlag s.has (wNum s.asq (wNum s.ast (wNum s.ab (wNum s.seq (wNum s.stream (wNum s.boot (([] : List UInt8), (0 : Int))))))))))).2 != 0)
 ·
  rw [hc136] at h135
  have hp137 : ¬ ((doneW (wText s.body (wFlag s.has (wNum s.asq (wNum s.ast (wNum s.ab (wNum s.seq (wNum s.stream (wNum s.boot (([] : List UInt8), (0 : Int))))))))))).2 ≠ 0) := by first | simpa using hc136 | simpa [and_assoc] using hc136
  clear hc136
  refine co_false h135 rfl ?_
  refine wp_skip ?_
  refine co_then ?_
  refine co_seq ?_
  refine co_seq ?_
  refine co_reg ?_
  refine pk0 (v := pt N3 7) h135 rfl fun a138 h138 => ?_; clear h135
  refine pk (v := .string s.body) h138 rfl (rn_load1 rfl rfl Try.isAgg9 (hk128.cell rfl)) fun a139 h139 => ?_; clear h138
  refine pk (v := .int .i64 ((s.body.size : Nat) : Int)) h139 rfl (rn_lenStr rfl rfl Try.underlying9) fun a140 h140 => ?_; clear h139
  refine pk0 (v := .bool (decide (((s.body.size : Nat) : Int) > 65536))) h140 rfl fun a141 h141 => ?_; clear h140
  refine pl_nil ?_
  refine co_then ?_
  cases hc142 : (decide (((s.body.size : Nat) : Int) > 65536))
  ·
   rw [hc142] at h141
   have hp143 : ¬ (((s.body.size : Nat) : Int) > 65536) := of_decide_eq_false hc142
   clear hc142
   refine co_false h141 rfl ?_
   refine wp_skip ?_
   refine co_then ?_
   refine co_seq ?_
   refine co_reg ?_
   refine pk0 (v := .string ((doneW (wText s.body (wFlag s.has (wNum s.asq (wNum s.ast (wNum s.ab (wNum s.seq (wNum s.stream (wNum s.boot (([] : List UInt8), (0 : Int))))))))))).1)) h141 rfl fun a144 h144 => ?_; clear h141
   refine pk0 (v := .string ((doneW (wText s.body (wFlag s.has (wNum s.asq (wNum s.ast (wNum s.ab (wNum s.seq (wNum s.stream (wNum s.boot (([] : List UInt8), (0 : Int))))))))))).1)) h144 rfl fun a145 h145 => ?_; clear h144
   refine pk0 (v := .int .i64 0) h145 rfl fun a146 h146 => ?_; clear h145
   refine pl_nil ?_
   refine co_then ?_
   refine wp_ret ?_
   refine co_ret2 h146 rfl rfl rfl ?_
   have hE := putG_c (d := doneW (wText s.body (wFlag s.has (wNum s.asq (wNum s.ast (wNum s.ab (wNum s.seq (wNum s.stream (wNum s.boot (([] : List UInt8), (0 : Int))))))))))) rfl (by omega) (by omega)
   exact ⟨by rw [hE], hB127⟩
  ·
   rw [hc142] at h141
   have hp147 : ((s.body.size : Nat) : Int) > 65536 := of_decide_eq_true hc142
   clear hc142
   refine co_true h141 rfl ?_
   refine co_seq ?_
   refine co_reg ?_
   refine pk0 (v := .string (⟨#[]⟩)) h141 rfl fun a148 h148 => ?_; clear h141
   refine pk0 (v := .int .i64 3) h148 rfl fun a149 h149 => ?_; clear h148
   refine pl_nil ?_
   refine co_then ?_
   refine wp_ret ?_
   refine co_thenR ?_
   refine co_ret2 h149 rfl rfl rfl ?_
   have hE := putG_b (d := doneW (wText s.body (wFlag s.has (wNum s.asq (wNum s.ast (wNum s.ab (wNum s.seq (wNum s.stream (wNum s.boot (([] : List UInt8), (0 : Int))))))))))) rfl (by omega) (by omega)
   exact ⟨by rw [hE], hB127⟩
 ·
  rw [hc136] at h135
  have hp150 : (doneW (wText s.body (wFlag s.has (wNum s.asq (wNum s.ast (wNum s.ab (wNum s.seq (wNum s.stream (wNum s.boot (([] : List UInt8), (0 : Int))))))))))).2 ≠ 0 := by first | simpa using hc136 | simpa [and_assoc] using hc136
  clear hc136
  refine co_true h135 rfl ?_
  refine co_seq ?_
  refine co_reg ?_
  refine pk0 (v := .int .i64 ((doneW (wText s.body (wFlag s.has (wNum s.asq (wNum s.ast (wNum s.ab (wNum s.seq (wNum s.stream (wNum s.boot (([] : List UInt8), (0 : Int))))))))))).2)) h135 rfl fun a151 h151 => ?_; clear h135
  refine pk0 (v := .string (⟨#[]⟩)) h151 rfl fun a152 h152 => ?_; clear h151
  refine pk0 (v := .int .i64 ((doneW (wText s.body (wFlag s.has (wNum s.asq (wNum s.ast (wNum s.ab (wNum s.seq (wNum s.stream (wNum s.boot (([] : List UInt8), (0 : Int))))))))))).2)) h152 rfl fun a153 h153 => ?_; clear h152
  refine pl_nil ?_
  refine co_then ?_
  refine wp_ret ?_
  refine co_thenR ?_
  refine co_ret2 h153 rfl rfl rfl ?_
  have hE := putG_a (d := doneW (wText s.body (wFlag s.has (wNum s.asq (wNum s.ast (wNum s.ab (wNum s.seq (wNum s.stream (wNum s.boot (([] : List UInt8), (0 : Int))))))))))) rfl (by omega)
  exact ⟨by rw [hE], hB127⟩
set_option maxRecDepth 100000 in
theorem rlPut_any (s : SegT) (w : World) (hsb : SegB s) :
    Calls Try.prog 45 #[.agg #[.int .i64 s.boot, .int .i64 s.stream, .int .i64 s.seq, .int .i64 s.ab, .int .i64 s.ast, .int .i64 s.asq, .bool s.has, .string s.body]] w fun e w' => e = .returned (.tuple #[.string ((putG s).1), .int .i64 ((putG s).2)]) ∧ Below w.heap.size w w' := by
 obtain ⟨⟨q1, q2, q3, q4, q5, q6⟩, q7⟩ := id hsb
 have hB0 := Below.refl w.heap.size w
 refine co_enter (n := 57) Try.func45 rfl rfl rfl [(0, .agg #[.int .i64 s.boot, .int .i64 s.stream, .int .i64 s.seq, .int .i64 s.ab, .int .i64 s.ast, .int .i64 s.asq, .bool s.has, .string s.body])] rfl (fun a h0 => ?_)
 refine co_seq ?_
 refine co_reg ?_
 refine pw h0 rfl (op_new (v := fun N => pt N 0) (T := 61) (cs := #[.int .i64 s.boot, .int .i64 s.stream, .int .i64 s.seq, .int .i64 s.ab, .int .i64 s.ast, .int .i64 s.asq, .bool s.has, .string s.body]) (by kernel_rfl) (by kernel_rfl) (by kernel_rfl)) ?_; clear h0
 rintro _ w2 a1 ⟨N3, rfl, hN6, hz7, hk5, hg4⟩ h1
 have hz8 := hg4.size
 try dsimp only at h1
 refine pk0 (v := .string (⟨#[]⟩)) h1 rfl fun a9 h9 => ?_; clear h1
 refine pk0 (v := .int .i64 0) h9 rfl fun a10 h10 => ?_; clear h9
 refine pl_nil ?_
 refine co_then ?_
 refine co_seq ?_
 refine co_reg ?_
 refine pk0 (v := .agg #[.string (⟨#[]⟩), .int .i64 0]) h10 rfl fun a11 h11 => ?_; clear h10
 refine pw h11 rfl (op_new (v := fun N => pt N 0) (T := 154) (cs := #[.string (⟨#[]⟩), .int .i64 0]) (by kernel_rfl) (by kernel_rfl) (by kernel_rfl)) ?_; clear h11
 rintro _ w13 a12 ⟨N14, rfl, hN17, hz18, hk16, hg15⟩ h12
 have hz19 := hg15.size
 try dsimp only at h12
 refine pk0 (v := pt N14 0) h12 rfl fun a20 h20 => ?_; clear h12
 refine pl_nil ?_
 refine co_then ?_
 refine co_seq ?_
 refine co_reg ?_
 refine pk0 (v := pt N3 0) h20 rfl fun a21 h21 => ?_; clear h20
 have hk22 := hk5.kept hg15 (by simp)
 refine pk (v := .int .i64 s.boot) h21 rfl (rn_load1 rfl rfl Try.isAgg3 (hk22.cell rfl)) fun a23 h23 => ?_; clear h21
 refine pk0 (v := pt N3 1) h23 rfl fun a24 h24 => ?_; clear h23
 refine pk (v := .int .i64 s.stream) h24 rfl (rn_load1 rfl rfl Try.isAgg3 (hk22.cell rfl)) fun a25 h25 => ?_; clear h24
 refine pk0 (v := pt N3 2) h25 rfl fun a26 h26 => ?_; clear h25
 refine pk (v := .int .i64 s.seq) h26 rfl (rn_load1 rfl rfl Try.isAgg3 (hk22.cell rfl)) fun a27 h27 => ?_; clear h26
 refine pk0 (v := pt N3 3) h27 rfl fun a28 h28 => ?_; clear h27
 refine pk (v := .int .i64 s.ab) h28 rfl (rn_load1 rfl rfl Try.isAgg3 (hk22.cell rfl)) fun a29 h29 => ?_; clear h28
 refine pk0 (v := pt N3 4) h29 rfl fun a30 h30 => ?_; clear h29
 refine pk (v := .int .i64 s.ast) h30 rfl (rn_load1 rfl rfl Try.isAgg3 (hk22.cell rfl)) fun a31 h31 => ?_; clear h30
 refine pk0 (v := pt N3 5) h31 rfl fun a32 h32 => ?_; clear h31
 refine pk (v := .int .i64 s.asq) h32 rfl (rn_load1 rfl rfl Try.isAgg3 (hk22.cell rfl)) fun a33 h33 => ?_; clear h32
 refine pw h33 rfl (op_new (v := fun N => .slice (some ⟨N, 0, none⟩) 6 6) (T := 3) (cs := #[.int .i64 s.boot, .int .i64 s.stream, .int .i64 s.seq, .int .i64 s.ab, .int .i64 s.ast, .int .i64 s.asq]) (by kernel_rfl) (by kernel_rfl) (by kernel_rfl)) ?_; clear h33
 rintro _ w35 a34 ⟨N36, rfl, hN39, hz40, hk38, hg37⟩ h34
 have hz41 := hg37.size
 try dsimp only at h34
 refine pk0 (v := .slice (some ⟨N36, 0, none⟩) 6 6) h34 rfl fun a42 h42 => ?_; clear h34
 refine pl_nil ?_
 refine co_then ?_
 refine co_seq ?_
 refine co_seq ?_
 refine co_reg ?_
 refine pk0 (v := .int .i64 0) h42 rfl fun a43 h43 => ?_; clear h42
 refine pl_nil ?_
 refine co_then ?_
 refine wp_block ?_
 have hr44 := row_of_cells (enc := (intE .i64)) (sz := 1) ([s.boot, s.stream, s.seq, s.ab, s.ast, s.asq] : List Int) hk38 (Nat.le_refl _) rfl rfl (by unfold maxLen; simp)
 have hk46 := hk16.kept hg37 (by simp)
 have ho45 := ox_of hk46
 have h47 : Slots 57 [(1, pt N3 0), (4, pt N14 0), (5, .slice (some ⟨N36, 0, none⟩) 6 6), (6, .int .i64 0)] _ := h43.sub ⟨rfl, rfl, rfl, rfl, trivial⟩; clear h43
 refine co_loop (fun mm a x => ∃ (k : Nat), Slots 57 [(1, pt N3 0), (4, pt N14 0), (5, .slice (some ⟨N36, 0, none⟩) 6 6), (6, .int .i64 ((k : Nat) : Int))] a ∧ mm = 6 - k ∧ (k ≤ 6) ∧ x.ownsRow N36 3 1 (.slice (some ⟨N36, 0, none⟩) 6 6) ([s.boot, s.stream, s.seq, s.ab, s.ast, s.asq] : List Int).length (([s.boot, s.stream, s.seq, s.ab, s.ast, s.asq] : List Int).flatMap (intE .i64)) ∧ OX N14 (numsP (([s.boot, s.stream, s.seq, s.ab, s.ast, s.asq] : List Int).take k) (([] : List UInt8), (0 : Int))) (9 * k) x ∧ Below w.heap.size w x ∧ Blk x N3 61 #[.int .i64 s.boot, .int .i64 s.stream, .int .i64 s.seq, .int .i64 s.ab, .int .i64 s.ast, .int .i64 s.asq, .bool s.has, .string s.body]) (6 - 0) ?_ ?_
 have hB48 := hb_new hB0 hg4
 have hB49 := hb_new hB48 hg15
 have hB50 := hb_new hB49 hg37
 have hk51 := hk22.kept hg37 (by simp)
 · exact ⟨0, h47.sub ⟨rfl, rfl, rfl, (slot_eq rfl (congrArg (Value.int .i64) (by first | rfl | omega))), trivial⟩, rfl, by omega, hr44, (ho45.eq (by first | rfl | exact numsP_step (by assumption)) (by first | omega | (simp; done) | (simp; omega))), hB50, hk51⟩
 · rintro k52 a53 w54 ⟨k, h53, rfl, hi55, hf56, hf57, hB58, hk59⟩
   have hz60 := hB58.size
   have hl61 := hk59.lt
   have hl62 := hf57.lt
   refine co_seq ?_
   refine co_seq ?_
   refine co_reg ?_
   refine pk0 (v := .int .i64 ((k : Nat) : Int)) h53 rfl fun a63 h63 => ?_; clear h53
   refine pk0 (v := .slice (some ⟨N36, 0, none⟩) 6 6) h63 rfl fun a64 h64 => ?_; clear h63
   refine pk0 (v := .int .i64 6) h64 rfl fun a65 h65 => ?_; clear h64
   refine pk0 (v := .bool (decide (((k : Nat) : Int) < 6))) h65 rfl fun a66 h66 => ?_; clear h65
   refine pl_nil ?_
   refine co_then ?_
   cases hc67 : (decide (((k : Nat) : Int) < 6))
   ·
    rw [hc67] at h66
    have hp68 : ¬ (((k : Nat) : Int) < 6) := of_decide_eq_false hc67
    clear hc67
    refine co_false h66 rfl ?_
    refine wp_exit ?_
    refine co_thenX ?_
    refine co_thenX ?_
    refine co_blockX ?_
    refine co_then ?_
    refine co_seq ?_
    refine co_reg ?_
    refine pk0 (v := pt N14 0) h66 rfl fun a69 h69 => ?_; clear h66
    refine pk0 (v := pt N3 6) h69 rfl fun a70 h70 => ?_; clear h69
    refine pk (v := .bool s.has) h70 rfl (rn_load1 rfl rfl Try.isAgg4 (hk59.cell rfl)) fun a71 h71 => ?_; clear h70
    refine pw h71 rfl (op_call (args := #[pt N14 0, .bool s.has]) (R := fun res xw => res = .tuple #[] ∧ OX N14 (wFlag s.has (numsP (([s.boot, s.stream, s.seq, s.ab, s.ast, s.asq] : List Int).take k) (([] : List UInt8), (0 : Int)))) (9 * k + 1) xw ∧ w54.grownBy xw (some N14)) rfl rfl rfl (by kernel_rfl) (by kernel_rfl) (Try.call84 _ _) (ox_flag N14 (numsP (([s.boot, s.stream, s.seq, s.ab, s.ast, s.asq] : List Int).take k) (([] : List UInt8), (0 : Int))) (9 * k) s.has w54 hf57 (by omega)) (by rintro e x ⟨rfl, h1, h2⟩; exact ⟨_, rfl, rfl, h1, h2⟩)) ?_; clear h71
    rintro _ w73 a72 ⟨rfl, ho74, hx75⟩ h72
    have hz76 := hx75.size
    have hl77 := ho74.lt
    refine pl_nil ?_
    refine co_then ?_
    refine co_seq ?_
    refine co_reg ?_
    refine pk0 (v := pt N14 0) h72 rfl fun a78 h78 => ?_; clear h72
    refine pk0 (v := pt N3 7) h78 rfl fun a79 h79 => ?_; clear h78
    have hk80 := hk59.kept hx75 (by simp; omega)
    refine pk (v := .string s.body) h79 rfl (rn_load1 rfl rfl Try.isAgg9 (hk80.cell rfl)) fun a81 h81 => ?_; clear h79
    refine pw h81 rfl (op_call (args := #[pt N14 0, .string s.body]) (R := fun res xw => res = .tuple #[] ∧ OX N14 (wText s.body (wFlag s.has (numsP (([s.boot, s.stream, s.seq, s.ab, s.ast, s.asq] : List Int).take k) (([] : List UInt8), (0 : Int))))) (9 * k + 1 + (9 + s.body.size)) xw ∧ w73.grownBy xw (some N14)) rfl rfl rfl (by kernel_rfl) (by kernel_rfl) (Try.call85 _ _) (ox_text N14 (wFlag s.has (numsP (([s.boot, s.stream, s.seq, s.ab, s.ast, s.asq] : List Int).take k) (([] : List UInt8), (0 : Int)))) (9 * k + 1) s.body w73 ho74 (by first | omega | (simp; done) | (simp; omega))) (by rintro e x ⟨rfl, h1, h2⟩; exact ⟨_, rfl, rfl, h1, h2⟩)) ?_; clear h81
    rintro _ w83 a82 ⟨rfl, ho84, hx85⟩ h82
    have hz86 := hx85.size
    have hl87 := ho84.lt
    refine pl_nil ?_
    refine co_then ?_
    refine co_seq ?_
    refine co_reg ?_
    refine pk0 (v := pt N14 0) h82 rfl fun a88 h88 => ?_; clear h82
    refine pw h88 rfl (op_call (args := #[pt N14 0]) (R := fun res xw => res = .tuple #[.string ((doneW (wText s.body (wFlag s.has (numsP (([s.boot, s.stream, s.seq, s.ab, s.ast, s.asq] : List Int).take k) (([] : List UInt8), (0 : Int)))))).1), .int .i64 ((doneW (wText s.body (wFlag s.has (numsP (([s.boot, s.stream, s.seq, s.ab, s.ast, s.asq] : List Int).take k) (([] : List UInt8), (0 : Int)))))).2)] ∧ Below w83.heap.size w83 xw) rfl rfl rfl (by kernel_rfl) (by kernel_rfl) (Try.call86 _ _) (ox_done N14 (wText s.body (wFlag s.has (numsP (([s.boot, s.stream, s.seq, s.ab, s.ast, s.asq] : List Int).take k) (([] : List UInt8), (0 : Int))))) (9 * k + 1 + (9 + s.body.size)) w83 ho84) (by rintro e x ⟨rfl, h2⟩; exact ⟨_, rfl, rfl, h2⟩)) ?_; clear h88
    rintro _ w90 a89 ⟨rfl, hb91⟩ h89
    have hz93 := hb91.size
    refine pk0 (v := .tuple #[.string ((doneW (wText s.body (wFlag s.has (numsP (([s.boot, s.stream, s.seq, s.ab, s.ast, s.asq] : List Int).take k) (([] : List UInt8), (0 : Int)))))).1), .int .i64 ((doneW (wText s.body (wFlag s.has (numsP (([s.boot, s.stream, s.seq, s.ab, s.ast, s.asq] : List Int).take k) (([] : List UInt8), (0 : Int)))))).2)]) h89 rfl fun a94 h94 => ?_; clear h89
    refine pk0 (v := .string ((doneW (wText s.body (wFlag s.has (numsP (([s.boot, s.stream, s.seq, s.ab, s.ast, s.asq] : List Int).take k) (([] : List UInt8), (0 : Int)))))).1)) h94 rfl fun a95 h95 => ?_; clear h94
    refine pk0 (v := .int .i64 ((doneW (wText s.body (wFlag s.has (numsP (([s.boot, s.stream, s.seq, s.ab, s.ast, s.asq] : List Int).take k) (([] : List UInt8), (0 : Int)))))).2)) h95 rfl fun a96 h96 => ?_; clear h95
    refine pk0 (v := .string ((doneW (wText s.body (wFlag s.has (numsP (([s.boot, s.stream, s.seq, s.ab, s.ast, s.asq] : List Int).take k) (([] : List UInt8), (0 : Int)))))).1)) h96 rfl fun a97 h97 => ?_; clear h96
    refine pk0 (v := .int .i64 ((doneW (wText s.body (wFlag s.has (numsP (([s.boot, s.stream, s.seq, s.ab, s.ast, s.asq] : List Int).take k) (([] : List UInt8), (0 : Int)))))).2)) h97 rfl fun a98 h98 => ?_; clear h97
    refine pl_nil ?_
    refine co_then ?_
    refine co_seq ?_
    refine co_seq ?_
    refine co_reg ?_
    refine pk0 (v := .int .i64 ((doneW (wText s.body (wFlag s.has (numsP (([s.boot, s.stream, s.seq, s.ab, s.ast, s.asq] : List Int).take k) (([] : List UInt8), (0 : Int)))))).2)) h98 rfl fun a99 h99 => ?_; clear h98
    refine pk0 (v := .bool ((doneW (wText s.body (wFlag s.has (numsP (([s.boot, s.stream, s.seq, s.ab, s.ast, s.asq] : List Int).take k) (([] : List UInt8), (0 : Int)))))).2 != 0)) h99 rfl fun a100 h100 => ?_; clear h99
    refine pl_nil ?_
    refine co_then ?_
    have hB102 := hb_at hB58 hx75 (by omega)
    have hB103 := hb_at hB102 hx85 (by omega)
    have hB104 := hb_call hB103 hb91
    have hk105 := hk80.kept hx85 (by simp; omega)
    have hk106 := hk105.below hb91
    have hr107 := row_kept_at hf56 hx75 (row_ne_lt hf56 (by omega))
    have hr108 := row_kept_at hr107 hx85 (row_ne_lt hr107 (by omega))
    have hr109 := row_kept_new hr108 (below_grown hb91)
    cases hc101 : ((doneW (wText s.body (wFlag s.has (numsP (([s.boot, s.stream, s.seq, s.ab, s.ast, s.asq] : List Int).take k) (([] : List UInt8), (0 : Int)))))).2 != 0)
    ·
     rw [hc101] at h100
     have hp110 : ¬ ((doneW (wText s.body (wFlag s.has (numsP (([s.boot, s.stream, s.seq, s.ab, s.ast, s.asq] : List Int).take k) (([] : List UInt8), (0 : Int)))))).2 ≠ 0) := by first | simpa using hc101 | simpa [and_assoc] using hc101
     clear hc101
     refine co_false h100 rfl ?_
     refine wp_skip ?_
     refine co_then ?_
     refine co_seq ?_
     refine co_seq ?_
     refine co_reg ?_
     refine pk0 (v := pt N3 7) h100 rfl fun a111 h111 => ?_; clear h100
     refine pk (v := .string s.body) h111 rfl (rn_load1 rfl rfl Try.isAgg9 (hk106.cell rfl)) fun a112 h112 => ?_; clear h111
     refine pk (v := .int .i64 ((s.body.size : Nat) : Int)) h112 rfl (rn_lenStr rfl rfl Try.underlying9) fun a113 h113 => ?_; clear h112
     refine pk0 (v := .bool (decide (((s.body.size : Nat) : Int) > 65536))) h113 rfl fun a114 h114 => ?_; clear h113
     refine pl_nil ?_
     refine co_then ?_
     cases hc115 : (decide (((s.body.size : Nat) : Int) > 65536))
     ·
      rw [hc115] at h114
      have hp116 : ¬ (((s.body.size : Nat) : Int) > 65536) := of_decide_eq_false hc115
      clear hc115
      refine co_false h114 rfl ?_
      refine wp_skip ?_
      refine co_then ?_
      refine co_seq ?_
      refine co_reg ?_
      refine pk0 (v := .string ((doneW (wText s.body (wFlag s.has (numsP (([s.boot, s.stream, s.seq, s.ab, s.ast, s.asq] : List Int).take k) (([] : List UInt8), (0 : Int)))))).1)) h114 rfl fun a117 h117 => ?_; clear h114
      refine pk0 (v := .string ((doneW (wText s.body (wFlag s.has (numsP (([s.boot, s.stream, s.seq, s.ab, s.ast, s.asq] : List Int).take k) (([] : List UInt8), (0 : Int)))))).1)) h117 rfl fun a118 h118 => ?_; clear h117
      refine pk0 (v := .int .i64 0) h118 rfl fun a119 h119 => ?_; clear h118
      refine pl_nil ?_
      refine co_then ?_
      refine wp_ret ?_
      refine co_ret2 h119 rfl rfl rfl ?_
      have hE := putG_c (d := doneW (wText s.body (wFlag s.has (numsP (([s.boot, s.stream, s.seq, s.ab, s.ast, s.asq] : List Int).take k) (([] : List UInt8), (0 : Int)))))) (by rw [List.take_of_length_le (by first | omega | (simp; omega))]; rfl) (by omega) (by omega)
      exact ⟨by rw [hE], hB104⟩
     ·
      rw [hc115] at h114
      have hp120 : ((s.body.size : Nat) : Int) > 65536 := of_decide_eq_true hc115
      clear hc115
      refine co_true h114 rfl ?_
      refine co_seq ?_
      refine co_reg ?_
      refine pk0 (v := .string (⟨#[]⟩)) h114 rfl fun a121 h121 => ?_; clear h114
      refine pk0 (v := .int .i64 3) h121 rfl fun a122 h122 => ?_; clear h121
      refine pl_nil ?_
      refine co_then ?_
      refine wp_ret ?_
      refine co_thenR ?_
      refine co_ret2 h122 rfl rfl rfl ?_
      have hE := putG_b (d := doneW (wText s.body (wFlag s.has (numsP (([s.boot, s.stream, s.seq, s.ab, s.ast, s.asq] : List Int).take k) (([] : List UInt8), (0 : Int)))))) (by rw [List.take_of_length_le (by first | omega | (simp; omega))]; rfl) (by omega) (by omega)
      exact ⟨by rw [hE], hB104⟩
    ·
     rw [hc101] at h100
     have hp123 : (doneW (wText s.body (wFlag s.has (numsP (([s.boot, s.stream, s.seq, s.ab, s.ast, s.asq] : List Int).take k) (([] : List UInt8), (0 : Int)))))).2 ≠ 0 := by first | simpa using hc101 | simpa [and_assoc] using hc101
     clear hc101
     refine co_true h100 rfl ?_
     refine co_seq ?_
     refine co_reg ?_
     refine pk0 (v := .int .i64 ((doneW (wText s.body (wFlag s.has (numsP (([s.boot, s.stream, s.seq, s.ab, s.ast, s.asq] : List Int).take k) (([] : List UInt8), (0 : Int)))))).2)) h100 rfl fun a124 h124 => ?_; clear h100
     refine pk0 (v := .string (⟨#[]⟩)) h124 rfl fun a125 h125 => ?_; clear h124
     refine pk0 (v := .int .i64 ((doneW (wText s.body (wFlag s.has (numsP (([s.boot, s.stream, s.seq, s.ab, s.ast, s.asq] : List Int).take k) (([] : List UInt8), (0 : Int)))))).2)) h125 rfl fun a126 h126 => ?_; clear h125
     refine pl_nil ?_
     refine co_then ?_
     refine wp_ret ?_
     refine co_thenR ?_
     refine co_ret2 h126 rfl rfl rfl ?_
     have hE := putG_a (d := doneW (wText s.body (wFlag s.has (numsP (([s.boot, s.stream, s.seq, s.ab, s.ast, s.asq] : List Int).take k) (([] : List UInt8), (0 : Int)))))) (by rw [List.take_of_length_le (by first | omega | (simp; omega))]; rfl) (by omega)
     exact ⟨by rw [hE], hB104⟩
   ·
    rw [hc67] at h66
    have hp127 : ((k : Nat) : Int) < 6 := of_decide_eq_true hc67
    clear hc67
    refine co_true h66 rfl ?_
    refine wp_skip ?_
    refine co_then ?_
    refine co_seq ?_
    refine wp_block ?_
    refine co_reg ?_
    refine pk0 (v := pt N14 0) h66 rfl fun a128 h128 => ?_; clear h66
    refine pk0 (v := .slice (some ⟨N36, 0, none⟩) 6 6) h128 rfl fun a129 h129 => ?_; clear h128
    refine pk0 (v := .int .i64 ((k : Nat) : Int)) h129 rfl fun a130 h130 => ?_; clear h129
    obtain ⟨y131, hy131⟩ : ∃ z, ([s.boot, s.stream, s.seq, s.ab, s.ast, s.asq] : List Int)[k]? = some z := ⟨_, List.getElem?_eq_getElem (by first | omega | (simp; done) | (simp; omega))⟩
    have hyb132 : y131 ≤ 9223372036854775807 := by have hm := List.mem_of_getElem? hy131; simp only [List.mem_cons, List.not_mem_nil, or_false] at hm; omega
    refine pk (v := pt (blkOf (.slice (some ⟨N36, 0, none⟩) 6 6)) (offOf (.slice (some ⟨N36, 0, none⟩) 6 6) + k * 1)) h130 rfl (rn_index rfl rfl rfl Try.underlying93 Try.sizeOf3 (row_sl hf56 intE_lenL) (by omega) (by first | omega | (simp; done) | (simp; omega))) fun a133 h133 => ?_; clear h130
    refine pk (v := .int .i64 y131) h133 rfl (rn_load1 rfl rfl Try.isAgg3 ((sl_at (row_sl hf56 intE_lenL) hy131) 0 _ rfl)) fun a134 h134 => ?_; clear h133
    refine pw h134 rfl (op_call (args := #[pt N14 0, .int .i64 y131]) (R := fun res xw => res = .tuple #[] ∧ OX N14 (wNum y131 (numsP (([s.boot, s.stream, s.seq, s.ab, s.ast, s.asq] : List Int).take k) (([] : List UInt8), (0 : Int)))) (9 * k + 9) xw ∧ w54.grownBy xw (some N14)) rfl rfl rfl (by kernel_rfl) (by kernel_rfl) (Try.call83 _ _) (ox_num N14 (numsP (([s.boot, s.stream, s.seq, s.ab, s.ast, s.asq] : List Int).take k) (([] : List UInt8), (0 : Int))) (9 * k) y131 w54 hf57 (by omega) (by omega)) (by rintro e x ⟨rfl, h1, h2⟩; exact ⟨_, rfl, rfl, h1, h2⟩)) ?_; clear h134
    rintro _ w136 a135 ⟨rfl, ho137, hx138⟩ h135
    have hz139 := hx138.size
    have hl140 := ho137.lt
    refine pl_nil ?_
    refine co_blockN ?_
    refine co_then ?_
    refine co_reg ?_
    refine pk0 (v := .int .i64 ((k : Nat) : Int)) h135 rfl fun a141 h141 => ?_; clear h135
    refine pk (v := .int .i64 ((k + 1 : Nat) : Int)) h141 rfl (rn_arith' rfl rfl rfl rfl rfl rfl (IntWalk.i64_in _ (by omega)) (by omega)) fun a142 h142 => ?_; clear h141
    refine pk0 (v := .int .i64 ((k + 1 : Nat) : Int)) h142 rfl fun a143 h143 => ?_; clear h142
    refine pl_nil ?_
    refine co_then ?_
    refine ⟨(6 - (k + 1)), by omega, ?_⟩
    have hr144 := row_kept_at hf56 hx138 (row_ne_lt hf56 (by omega))
    have hB145 := hb_at hB58 hx138 (by omega)
    have hk146 := hk59.kept hx138 (by simp; omega)
    exact ⟨k + 1, h143.sub ⟨rfl, rfl, rfl, rfl, trivial⟩, rfl, by omega, hr144, (ho137.eq (by first | rfl | exact numsP_step (by assumption)) (by first | omega | (simp; done) | (simp; omega))), hB145, hk146⟩
end Go.Proofs.Ythmljllgfigebaa
