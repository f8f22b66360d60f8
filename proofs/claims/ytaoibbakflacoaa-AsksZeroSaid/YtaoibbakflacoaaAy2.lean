/- Put together: AskFAz, AskGAz, AskHAz. Conditions: as each says. -/
import Derived.Test.YtaoibbakflacoaaAy1
/- catenalaw34: one that nobody made; few; awake. Conditions: none. -/
namespace Go.Proofs.Ytaoibbakflacoaa
open Go.RowKit Go.PlainAid
set_option linter.unusedVariables false
set_option linter.unusedSimpArgs false


/-- A call of stage 34. -/
structure AActT where
  k : Int
  n : Int
  fr : Int
  x : MsgX
def aactE (a : AActT) : List Value := [.int .i64 a.k, .int .i64 a.n, .int .i64 a.fr, .int .i64 a.x.d.k, .int .i64 a.x.d.ep, .int .i64 a.x.d.rq, .int .i64 a.x.d.sr, .bool a.x.d.fg, .int .u64 a.x.d.at_, .int .u64 a.x.d.la, .int .i64 a.x.d.n, .int .i64 a.x.d.m, .int .i64 a.x.d.p, .int .i64 a.x.d.e, .string a.x.d.key, .string a.x.d.to_, .int .i64 a.x.d.cep, a.x.mv, .int .u64 a.x.d.cfl, .int .i64 a.x.d.bc, .int .i64 a.x.d.br, a.x.bv, a.x.ev, a.x.sv, a.x.pv]
theorem aactE_len (a : AActT) : (aactE a).length = 25 := rfl
structure AActS (w : World) (a : AActT) : Prop where
  hm : SliceOf memE 2 w a.x.mv a.x.d.cms
  hb : SliceOf opE 3 w a.x.bv a.x.d.bl
  he : SliceOf entE 4 w a.x.ev a.x.d.en
  ht : SliceOf (intE .u64) 1 w a.x.sv a.x.d.st
  hp : SliceOf prE 2 w a.x.pv a.x.d.pr
theorem list_len (b : ByteArray) : b.data.toList.length = b.size := rfl
theorem loop_list (bs : ByteArray) : ∀ (k i : Nat) (r : List UInt8), bs.size - i = k → ByteArray.toList.loop bs i r = r.reverse ++ bs.data.toList.drop i
  | 0, i, r, h => by
    unfold ByteArray.toList.loop
    rw [if_neg (by omega), List.drop_of_length_le (by rw [list_len]; omega), List.append_nil]
  | k + 1, i, r, h => by
    unfold ByteArray.toList.loop
    have hi : i < bs.size := by omega
    have hl : i < bs.data.toList.length := by rw [list_len]; exact hi
    rw [if_pos hi, loop_list bs k (i + 1) _ (by omega), List.reverse_cons, List.append_assoc, List.drop_eq_getElem_cons hl]
    congr 2
    simp [ByteArray.get!, hi]
theorem toList_data (bs : ByteArray) : bs.toList = bs.data.toList := by
  unfold ByteArray.toList
  rw [loop_list bs bs.size 0 [] rfl]
  simp
theorem aw_more : moreF (RdD.mk 0 3 1 ⟨#[]⟩ ⟨#[]⟩ 5 3 5 ⟨#[]⟩ []) true [(⟨#[97]⟩, ⟨#[]⟩), (⟨#[98]⟩, ⟨#[]⟩)] = true := by
  unfold moreF; rw [toList_data, toList_data]; decide
theorem AActS.of {w : World} {a : AActT} (h : MsgOk w a.x) : AActS w a := ⟨h.hm, h.hb, h.he, h.ht, h.hp⟩

set_option maxRecDepth 100000 in
theorem aZZeN_any  (w : World)  :
    Calls Try.prog 22 #[.pointer none] w fun e w' => e = .returned (.bool true) ∧ Below w.heap.size w w' := by
 have hB0 := Below.refl w.heap.size w
 refine co_enter (n := 12) Try.func22 rfl rfl rfl [(0, .pointer none)] rfl (fun a h0 => ?_)
 refine co_seq ?_
 refine co_reg ?_
 refine pk0 (v := .bool false) h0 rfl fun a1 h1 => ?_; clear h0
 refine pl_nil ?_
 refine co_then ?_
 refine co_seq ?_
 refine co_reg ?_
 refine pk0 (v := .pointer none) h1 rfl fun a2 h2 => ?_; clear h1
 refine pk0 (v := .bool true) h2 rfl fun a3 h3 => ?_; clear h2
 refine pk0 (v := .bool true) h3 rfl fun a4 h4 => ?_; clear h3
 refine psk h4 rfl fun a5 h5 => ?_; clear h4
 refine psk h5 rfl fun a6 h6 => ?_; clear h5
 refine psk h6 rfl fun a7 h7 => ?_; clear h6
 refine psk h7 rfl fun a8 h8 => ?_; clear h7
 refine psk h8 rfl fun a9 h9 => ?_; clear h8
 refine pk0 (v := .bool true) h9 rfl fun a10 h10 => ?_; clear h9
 refine pk0 (v := .bool true) h10 rfl fun a11 h11 => ?_; clear h10
 refine pl_nil ?_
 refine co_then ?_
 refine wp_ret ?_
 refine co_ret1 h11 rfl rfl ?_
 exact ⟨rfl, hB0⟩
set_option maxRecDepth 100000 in
theorem aZZeZ_any (tk : Nat) (w : World) (hT : Blk w tk 67 #[.nilIface, .int .i64 0, .int .i64 0, .bool false, .int .i64 0, .int .i64 0, .int .u64 0, .int .i64 0, .slice none 0 0]) :
    Calls Try.prog 22 #[pt tk 0] w fun e w' => e = .returned (.bool true) ∧ Below w.heap.size w w' := by
 have hB0 := Below.refl w.heap.size w
 have hl_hT := hT.lt
 refine co_enter (n := 12) Try.func22 rfl rfl rfl [(0, pt tk 0)] rfl (fun a h0 => ?_)
 refine co_seq ?_
 refine co_reg ?_
 refine pk0 (v := .bool false) h0 rfl fun a1 h1 => ?_; clear h0
 refine pl_nil ?_
 refine co_then ?_
 refine co_seq ?_
 refine co_reg ?_
 refine pk0 (v := pt tk 0) h1 rfl fun a2 h2 => ?_; clear h1
 refine pk0 (v := .bool false) h2 rfl fun a3 h3 => ?_; clear h2
 refine pk0 (v := .bool false) h3 rfl fun a4 h4 => ?_; clear h3
 refine pk0 (v := pt tk 0) h4 rfl fun a5 h5 => ?_; clear h4
 refine pk0 (v := pt tk 0) h5 rfl fun a6 h6 => ?_; clear h5
 refine pk0 (v := pt tk 0) h6 rfl fun a7 h7 => ?_; clear h6
 refine pk (v := .nilIface) h7 rfl (rn_load1 rfl rfl Try.isAgg65 (hT.cell rfl)) fun a8 h8 => ?_; clear h7
 refine pk0 (v := .bool true) h8 rfl fun a9 h9 => ?_; clear h8
 refine pk0 (v := .bool true) h9 rfl fun a10 h10 => ?_; clear h9
 refine pk0 (v := .bool true) h10 rfl fun a11 h11 => ?_; clear h10
 refine pl_nil ?_
 refine co_then ?_
 refine wp_ret ?_
 refine co_ret1 h11 rfl rfl ?_
 exact ⟨rfl, hB0⟩
set_option maxRecDepth 100000 in
theorem aZNxN_any (ep : Int) (hd : Int) (w : World)  :
    Calls Try.prog 13 #[.pointer none, .int .i64 ep, .int .i64 hd] w fun e w' => e = .returned (.tuple #[.int .i64 (-1), .agg #[.int .i64 0, .int .i64 0, .int .i64 0, .int .i64 0, .bool false, .int .u64 0, .int .u64 0, .int .i64 0, .int .i64 0, .int .i64 0, .int .i64 0, .string (⟨#[]⟩), .string (⟨#[]⟩), .int .i64 0, .slice none 0 0, .int .u64 0, .int .i64 0, .int .i64 0, .slice none 0 0, .slice none 0 0, .slice none 0 0, .slice none 0 0]]) ∧ Below w.heap.size w w' := by
 have hB0 := Below.refl w.heap.size w
 refine co_enter (n := 26) Try.func13 rfl rfl rfl [(0, .pointer none), (1, .int .i64 ep), (2, .int .i64 hd)] rfl (fun a h0 => ?_)
 refine co_seq ?_
 refine co_reg ?_
 refine pk0 (v := .int .i64 0) h0 rfl fun a1 h1 => ?_; clear h0
 refine pw h1 rfl (op_new (v := fun N => pt N 0) (T := 46) (cs := #[.int .i64 0, .int .i64 0, .int .i64 0, .int .i64 0, .bool false, .int .u64 0, .int .u64 0, .int .i64 0, .int .i64 0, .int .i64 0, .int .i64 0, .string (⟨#[]⟩), .string (⟨#[]⟩), .int .i64 0, .slice none 0 0, .int .u64 0, .int .i64 0, .int .i64 0, .slice none 0 0, .slice none 0 0, .slice none 0 0, .slice none 0 0]) (by kernel_rfl) (by kernel_rfl) (by kernel_rfl)) ?_; clear h1
 rintro _ w3 a2 ⟨N4, rfl, hN7, hz8, hk6, hg5⟩ h2
 have hz9 := hg5.size
 try dsimp only at h2
 refine pl_nil ?_
 refine co_then ?_
 refine co_seq ?_
 refine co_seq ?_
 refine co_reg ?_
 refine pk0 (v := .pointer none) h2 rfl fun a10 h10 => ?_; clear h2
 refine pw h10 rfl (op_call (args := #[.pointer none]) (R := fun res xw => res = .bool true ∧ Below w3.heap.size w3 xw) rfl rfl rfl (by kernel_rfl) (by kernel_rfl) (Try.call22 _ _) (aZZeN_any  w3 ) (by rintro e x ⟨rfl, hb13⟩; exact ⟨_, rfl, ⟨rfl, hb13⟩⟩)) ?_; clear h10
 rintro _ w12 a11 ⟨rfl, hb13⟩ h11
 have hz14 := hb13.size
 refine pk0 (v := .bool true) h11 rfl fun a15 h15 => ?_; clear h11
 refine psk h15 rfl fun a16 h16 => ?_; clear h15
 refine psk h16 rfl fun a17 h17 => ?_; clear h16
 refine psk h17 rfl fun a18 h18 => ?_; clear h17
 refine psk h18 rfl fun a19 h19 => ?_; clear h18
 refine pk0 (v := .bool true) h19 rfl fun a20 h20 => ?_; clear h19
 refine pl_nil ?_
 refine co_then ?_
 refine co_true h20 rfl ?_
 refine co_seq ?_
 refine co_reg ?_
 refine pk0 (v := .agg #[.int .i64 0, .int .i64 0, .int .i64 0, .int .i64 0, .bool false, .int .u64 0, .int .u64 0, .int .i64 0, .int .i64 0, .int .i64 0, .int .i64 0, .string (⟨#[]⟩), .string (⟨#[]⟩), .int .i64 0, .slice none 0 0, .int .u64 0, .int .i64 0, .int .i64 0, .slice none 0 0, .slice none 0 0, .slice none 0 0, .slice none 0 0]) h20 rfl fun a21 h21 => ?_; clear h20
 refine pk0 (v := .int .i64 (-1)) h21 rfl fun a22 h22 => ?_; clear h21
 have hk28 := hk6.below hb13
 refine pwD h22 rfl (op_storeN rfl rfl rfl (all_cons rfl (all_cons rfl (all_cons rfl (all_cons rfl (all_cons rfl (all_cons rfl (all_cons rfl (all_cons rfl (all_cons rfl (all_cons rfl (all_cons rfl (all_cons rfl (all_cons rfl (all_cons rfl (all_cons rfl (all_cons rfl (all_cons rfl (all_cons rfl (all_cons rfl (all_cons rfl (all_cons rfl (all_cons rfl all_nil)))))))))))))))))))))) (by kernel_rfl) hk28 rfl) ?_; clear h22
 rintro _ w24 a23 ⟨hk25, hz26, hg27⟩ h23
 have hk25' : Blk w24 N4 46 #[.int .i64 0, .int .i64 0, .int .i64 0, .int .i64 0, .bool false, .int .u64 0, .int .u64 0, .int .i64 0, .int .i64 0, .int .i64 0, .int .i64 0, .string (⟨#[]⟩), .string (⟨#[]⟩), .int .i64 0, .slice none 0 0, .int .u64 0, .int .i64 0, .int .i64 0, .slice none 0 0, .slice none 0 0, .slice none 0 0, .slice none 0 0] := hk25; clear hk25
 have hz29 := hg27.size
 refine pl_nil ?_
 refine co_then ?_
 refine wp_ret ?_
 refine co_thenR ?_
 refine co_retTC (Q := fun _ _ _ => True) h23 rfl rfl rfl hk25' Try.underlying46 rfl (by kernel_rfl) ?_
 have hB30 := hb_new hB0 hg5
 have hB31 := hb_call hB30 hb13
 have hB32 := hb_at hB31 hg27 (by omega)
 exact ⟨rfl, hB32⟩
set_option maxRecDepth 100000 in
theorem aZNxZ_any (tk : Nat) (ep : Int) (hd : Int) (w : World) (hT : Blk w tk 67 #[.nilIface, .int .i64 0, .int .i64 0, .bool false, .int .i64 0, .int .i64 0, .int .u64 0, .int .i64 0, .slice none 0 0]) :
    Calls Try.prog 13 #[pt tk 0, .int .i64 ep, .int .i64 hd] w fun e w' => e = .returned (.tuple #[.int .i64 (-1), .agg #[.int .i64 0, .int .i64 0, .int .i64 0, .int .i64 0, .bool false, .int .u64 0, .int .u64 0, .int .i64 0, .int .i64 0, .int .i64 0, .int .i64 0, .string (⟨#[]⟩), .string (⟨#[]⟩), .int .i64 0, .slice none 0 0, .int .u64 0, .int .i64 0, .int .i64 0, .slice none 0 0, .slice none 0 0, .slice none 0 0, .slice none 0 0]]) ∧ Below w.heap.size w w' := by
 have hB0 := Below.refl w.heap.size w
 have hl_hT := hT.lt
 refine co_enter (n := 26) Try.func13 rfl rfl rfl [(0, pt tk 0), (1, .int .i64 ep), (2, .int .i64 hd)] rfl (fun a h0 => ?_)
 refine co_seq ?_
 refine co_reg ?_
 refine pk0 (v := .int .i64 0) h0 rfl fun a1 h1 => ?_; clear h0
 refine pw h1 rfl (op_new (v := fun N => pt N 0) (T := 46) (cs := #[.int .i64 0, .int .i64 0, .int .i64 0, .int .i64 0, .bool false, .int .u64 0, .int .u64 0, .int .i64 0, .int .i64 0, .int .i64 0, .int .i64 0, .string (⟨#[]⟩), .string (⟨#[]⟩), .int .i64 0, .slice none 0 0, .int .u64 0, .int .i64 0, .int .i64 0, .slice none 0 0, .slice none 0 0, .slice none 0 0, .slice none 0 0]) (by kernel_rfl) (by kernel_rfl) (by kernel_rfl)) ?_; clear h1
 rintro _ w3 a2 ⟨N4, rfl, hN7, hz8, hk6, hg5⟩ h2
 have hz9 := hg5.size
 try dsimp only at h2
 refine pl_nil ?_
 refine co_then ?_
 refine co_seq ?_
 refine co_seq ?_
 refine co_reg ?_
 refine pk0 (v := pt tk 0) h2 rfl fun a10 h10 => ?_; clear h2
 have hk13 := hT.kept hg5 (by simp)
 refine pw h10 rfl (op_call (args := #[pt tk 0]) (R := fun res xw => res = .bool true ∧ Below w3.heap.size w3 xw) rfl rfl rfl (by kernel_rfl) (by kernel_rfl) (Try.call22 _ _) (aZZeZ_any tk w3 hk13) (by rintro e x ⟨rfl, hb14⟩; exact ⟨_, rfl, ⟨rfl, hb14⟩⟩)) ?_; clear h10
 rintro _ w12 a11 ⟨rfl, hb14⟩ h11
 have hz15 := hb14.size
 refine pk0 (v := .bool true) h11 rfl fun a16 h16 => ?_; clear h11
 refine psk h16 rfl fun a17 h17 => ?_; clear h16
 refine psk h17 rfl fun a18 h18 => ?_; clear h17
 refine psk h18 rfl fun a19 h19 => ?_; clear h18
 refine psk h19 rfl fun a20 h20 => ?_; clear h19
 refine pk0 (v := .bool true) h20 rfl fun a21 h21 => ?_; clear h20
 refine pl_nil ?_
 refine co_then ?_
 refine co_true h21 rfl ?_
 refine co_seq ?_
 refine co_reg ?_
 refine pk0 (v := .agg #[.int .i64 0, .int .i64 0, .int .i64 0, .int .i64 0, .bool false, .int .u64 0, .int .u64 0, .int .i64 0, .int .i64 0, .int .i64 0, .int .i64 0, .string (⟨#[]⟩), .string (⟨#[]⟩), .int .i64 0, .slice none 0 0, .int .u64 0, .int .i64 0, .int .i64 0, .slice none 0 0, .slice none 0 0, .slice none 0 0, .slice none 0 0]) h21 rfl fun a22 h22 => ?_; clear h21
 refine pk0 (v := .int .i64 (-1)) h22 rfl fun a23 h23 => ?_; clear h22
 have hk29 := hk6.below hb14
 refine pwD h23 rfl (op_storeN rfl rfl rfl (all_cons rfl (all_cons rfl (all_cons rfl (all_cons rfl (all_cons rfl (all_cons rfl (all_cons rfl (all_cons rfl (all_cons rfl (all_cons rfl (all_cons rfl (all_cons rfl (all_cons rfl (all_cons rfl (all_cons rfl (all_cons rfl (all_cons rfl (all_cons rfl (all_cons rfl (all_cons rfl (all_cons rfl (all_cons rfl all_nil)))))))))))))))))))))) (by kernel_rfl) hk29 rfl) ?_; clear h23
 rintro _ w25 a24 ⟨hk26, hz27, hg28⟩ h24
 have hk26' : Blk w25 N4 46 #[.int .i64 0, .int .i64 0, .int .i64 0, .int .i64 0, .bool false, .int .u64 0, .int .u64 0, .int .i64 0, .int .i64 0, .int .i64 0, .int .i64 0, .string (⟨#[]⟩), .string (⟨#[]⟩), .int .i64 0, .slice none 0 0, .int .u64 0, .int .i64 0, .int .i64 0, .slice none 0 0, .slice none 0 0, .slice none 0 0, .slice none 0 0] := hk26; clear hk26
 have hz30 := hg28.size
 refine pl_nil ?_
 refine co_then ?_
 refine wp_ret ?_
 refine co_thenR ?_
 refine co_retTC (Q := fun _ _ _ => True) h24 rfl rfl rfl hk26' Try.underlying46 rfl (by kernel_rfl) ?_
 have hB31 := hb_new hB0 hg5
 have hB32 := hb_call hB31 hb14
 have hB33 := hb_at hB32 hg28 (by omega)
 exact ⟨rfl, hB33⟩
set_option maxRecDepth 100000 in
theorem aZDoN_any  (w : World)  :
    Calls Try.prog 9 #[.pointer none] w fun e w' => e = .returned (.tuple #[.agg #[.int .i64 0, .int .i64 0, .int .u64 0, .int .i64 0, .slice none 0 0], .bool false]) ∧ Below w.heap.size w w' := by
 have hB0 := Below.refl w.heap.size w
 refine co_enter (n := 19) Try.func9 rfl rfl rfl [(0, .pointer none)] rfl (fun a h0 => ?_)
 refine co_seq ?_
 refine co_reg ?_
 refine pw h0 rfl (op_new (v := fun N => pt N 0) (T := 35) (cs := #[.int .i64 0, .int .i64 0, .int .u64 0, .int .i64 0, .slice none 0 0]) (by kernel_rfl) (by kernel_rfl) (by kernel_rfl)) ?_; clear h0
 rintro _ w2 a1 ⟨N3, rfl, hN6, hz7, hk5, hg4⟩ h1
 have hz8 := hg4.size
 try dsimp only at h1
 refine pk0 (v := .bool false) h1 rfl fun a9 h9 => ?_; clear h1
 refine pl_nil ?_
 refine co_then ?_
 refine co_seq ?_
 refine co_seq ?_
 refine co_reg ?_
 refine pk0 (v := .pointer none) h9 rfl fun a10 h10 => ?_; clear h9
 refine pw h10 rfl (op_call (args := #[.pointer none]) (R := fun res xw => res = .bool true ∧ Below w2.heap.size w2 xw) rfl rfl rfl (by kernel_rfl) (by kernel_rfl) (Try.call22 _ _) (aZZeN_any  w2 ) (by rintro e x ⟨rfl, hb13⟩; exact ⟨_, rfl, ⟨rfl, hb13⟩⟩)) ?_; clear h10
 rintro _ w12 a11 ⟨rfl, hb13⟩ h11
 have hz14 := hb13.size
 refine pk0 (v := .bool true) h11 rfl fun a15 h15 => ?_; clear h11
 refine psk h15 rfl fun a16 h16 => ?_; clear h15
 refine psk h16 rfl fun a17 h17 => ?_; clear h16
 refine psk h17 rfl fun a18 h18 => ?_; clear h17
 refine psk h18 rfl fun a19 h19 => ?_; clear h18
 refine psk h19 rfl fun a20 h20 => ?_; clear h19
 refine pk0 (v := .bool true) h20 rfl fun a21 h21 => ?_; clear h20
 refine pl_nil ?_
 refine co_then ?_
 refine co_true h21 rfl ?_
 refine co_seq ?_
 refine co_reg ?_
 refine pk0 (v := .agg #[.int .i64 0, .int .i64 0, .int .u64 0, .int .i64 0, .slice none 0 0]) h21 rfl fun a22 h22 => ?_; clear h21
 have hk28 := hk5.below hb13
 refine pwD h22 rfl (op_storeN rfl rfl rfl (all_cons rfl (all_cons rfl (all_cons rfl (all_cons rfl (all_cons rfl all_nil))))) (by kernel_rfl) hk28 rfl) ?_; clear h22
 rintro _ w24 a23 ⟨hk25, hz26, hg27⟩ h23
 have hk25' : Blk w24 N3 35 #[.int .i64 0, .int .i64 0, .int .u64 0, .int .i64 0, .slice none 0 0] := hk25; clear hk25
 have hz29 := hg27.size
 refine pk0 (v := .bool false) h23 rfl fun a30 h30 => ?_; clear h23
 refine pl_nil ?_
 refine co_then ?_
 refine wp_ret ?_
 refine co_thenR ?_
 refine co_retC1 (Q := fun _ _ _ => True) h30 rfl rfl rfl hk25' Try.underlying35 rfl (by kernel_rfl) ?_
 have hB31 := hb_new hB0 hg4
 have hB32 := hb_call hB31 hb13
 have hB33 := hb_at hB32 hg27 (by omega)
 exact ⟨rfl, hB33⟩
set_option maxRecDepth 100000 in
theorem aZDoZ_any (tk : Nat) (w : World) (hT : Blk w tk 67 #[.nilIface, .int .i64 0, .int .i64 0, .bool false, .int .i64 0, .int .i64 0, .int .u64 0, .int .i64 0, .slice none 0 0]) :
    Calls Try.prog 9 #[pt tk 0] w fun e w' => e = .returned (.tuple #[.agg #[.int .i64 0, .int .i64 0, .int .u64 0, .int .i64 0, .slice none 0 0], .bool false]) ∧ Below w.heap.size w w' := by
 have hB0 := Below.refl w.heap.size w
 have hl_hT := hT.lt
 refine co_enter (n := 19) Try.func9 rfl rfl rfl [(0, pt tk 0)] rfl (fun a h0 => ?_)
 refine co_seq ?_
 refine co_reg ?_
 refine pw h0 rfl (op_new (v := fun N => pt N 0) (T := 35) (cs := #[.int .i64 0, .int .i64 0, .int .u64 0, .int .i64 0, .slice none 0 0]) (by kernel_rfl) (by kernel_rfl) (by kernel_rfl)) ?_; clear h0
 rintro _ w2 a1 ⟨N3, rfl, hN6, hz7, hk5, hg4⟩ h1
 have hz8 := hg4.size
 try dsimp only at h1
 refine pk0 (v := .bool false) h1 rfl fun a9 h9 => ?_; clear h1
 refine pl_nil ?_
 refine co_then ?_
 refine co_seq ?_
 refine co_seq ?_
 refine co_reg ?_
 refine pk0 (v := pt tk 0) h9 rfl fun a10 h10 => ?_; clear h9
 have hk13 := hT.kept hg4 (by simp)
 refine pw h10 rfl (op_call (args := #[pt tk 0]) (R := fun res xw => res = .bool true ∧ Below w2.heap.size w2 xw) rfl rfl rfl (by kernel_rfl) (by kernel_rfl) (Try.call22 _ _) (aZZeZ_any tk w2 hk13) (by rintro e x ⟨rfl, hb14⟩; exact ⟨_, rfl, ⟨rfl, hb14⟩⟩)) ?_; clear h10
 rintro _ w12 a11 ⟨rfl, hb14⟩ h11
 have hz15 := hb14.size
 refine pk0 (v := .bool true) h11 rfl fun a16 h16 => ?_; clear h11
 refine psk h16 rfl fun a17 h17 => ?_; clear h16
 refine psk h17 rfl fun a18 h18 => ?_; clear h17
 refine psk h18 rfl fun a19 h19 => ?_; clear h18
 refine psk h19 rfl fun a20 h20 => ?_; clear h19
 refine psk h20 rfl fun a21 h21 => ?_; clear h20
 refine pk0 (v := .bool true) h21 rfl fun a22 h22 => ?_; clear h21
 refine pl_nil ?_
 refine co_then ?_
 refine co_true h22 rfl ?_
 refine co_seq ?_
 refine co_reg ?_
 refine pk0 (v := .agg #[.int .i64 0, .int .i64 0, .int .u64 0, .int .i64 0, .slice none 0 0]) h22 rfl fun a23 h23 => ?_; clear h22
 have hk29 := hk5.below hb14
 refine pwD h23 rfl (op_storeN rfl rfl rfl (all_cons rfl (all_cons rfl (all_cons rfl (all_cons rfl (all_cons rfl all_nil))))) (by kernel_rfl) hk29 rfl) ?_; clear h23
 rintro _ w25 a24 ⟨hk26, hz27, hg28⟩ h24
 have hk26' : Blk w25 N3 35 #[.int .i64 0, .int .i64 0, .int .u64 0, .int .i64 0, .slice none 0 0] := hk26; clear hk26
 have hz30 := hg28.size
 refine pk0 (v := .bool false) h24 rfl fun a31 h31 => ?_; clear h24
 refine pl_nil ?_
 refine co_then ?_
 refine wp_ret ?_
 refine co_thenR ?_
 refine co_retC1 (Q := fun _ _ _ => True) h31 rfl rfl rfl hk26' Try.underlying35 rfl (by kernel_rfl) ?_
 have hB32 := hb_new hB0 hg4
 have hB33 := hb_call hB32 hb14
 have hB34 := hb_at hB33 hg28 (by omega)
 exact ⟨rfl, hB34⟩
set_option maxRecDepth 100000 in
theorem aZTaN_any (fr : Int) (mx : MsgX) (w : World)  :
    Calls Try.prog 11 #[.pointer none, .int .i64 fr, .agg #[.int .i64 mx.d.k, .int .i64 mx.d.ep, .int .i64 mx.d.rq, .int .i64 mx.d.sr, .bool mx.d.fg, .int .u64 mx.d.at_, .int .u64 mx.d.la, .int .i64 mx.d.n, .int .i64 mx.d.m, .int .i64 mx.d.p, .int .i64 mx.d.e, .string mx.d.key, .string mx.d.to_, .int .i64 mx.d.cep, mx.mv, .int .u64 mx.d.cfl, .int .i64 mx.d.bc, .int .i64 mx.d.br, mx.bv, mx.ev, mx.sv, mx.pv]] w fun e w' => e = .returned (.bool false) ∧ Below w.heap.size w w' := by
 have hB0 := Below.refl w.heap.size w
 refine co_enter (n := 51) Try.func11 rfl rfl rfl [(0, .pointer none), (1, .int .i64 fr), (2, .agg #[.int .i64 mx.d.k, .int .i64 mx.d.ep, .int .i64 mx.d.rq, .int .i64 mx.d.sr, .bool mx.d.fg, .int .u64 mx.d.at_, .int .u64 mx.d.la, .int .i64 mx.d.n, .int .i64 mx.d.m, .int .i64 mx.d.p, .int .i64 mx.d.e, .string mx.d.key, .string mx.d.to_, .int .i64 mx.d.cep, mx.mv, .int .u64 mx.d.cfl, .int .i64 mx.d.bc, .int .i64 mx.d.br, mx.bv, mx.ev, mx.sv, mx.pv])] rfl (fun a h0 => ?_)
 refine co_seq ?_
 refine co_reg ?_
 refine pw h0 rfl (op_new (v := fun N => pt N 0) (T := 46) (cs := #[.int .i64 mx.d.k, .int .i64 mx.d.ep, .int .i64 mx.d.rq, .int .i64 mx.d.sr, .bool mx.d.fg, .int .u64 mx.d.at_, .int .u64 mx.d.la, .int .i64 mx.d.n, .int .i64 mx.d.m, .int .i64 mx.d.p, .int .i64 mx.d.e, .string mx.d.key, .string mx.d.to_, .int .i64 mx.d.cep, mx.mv, .int .u64 mx.d.cfl, .int .i64 mx.d.bc, .int .i64 mx.d.br, mx.bv, mx.ev, mx.sv, mx.pv]) (by kernel_rfl) (by kernel_rfl) (by kernel_rfl)) ?_; clear h0
 rintro _ w2 a1 ⟨N3, rfl, hN6, hz7, hk5, hg4⟩ h1
 have hz8 := hg4.size
 try dsimp only at h1
 refine pk0 (v := .bool false) h1 rfl fun a9 h9 => ?_; clear h1
 refine pl_nil ?_
 refine co_then ?_
 refine co_seq ?_
 refine co_seq ?_
 refine dr_gen (fun x => Below w.heap.size w x ∧ Blk x N3 46 #[.int .i64 mx.d.k, .int .i64 mx.d.ep, .int .i64 mx.d.rq, .int .i64 mx.d.sr, .bool mx.d.fg, .int .u64 mx.d.at_, .int .u64 mx.d.la, .int .i64 mx.d.n, .int .i64 mx.d.m, .int .i64 mx.d.p, .int .i64 mx.d.e, .string mx.d.key, .string mx.d.to_, .int .i64 mx.d.cep, mx.mv, .int .u64 mx.d.cfl, .int .i64 mx.d.bc, .int .i64 mx.d.br, mx.bv, mx.ev, mx.sv, mx.pv]) (by kernel_rfl) (fun w10 hg11 => ?_) (fun w10 hg11 => ?_)
 ·
  have hz12 := hg11.size
  have hB13 := hb_new hB0 hg4
  have hB14 := hb_new hB13 hg11
  have hk15 := hk5.kept hg11 (by simp)
  exact ⟨hB14, hk15⟩
 have hz16 := hg11.size
 have hB17 := hb_new hB0 hg4
 have hB18 := hb_new hB17 hg11
 have hk19 := hk5.kept hg11 (by simp)
 refine dk0 0 (v := .pointer none) h9 rfl rfl ⟨hB18, hk19⟩ fun a20 h20 => ?_; clear h9
 refine d1 1 h20 rfl rfl (op_call (args := #[.pointer none]) (R := fun res xw => res = .bool true ∧ Below w10.heap.size w10 xw) rfl rfl rfl (by kernel_rfl) (by kernel_rfl) (Try.call22 _ _) (aZZeN_any  w10 ) (by rintro e x ⟨rfl, hb23⟩; exact ⟨_, rfl, ⟨rfl, hb23⟩⟩)) ?_ ?_; clear h20
 ·
  rintro _ w22 ⟨rfl, hb23⟩
  have hz24 := hb23.size
  have hB25 := hb_call hB18 hb23
  have hk26 := hk19.below hb23
  exact ⟨hB25, hk26⟩
 rintro _ w22 a21 ⟨rfl, hb23⟩ h21
 have hz24 := hb23.size
 have hB25 := hb_call hB18 hb23
 have hk26 := hk19.below hb23
 refine dk0 2 (v := .bool true) h21 rfl rfl ⟨hB25, hk26⟩ fun a27 h27 => ?_; clear h21
 refine dsk 3 h27 rfl rfl ⟨hB25, hk26⟩ fun a28 h28 => ?_; clear h27
 refine dsk 4 h28 rfl rfl ⟨hB25, hk26⟩ fun a29 h29 => ?_; clear h28
 refine dsk 5 h29 rfl rfl ⟨hB25, hk26⟩ fun a30 h30 => ?_; clear h29
 refine dsk 6 h30 rfl rfl ⟨hB25, hk26⟩ fun a31 h31 => ?_; clear h30
 refine dk0 7 (v := .bool true) h31 rfl rfl ⟨hB25, hk26⟩ fun a32 h32 => ?_; clear h31
 refine dk0 8 (v := .bool true) h32 rfl rfl ⟨hB25, hk26⟩ fun a33 h33 => ?_; clear h32
 refine dsk 9 h33 rfl rfl ⟨hB25, hk26⟩ fun a34 h34 => ?_; clear h33
 refine dsk 10 h34 rfl rfl ⟨hB25, hk26⟩ fun a35 h35 => ?_; clear h34
 refine dsk 11 h35 rfl rfl ⟨hB25, hk26⟩ fun a36 h36 => ?_; clear h35
 refine dsk 12 h36 rfl rfl ⟨hB25, hk26⟩ fun a37 h37 => ?_; clear h36
 refine dsk 13 h37 rfl rfl ⟨hB25, hk26⟩ fun a38 h38 => ?_; clear h37
 refine dsk 14 h38 rfl rfl ⟨hB25, hk26⟩ fun a39 h39 => ?_; clear h38
 refine dsk 15 h39 rfl rfl ⟨hB25, hk26⟩ fun a40 h40 => ?_; clear h39
 refine dk0 16 (v := .bool true) h40 rfl rfl ⟨hB25, hk26⟩ fun a41 h41 => ?_; clear h40
 refine dr_done (by kernel_rfl) ?_
 refine co_then ?_
 refine co_true h41 rfl ?_
 refine co_seq ?_
 refine co_reg ?_
 refine pk0 (v := .bool false) h41 rfl fun a42 h42 => ?_; clear h41
 refine pl_nil ?_
 refine co_then ?_
 refine wp_ret ?_
 refine co_thenR ?_
 refine co_ret1 h42 rfl rfl ?_
 exact ⟨rfl, hB25⟩
set_option maxRecDepth 100000 in
theorem aZTaZ_any (tk : Nat) (fr : Int) (mx : MsgX) (w : World) (hT : Blk w tk 67 #[.nilIface, .int .i64 0, .int .i64 0, .bool false, .int .i64 0, .int .i64 0, .int .u64 0, .int .i64 0, .slice none 0 0]) :
    Calls Try.prog 11 #[pt tk 0, .int .i64 fr, .agg #[.int .i64 mx.d.k, .int .i64 mx.d.ep, .int .i64 mx.d.rq, .int .i64 mx.d.sr, .bool mx.d.fg, .int .u64 mx.d.at_, .int .u64 mx.d.la, .int .i64 mx.d.n, .int .i64 mx.d.m, .int .i64 mx.d.p, .int .i64 mx.d.e, .string mx.d.key, .string mx.d.to_, .int .i64 mx.d.cep, mx.mv, .int .u64 mx.d.cfl, .int .i64 mx.d.bc, .int .i64 mx.d.br, mx.bv, mx.ev, mx.sv, mx.pv]] w fun e w' => e = .returned (.bool false) ∧ Below w.heap.size w w' := by
 have hB0 := Below.refl w.heap.size w
 have hl_hT := hT.lt
 refine co_enter (n := 51) Try.func11 rfl rfl rfl [(0, pt tk 0), (1, .int .i64 fr), (2, .agg #[.int .i64 mx.d.k, .int .i64 mx.d.ep, .int .i64 mx.d.rq, .int .i64 mx.d.sr, .bool mx.d.fg, .int .u64 mx.d.at_, .int .u64 mx.d.la, .int .i64 mx.d.n, .int .i64 mx.d.m, .int .i64 mx.d.p, .int .i64 mx.d.e, .string mx.d.key, .string mx.d.to_, .int .i64 mx.d.cep, mx.mv, .int .u64 mx.d.cfl, .int .i64 mx.d.bc, .int .i64 mx.d.br, mx.bv, mx.ev, mx.sv, mx.pv])] rfl (fun a h0 => ?_)
 refine co_seq ?_
 refine co_reg ?_
 refine pw h0 rfl (op_new (v := fun N => pt N 0) (T := 46) (cs := #[.int .i64 mx.d.k, .int .i64 mx.d.ep, .int .i64 mx.d.rq, .int .i64 mx.d.sr, .bool mx.d.fg, .int .u64 mx.d.at_, .int .u64 mx.d.la, .int .i64 mx.d.n, .int .i64 mx.d.m, .int .i64 mx.d.p, .int .i64 mx.d.e, .string mx.d.key, .string mx.d.to_, .int .i64 mx.d.cep, mx.mv, .int .u64 mx.d.cfl, .int .i64 mx.d.bc, .int .i64 mx.d.br, mx.bv, mx.ev, mx.sv, mx.pv]) (by kernel_rfl) (by kernel_rfl) (by kernel_rfl)) ?_; clear h0
 rintro _ w2 a1 ⟨N3, rfl, hN6, hz7, hk5, hg4⟩ h1
 have hz8 := hg4.size
 try dsimp only at h1
 refine pk0 (v := .bool false) h1 rfl fun a9 h9 => ?_; clear h1
 refine pl_nil ?_
 refine co_then ?_
 refine co_seq ?_
 refine co_seq ?_
 refine dr_gen (fun x => Below w.heap.size w x ∧ Blk x tk 67 #[.nilIface, .int .i64 0, .int .i64 0, .bool false, .int .i64 0, .int .i64 0, .int .u64 0, .int .i64 0, .slice none 0 0] ∧ Blk x N3 46 #[.int .i64 mx.d.k, .int .i64 mx.d.ep, .int .i64 mx.d.rq, .int .i64 mx.d.sr, .bool mx.d.fg, .int .u64 mx.d.at_, .int .u64 mx.d.la, .int .i64 mx.d.n, .int .i64 mx.d.m, .int .i64 mx.d.p, .int .i64 mx.d.e, .string mx.d.key, .string mx.d.to_, .int .i64 mx.d.cep, mx.mv, .int .u64 mx.d.cfl, .int .i64 mx.d.bc, .int .i64 mx.d.br, mx.bv, mx.ev, mx.sv, mx.pv]) (by kernel_rfl) (fun w10 hg11 => ?_) (fun w10 hg11 => ?_)
 ·
  have hz12 := hg11.size
  have hB13 := hb_new hB0 hg4
  have hB14 := hb_new hB13 hg11
  have hk15 := hT.kept hg4 (by simp)
  have hk16 := hk15.kept hg11 (by simp)
  have hk17 := hk5.kept hg11 (by simp)
  exact ⟨hB14, hk16, hk17⟩
 have hz18 := hg11.size
 have hB19 := hb_new hB0 hg4
 have hB20 := hb_new hB19 hg11
 have hk21 := hT.kept hg4 (by simp)
 have hk22 := hk21.kept hg11 (by simp)
 have hk23 := hk5.kept hg11 (by simp)
 refine dk0 0 (v := pt tk 0) h9 rfl rfl ⟨hB20, hk22, hk23⟩ fun a24 h24 => ?_; clear h9
 refine d1 1 h24 rfl rfl (op_call (args := #[pt tk 0]) (R := fun res xw => res = .bool true ∧ Below w10.heap.size w10 xw) rfl rfl rfl (by kernel_rfl) (by kernel_rfl) (Try.call22 _ _) (aZZeZ_any tk w10 hk22) (by rintro e x ⟨rfl, hb27⟩; exact ⟨_, rfl, ⟨rfl, hb27⟩⟩)) ?_ ?_; clear h24
 ·
  rintro _ w26 ⟨rfl, hb27⟩
  have hz28 := hb27.size
  have hB29 := hb_call hB20 hb27
  have hk30 := hk22.below hb27
  have hk31 := hk23.below hb27
  exact ⟨hB29, hk30, hk31⟩
 rintro _ w26 a25 ⟨rfl, hb27⟩ h25
 have hz28 := hb27.size
 have hB29 := hb_call hB20 hb27
 have hk30 := hk22.below hb27
 have hk31 := hk23.below hb27
 refine dk0 2 (v := .bool true) h25 rfl rfl ⟨hB29, hk30, hk31⟩ fun a32 h32 => ?_; clear h25
 refine dsk 3 h32 rfl rfl ⟨hB29, hk30, hk31⟩ fun a33 h33 => ?_; clear h32
 refine dsk 4 h33 rfl rfl ⟨hB29, hk30, hk31⟩ fun a34 h34 => ?_; clear h33
 refine dsk 5 h34 rfl rfl ⟨hB29, hk30, hk31⟩ fun a35 h35 => ?_; clear h34
 refine dsk 6 h35 rfl rfl ⟨hB29, hk30, hk31⟩ fun a36 h36 => ?_; clear h35
 refine dk0 7 (v := .bool true) h36 rfl rfl ⟨hB29, hk30, hk31⟩ fun a37 h37 => ?_; clear h36
 refine dk0 8 (v := .bool true) h37 rfl rfl ⟨hB29, hk30, hk31⟩ fun a38 h38 => ?_; clear h37
 refine dsk 9 h38 rfl rfl ⟨hB29, hk30, hk31⟩ fun a39 h39 => ?_; clear h38
 refine dsk 10 h39 rfl rfl ⟨hB29, hk30, hk31⟩ fun a40 h40 => ?_; clear h39
 refine dsk 11 h40 rfl rfl ⟨hB29, hk30, hk31⟩ fun a41 h41 => ?_; clear h40
 refine dsk 12 h41 rfl rfl ⟨hB29, hk30, hk31⟩ fun a42 h42 => ?_; clear h41
 refine dsk 13 h42 rfl rfl ⟨hB29, hk30, hk31⟩ fun a43 h43 => ?_; clear h42
 refine dsk 14 h43 rfl rfl ⟨hB29, hk30, hk31⟩ fun a44 h44 => ?_; clear h43
 refine dsk 15 h44 rfl rfl ⟨hB29, hk30, hk31⟩ fun a45 h45 => ?_; clear h44
 refine dk0 16 (v := .bool true) h45 rfl rfl ⟨hB29, hk30, hk31⟩ fun a46 h46 => ?_; clear h45
 refine dr_done (by kernel_rfl) ?_
 refine co_then ?_
 refine co_true h46 rfl ?_
 refine co_seq ?_
 refine co_reg ?_
 refine pk0 (v := .bool false) h46 rfl fun a47 h47 => ?_; clear h46
 refine pl_nil ?_
 refine co_then ?_
 refine wp_ret ?_
 refine co_thenR ?_
 refine co_ret1 h47 rfl rfl ?_
 exact ⟨rfl, hB29⟩
set_option maxRecDepth 100000 in
theorem aZTiN_any  (w : World)  :
    Calls Try.prog 10 #[.pointer none] w fun e w' => e = .returned (.bool false) ∧ Below w.heap.size w w' := by
 have hB0 := Below.refl w.heap.size w
 refine co_enter (n := 38) Try.func10 rfl rfl rfl [(0, .pointer none)] rfl (fun a h0 => ?_)
 refine co_seq ?_
 refine co_reg ?_
 refine pk0 (v := .bool false) h0 rfl fun a1 h1 => ?_; clear h0
 refine pl_nil ?_
 refine co_then ?_
 refine co_seq ?_
 refine co_seq ?_
 refine co_reg ?_
 refine pk0 (v := .pointer none) h1 rfl fun a2 h2 => ?_; clear h1
 refine pw h2 rfl (op_call (args := #[.pointer none]) (R := fun res xw => res = .bool true ∧ Below w.heap.size w xw) rfl rfl rfl (by kernel_rfl) (by kernel_rfl) (Try.call22 _ _) (aZZeN_any  w ) (by rintro e x ⟨rfl, hb5⟩; exact ⟨_, rfl, ⟨rfl, hb5⟩⟩)) ?_; clear h2
 rintro _ w4 a3 ⟨rfl, hb5⟩ h3
 have hz6 := hb5.size
 refine pk0 (v := .bool true) h3 rfl fun a7 h7 => ?_; clear h3
 refine psk h7 rfl fun a8 h8 => ?_; clear h7
 refine psk h8 rfl fun a9 h9 => ?_; clear h8
 refine psk h9 rfl fun a10 h10 => ?_; clear h9
 refine psk h10 rfl fun a11 h11 => ?_; clear h10
 refine pk0 (v := .bool true) h11 rfl fun a12 h12 => ?_; clear h11
 refine pl_nil ?_
 refine co_then ?_
 refine co_true h12 rfl ?_
 refine co_seq ?_
 refine co_reg ?_
 refine pk0 (v := .bool false) h12 rfl fun a13 h13 => ?_; clear h12
 refine pl_nil ?_
 refine co_then ?_
 refine wp_ret ?_
 refine co_thenR ?_
 refine co_ret1 h13 rfl rfl ?_
 have hB14 := hb_call hB0 hb5
 exact ⟨rfl, hB14⟩
set_option maxRecDepth 100000 in
theorem aZTiZ_any (tk : Nat) (w : World) (hT : Blk w tk 67 #[.nilIface, .int .i64 0, .int .i64 0, .bool false, .int .i64 0, .int .i64 0, .int .u64 0, .int .i64 0, .slice none 0 0]) :
    Calls Try.prog 10 #[pt tk 0] w fun e w' => e = .returned (.bool false) ∧ Below w.heap.size w w' := by
 have hB0 := Below.refl w.heap.size w
 have hl_hT := hT.lt
 refine co_enter (n := 38) Try.func10 rfl rfl rfl [(0, pt tk 0)] rfl (fun a h0 => ?_)
 refine co_seq ?_
 refine co_reg ?_
 refine pk0 (v := .bool false) h0 rfl fun a1 h1 => ?_; clear h0
 refine pl_nil ?_
 refine co_then ?_
 refine co_seq ?_
 refine co_seq ?_
 refine co_reg ?_
 refine pk0 (v := pt tk 0) h1 rfl fun a2 h2 => ?_; clear h1
 refine pw h2 rfl (op_call (args := #[pt tk 0]) (R := fun res xw => res = .bool true ∧ Below w.heap.size w xw) rfl rfl rfl (by kernel_rfl) (by kernel_rfl) (Try.call22 _ _) (aZZeZ_any tk w hT) (by rintro e x ⟨rfl, hb5⟩; exact ⟨_, rfl, ⟨rfl, hb5⟩⟩)) ?_; clear h2
 rintro _ w4 a3 ⟨rfl, hb5⟩ h3
 have hz6 := hb5.size
 refine pk0 (v := .bool true) h3 rfl fun a7 h7 => ?_; clear h3
 refine psk h7 rfl fun a8 h8 => ?_; clear h7
 refine psk h8 rfl fun a9 h9 => ?_; clear h8
 refine psk h9 rfl fun a10 h10 => ?_; clear h9
 refine psk h10 rfl fun a11 h11 => ?_; clear h10
 refine pk0 (v := .bool true) h11 rfl fun a12 h12 => ?_; clear h11
 refine pl_nil ?_
 refine co_then ?_
 refine co_true h12 rfl ?_
 refine co_seq ?_
 refine co_reg ?_
 refine pk0 (v := .bool false) h12 rfl fun a13 h13 => ?_; clear h12
 refine pl_nil ?_
 refine co_then ?_
 refine wp_ret ?_
 refine co_thenR ?_
 refine co_ret1 h13 rfl rfl ?_
 have hB14 := hb_call hB0 hb5
 exact ⟨rfl, hB14⟩
set_option maxRecDepth 100000 in
theorem aZWrN_any  (w : World)  :
    Calls Try.prog 19 #[.pointer none] w fun e w' => e = .returned (.bool false) ∧ Below w.heap.size w w' := by
 have hB0 := Below.refl w.heap.size w
 refine co_enter (n := 13) Try.func19 rfl rfl rfl [(0, .pointer none)] rfl (fun a h0 => ?_)
 refine co_seq ?_
 refine co_reg ?_
 refine pk0 (v := .bool false) h0 rfl fun a1 h1 => ?_; clear h0
 refine pl_nil ?_
 refine co_then ?_
 refine co_seq ?_
 refine co_reg ?_
 refine pk0 (v := .pointer none) h1 rfl fun a2 h2 => ?_; clear h1
 refine pw h2 rfl (op_call (args := #[.pointer none]) (R := fun res xw => res = .bool true ∧ Below w.heap.size w xw) rfl rfl rfl (by kernel_rfl) (by kernel_rfl) (Try.call22 _ _) (aZZeN_any  w ) (by rintro e x ⟨rfl, hb5⟩; exact ⟨_, rfl, ⟨rfl, hb5⟩⟩)) ?_; clear h2
 rintro _ w4 a3 ⟨rfl, hb5⟩ h3
 have hz6 := hb5.size
 refine pk0 (v := .bool false) h3 rfl fun a7 h7 => ?_; clear h3
 refine pk0 (v := .bool false) h7 rfl fun a8 h8 => ?_; clear h7
 refine psk h8 rfl fun a9 h9 => ?_; clear h8
 refine psk h9 rfl fun a10 h10 => ?_; clear h9
 refine psk h10 rfl fun a11 h11 => ?_; clear h10
 refine psk h11 rfl fun a12 h12 => ?_; clear h11
 refine psk h12 rfl fun a13 h13 => ?_; clear h12
 refine pk0 (v := .bool false) h13 rfl fun a14 h14 => ?_; clear h13
 refine pk0 (v := .bool false) h14 rfl fun a15 h15 => ?_; clear h14
 refine pl_nil ?_
 refine co_then ?_
 refine wp_ret ?_
 refine co_ret1 h15 rfl rfl ?_
 have hB16 := hb_call hB0 hb5
 exact ⟨rfl, hB16⟩
set_option maxRecDepth 100000 in
theorem aZWrZ_any (tk : Nat) (w : World) (hT : Blk w tk 67 #[.nilIface, .int .i64 0, .int .i64 0, .bool false, .int .i64 0, .int .i64 0, .int .u64 0, .int .i64 0, .slice none 0 0]) :
    Calls Try.prog 19 #[pt tk 0] w fun e w' => e = .returned (.bool false) ∧ Below w.heap.size w w' := by
 have hB0 := Below.refl w.heap.size w
 have hl_hT := hT.lt
 refine co_enter (n := 13) Try.func19 rfl rfl rfl [(0, pt tk 0)] rfl (fun a h0 => ?_)
 refine co_seq ?_
 refine co_reg ?_
 refine pk0 (v := .bool false) h0 rfl fun a1 h1 => ?_; clear h0
 refine pl_nil ?_
 refine co_then ?_
 refine co_seq ?_
 refine co_reg ?_
 refine pk0 (v := pt tk 0) h1 rfl fun a2 h2 => ?_; clear h1
 refine pw h2 rfl (op_call (args := #[pt tk 0]) (R := fun res xw => res = .bool true ∧ Below w.heap.size w xw) rfl rfl rfl (by kernel_rfl) (by kernel_rfl) (Try.call22 _ _) (aZZeZ_any tk w hT) (by rintro e x ⟨rfl, hb5⟩; exact ⟨_, rfl, ⟨rfl, hb5⟩⟩)) ?_; clear h2
 rintro _ w4 a3 ⟨rfl, hb5⟩ h3
 have hz6 := hb5.size
 refine pk0 (v := .bool false) h3 rfl fun a7 h7 => ?_; clear h3
 refine pk0 (v := .bool false) h7 rfl fun a8 h8 => ?_; clear h7
 refine psk h8 rfl fun a9 h9 => ?_; clear h8
 refine psk h9 rfl fun a10 h10 => ?_; clear h9
 refine psk h10 rfl fun a11 h11 => ?_; clear h10
 refine psk h11 rfl fun a12 h12 => ?_; clear h11
 refine psk h12 rfl fun a13 h13 => ?_; clear h12
 refine pk0 (v := .bool false) h13 rfl fun a14 h14 => ?_; clear h13
 refine pk0 (v := .bool false) h14 rfl fun a15 h15 => ?_; clear h14
 refine pl_nil ?_
 refine co_then ?_
 refine wp_ret ?_
 refine co_ret1 h15 rfl rfl ?_
 have hB16 := hb_call hB0 hb5
 exact ⟨rfl, hB16⟩
set_option maxRecDepth 100000 in
theorem few34_some (v : Value) (l : List AActT) (w : World) (hs : SliceOf aactE 25 w v l) (hok : ∀ z ∈ l, AActS w z) :
    Calls Try.prog 6 #[.agg #[.int .i64 0, .int .i64 0, .string (⟨#[]⟩), .string (⟨#[]⟩), .int .u64 0, .int .i64 0, .slice none 0 0], v] w fun e w' => ∃ (b : Bool), e = .returned (.bool b) ∧ Below w.heap.size w w' := by
 have hB0 := Below.refl w.heap.size w
 have hl_hs := sl_len hs
 refine co_enter (n := 68) Try.func6 rfl rfl rfl [(0, .agg #[.int .i64 0, .int .i64 0, .string (⟨#[]⟩), .string (⟨#[]⟩), .int .u64 0, .int .i64 0, .slice none 0 0]), (1, v)] rfl (fun a h0 => ?_)
 refine co_seq ?_
 refine co_reg ?_
 refine pw h0 rfl (op_new (v := fun N => pt N 0) (T := 25) (cs := #[.int .i64 0, .int .i64 0, .string (⟨#[]⟩), .string (⟨#[]⟩), .int .u64 0, .int .i64 0, .slice none 0 0]) (by kernel_rfl) (by kernel_rfl) (by kernel_rfl)) ?_; clear h0
 rintro _ w2 a1 ⟨N3, rfl, hN6, hz7, hk5, hg4⟩ h1
 have hz8 := hg4.size
 try dsimp only at h1
 refine pk0 (v := .bool false) h1 rfl fun a9 h9 => ?_; clear h1
 refine pl_nil ?_
 refine co_then ?_
 refine co_seq ?_
 refine co_seq ?_
 refine co_reg ?_
 refine pk0 (v := pt N3 6) h9 rfl fun a10 h10 => ?_; clear h9
 refine pk (v := .slice none 0 0) h10 rfl (rn_load1 rfl rfl Try.isAgg23 (hk5.cell rfl)) fun a11 h11 => ?_; clear h10
 refine pk0 (v := .int .i64 0) h11 rfl fun a12 h12 => ?_; clear h11
 refine pk0 (v := .bool (decide (0 > 20))) h12 rfl fun a13 h13 => ?_; clear h12
 refine pk0 (v := .bool (decide (0 > 20))) h13 rfl fun a14 h14 => ?_; clear h13
 have hc15 : (decide (0 > 20)) = false := decide_eq_false (by omega)
 rw [hc15] at h14; clear hc15
 refine pk0 (v := pt N3 2) h14 rfl fun a16 h16 => ?_; clear h14
 refine pk (v := .string (⟨#[]⟩)) h16 rfl (rn_load1 rfl rfl Try.isAgg9 (hk5.cell rfl)) fun a17 h17 => ?_; clear h16
 refine pk (v := .int .i64 (((⟨#[]⟩ : ByteArray).size : Nat) : Int)) h17 rfl (rn_lenStr rfl rfl Try.underlying9) fun a18 h18 => ?_; clear h17
 refine pk0 (v := .bool (decide ((((⟨#[]⟩ : ByteArray).size : Nat) : Int) > 100))) h18 rfl fun a19 h19 => ?_; clear h18
 refine pk0 (v := .bool (decide ((((⟨#[]⟩ : ByteArray).size : Nat) : Int) > 100))) h19 rfl fun a20 h20 => ?_; clear h19
 refine pk0 (v := .bool (decide ((((⟨#[]⟩ : ByteArray).size : Nat) : Int) > 100))) h20 rfl fun a21 h21 => ?_; clear h20
 have hB23 := hb_new hB0 hg4
 cases hc22 : (decide ((((⟨#[]⟩ : ByteArray).size : Nat) : Int) > 100))
 ·
  rw [hc22] at h21
  have hp24 : ¬ ((((⟨#[]⟩ : ByteArray).size : Nat) : Int) > 100) := of_decide_eq_false hc22
  clear hc22
  refine pk0 (v := pt N3 3) h21 rfl fun a25 h25 => ?_; clear h21
  refine pk (v := .string (⟨#[]⟩)) h25 rfl (rn_load1 rfl rfl Try.isAgg9 (hk5.cell rfl)) fun a26 h26 => ?_; clear h25
  refine pk (v := .int .i64 (((⟨#[]⟩ : ByteArray).size : Nat) : Int)) h26 rfl (rn_lenStr rfl rfl Try.underlying9) fun a27 h27 => ?_; clear h26
  refine pk0 (v := .bool (decide ((((⟨#[]⟩ : ByteArray).size : Nat) : Int) > 100))) h27 rfl fun a28 h28 => ?_; clear h27
  refine pk0 (v := .bool (decide ((((⟨#[]⟩ : ByteArray).size : Nat) : Int) > 100))) h28 rfl fun a29 h29 => ?_; clear h28
  refine pl_nil ?_
  refine co_then ?_
  have hc30 : (decide ((((⟨#[]⟩ : ByteArray).size : Nat) : Int) > 100)) = false := decide_eq_false (by omega)
  rw [hc30] at h29; clear hc30
  refine co_false h29 rfl ?_
  refine wp_skip ?_
  refine co_then ?_
  refine co_seq ?_
  refine co_seq ?_
  refine co_reg ?_
  refine pk0 (v := .int .i64 0) h29 rfl fun a31 h31 => ?_; clear h29
  refine pl_nil ?_
  refine co_then ?_
  refine wp_block ?_
  have h32 : Slots 68 [(1, v), (5, .int .i64 0)] _ := h31.sub ⟨rfl, rfl, trivial⟩; clear h31
  refine co_loop (fun mm a x => ∃ (i : Nat), Slots 68 [(1, v), (5, .int .i64 ((i : Nat) : Int))] a ∧ mm = l.length - i ∧ (i ≤ l.length) ∧ Below w.heap.size w x) (l.length - 0) ?_ ?_
  · exact ⟨0, h32.sub ⟨rfl, (slot_eq rfl (congrArg (Value.int .i64) (by first | rfl | omega))), trivial⟩, rfl, by omega, hB23⟩
  · rintro k33 a34 w35 ⟨i, h34, rfl, hi36, hB37⟩
    have hz38 := hB37.size
    refine co_seq ?_
    refine co_seq ?_
    refine co_reg ?_
    refine pk0 (v := .int .i64 ((i : Nat) : Int)) h34 rfl fun a39 h39 => ?_; clear h34
    refine pk0 (v := v) h39 rfl fun a40 h40 => ?_; clear h39
    refine pk (v := .int .i64 ((l.length : Nat) : Int)) h40 rfl (rn_len rfl rfl Try.underlying26 (hs.below hB37)) fun a41 h41 => ?_; clear h40
    refine pk0 (v := .bool (decide (((i : Nat) : Int) < ((l.length : Nat) : Int)))) h41 rfl fun a42 h42 => ?_; clear h41
    refine pk0 (v := .bool (decide (((i : Nat) : Int) < ((l.length : Nat) : Int)))) h42 rfl fun a43 h43 => ?_; clear h42
    cases hc44 : (decide (((i : Nat) : Int) < ((l.length : Nat) : Int)))
    ·
     rw [hc44] at h43
     have hp45 : ¬ (((i : Nat) : Int) < ((l.length : Nat) : Int)) := of_decide_eq_false hc44
     clear hc44
     refine psk h43 rfl fun a46 h46 => ?_; clear h43
     refine psk h46 rfl fun a47 h47 => ?_; clear h46
     refine pk0 (v := .bool false) h47 rfl fun a48 h48 => ?_; clear h47
     refine pl_nil ?_
     refine co_then ?_
     refine co_false h48 rfl ?_
     refine wp_exit ?_
     refine co_thenX ?_
     refine co_thenX ?_
     refine co_blockX ?_
     refine co_then ?_
     refine co_seq ?_
     refine co_reg ?_
     refine pk0 (v := .bool true) h48 rfl fun a49 h49 => ?_; clear h48
     refine pl_nil ?_
     refine co_then ?_
     refine wp_ret ?_
     refine co_ret1 h49 rfl rfl ?_
     exact ⟨_, rfl, hB37⟩
    ·
     rw [hc44] at h43
     have hp50 : ((i : Nat) : Int) < ((l.length : Nat) : Int) := of_decide_eq_true hc44
     clear hc44
     refine pk0 (v := .int .i64 ((i : Nat) : Int)) h43 rfl fun a51 h51 => ?_; clear h43
     refine pk0 (v := .bool (decide (((i : Nat) : Int) < 60))) h51 rfl fun a52 h52 => ?_; clear h51
     refine pk0 (v := .bool (decide (((i : Nat) : Int) < 60))) h52 rfl fun a53 h53 => ?_; clear h52
     refine pl_nil ?_
     refine co_then ?_
     cases hc54 : (decide (((i : Nat) : Int) < 60))
     ·
      rw [hc54] at h53
      have hp55 : ¬ (((i : Nat) : Int) < 60) := of_decide_eq_false hc54
      clear hc54
      refine co_false h53 rfl ?_
      refine wp_exit ?_
      refine co_thenX ?_
      refine co_thenX ?_
      refine co_blockX ?_
      refine co_then ?_
      refine co_seq ?_
      refine co_reg ?_
      refine pk0 (v := .bool true) h53 rfl fun a56 h56 => ?_; clear h53
      refine pl_nil ?_
      refine co_then ?_
      refine wp_ret ?_
      refine co_ret1 h56 rfl rfl ?_
      exact ⟨_, rfl, hB37⟩
     ·
      rw [hc54] at h53
      have hp57 : ((i : Nat) : Int) < 60 := of_decide_eq_true hc54
      clear hc54
      refine co_true h53 rfl ?_
      refine wp_skip ?_
      refine co_then ?_
      refine co_seq ?_
      refine wp_block ?_
      refine co_seq ?_
      refine co_reg ?_
      refine pk0 (v := v) h53 rfl fun a58 h58 => ?_; clear h53
      refine pk0 (v := .int .i64 ((i : Nat) : Int)) h58 rfl fun a59 h59 => ?_; clear h58
      obtain ⟨y60, hy60⟩ : ∃ z, l[i]? = some z := ⟨_, List.getElem?_eq_getElem (by first | omega | (simp; done) | (simp; omega))⟩
      have oky60 := hok _ (List.mem_of_getElem? hy60)
      refine pk (v := pt (blkOf v) (offOf v + i * 25)) h59 rfl (rn_index rfl rfl rfl Try.underlying26 Try.sizeOf48 (hs.below hB37) (by omega) (by first | omega | (simp; done) | (simp; omega))) fun a61 h61 => ?_; clear h59
      refine pk0 (v := pt (blkOf v) (offOf v + i * 25 + 3)) h61 rfl fun a62 h62 => ?_; clear h61
      refine pk (v := .agg #[.int .i64 y60.x.d.k, .int .i64 y60.x.d.ep, .int .i64 y60.x.d.rq, .int .i64 y60.x.d.sr, .bool y60.x.d.fg, .int .u64 y60.x.d.at_, .int .u64 y60.x.d.la, .int .i64 y60.x.d.n, .int .i64 y60.x.d.m, .int .i64 y60.x.d.p, .int .i64 y60.x.d.e, .string y60.x.d.key, .string y60.x.d.to_, .int .i64 y60.x.d.cep, y60.x.mv, .int .u64 y60.x.d.cfl, .int .i64 y60.x.d.bc, .int .i64 y60.x.d.br, y60.x.bv, y60.x.ev, y60.x.sv, y60.x.pv]) h62 rfl (rn_loadN rfl rfl Try.underlying46 rfl (by kernel_rfl) (range_part (sl_at (hs.below hB37) hy60) 3 _ (by rfl))) fun a63 h63 => ?_; clear h62
      refine pw h63 rfl (op_new (v := fun N => pt N 0) (T := 46) (cs := #[.int .i64 0, .int .i64 0, .int .i64 0, .int .i64 0, .bool false, .int .u64 0, .int .u64 0, .int .i64 0, .int .i64 0, .int .i64 0, .int .i64 0, .string (⟨#[]⟩), .string (⟨#[]⟩), .int .i64 0, .slice none 0 0, .int .u64 0, .int .i64 0, .int .i64 0, .slice none 0 0, .slice none 0 0, .slice none 0 0, .slice none 0 0]) (by kernel_rfl) (by kernel_rfl) (by kernel_rfl)) ?_; clear h63
      rintro _ w65 a64 ⟨N66, rfl, hN69, hz70, hk68, hg67⟩ h64
      have hz71 := hg67.size
      try dsimp only at h64
      have hB77 := hb_new hB37 hg67
      refine pwD h64 rfl (op_storeN rfl rfl rfl (all_cons rfl (all_cons rfl (all_cons rfl (all_cons rfl (all_cons rfl (all_cons rfl (all_cons rfl (all_cons rfl (all_cons rfl (all_cons rfl (all_cons rfl (all_cons rfl (all_cons rfl (all_cons rfl (all_cons (sl_one (oky60.hm.below hB77)) (all_cons rfl (all_cons rfl (all_cons rfl (all_cons (sl_one (oky60.hb.below hB77)) (all_cons (sl_one (oky60.he.below hB77)) (all_cons (sl_one (oky60.ht.below hB77)) (all_cons (sl_one (oky60.hp.below hB77)) all_nil)))))))))))))))))))))) (by kernel_rfl) hk68 rfl) ?_; clear h64
      rintro _ w73 a72 ⟨hk74, hz75, hg76⟩ h72
      have hk74' : Blk w73 N66 46 #[.int .i64 y60.x.d.k, .int .i64 y60.x.d.ep, .int .i64 y60.x.d.rq, .int .i64 y60.x.d.sr, .bool y60.x.d.fg, .int .u64 y60.x.d.at_, .int .u64 y60.x.d.la, .int .i64 y60.x.d.n, .int .i64 y60.x.d.m, .int .i64 y60.x.d.p, .int .i64 y60.x.d.e, .string y60.x.d.key, .string y60.x.d.to_, .int .i64 y60.x.d.cep, y60.x.mv, .int .u64 y60.x.d.cfl, .int .i64 y60.x.d.bc, .int .i64 y60.x.d.br, y60.x.bv, y60.x.ev, y60.x.sv, y60.x.pv] := hk74; clear hk74
      have hz78 := hg76.size
      refine pl_nil ?_
      refine co_then ?_
      refine co_seq ?_
      refine co_reg ?_
      refine pk0 (v := pt N66 13) h72 rfl fun a79 h79 => ?_; clear h72
      refine pk0 (v := pt N66 14) h79 rfl fun a80 h80 => ?_; clear h79
      refine pk (v := y60.x.mv) h80 rfl (rn_load1 rfl rfl Try.isAgg38 (hk74'.cell rfl)) fun a81 h81 => ?_; clear h80
      have hB82 := hb_at hB77 hg76 (by omega)
      refine pk (v := .int .i64 ((y60.x.d.cms.length : Nat) : Int)) h81 rfl (rn_len rfl rfl Try.underlying38 (oky60.hm.below hB82)) fun a83 h83 => ?_; clear h81
      refine pk0 (v := .bool (decide (((y60.x.d.cms.length : Nat) : Int) > 20))) h83 rfl fun a84 h84 => ?_; clear h83
      refine pk0 (v := .bool (decide (((y60.x.d.cms.length : Nat) : Int) > 20))) h84 rfl fun a85 h85 => ?_; clear h84
      cases hc86 : (decide (((y60.x.d.cms.length : Nat) : Int) > 20))
      ·
       rw [hc86] at h85
       have hp87 : ¬ (((y60.x.d.cms.length : Nat) : Int) > 20) := of_decide_eq_false hc86
       clear hc86
       refine pk0 (v := pt N66 16) h85 rfl fun a88 h88 => ?_; clear h85
       refine pk0 (v := pt N66 18) h88 rfl fun a89 h89 => ?_; clear h88
       refine pk (v := y60.x.bv) h89 rfl (rn_load1 rfl rfl Try.isAgg23 (hk74'.cell rfl)) fun a90 h90 => ?_; clear h89
       refine pk (v := .int .i64 ((y60.x.d.bl.length : Nat) : Int)) h90 rfl (rn_len rfl rfl Try.underlying23 (oky60.hb.below hB82)) fun a91 h91 => ?_; clear h90
       refine pk0 (v := .bool (decide (((y60.x.d.bl.length : Nat) : Int) > 20))) h91 rfl fun a92 h92 => ?_; clear h91
       refine pk0 (v := .bool (decide (((y60.x.d.bl.length : Nat) : Int) > 20))) h92 rfl fun a93 h93 => ?_; clear h92
       refine pk0 (v := .bool (decide (((y60.x.d.bl.length : Nat) : Int) > 20))) h93 rfl fun a94 h94 => ?_; clear h93
       cases hc95 : (decide (((y60.x.d.bl.length : Nat) : Int) > 20))
       ·
        rw [hc95] at h94
        have hp96 : ¬ (((y60.x.d.bl.length : Nat) : Int) > 20) := of_decide_eq_false hc95
        clear hc95
        refine pk0 (v := pt N66 19) h94 rfl fun a97 h97 => ?_; clear h94
        refine pk (v := y60.x.ev) h97 rfl (rn_load1 rfl rfl Try.isAgg43 (hk74'.cell rfl)) fun a98 h98 => ?_; clear h97
        refine pk (v := .int .i64 ((y60.x.d.en.length : Nat) : Int)) h98 rfl (rn_len rfl rfl Try.underlying43 (oky60.he.below hB82)) fun a99 h99 => ?_; clear h98
        refine pk0 (v := .bool (decide (((y60.x.d.en.length : Nat) : Int) > 20))) h99 rfl fun a100 h100 => ?_; clear h99
        refine pk0 (v := .bool (decide (((y60.x.d.en.length : Nat) : Int) > 20))) h100 rfl fun a101 h101 => ?_; clear h100
        refine pk0 (v := .bool (decide (((y60.x.d.en.length : Nat) : Int) > 20))) h101 rfl fun a102 h102 => ?_; clear h101
        cases hc103 : (decide (((y60.x.d.en.length : Nat) : Int) > 20))
        ·
         rw [hc103] at h102
         have hp104 : ¬ (((y60.x.d.en.length : Nat) : Int) > 20) := of_decide_eq_false hc103
         clear hc103
         refine pk0 (v := pt N66 20) h102 rfl fun a105 h105 => ?_; clear h102
         refine pk (v := y60.x.sv) h105 rfl (rn_load1 rfl rfl Try.isAgg44 (hk74'.cell rfl)) fun a106 h106 => ?_; clear h105
         refine pk (v := .int .i64 ((y60.x.d.st.length : Nat) : Int)) h106 rfl (rn_len rfl rfl Try.underlying44 (oky60.ht.below hB82)) fun a107 h107 => ?_; clear h106
         refine pk0 (v := .bool (decide (((y60.x.d.st.length : Nat) : Int) > 20))) h107 rfl fun a108 h108 => ?_; clear h107
         refine pk0 (v := .bool (decide (((y60.x.d.st.length : Nat) : Int) > 20))) h108 rfl fun a109 h109 => ?_; clear h108
         refine pk0 (v := .bool (decide (((y60.x.d.st.length : Nat) : Int) > 20))) h109 rfl fun a110 h110 => ?_; clear h109
         cases hc111 : (decide (((y60.x.d.st.length : Nat) : Int) > 20))
         ·
          rw [hc111] at h110
          have hp112 : ¬ (((y60.x.d.st.length : Nat) : Int) > 20) := of_decide_eq_false hc111
          clear hc111
          refine pk0 (v := pt N66 21) h110 rfl fun a113 h113 => ?_; clear h110
          refine pk (v := y60.x.pv) h113 rfl (rn_load1 rfl rfl Try.isAgg33 (hk74'.cell rfl)) fun a114 h114 => ?_; clear h113
          refine pk (v := .int .i64 ((y60.x.d.pr.length : Nat) : Int)) h114 rfl (rn_len rfl rfl Try.underlying33 (oky60.hp.below hB82)) fun a115 h115 => ?_; clear h114
          refine pk0 (v := .bool (decide (((y60.x.d.pr.length : Nat) : Int) > 40))) h115 rfl fun a116 h116 => ?_; clear h115
          refine pk0 (v := .bool (decide (((y60.x.d.pr.length : Nat) : Int) > 40))) h116 rfl fun a117 h117 => ?_; clear h116
          refine pl_nil ?_
          refine co_then ?_
          cases hc118 : (decide (((y60.x.d.pr.length : Nat) : Int) > 40))
          ·
           rw [hc118] at h117
           have hp119 : ¬ (((y60.x.d.pr.length : Nat) : Int) > 40) := of_decide_eq_false hc118
           clear hc118
           refine co_false h117 rfl ?_
           refine wp_skip ?_
           refine co_blockN ?_
           refine co_then ?_
           refine co_reg ?_
           refine pk0 (v := .int .i64 ((i : Nat) : Int)) h117 rfl fun a120 h120 => ?_; clear h117
           refine pk (v := .int .i64 ((i + 1 : Nat) : Int)) h120 rfl (rn_arith' rfl rfl rfl rfl rfl rfl (IntWalk.i64_in _ (by omega)) (by omega)) fun a121 h121 => ?_; clear h120
           refine pk0 (v := .int .i64 ((i + 1 : Nat) : Int)) h121 rfl fun a122 h122 => ?_; clear h121
           refine pl_nil ?_
           refine co_then ?_
           refine ⟨(l.length - (i + 1)), by omega, ?_⟩
           exact ⟨i + 1, h122.sub ⟨rfl, rfl, trivial⟩, rfl, by omega, hB82⟩
          ·
           rw [hc118] at h117
           have hp123 : ((y60.x.d.pr.length : Nat) : Int) > 40 := of_decide_eq_true hc118
           clear hc118
           refine co_true h117 rfl ?_
           refine co_seq ?_
           refine co_reg ?_
           refine pk0 (v := .bool false) h117 rfl fun a124 h124 => ?_; clear h117
           refine pl_nil ?_
           refine co_then ?_
           refine wp_ret ?_
           refine co_blockR ?_
           refine co_thenR ?_
           refine co_thenR ?_
           refine co_blockR ?_
           refine co_thenR ?_
           refine co_ret1 h124 rfl rfl ?_
           exact ⟨_, rfl, hB82⟩
         ·
          rw [hc111] at h110
          have hp125 : ((y60.x.d.st.length : Nat) : Int) > 20 := of_decide_eq_true hc111
          clear hc111
          refine psk h110 rfl fun a126 h126 => ?_; clear h110
          refine psk h126 rfl fun a127 h127 => ?_; clear h126
          refine psk h127 rfl fun a128 h128 => ?_; clear h127
          refine psk h128 rfl fun a129 h129 => ?_; clear h128
          refine pk0 (v := .bool true) h129 rfl fun a130 h130 => ?_; clear h129
          refine pl_nil ?_
          refine co_then ?_
          refine co_true h130 rfl ?_
          refine co_seq ?_
          refine co_reg ?_
          refine pk0 (v := .bool false) h130 rfl fun a131 h131 => ?_; clear h130
          refine pl_nil ?_
          refine co_then ?_
          refine wp_ret ?_
          refine co_blockR ?_
          refine co_thenR ?_
          refine co_thenR ?_
          refine co_blockR ?_
          refine co_thenR ?_
          refine co_ret1 h131 rfl rfl ?_
          exact ⟨_, rfl, hB82⟩
        ·
         rw [hc103] at h102
         have hp132 : ((y60.x.d.en.length : Nat) : Int) > 20 := of_decide_eq_true hc103
         clear hc103
         refine psk h102 rfl fun a133 h133 => ?_; clear h102
         refine psk h133 rfl fun a134 h134 => ?_; clear h133
         refine psk h134 rfl fun a135 h135 => ?_; clear h134
         refine psk h135 rfl fun a136 h136 => ?_; clear h135
         refine pk0 (v := .bool true) h136 rfl fun a137 h137 => ?_; clear h136
         refine pk0 (v := .bool true) h137 rfl fun a138 h138 => ?_; clear h137
         refine psk h138 rfl fun a139 h139 => ?_; clear h138
         refine psk h139 rfl fun a140 h140 => ?_; clear h139
         refine psk h140 rfl fun a141 h141 => ?_; clear h140
         refine psk h141 rfl fun a142 h142 => ?_; clear h141
         refine pk0 (v := .bool true) h142 rfl fun a143 h143 => ?_; clear h142
         refine pl_nil ?_
         refine co_then ?_
         refine co_true h143 rfl ?_
         refine co_seq ?_
         refine co_reg ?_
         refine pk0 (v := .bool false) h143 rfl fun a144 h144 => ?_; clear h143
         refine pl_nil ?_
         refine co_then ?_
         refine wp_ret ?_
         refine co_blockR ?_
         refine co_thenR ?_
         refine co_thenR ?_
         refine co_blockR ?_
         refine co_thenR ?_
         refine co_ret1 h144 rfl rfl ?_
         exact ⟨_, rfl, hB82⟩
       ·
        rw [hc95] at h94
        have hp145 : ((y60.x.d.bl.length : Nat) : Int) > 20 := of_decide_eq_true hc95
        clear hc95
        refine psk h94 rfl fun a146 h146 => ?_; clear h94
        refine psk h146 rfl fun a147 h147 => ?_; clear h146
        refine psk h147 rfl fun a148 h148 => ?_; clear h147
        refine psk h148 rfl fun a149 h149 => ?_; clear h148
        refine pk0 (v := .bool true) h149 rfl fun a150 h150 => ?_; clear h149
        refine pk0 (v := .bool true) h150 rfl fun a151 h151 => ?_; clear h150
        refine psk h151 rfl fun a152 h152 => ?_; clear h151
        refine psk h152 rfl fun a153 h153 => ?_; clear h152
        refine psk h153 rfl fun a154 h154 => ?_; clear h153
        refine psk h154 rfl fun a155 h155 => ?_; clear h154
        refine pk0 (v := .bool true) h155 rfl fun a156 h156 => ?_; clear h155
        refine pk0 (v := .bool true) h156 rfl fun a157 h157 => ?_; clear h156
        refine psk h157 rfl fun a158 h158 => ?_; clear h157
        refine psk h158 rfl fun a159 h159 => ?_; clear h158
        refine psk h159 rfl fun a160 h160 => ?_; clear h159
        refine psk h160 rfl fun a161 h161 => ?_; clear h160
        refine pk0 (v := .bool true) h161 rfl fun a162 h162 => ?_; clear h161
        refine pl_nil ?_
        refine co_then ?_
        refine co_true h162 rfl ?_
        refine co_seq ?_
        refine co_reg ?_
        refine pk0 (v := .bool false) h162 rfl fun a163 h163 => ?_; clear h162
        refine pl_nil ?_
        refine co_then ?_
        refine wp_ret ?_
        refine co_blockR ?_
        refine co_thenR ?_
        refine co_thenR ?_
        refine co_blockR ?_
        refine co_thenR ?_
        refine co_ret1 h163 rfl rfl ?_
        exact ⟨_, rfl, hB82⟩
      ·
       rw [hc86] at h85
       have hp164 : ((y60.x.d.cms.length : Nat) : Int) > 20 := of_decide_eq_true hc86
       clear hc86
       refine psk h85 rfl fun a165 h165 => ?_; clear h85
       refine psk h165 rfl fun a166 h166 => ?_; clear h165
       refine psk h166 rfl fun a167 h167 => ?_; clear h166
       refine psk h167 rfl fun a168 h168 => ?_; clear h167
       refine psk h168 rfl fun a169 h169 => ?_; clear h168
       refine pk0 (v := .bool true) h169 rfl fun a170 h170 => ?_; clear h169
       refine pk0 (v := .bool true) h170 rfl fun a171 h171 => ?_; clear h170
       refine psk h171 rfl fun a172 h172 => ?_; clear h171
       refine psk h172 rfl fun a173 h173 => ?_; clear h172
       refine psk h173 rfl fun a174 h174 => ?_; clear h173
       refine psk h174 rfl fun a175 h175 => ?_; clear h174
       refine pk0 (v := .bool true) h175 rfl fun a176 h176 => ?_; clear h175
       refine pk0 (v := .bool true) h176 rfl fun a177 h177 => ?_; clear h176
       refine psk h177 rfl fun a178 h178 => ?_; clear h177
       refine psk h178 rfl fun a179 h179 => ?_; clear h178
       refine psk h179 rfl fun a180 h180 => ?_; clear h179
       refine psk h180 rfl fun a181 h181 => ?_; clear h180
       refine pk0 (v := .bool true) h181 rfl fun a182 h182 => ?_; clear h181
       refine pk0 (v := .bool true) h182 rfl fun a183 h183 => ?_; clear h182
       refine psk h183 rfl fun a184 h184 => ?_; clear h183
       refine psk h184 rfl fun a185 h185 => ?_; clear h184
       refine psk h185 rfl fun a186 h186 => ?_; clear h185
       refine psk h186 rfl fun a187 h187 => ?_; clear h186
       refine pk0 (v := .bool true) h187 rfl fun a188 h188 => ?_; clear h187
       refine pl_nil ?_
       refine co_then ?_
       refine co_true h188 rfl ?_
       refine co_seq ?_
       refine co_reg ?_
       refine pk0 (v := .bool false) h188 rfl fun a189 h189 => ?_; clear h188
       refine pl_nil ?_
       refine co_then ?_
       refine wp_ret ?_
       refine co_blockR ?_
       refine co_thenR ?_
       refine co_thenR ?_
       refine co_blockR ?_
       refine co_thenR ?_
       refine co_ret1 h189 rfl rfl ?_
       exact ⟨_, rfl, hB82⟩
 ·
  rw [hc22] at h21
  have hp190 : (((⟨#[]⟩ : ByteArray).size : Nat) : Int) > 100 := of_decide_eq_true hc22
  clear hc22
  refine psk h21 rfl fun a191 h191 => ?_; clear h21
  refine psk h191 rfl fun a192 h192 => ?_; clear h191
  refine psk h192 rfl fun a193 h193 => ?_; clear h192
  refine psk h193 rfl fun a194 h194 => ?_; clear h193
  refine pk0 (v := .bool true) h194 rfl fun a195 h195 => ?_; clear h194
  refine pl_nil ?_
  refine co_then ?_
  refine co_true h195 rfl ?_
  refine co_seq ?_
  refine co_reg ?_
  refine pk0 (v := .bool false) h195 rfl fun a196 h196 => ?_; clear h195
  refine pl_nil ?_
  refine co_then ?_
  refine wp_ret ?_
  refine co_thenR ?_
  refine co_ret1 h196 rfl rfl ?_
  exact ⟨_, rfl, hB23⟩
set_option maxRecDepth 100000 in
set_option maxHeartbeats 3200000 in
theorem awake34  (w : World)  :
    Calls Try.prog 7 #[] w fun e w' => e = .returned (.bool true) ∧ Below w.heap.size w w' := by
 have hB0 := Below.refl w.heap.size w
 refine co_enter (n := 58) Try.func7 rfl rfl rfl [] rfl (fun a h0 => ?_)
 refine co_seq ?_
 refine co_reg ?_
 refine pk0 (v := .bool false) h0 rfl fun a1 h1 => ?_; clear h0
 refine pl_nil ?_
 refine co_then ?_
 refine co_seq ?_
 refine co_reg ?_
 refine pk0 (v := .agg #[.int .i64 2, .int .i64 1, .string (⟨#[]⟩), .string (⟨#[]⟩), .int .u64 5, .int .i64 3, .slice none 0 0]) h1 rfl fun a2 h2 => ?_; clear h1
 refine pw h2 rfl (op_call (args := #[.int .i64 0, .int .i64 3, .agg #[.int .i64 2, .int .i64 1, .string (⟨#[]⟩), .string (⟨#[]⟩), .int .u64 5, .int .i64 3, .slice none 0 0]]) (R := fun res xw => ∃ tk : Nat, ∃ nb : Nat, ∃ u : Value, res = .tuple #[pt tk 0, .int .i64 0] ∧ xw.ownsRow w.heap.size 59 3 u ([] : List OpT).length (([] : List OpT).flatMap opE) ∧ Blk xw tk 67 #[.iface 75 (pt nb 0), .int .i64 3, .int .i64 0, .bool false, .int .i64 0, .int .i64 0, .int .u64 0, .int .i64 0, .slice none 0 0] ∧ Blk xw nb 77 #[.int .i64 0, .int .i64 3, .int .i64 2, .int .i64 1, .string (⟨#[]⟩), .string (⟨#[]⟩), .int .u64 5, .int .i64 3, u, .int .u64 5, .string (⟨#[]⟩), .slice none 0 0] ∧ w.heap.size ≤ tk ∧ w.heap.size ≤ nb ∧ tk ≠ nb ∧ Below w.heap.size w xw) rfl rfl rfl (by kernel_rfl) (by kernel_rfl) (Try.call8 _ _) (aTNew_any 0 3 1 (⟨#[]⟩) (⟨#[]⟩) 5 3 w (by first | omega | (simp; done) | (simp; omega)) (by first | omega | (simp; done) | (simp; omega)) (by first | omega | (simp; done) | (simp; omega)) (by first | omega | decide | (dsimp only; omega)) (by first | omega | decide | (dsimp only; omega)) (by first | omega | (simp; done) | (simp; omega))) (by rintro e x ⟨tk, nb, u, rfl, hq8, hq9, hq10, hq11, hq12, hq13, hb14⟩; exact ⟨_, rfl, ⟨tk, nb, u, rfl, hq8, hq9, hq10, hq11, hq12, hq13, hb14⟩⟩)) ?_; clear h2
 rintro _ w4 a3 ⟨tk5, nb6, u7, rfl, hq8, hq9, hq10, hq11, hq12, hq13, hb14⟩ h3
 have hz15 := hb14.size
 have hl16 := sl_len (row_sl hq8 opE_len)
 have hl17 := hq9.lt
 have hl18 := hq10.lt
 refine pk0 (v := .tuple #[pt tk5 0, .int .i64 0]) h3 rfl fun a19 h19 => ?_; clear h3
 refine pk0 (v := pt tk5 0) h19 rfl fun a20 h20 => ?_; clear h19
 refine pk0 (v := .int .i64 0) h20 rfl fun a21 h21 => ?_; clear h20
 refine pk0 (v := pt tk5 0) h21 rfl fun a22 h22 => ?_; clear h21
 refine pk0 (v := .int .i64 0) h22 rfl fun a23 h23 => ?_; clear h22
 refine pl_nil ?_
 refine co_then ?_
 refine co_seq ?_
 refine co_reg ?_
 refine pk0 (v := pt tk5 0) h23 rfl fun a24 h24 => ?_; clear h23
 refine pw h24 rfl (op_call (args := #[pt tk5 0, .int .i64 0, .int .i64 (-1)]) (R := fun res xw => res = .tuple #[.int .i64 ((RdD.mk 0 3 1 (⟨#[]⟩) (⟨#[]⟩) 5 3 5 (⟨#[]⟩) ([])).nd), .agg #[.int .i64 9, .int .i64 0, .int .i64 ((RdD.mk 0 3 1 (⟨#[]⟩) (⟨#[]⟩) 5 3 5 (⟨#[]⟩) ([])).rq), .int .i64 0, .bool false, .int .u64 ((RdD.mk 0 3 1 (⟨#[]⟩) (⟨#[]⟩) 5 3 5 (⟨#[]⟩) ([])).tm), .int .u64 0, .int .i64 (mnI 2 ((RdD.mk 0 3 1 (⟨#[]⟩) (⟨#[]⟩) 5 3 5 (⟨#[]⟩) ([])).n - ((RdD.mk 0 3 1 (⟨#[]⟩) (⟨#[]⟩) 5 3 5 (⟨#[]⟩) ([])).prs.length : Int))), .int .i64 0, .int .i64 0, .int .i64 0, .string ((RdD.mk 0 3 1 (⟨#[]⟩) (⟨#[]⟩) 5 3 5 (⟨#[]⟩) ([])).key), .string ((RdD.mk 0 3 1 (⟨#[]⟩) (⟨#[]⟩) 5 3 5 (⟨#[]⟩) ([])).to_), .int .i64 0, .slice none 0 0, .int .u64 0, .int .i64 0, .int .i64 0, .slice none 0 0, .slice none 0 0, .slice none 0 0, .slice none 0 0]] ∧ Below w4.heap.size w4 xw) rfl rfl rfl (by kernel_rfl) (by kernel_rfl) (Try.call13 _ _) (aTNext_any tk5 nb6 (RdD.mk 0 3 1 (⟨#[]⟩) (⟨#[]⟩) 5 3 5 (⟨#[]⟩) ([])) u7 (.slice none 0 0) 0 0 (-1) w4 hq9 hq10 (sl_nil _) (by first | omega | decide | (dsimp only; omega)) (by first | omega | decide | (dsimp only; omega))) (by rintro e x ⟨rfl, hb27⟩; exact ⟨_, rfl, ⟨rfl, hb27⟩⟩)) ?_; clear h24
 rintro _ w26 a25 ⟨rfl, hb27⟩ h25
 have hz28 := hb27.size
 refine pk0 (v := .tuple #[.int .i64 ((RdD.mk 0 3 1 (⟨#[]⟩) (⟨#[]⟩) 5 3 5 (⟨#[]⟩) ([])).nd), .agg #[.int .i64 9, .int .i64 0, .int .i64 ((RdD.mk 0 3 1 (⟨#[]⟩) (⟨#[]⟩) 5 3 5 (⟨#[]⟩) ([])).rq), .int .i64 0, .bool false, .int .u64 ((RdD.mk 0 3 1 (⟨#[]⟩) (⟨#[]⟩) 5 3 5 (⟨#[]⟩) ([])).tm), .int .u64 0, .int .i64 (mnI 2 ((RdD.mk 0 3 1 (⟨#[]⟩) (⟨#[]⟩) 5 3 5 (⟨#[]⟩) ([])).n - ((RdD.mk 0 3 1 (⟨#[]⟩) (⟨#[]⟩) 5 3 5 (⟨#[]⟩) ([])).prs.length : Int))), .int .i64 0, .int .i64 0, .int .i64 0, .string ((RdD.mk 0 3 1 (⟨#[]⟩) (⟨#[]⟩) 5 3 5 (⟨#[]⟩) ([])).key), .string ((RdD.mk 0 3 1 (⟨#[]⟩) (⟨#[]⟩) 5 3 5 (⟨#[]⟩) ([])).to_), .int .i64 0, .slice none 0 0, .int .u64 0, .int .i64 0, .int .i64 0, .slice none 0 0, .slice none 0 0, .slice none 0 0, .slice none 0 0]]) h25 rfl fun a29 h29 => ?_; clear h25
 refine pk0 (v := .int .i64 ((RdD.mk 0 3 1 (⟨#[]⟩) (⟨#[]⟩) 5 3 5 (⟨#[]⟩) ([])).nd)) h29 rfl fun a30 h30 => ?_; clear h29
 refine pk0 (v := .agg #[.int .i64 9, .int .i64 0, .int .i64 ((RdD.mk 0 3 1 (⟨#[]⟩) (⟨#[]⟩) 5 3 5 (⟨#[]⟩) ([])).rq), .int .i64 0, .bool false, .int .u64 ((RdD.mk 0 3 1 (⟨#[]⟩) (⟨#[]⟩) 5 3 5 (⟨#[]⟩) ([])).tm), .int .u64 0, .int .i64 (mnI 2 ((RdD.mk 0 3 1 (⟨#[]⟩) (⟨#[]⟩) 5 3 5 (⟨#[]⟩) ([])).n - ((RdD.mk 0 3 1 (⟨#[]⟩) (⟨#[]⟩) 5 3 5 (⟨#[]⟩) ([])).prs.length : Int))), .int .i64 0, .int .i64 0, .int .i64 0, .string ((RdD.mk 0 3 1 (⟨#[]⟩) (⟨#[]⟩) 5 3 5 (⟨#[]⟩) ([])).key), .string ((RdD.mk 0 3 1 (⟨#[]⟩) (⟨#[]⟩) 5 3 5 (⟨#[]⟩) ([])).to_), .int .i64 0, .slice none 0 0, .int .u64 0, .int .i64 0, .int .i64 0, .slice none 0 0, .slice none 0 0, .slice none 0 0, .slice none 0 0]) h30 rfl fun a31 h31 => ?_; clear h30
 refine pw h31 rfl (op_new (v := fun N => pt N 0) (T := 46) (cs := #[.int .i64 0, .int .i64 0, .int .i64 0, .int .i64 0, .bool false, .int .u64 0, .int .u64 0, .int .i64 0, .int .i64 0, .int .i64 0, .int .i64 0, .string (⟨#[]⟩), .string (⟨#[]⟩), .int .i64 0, .slice none 0 0, .int .u64 0, .int .i64 0, .int .i64 0, .slice none 0 0, .slice none 0 0, .slice none 0 0, .slice none 0 0]) (by kernel_rfl) (by kernel_rfl) (by kernel_rfl)) ?_; clear h31
 rintro _ w33 a32 ⟨N34, rfl, hN37, hz38, hk36, hg35⟩ h32
 have hz39 := hg35.size
 try dsimp only at h32
 refine pk0 (v := .int .i64 ((RdD.mk 0 3 1 (⟨#[]⟩) (⟨#[]⟩) 5 3 5 (⟨#[]⟩) ([])).nd)) h32 rfl fun a40 h40 => ?_; clear h32
 refine pwD h40 rfl (op_storeN rfl rfl rfl (all_cons rfl (all_cons rfl (all_cons rfl (all_cons rfl (all_cons rfl (all_cons rfl (all_cons rfl (all_cons rfl (all_cons rfl (all_cons rfl (all_cons rfl (all_cons rfl (all_cons rfl (all_cons rfl (all_cons rfl (all_cons rfl (all_cons rfl (all_cons rfl (all_cons rfl (all_cons rfl (all_cons rfl (all_cons rfl all_nil)))))))))))))))))))))) (by kernel_rfl) hk36 rfl) ?_; clear h40
 rintro _ w42 a41 ⟨hk43, hz44, hg45⟩ h41
 have hk43' : Blk w42 N34 46 #[.int .i64 9, .int .i64 0, .int .i64 ((RdD.mk 0 3 1 (⟨#[]⟩) (⟨#[]⟩) 5 3 5 (⟨#[]⟩) ([])).rq), .int .i64 0, .bool false, .int .u64 ((RdD.mk 0 3 1 (⟨#[]⟩) (⟨#[]⟩) 5 3 5 (⟨#[]⟩) ([])).tm), .int .u64 0, .int .i64 (mnI 2 ((RdD.mk 0 3 1 (⟨#[]⟩) (⟨#[]⟩) 5 3 5 (⟨#[]⟩) ([])).n - ((RdD.mk 0 3 1 (⟨#[]⟩) (⟨#[]⟩) 5 3 5 (⟨#[]⟩) ([])).prs.length : Int))), .int .i64 0, .int .i64 0, .int .i64 0, .string ((RdD.mk 0 3 1 (⟨#[]⟩) (⟨#[]⟩) 5 3 5 (⟨#[]⟩) ([])).key), .string ((RdD.mk 0 3 1 (⟨#[]⟩) (⟨#[]⟩) 5 3 5 (⟨#[]⟩) ([])).to_), .int .i64 0, .slice none 0 0, .int .u64 0, .int .i64 0, .int .i64 0, .slice none 0 0, .slice none 0 0, .slice none 0 0, .slice none 0 0] := hk43; clear hk43
 have hz46 := hg45.size
 refine pl_nil ?_
 refine co_then ?_
 refine co_seq ?_
 refine co_reg ?_
 refine pk0 (v := pt tk5 0) h41 rfl fun a47 h47 => ?_; clear h41
 refine pk0 (v := .agg #[.string (⟨#[97]⟩), .string (⟨#[]⟩)]) h47 rfl fun a48 h48 => ?_; clear h47
 refine pk0 (v := .agg #[.string (⟨#[98]⟩), .string (⟨#[]⟩)]) h48 rfl fun a49 h49 => ?_; clear h48
 refine pw h49 rfl (op_new (v := fun N => .slice (some ⟨N, 0, none⟩) 2 2) (T := 57) (cs := #[.string (⟨#[97]⟩), .string (⟨#[]⟩), .string (⟨#[98]⟩), .string (⟨#[]⟩)]) (by kernel_rfl) (by kernel_rfl) (by kernel_rfl)) ?_; clear h49
 rintro _ w51 a50 ⟨N52, rfl, hN55, hz56, hk54, hg53⟩ h50
 have hz57 := hg53.size
 try dsimp only at h50
 refine pk0 (v := .agg #[.int .i64 10, .int .i64 0, .int .i64 3, .int .i64 0, .bool true, .int .u64 5, .int .u64 0, .int .i64 0, .int .i64 0, .int .i64 0, .int .i64 0, .string (⟨#[]⟩), .string (⟨#[]⟩), .int .i64 0, .slice none 0 0, .int .u64 0, .int .i64 0, .int .i64 0, .slice none 0 0, .slice none 0 0, .slice none 0 0, .slice (some ⟨N52, 0, none⟩) 2 2]) h50 rfl fun a58 h58 => ?_; clear h50
 have hr61 := row_of_cells (enc := prE) (sz := 2) ([(⟨#[97]⟩, ⟨#[]⟩), (⟨#[98]⟩, ⟨#[]⟩)] : List PrT) hk54 (Nat.le_refl _) rfl rfl (by unfold maxLen; simp)
 have hk62 := hq9.below hb27
 have hk63 := hk62.kept hg35 (by simp)
 have hk64 := hk63.kept hg45 (by simp; omega)
 have hk65 := hk64.kept hg53 (by simp)
 have hk66 := hq10.below hb27
 have hk67 := hk66.kept hg35 (by simp)
 have hk68 := hk67.kept hg45 (by simp; omega)
 have hk69 := hk68.kept hg53 (by simp)
 refine pw h58 rfl (op_call (args := #[pt tk5 0, .int .i64 1, .agg #[.int .i64 10, .int .i64 0, .int .i64 3, .int .i64 0, .bool true, .int .u64 5, .int .u64 0, .int .i64 0, .int .i64 0, .int .i64 0, .int .i64 0, .string (⟨#[]⟩), .string (⟨#[]⟩), .int .i64 0, .slice none 0 0, .int .u64 0, .int .i64 0, .int .i64 0, .slice none 0 0, .slice none 0 0, .slice none 0 0, .slice (some ⟨N52, 0, none⟩) 2 2]]) (R := fun res xw => ∃ nb : Nat, ∃ u : Value, res = .bool true ∧ xw.ownsRow w51.heap.size 57 2 u ((RdD.mk 0 3 1 (⟨#[]⟩) (⟨#[]⟩) 5 3 5 (⟨#[]⟩) ([])).prs ++ ([(⟨#[97]⟩, ⟨#[]⟩), (⟨#[98]⟩, ⟨#[]⟩)] : List PrT).take (pgN (RdD.mk 0 3 1 (⟨#[]⟩) (⟨#[]⟩) 5 3 5 (⟨#[]⟩) ([])) ([(⟨#[97]⟩, ⟨#[]⟩), (⟨#[98]⟩, ⟨#[]⟩)] : List PrT))).length (((RdD.mk 0 3 1 (⟨#[]⟩) (⟨#[]⟩) 5 3 5 (⟨#[]⟩) ([])).prs ++ ([(⟨#[97]⟩, ⟨#[]⟩), (⟨#[98]⟩, ⟨#[]⟩)] : List PrT).take (pgN (RdD.mk 0 3 1 (⟨#[]⟩) (⟨#[]⟩) 5 3 5 (⟨#[]⟩) ([])) ([(⟨#[97]⟩, ⟨#[]⟩), (⟨#[98]⟩, ⟨#[]⟩)] : List PrT))).flatMap prE) ∧ Blk xw tk5 67 #[.iface 75 (pt nb 0), .int .i64 (RdD.mk 0 3 1 (⟨#[]⟩) (⟨#[]⟩) 5 3 5 (⟨#[]⟩) ([])).rq, .int .i64 0, .bool false, .int .i64 0, .int .i64 0, .int .u64 0, .int .i64 0, .slice none 0 0] ∧ Blk xw nb 77 #[.int .i64 (RdD.mk 0 3 1 (⟨#[]⟩) (⟨#[]⟩) 5 3 5 (⟨#[]⟩) ([])).c, .int .i64 (RdD.mk 0 3 1 (⟨#[]⟩) (⟨#[]⟩) 5 3 5 (⟨#[]⟩) ([])).rq, .int .i64 2, .int .i64 (RdD.mk 0 3 1 (⟨#[]⟩) (⟨#[]⟩) 5 3 5 (⟨#[]⟩) ([])).nd, .string (RdD.mk 0 3 1 (⟨#[]⟩) (⟨#[]⟩) 5 3 5 (⟨#[]⟩) ([])).k0, .string (RdD.mk 0 3 1 (⟨#[]⟩) (⟨#[]⟩) 5 3 5 (⟨#[]⟩) ([])).to_, .int .u64 (RdD.mk 0 3 1 (⟨#[]⟩) (⟨#[]⟩) 5 3 5 (⟨#[]⟩) ([])).at0, .int .i64 (RdD.mk 0 3 1 (⟨#[]⟩) (⟨#[]⟩) 5 3 5 (⟨#[]⟩) ([])).n, u7, .int .u64 (RdD.mk 0 3 1 (⟨#[]⟩) (⟨#[]⟩) 5 3 5 (⟨#[]⟩) ([])).tm, .string (nxK (lastK (RdD.mk 0 3 1 (⟨#[]⟩) (⟨#[]⟩) 5 3 5 (⟨#[]⟩) ([])) ([(⟨#[97]⟩, ⟨#[]⟩), (⟨#[98]⟩, ⟨#[]⟩)] : List PrT))), u] ∧ w51.heap.size ≤ nb ∧ But (fun q => q = tk5) w51 xw) rfl rfl rfl (by kernel_rfl) (by kernel_rfl) (Try.call11 _ _) (aTTakeM_any tk5 nb6 (RdD.mk 0 3 1 (⟨#[]⟩) (⟨#[]⟩) 5 3 5 (⟨#[]⟩) ([])) u7 (.slice none 0 0) 0 true (.slice (some ⟨N52, 0, none⟩) 2 2) ([(⟨#[97]⟩, ⟨#[]⟩), (⟨#[98]⟩, ⟨#[]⟩)] : List PrT) w51 hk65 hk69 (sl_nil _) (by first | omega | decide | (dsimp only; omega)) (by first | omega | decide | (dsimp only; omega)) (row_sl hr61 prE_len) (by first | omega | decide | (dsimp only; omega)) (by first | assumption | (intro z hz; simp only [List.mem_cons, List.not_mem_nil, or_false] at hz; rcases hz with rfl | rfl <;> decide)) (by first | assumption | (intro h; exact absurd rfl h)) (by first | assumption | (intro _ k hk hq; simp only [Value.ownBlock, Option.some.injEq] at hk; omega)) (by first | assumption | exact aw_more)) (by rintro e x ⟨nb, u, rfl, hq72, hq73, hq74, hq75, hb76⟩; exact ⟨_, rfl, ⟨nb, u, rfl, hq72, hq73, hq74, hq75, hb76⟩⟩)) ?_; clear h58
 rintro _ w60 a59 ⟨nb70, u71, rfl, hq72, hq73, hq74, hq75, hb76⟩ h59
 have hz77 := hb76.size
 have hl78 := sl_len (row_sl hq72 prE_len)
 have hl79 := hq73.lt
 have hl80 := hq74.lt
 refine pk0 (v := .bool true) h59 rfl fun a81 h81 => ?_; clear h59
 refine pl_nil ?_
 refine co_then ?_
 refine co_seq ?_
 refine co_reg ?_
 refine pk0 (v := pt tk5 0) h81 rfl fun a82 h82 => ?_; clear h81
 refine pw h82 rfl (op_call (args := #[pt tk5 0, .int .i64 0, .int .i64 (-1)]) (R := fun res xw => res = .tuple #[.int .i64 ((RdD.mk ((RdD.mk 0 3 1 (⟨#[]⟩) (⟨#[]⟩) 5 3 5 (⟨#[]⟩) ([])).c) ((RdD.mk 0 3 1 (⟨#[]⟩) (⟨#[]⟩) 5 3 5 (⟨#[]⟩) ([])).rq) ((RdD.mk 0 3 1 (⟨#[]⟩) (⟨#[]⟩) 5 3 5 (⟨#[]⟩) ([])).nd) ((RdD.mk 0 3 1 (⟨#[]⟩) (⟨#[]⟩) 5 3 5 (⟨#[]⟩) ([])).k0) ((RdD.mk 0 3 1 (⟨#[]⟩) (⟨#[]⟩) 5 3 5 (⟨#[]⟩) ([])).to_) ((RdD.mk 0 3 1 (⟨#[]⟩) (⟨#[]⟩) 5 3 5 (⟨#[]⟩) ([])).at0) ((RdD.mk 0 3 1 (⟨#[]⟩) (⟨#[]⟩) 5 3 5 (⟨#[]⟩) ([])).n) ((RdD.mk 0 3 1 (⟨#[]⟩) (⟨#[]⟩) 5 3 5 (⟨#[]⟩) ([])).tm) (nxK (lastK (RdD.mk 0 3 1 (⟨#[]⟩) (⟨#[]⟩) 5 3 5 (⟨#[]⟩) ([])) ([(⟨#[97]⟩, ⟨#[]⟩), (⟨#[98]⟩, ⟨#[]⟩)] : List PrT))) ((RdD.mk 0 3 1 (⟨#[]⟩) (⟨#[]⟩) 5 3 5 (⟨#[]⟩) ([])).prs ++ ([(⟨#[97]⟩, ⟨#[]⟩), (⟨#[98]⟩, ⟨#[]⟩)] : List PrT).take (pgN (RdD.mk 0 3 1 (⟨#[]⟩) (⟨#[]⟩) 5 3 5 (⟨#[]⟩) ([])) ([(⟨#[97]⟩, ⟨#[]⟩), (⟨#[98]⟩, ⟨#[]⟩)] : List PrT)))).nd), .agg #[.int .i64 9, .int .i64 0, .int .i64 ((RdD.mk ((RdD.mk 0 3 1 (⟨#[]⟩) (⟨#[]⟩) 5 3 5 (⟨#[]⟩) ([])).c) ((RdD.mk 0 3 1 (⟨#[]⟩) (⟨#[]⟩) 5 3 5 (⟨#[]⟩) ([])).rq) ((RdD.mk 0 3 1 (⟨#[]⟩) (⟨#[]⟩) 5 3 5 (⟨#[]⟩) ([])).nd) ((RdD.mk 0 3 1 (⟨#[]⟩) (⟨#[]⟩) 5 3 5 (⟨#[]⟩) ([])).k0) ((RdD.mk 0 3 1 (⟨#[]⟩) (⟨#[]⟩) 5 3 5 (⟨#[]⟩) ([])).to_) ((RdD.mk 0 3 1 (⟨#[]⟩) (⟨#[]⟩) 5 3 5 (⟨#[]⟩) ([])).at0) ((RdD.mk 0 3 1 (⟨#[]⟩) (⟨#[]⟩) 5 3 5 (⟨#[]⟩) ([])).n) ((RdD.mk 0 3 1 (⟨#[]⟩) (⟨#[]⟩) 5 3 5 (⟨#[]⟩) ([])).tm) (nxK (lastK (RdD.mk 0 3 1 (⟨#[]⟩) (⟨#[]⟩) 5 3 5 (⟨#[]⟩) ([])) ([(⟨#[97]⟩, ⟨#[]⟩), (⟨#[98]⟩, ⟨#[]⟩)] : List PrT))) ((RdD.mk 0 3 1 (⟨#[]⟩) (⟨#[]⟩) 5 3 5 (⟨#[]⟩) ([])).prs ++ ([(⟨#[97]⟩, ⟨#[]⟩), (⟨#[98]⟩, ⟨#[]⟩)] : List PrT).take (pgN (RdD.mk 0 3 1 (⟨#[]⟩) (⟨#[]⟩) 5 3 5 (⟨#[]⟩) ([])) ([(⟨#[97]⟩, ⟨#[]⟩), (⟨#[98]⟩, ⟨#[]⟩)] : List PrT)))).rq), .int .i64 0, .bool false, .int .u64 ((RdD.mk ((RdD.mk 0 3 1 (⟨#[]⟩) (⟨#[]⟩) 5 3 5 (⟨#[]⟩) ([])).c) ((RdD.mk 0 3 1 (⟨#[]⟩) (⟨#[]⟩) 5 3 5 (⟨#[]⟩) ([])).rq) ((RdD.mk 0 3 1 (⟨#[]⟩) (⟨#[]⟩) 5 3 5 (⟨#[]⟩) ([])).nd) ((RdD.mk 0 3 1 (⟨#[]⟩) (⟨#[]⟩) 5 3 5 (⟨#[]⟩) ([])).k0) ((RdD.mk 0 3 1 (⟨#[]⟩) (⟨#[]⟩) 5 3 5 (⟨#[]⟩) ([])).to_) ((RdD.mk 0 3 1 (⟨#[]⟩) (⟨#[]⟩) 5 3 5 (⟨#[]⟩) ([])).at0) ((RdD.mk 0 3 1 (⟨#[]⟩) (⟨#[]⟩) 5 3 5 (⟨#[]⟩) ([])).n) ((RdD.mk 0 3 1 (⟨#[]⟩) (⟨#[]⟩) 5 3 5 (⟨#[]⟩) ([])).tm) (nxK (lastK (RdD.mk 0 3 1 (⟨#[]⟩) (⟨#[]⟩) 5 3 5 (⟨#[]⟩) ([])) ([(⟨#[97]⟩, ⟨#[]⟩), (⟨#[98]⟩, ⟨#[]⟩)] : List PrT))) ((RdD.mk 0 3 1 (⟨#[]⟩) (⟨#[]⟩) 5 3 5 (⟨#[]⟩) ([])).prs ++ ([(⟨#[97]⟩, ⟨#[]⟩), (⟨#[98]⟩, ⟨#[]⟩)] : List PrT).take (pgN (RdD.mk 0 3 1 (⟨#[]⟩) (⟨#[]⟩) 5 3 5 (⟨#[]⟩) ([])) ([(⟨#[97]⟩, ⟨#[]⟩), (⟨#[98]⟩, ⟨#[]⟩)] : List PrT)))).tm), .int .u64 0, .int .i64 (mnI 2 ((RdD.mk ((RdD.mk 0 3 1 (⟨#[]⟩) (⟨#[]⟩) 5 3 5 (⟨#[]⟩) ([])).c) ((RdD.mk 0 3 1 (⟨#[]⟩) (⟨#[]⟩) 5 3 5 (⟨#[]⟩) ([])).rq) ((RdD.mk 0 3 1 (⟨#[]⟩) (⟨#[]⟩) 5 3 5 (⟨#[]⟩) ([])).nd) ((RdD.mk 0 3 1 (⟨#[]⟩) (⟨#[]⟩) 5 3 5 (⟨#[]⟩) ([])).k0) ((RdD.mk 0 3 1 (⟨#[]⟩) (⟨#[]⟩) 5 3 5 (⟨#[]⟩) ([])).to_) ((RdD.mk 0 3 1 (⟨#[]⟩) (⟨#[]⟩) 5 3 5 (⟨#[]⟩) ([])).at0) ((RdD.mk 0 3 1 (⟨#[]⟩) (⟨#[]⟩) 5 3 5 (⟨#[]⟩) ([])).n) ((RdD.mk 0 3 1 (⟨#[]⟩) (⟨#[]⟩) 5 3 5 (⟨#[]⟩) ([])).tm) (nxK (lastK (RdD.mk 0 3 1 (⟨#[]⟩) (⟨#[]⟩) 5 3 5 (⟨#[]⟩) ([])) ([(⟨#[97]⟩, ⟨#[]⟩), (⟨#[98]⟩, ⟨#[]⟩)] : List PrT))) ((RdD.mk 0 3 1 (⟨#[]⟩) (⟨#[]⟩) 5 3 5 (⟨#[]⟩) ([])).prs ++ ([(⟨#[97]⟩, ⟨#[]⟩), (⟨#[98]⟩, ⟨#[]⟩)] : List PrT).take (pgN (RdD.mk 0 3 1 (⟨#[]⟩) (⟨#[]⟩) 5 3 5 (⟨#[]⟩) ([])) ([(⟨#[97]⟩, ⟨#[]⟩), (⟨#[98]⟩, ⟨#[]⟩)] : List PrT)))).n - ((RdD.mk ((RdD.mk 0 3 1 (⟨#[]⟩) (⟨#[]⟩) 5 3 5 (⟨#[]⟩) ([])).c) ((RdD.mk 0 3 1 (⟨#[]⟩) (⟨#[]⟩) 5 3 5 (⟨#[]⟩) ([])).rq) ((RdD.mk 0 3 1 (⟨#[]⟩) (⟨#[]⟩) 5 3 5 (⟨#[]⟩) ([])).nd) ((RdD.mk 0 3 1 (⟨#[]⟩) (⟨#[]⟩) 5 3 5 (⟨#[]⟩) ([])).k0) ((RdD.mk 0 3 1 (⟨#[]⟩) (⟨#[]⟩) 5 3 5 (⟨#[]⟩) ([])).to_) ((RdD.mk 0 3 1 (⟨#[]⟩) (⟨#[]⟩) 5 3 5 (⟨#[]⟩) ([])).at0) ((RdD.mk 0 3 1 (⟨#[]⟩) (⟨#[]⟩) 5 3 5 (⟨#[]⟩) ([])).n) ((RdD.mk 0 3 1 (⟨#[]⟩) (⟨#[]⟩) 5 3 5 (⟨#[]⟩) ([])).tm) (nxK (lastK (RdD.mk 0 3 1 (⟨#[]⟩) (⟨#[]⟩) 5 3 5 (⟨#[]⟩) ([])) ([(⟨#[97]⟩, ⟨#[]⟩), (⟨#[98]⟩, ⟨#[]⟩)] : List PrT))) ((RdD.mk 0 3 1 (⟨#[]⟩) (⟨#[]⟩) 5 3 5 (⟨#[]⟩) ([])).prs ++ ([(⟨#[97]⟩, ⟨#[]⟩), (⟨#[98]⟩, ⟨#[]⟩)] : List PrT).take (pgN (RdD.mk 0 3 1 (⟨#[]⟩) (⟨#[]⟩) 5 3 5 (⟨#[]⟩) ([])) ([(⟨#[97]⟩, ⟨#[]⟩), (⟨#[98]⟩, ⟨#[]⟩)] : List PrT)))).prs.length : Int))), .int .i64 0, .int .i64 0, .int .i64 0, .string ((RdD.mk ((RdD.mk 0 3 1 (⟨#[]⟩) (⟨#[]⟩) 5 3 5 (⟨#[]⟩) ([])).c) ((RdD.mk 0 3 1 (⟨#[]⟩) (⟨#[]⟩) 5 3 5 (⟨#[]⟩) ([])).rq) ((RdD.mk 0 3 1 (⟨#[]⟩) (⟨#[]⟩) 5 3 5 (⟨#[]⟩) ([])).nd) ((RdD.mk 0 3 1 (⟨#[]⟩) (⟨#[]⟩) 5 3 5 (⟨#[]⟩) ([])).k0) ((RdD.mk 0 3 1 (⟨#[]⟩) (⟨#[]⟩) 5 3 5 (⟨#[]⟩) ([])).to_) ((RdD.mk 0 3 1 (⟨#[]⟩) (⟨#[]⟩) 5 3 5 (⟨#[]⟩) ([])).at0) ((RdD.mk 0 3 1 (⟨#[]⟩) (⟨#[]⟩) 5 3 5 (⟨#[]⟩) ([])).n) ((RdD.mk 0 3 1 (⟨#[]⟩) (⟨#[]⟩) 5 3 5 (⟨#[]⟩) ([])).tm) (nxK (lastK (RdD.mk 0 3 1 (⟨#[]⟩) (⟨#[]⟩) 5 3 5 (⟨#[]⟩) ([])) ([(⟨#[97]⟩, ⟨#[]⟩), (⟨#[98]⟩, ⟨#[]⟩)] : List PrT))) ((RdD.mk 0 3 1 (⟨#[]⟩) (⟨#[]⟩) 5 3 5 (⟨#[]⟩) ([])).prs ++ ([(⟨#[97]⟩, ⟨#[]⟩), (⟨#[98]⟩, ⟨#[]⟩)] : List PrT).take (pgN (RdD.mk 0 3 1 (⟨#[]⟩) (⟨#[]⟩) 5 3 5 (⟨#[]⟩) ([])) ([(⟨#[97]⟩, ⟨#[]⟩), (⟨#[98]⟩, ⟨#[]⟩)] : List PrT)))).key), .string ((RdD.mk ((RdD.mk 0 3 1 (⟨#[]⟩) (⟨#[]⟩) 5 3 5 (⟨#[]⟩) ([])).c) ((RdD.mk 0 3 1 (⟨#[]⟩) (⟨#[]⟩) 5 3 5 (⟨#[]⟩) ([])).rq) ((RdD.mk 0 3 1 (⟨#[]⟩) (⟨#[]⟩) 5 3 5 (⟨#[]⟩) ([])).nd) ((RdD.mk 0 3 1 (⟨#[]⟩) (⟨#[]⟩) 5 3 5 (⟨#[]⟩) ([])).k0) ((RdD.mk 0 3 1 (⟨#[]⟩) (⟨#[]⟩) 5 3 5 (⟨#[]⟩) ([])).to_) ((RdD.mk 0 3 1 (⟨#[]⟩) (⟨#[]⟩) 5 3 5 (⟨#[]⟩) ([])).at0) ((RdD.mk 0 3 1 (⟨#[]⟩) (⟨#[]⟩) 5 3 5 (⟨#[]⟩) ([])).n) ((RdD.mk 0 3 1 (⟨#[]⟩) (⟨#[]⟩) 5 3 5 (⟨#[]⟩) ([])).tm) (nxK (lastK (RdD.mk 0 3 1 (⟨#[]⟩) (⟨#[]⟩) 5 3 5 (⟨#[]⟩) ([])) ([(⟨#[97]⟩, ⟨#[]⟩), (⟨#[98]⟩, ⟨#[]⟩)] : List PrT))) ((RdD.mk 0 3 1 (⟨#[]⟩) (⟨#[]⟩) 5 3 5 (⟨#[]⟩) ([])).prs ++ ([(⟨#[97]⟩, ⟨#[]⟩), (⟨#[98]⟩, ⟨#[]⟩)] : List PrT).take (pgN (RdD.mk 0 3 1 (⟨#[]⟩) (⟨#[]⟩) 5 3 5 (⟨#[]⟩) ([])) ([(⟨#[97]⟩, ⟨#[]⟩), (⟨#[98]⟩, ⟨#[]⟩)] : List PrT)))).to_), .int .i64 0, .slice none 0 0, .int .u64 0, .int .i64 0, .int .i64 0, .slice none 0 0, .slice none 0 0, .slice none 0 0, .slice none 0 0]] ∧ Below w60.heap.size w60 xw) rfl rfl rfl (by kernel_rfl) (by kernel_rfl) (Try.call13 _ _) (aTNext_any tk5 nb70 (RdD.mk ((RdD.mk 0 3 1 (⟨#[]⟩) (⟨#[]⟩) 5 3 5 (⟨#[]⟩) ([])).c) ((RdD.mk 0 3 1 (⟨#[]⟩) (⟨#[]⟩) 5 3 5 (⟨#[]⟩) ([])).rq) ((RdD.mk 0 3 1 (⟨#[]⟩) (⟨#[]⟩) 5 3 5 (⟨#[]⟩) ([])).nd) ((RdD.mk 0 3 1 (⟨#[]⟩) (⟨#[]⟩) 5 3 5 (⟨#[]⟩) ([])).k0) ((RdD.mk 0 3 1 (⟨#[]⟩) (⟨#[]⟩) 5 3 5 (⟨#[]⟩) ([])).to_) ((RdD.mk 0 3 1 (⟨#[]⟩) (⟨#[]⟩) 5 3 5 (⟨#[]⟩) ([])).at0) ((RdD.mk 0 3 1 (⟨#[]⟩) (⟨#[]⟩) 5 3 5 (⟨#[]⟩) ([])).n) ((RdD.mk 0 3 1 (⟨#[]⟩) (⟨#[]⟩) 5 3 5 (⟨#[]⟩) ([])).tm) (nxK (lastK (RdD.mk 0 3 1 (⟨#[]⟩) (⟨#[]⟩) 5 3 5 (⟨#[]⟩) ([])) ([(⟨#[97]⟩, ⟨#[]⟩), (⟨#[98]⟩, ⟨#[]⟩)] : List PrT))) ((RdD.mk 0 3 1 (⟨#[]⟩) (⟨#[]⟩) 5 3 5 (⟨#[]⟩) ([])).prs ++ ([(⟨#[97]⟩, ⟨#[]⟩), (⟨#[98]⟩, ⟨#[]⟩)] : List PrT).take (pgN (RdD.mk 0 3 1 (⟨#[]⟩) (⟨#[]⟩) 5 3 5 (⟨#[]⟩) ([])) ([(⟨#[97]⟩, ⟨#[]⟩), (⟨#[98]⟩, ⟨#[]⟩)] : List PrT)))) u7 u71 0 0 (-1) w60 hq73 hq74 (row_sl hq72 prE_len) (by first | omega | decide | (dsimp only; omega)) (by first | omega | decide | (dsimp only; omega))) (by rintro e x ⟨rfl, hb85⟩; exact ⟨_, rfl, ⟨rfl, hb85⟩⟩)) ?_; clear h82
 rintro _ w84 a83 ⟨rfl, hb85⟩ h83
 have hz86 := hb85.size
 refine pk0 (v := .tuple #[.int .i64 ((RdD.mk ((RdD.mk 0 3 1 (⟨#[]⟩) (⟨#[]⟩) 5 3 5 (⟨#[]⟩) ([])).c) ((RdD.mk 0 3 1 (⟨#[]⟩) (⟨#[]⟩) 5 3 5 (⟨#[]⟩) ([])).rq) ((RdD.mk 0 3 1 (⟨#[]⟩) (⟨#[]⟩) 5 3 5 (⟨#[]⟩) ([])).nd) ((RdD.mk 0 3 1 (⟨#[]⟩) (⟨#[]⟩) 5 3 5 (⟨#[]⟩) ([])).k0) ((RdD.mk 0 3 1 (⟨#[]⟩) (⟨#[]⟩) 5 3 5 (⟨#[]⟩) ([])).to_) ((RdD.mk 0 3 1 (⟨#[]⟩) (⟨#[]⟩) 5 3 5 (⟨#[]⟩) ([])).at0) ((RdD.mk 0 3 1 (⟨#[]⟩) (⟨#[]⟩) 5 3 5 (⟨#[]⟩) ([])).n) ((RdD.mk 0 3 1 (⟨#[]⟩) (⟨#[]⟩) 5 3 5 (⟨#[]⟩) ([])).tm) (nxK (lastK (RdD.mk 0 3 1 (⟨#[]⟩) (⟨#[]⟩) 5 3 5 (⟨#[]⟩) ([])) ([(⟨#[97]⟩, ⟨#[]⟩), (⟨#[98]⟩, ⟨#[]⟩)] : List PrT))) ((RdD.mk 0 3 1 (⟨#[]⟩) (⟨#[]⟩) 5 3 5 (⟨#[]⟩) ([])).prs ++ ([(⟨#[97]⟩, ⟨#[]⟩), (⟨#[98]⟩, ⟨#[]⟩)] : List PrT).take (pgN (RdD.mk 0 3 1 (⟨#[]⟩) (⟨#[]⟩) 5 3 5 (⟨#[]⟩) ([])) ([(⟨#[97]⟩, ⟨#[]⟩), (⟨#[98]⟩, ⟨#[]⟩)] : List PrT)))).nd), .agg #[.int .i64 9, .int .i64 0, .int .i64 ((RdD.mk ((RdD.mk 0 3 1 (⟨#[]⟩) (⟨#[]⟩) 5 3 5 (⟨#[]⟩) ([])).c) ((RdD.mk 0 3 1 (⟨#[]⟩) (⟨#[]⟩) 5 3 5 (⟨#[]⟩) ([])).rq) ((RdD.mk 0 3 1 (⟨#[]⟩) (⟨#[]⟩) 5 3 5 (⟨#[]⟩) ([])).nd) ((RdD.mk 0 3 1 (⟨#[]⟩) (⟨#[]⟩) 5 3 5 (⟨#[]⟩) ([])).k0) ((RdD.mk 0 3 1 (⟨#[]⟩) (⟨#[]⟩) 5 3 5 (⟨#[]⟩) ([])).to_) ((RdD.mk 0 3 1 (⟨#[]⟩) (⟨#[]⟩) 5 3 5 (⟨#[]⟩) ([])).at0) ((RdD.mk 0 3 1 (⟨#[]⟩) (⟨#[]⟩) 5 3 5 (⟨#[]⟩) ([])).n) ((RdD.mk 0 3 1 (⟨#[]⟩) (⟨#[]⟩) 5 3 5 (⟨#[]⟩) ([])).tm) (nxK (lastK (RdD.mk 0 3 1 (⟨#[]⟩) (⟨#[]⟩) 5 3 5 (⟨#[]⟩) ([])) ([(⟨#[97]⟩, ⟨#[]⟩), (⟨#[98]⟩, ⟨#[]⟩)] : List PrT))) ((RdD.mk 0 3 1 (⟨#[]⟩) (⟨#[]⟩) 5 3 5 (⟨#[]⟩) ([])).prs ++ ([(⟨#[97]⟩, ⟨#[]⟩), (⟨#[98]⟩, ⟨#[]⟩)] : List PrT).take (pgN (RdD.mk 0 3 1 (⟨#[]⟩) (⟨#[]⟩) 5 3 5 (⟨#[]⟩) ([])) ([(⟨#[97]⟩, ⟨#[]⟩), (⟨#[98]⟩, ⟨#[]⟩)] : List PrT)))).rq), .int .i64 0, .bool false, .int .u64 ((RdD.mk ((RdD.mk 0 3 1 (⟨#[]⟩) (⟨#[]⟩) 5 3 5 (⟨#[]⟩) ([])).c) ((RdD.mk 0 3 1 (⟨#[]⟩) (⟨#[]⟩) 5 3 5 (⟨#[]⟩) ([])).rq) ((RdD.mk 0 3 1 (⟨#[]⟩) (⟨#[]⟩) 5 3 5 (⟨#[]⟩) ([])).nd) ((RdD.mk 0 3 1 (⟨#[]⟩) (⟨#[]⟩) 5 3 5 (⟨#[]⟩) ([])).k0) ((RdD.mk 0 3 1 (⟨#[]⟩) (⟨#[]⟩) 5 3 5 (⟨#[]⟩) ([])).to_) ((RdD.mk 0 3 1 (⟨#[]⟩) (⟨#[]⟩) 5 3 5 (⟨#[]⟩) ([])).at0) ((RdD.mk 0 3 1 (⟨#[]⟩) (⟨#[]⟩) 5 3 5 (⟨#[]⟩) ([])).n) ((RdD.mk 0 3 1 (⟨#[]⟩) (⟨#[]⟩) 5 3 5 (⟨#[]⟩) ([])).tm) (nxK (lastK (RdD.mk 0 3 1 (⟨#[]⟩) (⟨#[]⟩) 5 3 5 (⟨#[]⟩) ([])) ([(⟨#[97]⟩, ⟨#[]⟩), (⟨#[98]⟩, ⟨#[]⟩)] : List PrT))) ((RdD.mk 0 3 1 (⟨#[]⟩) (⟨#[]⟩) 5 3 5 (⟨#[]⟩) ([])).prs ++ ([(⟨#[97]⟩, ⟨#[]⟩), (⟨#[98]⟩, ⟨#[]⟩)] : List PrT).take (pgN (RdD.mk 0 3 1 (⟨#[]⟩) (⟨#[]⟩) 5 3 5 (⟨#[]⟩) ([])) ([(⟨#[97]⟩, ⟨#[]⟩), (⟨#[98]⟩, ⟨#[]⟩)] : List PrT)))).tm), .int .u64 0, .int .i64 (mnI 2 ((RdD.mk ((RdD.mk 0 3 1 (⟨#[]⟩) (⟨#[]⟩) 5 3 5 (⟨#[]⟩) ([])).c) ((RdD.mk 0 3 1 (⟨#[]⟩) (⟨#[]⟩) 5 3 5 (⟨#[]⟩) ([])).rq) ((RdD.mk 0 3 1 (⟨#[]⟩) (⟨#[]⟩) 5 3 5 (⟨#[]⟩) ([])).nd) ((RdD.mk 0 3 1 (⟨#[]⟩) (⟨#[]⟩) 5 3 5 (⟨#[]⟩) ([])).k0) ((RdD.mk 0 3 1 (⟨#[]⟩) (⟨#[]⟩) 5 3 5 (⟨#[]⟩) ([])).to_) ((RdD.mk 0 3 1 (⟨#[]⟩) (⟨#[]⟩) 5 3 5 (⟨#[]⟩) ([])).at0) ((RdD.mk 0 3 1 (⟨#[]⟩) (⟨#[]⟩) 5 3 5 (⟨#[]⟩) ([])).n) ((RdD.mk 0 3 1 (⟨#[]⟩) (⟨#[]⟩) 5 3 5 (⟨#[]⟩) ([])).tm) (nxK (lastK (RdD.mk 0 3 1 (⟨#[]⟩) (⟨#[]⟩) 5 3 5 (⟨#[]⟩) ([])) ([(⟨#[97]⟩, ⟨#[]⟩), (⟨#[98]⟩, ⟨#[]⟩)] : List PrT))) ((RdD.mk 0 3 1 (⟨#[]⟩) (⟨#[]⟩) 5 3 5 (⟨#[]⟩) ([])).prs ++ ([(⟨#[97]⟩, ⟨#[]⟩), (⟨#[98]⟩, ⟨#[]⟩)] : List PrT).take (pgN (RdD.mk 0 3 1 (⟨#[]⟩) (⟨#[]⟩) 5 3 5 (⟨#[]⟩) ([])) ([(⟨#[97]⟩, ⟨#[]⟩), (⟨#[98]⟩, ⟨#[]⟩)] : List PrT)))).n - ((RdD.mk ((RdD.mk 0 3 1 (⟨#[]⟩) (⟨#[]⟩) 5 3 5 (⟨#[]⟩) ([])).c) ((RdD.mk 0 3 1 (⟨#[]⟩) (⟨#[]⟩) 5 3 5 (⟨#[]⟩) ([])).rq) ((RdD.mk 0 3 1 (⟨#[]⟩) (⟨#[]⟩) 5 3 5 (⟨#[]⟩) ([])).nd) ((RdD.mk 0 3 1 (⟨#[]⟩) (⟨#[]⟩) 5 3 5 (⟨#[]⟩) ([])).k0) ((RdD.mk 0 3 1 (⟨#[]⟩) (⟨#[]⟩) 5 3 5 (⟨#[]⟩) ([])).to_) ((RdD.mk 0 3 1 (⟨#[]⟩) (⟨#[]⟩) 5 3 5 (⟨#[]⟩) ([])).at0) ((RdD.mk 0 3 1 (⟨#[]⟩) (⟨#[]⟩) 5 3 5 (⟨#[]⟩) ([])).n) ((RdD.mk 0 3 1 (⟨#[]⟩) (⟨#[]⟩) 5 3 5 (⟨#[]⟩) ([])).tm) (nxK (lastK (RdD.mk 0 3 1 (⟨#[]⟩) (⟨#[]⟩) 5 3 5 (⟨#[]⟩) ([])) ([(⟨#[97]⟩, ⟨#[]⟩), (⟨#[98]⟩, ⟨#[]⟩)] : List PrT))) ((RdD.mk 0 3 1 (⟨#[]⟩) (⟨#[]⟩) 5 3 5 (⟨#[]⟩) ([])).prs ++ ([(⟨#[97]⟩, ⟨#[]⟩), (⟨#[98]⟩, ⟨#[]⟩)] : List PrT).take (pgN (RdD.mk 0 3 1 (⟨#[]⟩) (⟨#[]⟩) 5 3 5 (⟨#[]⟩) ([])) ([(⟨#[97]⟩, ⟨#[]⟩), (⟨#[98]⟩, ⟨#[]⟩)] : List PrT)))).prs.length : Int))), .int .i64 0, .int .i64 0, .int .i64 0, .string ((RdD.mk ((RdD.mk 0 3 1 (⟨#[]⟩) (⟨#[]⟩) 5 3 5 (⟨#[]⟩) ([])).c) ((RdD.mk 0 3 1 (⟨#[]⟩) (⟨#[]⟩) 5 3 5 (⟨#[]⟩) ([])).rq) ((RdD.mk 0 3 1 (⟨#[]⟩) (⟨#[]⟩) 5 3 5 (⟨#[]⟩) ([])).nd) ((RdD.mk 0 3 1 (⟨#[]⟩) (⟨#[]⟩) 5 3 5 (⟨#[]⟩) ([])).k0) ((RdD.mk 0 3 1 (⟨#[]⟩) (⟨#[]⟩) 5 3 5 (⟨#[]⟩) ([])).to_) ((RdD.mk 0 3 1 (⟨#[]⟩) (⟨#[]⟩) 5 3 5 (⟨#[]⟩) ([])).at0) ((RdD.mk 0 3 1 (⟨#[]⟩) (⟨#[]⟩) 5 3 5 (⟨#[]⟩) ([])).n) ((RdD.mk 0 3 1 (⟨#[]⟩) (⟨#[]⟩) 5 3 5 (⟨#[]⟩) ([])).tm) (nxK (lastK (RdD.mk 0 3 1 (⟨#[]⟩) (⟨#[]⟩) 5 3 5 (⟨#[]⟩) ([])) ([(⟨#[97]⟩, ⟨#[]⟩), (⟨#[98]⟩, ⟨#[]⟩)] : List PrT))) ((RdD.mk 0 3 1 (⟨#[]⟩) (⟨#[]⟩) 5 3 5 (⟨#[]⟩) ([])).prs ++ ([(⟨#[97]⟩, ⟨#[]⟩), (⟨#[98]⟩, ⟨#[]⟩)] : List PrT).take (pgN (RdD.mk 0 3 1 (⟨#[]⟩) (⟨#[]⟩) 5 3 5 (⟨#[]⟩) ([])) ([(⟨#[97]⟩, ⟨#[]⟩), (⟨#[98]⟩, ⟨#[]⟩)] : List PrT)))).key), .string ((RdD.mk ((RdD.mk 0 3 1 (⟨#[]⟩) (⟨#[]⟩) 5 3 5 (⟨#[]⟩) ([])).c) ((RdD.mk 0 3 1 (⟨#[]⟩) (⟨#[]⟩) 5 3 5 (⟨#[]⟩) ([])).rq) ((RdD.mk 0 3 1 (⟨#[]⟩) (⟨#[]⟩) 5 3 5 (⟨#[]⟩) ([])).nd) ((RdD.mk 0 3 1 (⟨#[]⟩) (⟨#[]⟩) 5 3 5 (⟨#[]⟩) ([])).k0) ((RdD.mk 0 3 1 (⟨#[]⟩) (⟨#[]⟩) 5 3 5 (⟨#[]⟩) ([])).to_) ((RdD.mk 0 3 1 (⟨#[]⟩) (⟨#[]⟩) 5 3 5 (⟨#[]⟩) ([])).at0) ((RdD.mk 0 3 1 (⟨#[]⟩) (⟨#[]⟩) 5 3 5 (⟨#[]⟩) ([])).n) ((RdD.mk 0 3 1 (⟨#[]⟩) (⟨#[]⟩) 5 3 5 (⟨#[]⟩) ([])).tm) (nxK (lastK (RdD.mk 0 3 1 (⟨#[]⟩) (⟨#[]⟩) 5 3 5 (⟨#[]⟩) ([])) ([(⟨#[97]⟩, ⟨#[]⟩), (⟨#[98]⟩, ⟨#[]⟩)] : List PrT))) ((RdD.mk 0 3 1 (⟨#[]⟩) (⟨#[]⟩) 5 3 5 (⟨#[]⟩) ([])).prs ++ ([(⟨#[97]⟩, ⟨#[]⟩), (⟨#[98]⟩, ⟨#[]⟩)] : List PrT).take (pgN (RdD.mk 0 3 1 (⟨#[]⟩) (⟨#[]⟩) 5 3 5 (⟨#[]⟩) ([])) ([(⟨#[97]⟩, ⟨#[]⟩), (⟨#[98]⟩, ⟨#[]⟩)] : List PrT)))).to_), .int .i64 0, .slice none 0 0, .int .u64 0, .int .i64 0, .int .i64 0, .slice none 0 0, .slice none 0 0, .slice none 0 0, .slice none 0 0]]) h83 rfl fun a87 h87 => ?_; clear h83
 refine pk0 (v := .int .i64 ((RdD.mk ((RdD.mk 0 3 1 (⟨#[]⟩) (⟨#[]⟩) 5 3 5 (⟨#[]⟩) ([])).c) ((RdD.mk 0 3 1 (⟨#[]⟩) (⟨#[]⟩) 5 3 5 (⟨#[]⟩) ([])).rq) ((RdD.mk 0 3 1 (⟨#[]⟩) (⟨#[]⟩) 5 3 5 (⟨#[]⟩) ([])).nd) ((RdD.mk 0 3 1 (⟨#[]⟩) (⟨#[]⟩) 5 3 5 (⟨#[]⟩) ([])).k0) ((RdD.mk 0 3 1 (⟨#[]⟩) (⟨#[]⟩) 5 3 5 (⟨#[]⟩) ([])).to_) ((RdD.mk 0 3 1 (⟨#[]⟩) (⟨#[]⟩) 5 3 5 (⟨#[]⟩) ([])).at0) ((RdD.mk 0 3 1 (⟨#[]⟩) (⟨#[]⟩) 5 3 5 (⟨#[]⟩) ([])).n) ((RdD.mk 0 3 1 (⟨#[]⟩) (⟨#[]⟩) 5 3 5 (⟨#[]⟩) ([])).tm) (nxK (lastK (RdD.mk 0 3 1 (⟨#[]⟩) (⟨#[]⟩) 5 3 5 (⟨#[]⟩) ([])) ([(⟨#[97]⟩, ⟨#[]⟩), (⟨#[98]⟩, ⟨#[]⟩)] : List PrT))) ((RdD.mk 0 3 1 (⟨#[]⟩) (⟨#[]⟩) 5 3 5 (⟨#[]⟩) ([])).prs ++ ([(⟨#[97]⟩, ⟨#[]⟩), (⟨#[98]⟩, ⟨#[]⟩)] : List PrT).take (pgN (RdD.mk 0 3 1 (⟨#[]⟩) (⟨#[]⟩) 5 3 5 (⟨#[]⟩) ([])) ([(⟨#[97]⟩, ⟨#[]⟩), (⟨#[98]⟩, ⟨#[]⟩)] : List PrT)))).nd)) h87 rfl fun a88 h88 => ?_; clear h87
 refine pk0 (v := .agg #[.int .i64 9, .int .i64 0, .int .i64 ((RdD.mk ((RdD.mk 0 3 1 (⟨#[]⟩) (⟨#[]⟩) 5 3 5 (⟨#[]⟩) ([])).c) ((RdD.mk 0 3 1 (⟨#[]⟩) (⟨#[]⟩) 5 3 5 (⟨#[]⟩) ([])).rq) ((RdD.mk 0 3 1 (⟨#[]⟩) (⟨#[]⟩) 5 3 5 (⟨#[]⟩) ([])).nd) ((RdD.mk 0 3 1 (⟨#[]⟩) (⟨#[]⟩) 5 3 5 (⟨#[]⟩) ([])).k0) ((RdD.mk 0 3 1 (⟨#[]⟩) (⟨#[]⟩) 5 3 5 (⟨#[]⟩) ([])).to_) ((RdD.mk 0 3 1 (⟨#[]⟩) (⟨#[]⟩) 5 3 5 (⟨#[]⟩) ([])).at0) ((RdD.mk 0 3 1 (⟨#[]⟩) (⟨#[]⟩) 5 3 5 (⟨#[]⟩) ([])).n) ((RdD.mk 0 3 1 (⟨#[]⟩) (⟨#[]⟩) 5 3 5 (⟨#[]⟩) ([])).tm) (nxK (lastK (RdD.mk 0 3 1 (⟨#[]⟩) (⟨#[]⟩) 5 3 5 (⟨#[]⟩) ([])) ([(⟨#[97]⟩, ⟨#[]⟩), (⟨#[98]⟩, ⟨#[]⟩)] : List PrT))) ((RdD.mk 0 3 1 (⟨#[]⟩) (⟨#[]⟩) 5 3 5 (⟨#[]⟩) ([])).prs ++ ([(⟨#[97]⟩, ⟨#[]⟩), (⟨#[98]⟩, ⟨#[]⟩)] : List PrT).take (pgN (RdD.mk 0 3 1 (⟨#[]⟩) (⟨#[]⟩) 5 3 5 (⟨#[]⟩) ([])) ([(⟨#[97]⟩, ⟨#[]⟩), (⟨#[98]⟩, ⟨#[]⟩)] : List PrT)))).rq), .int .i64 0, .bool false, .int .u64 ((RdD.mk ((RdD.mk 0 3 1 (⟨#[]⟩) (⟨#[]⟩) 5 3 5 (⟨#[]⟩) ([])).c) ((RdD.mk 0 3 1 (⟨#[]⟩) (⟨#[]⟩) 5 3 5 (⟨#[]⟩) ([])).rq) ((RdD.mk 0 3 1 (⟨#[]⟩) (⟨#[]⟩) 5 3 5 (⟨#[]⟩) ([])).nd) ((RdD.mk 0 3 1 (⟨#[]⟩) (⟨#[]⟩) 5 3 5 (⟨#[]⟩) ([])).k0) ((RdD.mk 0 3 1 (⟨#[]⟩) (⟨#[]⟩) 5 3 5 (⟨#[]⟩) ([])).to_) ((RdD.mk 0 3 1 (⟨#[]⟩) (⟨#[]⟩) 5 3 5 (⟨#[]⟩) ([])).at0) ((RdD.mk 0 3 1 (⟨#[]⟩) (⟨#[]⟩) 5 3 5 (⟨#[]⟩) ([])).n) ((RdD.mk 0 3 1 (⟨#[]⟩) (⟨#[]⟩) 5 3 5 (⟨#[]⟩) ([])).tm) (nxK (lastK (RdD.mk 0 3 1 (⟨#[]⟩) (⟨#[]⟩) 5 3 5 (⟨#[]⟩) ([])) ([(⟨#[97]⟩, ⟨#[]⟩), (⟨#[98]⟩, ⟨#[]⟩)] : List PrT))) ((RdD.mk 0 3 1 (⟨#[]⟩) (⟨#[]⟩) 5 3 5 (⟨#[]⟩) ([])).prs ++ ([(⟨#[97]⟩, ⟨#[]⟩), (⟨#[98]⟩, ⟨#[]⟩)] : List PrT).take (pgN (RdD.mk 0 3 1 (⟨#[]⟩) (⟨#[]⟩) 5 3 5 (⟨#[]⟩) ([])) ([(⟨#[97]⟩, ⟨#[]⟩), (⟨#[98]⟩, ⟨#[]⟩)] : List PrT)))).tm), .int .u64 0, .int .i64 (mnI 2 ((RdD.mk ((RdD.mk 0 3 1 (⟨#[]⟩) (⟨#[]⟩) 5 3 5 (⟨#[]⟩) ([])).c) ((RdD.mk 0 3 1 (⟨#[]⟩) (⟨#[]⟩) 5 3 5 (⟨#[]⟩) ([])).rq) ((RdD.mk 0 3 1 (⟨#[]⟩) (⟨#[]⟩) 5 3 5 (⟨#[]⟩) ([])).nd) ((RdD.mk 0 3 1 (⟨#[]⟩) (⟨#[]⟩) 5 3 5 (⟨#[]⟩) ([])).k0) ((RdD.mk 0 3 1 (⟨#[]⟩) (⟨#[]⟩) 5 3 5 (⟨#[]⟩) ([])).to_) ((RdD.mk 0 3 1 (⟨#[]⟩) (⟨#[]⟩) 5 3 5 (⟨#[]⟩) ([])).at0) ((RdD.mk 0 3 1 (⟨#[]⟩) (⟨#[]⟩) 5 3 5 (⟨#[]⟩) ([])).n) ((RdD.mk 0 3 1 (⟨#[]⟩) (⟨#[]⟩) 5 3 5 (⟨#[]⟩) ([])).tm) (nxK (lastK (RdD.mk 0 3 1 (⟨#[]⟩) (⟨#[]⟩) 5 3 5 (⟨#[]⟩) ([])) ([(⟨#[97]⟩, ⟨#[]⟩), (⟨#[98]⟩, ⟨#[]⟩)] : List PrT))) ((RdD.mk 0 3 1 (⟨#[]⟩) (⟨#[]⟩) 5 3 5 (⟨#[]⟩) ([])).prs ++ ([(⟨#[97]⟩, ⟨#[]⟩), (⟨#[98]⟩, ⟨#[]⟩)] : List PrT).take (pgN (RdD.mk 0 3 1 (⟨#[]⟩) (⟨#[]⟩) 5 3 5 (⟨#[]⟩) ([])) ([(⟨#[97]⟩, ⟨#[]⟩), (⟨#[98]⟩, ⟨#[]⟩)] : List PrT)))).n - ((RdD.mk ((RdD.mk 0 3 1 (⟨#[]⟩) (⟨#[]⟩) 5 3 5 (⟨#[]⟩) ([])).c) ((RdD.mk 0 3 1 (⟨#[]⟩) (⟨#[]⟩) 5 3 5 (⟨#[]⟩) ([])).rq) ((RdD.mk 0 3 1 (⟨#[]⟩) (⟨#[]⟩) 5 3 5 (⟨#[]⟩) ([])).nd) ((RdD.mk 0 3 1 (⟨#[]⟩) (⟨#[]⟩) 5 3 5 (⟨#[]⟩) ([])).k0) ((RdD.mk 0 3 1 (⟨#[]⟩) (⟨#[]⟩) 5 3 5 (⟨#[]⟩) ([])).to_) ((RdD.mk 0 3 1 (⟨#[]⟩) (⟨#[]⟩) 5 3 5 (⟨#[]⟩) ([])).at0) ((RdD.mk 0 3 1 (⟨#[]⟩) (⟨#[]⟩) 5 3 5 (⟨#[]⟩) ([])).n) ((RdD.mk 0 3 1 (⟨#[]⟩) (⟨#[]⟩) 5 3 5 (⟨#[]⟩) ([])).tm) (nxK (lastK (RdD.mk 0 3 1 (⟨#[]⟩) (⟨#[]⟩) 5 3 5 (⟨#[]⟩) ([])) ([(⟨#[97]⟩, ⟨#[]⟩), (⟨#[98]⟩, ⟨#[]⟩)] : List PrT))) ((RdD.mk 0 3 1 (⟨#[]⟩) (⟨#[]⟩) 5 3 5 (⟨#[]⟩) ([])).prs ++ ([(⟨#[97]⟩, ⟨#[]⟩), (⟨#[98]⟩, ⟨#[]⟩)] : List PrT).take (pgN (RdD.mk 0 3 1 (⟨#[]⟩) (⟨#[]⟩) 5 3 5 (⟨#[]⟩) ([])) ([(⟨#[97]⟩, ⟨#[]⟩), (⟨#[98]⟩, ⟨#[]⟩)] : List PrT)))).prs.length : Int))), .int .i64 0, .int .i64 0, .int .i64 0, .string ((RdD.mk ((RdD.mk 0 3 1 (⟨#[]⟩) (⟨#[]⟩) 5 3 5 (⟨#[]⟩) ([])).c) ((RdD.mk 0 3 1 (⟨#[]⟩) (⟨#[]⟩) 5 3 5 (⟨#[]⟩) ([])).rq) ((RdD.mk 0 3 1 (⟨#[]⟩) (⟨#[]⟩) 5 3 5 (⟨#[]⟩) ([])).nd) ((RdD.mk 0 3 1 (⟨#[]⟩) (⟨#[]⟩) 5 3 5 (⟨#[]⟩) ([])).k0) ((RdD.mk 0 3 1 (⟨#[]⟩) (⟨#[]⟩) 5 3 5 (⟨#[]⟩) ([])).to_) ((RdD.mk 0 3 1 (⟨#[]⟩) (⟨#[]⟩) 5 3 5 (⟨#[]⟩) ([])).at0) ((RdD.mk 0 3 1 (⟨#[]⟩) (⟨#[]⟩) 5 3 5 (⟨#[]⟩) ([])).n) ((RdD.mk 0 3 1 (⟨#[]⟩) (⟨#[]⟩) 5 3 5 (⟨#[]⟩) ([])).tm) (nxK (lastK (RdD.mk 0 3 1 (⟨#[]⟩) (⟨#[]⟩) 5 3 5 (⟨#[]⟩) ([])) ([(⟨#[97]⟩, ⟨#[]⟩), (⟨#[98]⟩, ⟨#[]⟩)] : List PrT))) ((RdD.mk 0 3 1 (⟨#[]⟩) (⟨#[]⟩) 5 3 5 (⟨#[]⟩) ([])).prs ++ ([(⟨#[97]⟩, ⟨#[]⟩), (⟨#[98]⟩, ⟨#[]⟩)] : List PrT).take (pgN (RdD.mk 0 3 1 (⟨#[]⟩) (⟨#[]⟩) 5 3 5 (⟨#[]⟩) ([])) ([(⟨#[97]⟩, ⟨#[]⟩), (⟨#[98]⟩, ⟨#[]⟩)] : List PrT)))).key), .string ((RdD.mk ((RdD.mk 0 3 1 (⟨#[]⟩) (⟨#[]⟩) 5 3 5 (⟨#[]⟩) ([])).c) ((RdD.mk 0 3 1 (⟨#[]⟩) (⟨#[]⟩) 5 3 5 (⟨#[]⟩) ([])).rq) ((RdD.mk 0 3 1 (⟨#[]⟩) (⟨#[]⟩) 5 3 5 (⟨#[]⟩) ([])).nd) ((RdD.mk 0 3 1 (⟨#[]⟩) (⟨#[]⟩) 5 3 5 (⟨#[]⟩) ([])).k0) ((RdD.mk 0 3 1 (⟨#[]⟩) (⟨#[]⟩) 5 3 5 (⟨#[]⟩) ([])).to_) ((RdD.mk 0 3 1 (⟨#[]⟩) (⟨#[]⟩) 5 3 5 (⟨#[]⟩) ([])).at0) ((RdD.mk 0 3 1 (⟨#[]⟩) (⟨#[]⟩) 5 3 5 (⟨#[]⟩) ([])).n) ((RdD.mk 0 3 1 (⟨#[]⟩) (⟨#[]⟩) 5 3 5 (⟨#[]⟩) ([])).tm) (nxK (lastK (RdD.mk 0 3 1 (⟨#[]⟩) (⟨#[]⟩) 5 3 5 (⟨#[]⟩) ([])) ([(⟨#[97]⟩, ⟨#[]⟩), (⟨#[98]⟩, ⟨#[]⟩)] : List PrT))) ((RdD.mk 0 3 1 (⟨#[]⟩) (⟨#[]⟩) 5 3 5 (⟨#[]⟩) ([])).prs ++ ([(⟨#[97]⟩, ⟨#[]⟩), (⟨#[98]⟩, ⟨#[]⟩)] : List PrT).take (pgN (RdD.mk 0 3 1 (⟨#[]⟩) (⟨#[]⟩) 5 3 5 (⟨#[]⟩) ([])) ([(⟨#[97]⟩, ⟨#[]⟩), (⟨#[98]⟩, ⟨#[]⟩)] : List PrT)))).to_), .int .i64 0, .slice none 0 0, .int .u64 0, .int .i64 0, .int .i64 0, .slice none 0 0, .slice none 0 0, .slice none 0 0, .slice none 0 0]) h88 rfl fun a89 h89 => ?_; clear h88
 refine pw h89 rfl (op_new (v := fun N => pt N 0) (T := 46) (cs := #[.int .i64 0, .int .i64 0, .int .i64 0, .int .i64 0, .bool false, .int .u64 0, .int .u64 0, .int .i64 0, .int .i64 0, .int .i64 0, .int .i64 0, .string (⟨#[]⟩), .string (⟨#[]⟩), .int .i64 0, .slice none 0 0, .int .u64 0, .int .i64 0, .int .i64 0, .slice none 0 0, .slice none 0 0, .slice none 0 0, .slice none 0 0]) (by kernel_rfl) (by kernel_rfl) (by kernel_rfl)) ?_; clear h89
 rintro _ w91 a90 ⟨N92, rfl, hN95, hz96, hk94, hg93⟩ h90
 have hr98 := own_but hr61 hb76 (fun i hi hS => by (try simp at hS); subst hS; exact absurd hi (row_ne_lt hr61 (by omega)))
 have hr99 := row_kept_new hr98 (below_grown hb85)
 have ha97 := row_fresh hr99 hN95
 have hr101 := row_kept_new hq72 (below_grown hb85)
 have ha100 := row_fresh hr101 hN95
 have hz102 := hg93.size
 try dsimp only at h90
 refine pk0 (v := .int .i64 ((RdD.mk ((RdD.mk 0 3 1 (⟨#[]⟩) (⟨#[]⟩) 5 3 5 (⟨#[]⟩) ([])).c) ((RdD.mk 0 3 1 (⟨#[]⟩) (⟨#[]⟩) 5 3 5 (⟨#[]⟩) ([])).rq) ((RdD.mk 0 3 1 (⟨#[]⟩) (⟨#[]⟩) 5 3 5 (⟨#[]⟩) ([])).nd) ((RdD.mk 0 3 1 (⟨#[]⟩) (⟨#[]⟩) 5 3 5 (⟨#[]⟩) ([])).k0) ((RdD.mk 0 3 1 (⟨#[]⟩) (⟨#[]⟩) 5 3 5 (⟨#[]⟩) ([])).to_) ((RdD.mk 0 3 1 (⟨#[]⟩) (⟨#[]⟩) 5 3 5 (⟨#[]⟩) ([])).at0) ((RdD.mk 0 3 1 (⟨#[]⟩) (⟨#[]⟩) 5 3 5 (⟨#[]⟩) ([])).n) ((RdD.mk 0 3 1 (⟨#[]⟩) (⟨#[]⟩) 5 3 5 (⟨#[]⟩) ([])).tm) (nxK (lastK (RdD.mk 0 3 1 (⟨#[]⟩) (⟨#[]⟩) 5 3 5 (⟨#[]⟩) ([])) ([(⟨#[97]⟩, ⟨#[]⟩), (⟨#[98]⟩, ⟨#[]⟩)] : List PrT))) ((RdD.mk 0 3 1 (⟨#[]⟩) (⟨#[]⟩) 5 3 5 (⟨#[]⟩) ([])).prs ++ ([(⟨#[97]⟩, ⟨#[]⟩), (⟨#[98]⟩, ⟨#[]⟩)] : List PrT).take (pgN (RdD.mk 0 3 1 (⟨#[]⟩) (⟨#[]⟩) 5 3 5 (⟨#[]⟩) ([])) ([(⟨#[97]⟩, ⟨#[]⟩), (⟨#[98]⟩, ⟨#[]⟩)] : List PrT)))).nd)) h90 rfl fun a103 h103 => ?_; clear h90
 refine pwD h103 rfl (op_storeN rfl rfl rfl (all_cons rfl (all_cons rfl (all_cons rfl (all_cons rfl (all_cons rfl (all_cons rfl (all_cons rfl (all_cons rfl (all_cons rfl (all_cons rfl (all_cons rfl (all_cons rfl (all_cons rfl (all_cons rfl (all_cons rfl (all_cons rfl (all_cons rfl (all_cons rfl (all_cons rfl (all_cons rfl (all_cons rfl (all_cons rfl all_nil)))))))))))))))))))))) (by kernel_rfl) hk94 rfl) ?_; clear h103
 rintro _ w105 a104 ⟨hk106, hz107, hg108⟩ h104
 have hk106' : Blk w105 N92 46 #[.int .i64 9, .int .i64 0, .int .i64 ((RdD.mk ((RdD.mk 0 3 1 (⟨#[]⟩) (⟨#[]⟩) 5 3 5 (⟨#[]⟩) ([])).c) ((RdD.mk 0 3 1 (⟨#[]⟩) (⟨#[]⟩) 5 3 5 (⟨#[]⟩) ([])).rq) ((RdD.mk 0 3 1 (⟨#[]⟩) (⟨#[]⟩) 5 3 5 (⟨#[]⟩) ([])).nd) ((RdD.mk 0 3 1 (⟨#[]⟩) (⟨#[]⟩) 5 3 5 (⟨#[]⟩) ([])).k0) ((RdD.mk 0 3 1 (⟨#[]⟩) (⟨#[]⟩) 5 3 5 (⟨#[]⟩) ([])).to_) ((RdD.mk 0 3 1 (⟨#[]⟩) (⟨#[]⟩) 5 3 5 (⟨#[]⟩) ([])).at0) ((RdD.mk 0 3 1 (⟨#[]⟩) (⟨#[]⟩) 5 3 5 (⟨#[]⟩) ([])).n) ((RdD.mk 0 3 1 (⟨#[]⟩) (⟨#[]⟩) 5 3 5 (⟨#[]⟩) ([])).tm) (nxK (lastK (RdD.mk 0 3 1 (⟨#[]⟩) (⟨#[]⟩) 5 3 5 (⟨#[]⟩) ([])) ([(⟨#[97]⟩, ⟨#[]⟩), (⟨#[98]⟩, ⟨#[]⟩)] : List PrT))) ((RdD.mk 0 3 1 (⟨#[]⟩) (⟨#[]⟩) 5 3 5 (⟨#[]⟩) ([])).prs ++ ([(⟨#[97]⟩, ⟨#[]⟩), (⟨#[98]⟩, ⟨#[]⟩)] : List PrT).take (pgN (RdD.mk 0 3 1 (⟨#[]⟩) (⟨#[]⟩) 5 3 5 (⟨#[]⟩) ([])) ([(⟨#[97]⟩, ⟨#[]⟩), (⟨#[98]⟩, ⟨#[]⟩)] : List PrT)))).rq), .int .i64 0, .bool false, .int .u64 ((RdD.mk ((RdD.mk 0 3 1 (⟨#[]⟩) (⟨#[]⟩) 5 3 5 (⟨#[]⟩) ([])).c) ((RdD.mk 0 3 1 (⟨#[]⟩) (⟨#[]⟩) 5 3 5 (⟨#[]⟩) ([])).rq) ((RdD.mk 0 3 1 (⟨#[]⟩) (⟨#[]⟩) 5 3 5 (⟨#[]⟩) ([])).nd) ((RdD.mk 0 3 1 (⟨#[]⟩) (⟨#[]⟩) 5 3 5 (⟨#[]⟩) ([])).k0) ((RdD.mk 0 3 1 (⟨#[]⟩) (⟨#[]⟩) 5 3 5 (⟨#[]⟩) ([])).to_) ((RdD.mk 0 3 1 (⟨#[]⟩) (⟨#[]⟩) 5 3 5 (⟨#[]⟩) ([])).at0) ((RdD.mk 0 3 1 (⟨#[]⟩) (⟨#[]⟩) 5 3 5 (⟨#[]⟩) ([])).n) ((RdD.mk 0 3 1 (⟨#[]⟩) (⟨#[]⟩) 5 3 5 (⟨#[]⟩) ([])).tm) (nxK (lastK (RdD.mk 0 3 1 (⟨#[]⟩) (⟨#[]⟩) 5 3 5 (⟨#[]⟩) ([])) ([(⟨#[97]⟩, ⟨#[]⟩), (⟨#[98]⟩, ⟨#[]⟩)] : List PrT))) ((RdD.mk 0 3 1 (⟨#[]⟩) (⟨#[]⟩) 5 3 5 (⟨#[]⟩) ([])).prs ++ ([(⟨#[97]⟩, ⟨#[]⟩), (⟨#[98]⟩, ⟨#[]⟩)] : List PrT).take (pgN (RdD.mk 0 3 1 (⟨#[]⟩) (⟨#[]⟩) 5 3 5 (⟨#[]⟩) ([])) ([(⟨#[97]⟩, ⟨#[]⟩), (⟨#[98]⟩, ⟨#[]⟩)] : List PrT)))).tm), .int .u64 0, .int .i64 (mnI 2 ((RdD.mk ((RdD.mk 0 3 1 (⟨#[]⟩) (⟨#[]⟩) 5 3 5 (⟨#[]⟩) ([])).c) ((RdD.mk 0 3 1 (⟨#[]⟩) (⟨#[]⟩) 5 3 5 (⟨#[]⟩) ([])).rq) ((RdD.mk 0 3 1 (⟨#[]⟩) (⟨#[]⟩) 5 3 5 (⟨#[]⟩) ([])).nd) ((RdD.mk 0 3 1 (⟨#[]⟩) (⟨#[]⟩) 5 3 5 (⟨#[]⟩) ([])).k0) ((RdD.mk 0 3 1 (⟨#[]⟩) (⟨#[]⟩) 5 3 5 (⟨#[]⟩) ([])).to_) ((RdD.mk 0 3 1 (⟨#[]⟩) (⟨#[]⟩) 5 3 5 (⟨#[]⟩) ([])).at0) ((RdD.mk 0 3 1 (⟨#[]⟩) (⟨#[]⟩) 5 3 5 (⟨#[]⟩) ([])).n) ((RdD.mk 0 3 1 (⟨#[]⟩) (⟨#[]⟩) 5 3 5 (⟨#[]⟩) ([])).tm) (nxK (lastK (RdD.mk 0 3 1 (⟨#[]⟩) (⟨#[]⟩) 5 3 5 (⟨#[]⟩) ([])) ([(⟨#[97]⟩, ⟨#[]⟩), (⟨#[98]⟩, ⟨#[]⟩)] : List PrT))) ((RdD.mk 0 3 1 (⟨#[]⟩) (⟨#[]⟩) 5 3 5 (⟨#[]⟩) ([])).prs ++ ([(⟨#[97]⟩, ⟨#[]⟩), (⟨#[98]⟩, ⟨#[]⟩)] : List PrT).take (pgN (RdD.mk 0 3 1 (⟨#[]⟩) (⟨#[]⟩) 5 3 5 (⟨#[]⟩) ([])) ([(⟨#[97]⟩, ⟨#[]⟩), (⟨#[98]⟩, ⟨#[]⟩)] : List PrT)))).n - ((RdD.mk ((RdD.mk 0 3 1 (⟨#[]⟩) (⟨#[]⟩) 5 3 5 (⟨#[]⟩) ([])).c) ((RdD.mk 0 3 1 (⟨#[]⟩) (⟨#[]⟩) 5 3 5 (⟨#[]⟩) ([])).rq) ((RdD.mk 0 3 1 (⟨#[]⟩) (⟨#[]⟩) 5 3 5 (⟨#[]⟩) ([])).nd) ((RdD.mk 0 3 1 (⟨#[]⟩) (⟨#[]⟩) 5 3 5 (⟨#[]⟩) ([])).k0) ((RdD.mk 0 3 1 (⟨#[]⟩) (⟨#[]⟩) 5 3 5 (⟨#[]⟩) ([])).to_) ((RdD.mk 0 3 1 (⟨#[]⟩) (⟨#[]⟩) 5 3 5 (⟨#[]⟩) ([])).at0) ((RdD.mk 0 3 1 (⟨#[]⟩) (⟨#[]⟩) 5 3 5 (⟨#[]⟩) ([])).n) ((RdD.mk 0 3 1 (⟨#[]⟩) (⟨#[]⟩) 5 3 5 (⟨#[]⟩) ([])).tm) (nxK (lastK (RdD.mk 0 3 1 (⟨#[]⟩) (⟨#[]⟩) 5 3 5 (⟨#[]⟩) ([])) ([(⟨#[97]⟩, ⟨#[]⟩), (⟨#[98]⟩, ⟨#[]⟩)] : List PrT))) ((RdD.mk 0 3 1 (⟨#[]⟩) (⟨#[]⟩) 5 3 5 (⟨#[]⟩) ([])).prs ++ ([(⟨#[97]⟩, ⟨#[]⟩), (⟨#[98]⟩, ⟨#[]⟩)] : List PrT).take (pgN (RdD.mk 0 3 1 (⟨#[]⟩) (⟨#[]⟩) 5 3 5 (⟨#[]⟩) ([])) ([(⟨#[97]⟩, ⟨#[]⟩), (⟨#[98]⟩, ⟨#[]⟩)] : List PrT)))).prs.length : Int))), .int .i64 0, .int .i64 0, .int .i64 0, .string ((RdD.mk ((RdD.mk 0 3 1 (⟨#[]⟩) (⟨#[]⟩) 5 3 5 (⟨#[]⟩) ([])).c) ((RdD.mk 0 3 1 (⟨#[]⟩) (⟨#[]⟩) 5 3 5 (⟨#[]⟩) ([])).rq) ((RdD.mk 0 3 1 (⟨#[]⟩) (⟨#[]⟩) 5 3 5 (⟨#[]⟩) ([])).nd) ((RdD.mk 0 3 1 (⟨#[]⟩) (⟨#[]⟩) 5 3 5 (⟨#[]⟩) ([])).k0) ((RdD.mk 0 3 1 (⟨#[]⟩) (⟨#[]⟩) 5 3 5 (⟨#[]⟩) ([])).to_) ((RdD.mk 0 3 1 (⟨#[]⟩) (⟨#[]⟩) 5 3 5 (⟨#[]⟩) ([])).at0) ((RdD.mk 0 3 1 (⟨#[]⟩) (⟨#[]⟩) 5 3 5 (⟨#[]⟩) ([])).n) ((RdD.mk 0 3 1 (⟨#[]⟩) (⟨#[]⟩) 5 3 5 (⟨#[]⟩) ([])).tm) (nxK (lastK (RdD.mk 0 3 1 (⟨#[]⟩) (⟨#[]⟩) 5 3 5 (⟨#[]⟩) ([])) ([(⟨#[97]⟩, ⟨#[]⟩), (⟨#[98]⟩, ⟨#[]⟩)] : List PrT))) ((RdD.mk 0 3 1 (⟨#[]⟩) (⟨#[]⟩) 5 3 5 (⟨#[]⟩) ([])).prs ++ ([(⟨#[97]⟩, ⟨#[]⟩), (⟨#[98]⟩, ⟨#[]⟩)] : List PrT).take (pgN (RdD.mk 0 3 1 (⟨#[]⟩) (⟨#[]⟩) 5 3 5 (⟨#[]⟩) ([])) ([(⟨#[97]⟩, ⟨#[]⟩), (⟨#[98]⟩, ⟨#[]⟩)] : List PrT)))).key), .string ((RdD.mk ((RdD.mk 0 3 1 (⟨#[]⟩) (⟨#[]⟩) 5 3 5 (⟨#[]⟩) ([])).c) ((RdD.mk 0 3 1 (⟨#[]⟩) (⟨#[]⟩) 5 3 5 (⟨#[]⟩) ([])).rq) ((RdD.mk 0 3 1 (⟨#[]⟩) (⟨#[]⟩) 5 3 5 (⟨#[]⟩) ([])).nd) ((RdD.mk 0 3 1 (⟨#[]⟩) (⟨#[]⟩) 5 3 5 (⟨#[]⟩) ([])).k0) ((RdD.mk 0 3 1 (⟨#[]⟩) (⟨#[]⟩) 5 3 5 (⟨#[]⟩) ([])).to_) ((RdD.mk 0 3 1 (⟨#[]⟩) (⟨#[]⟩) 5 3 5 (⟨#[]⟩) ([])).at0) ((RdD.mk 0 3 1 (⟨#[]⟩) (⟨#[]⟩) 5 3 5 (⟨#[]⟩) ([])).n) ((RdD.mk 0 3 1 (⟨#[]⟩) (⟨#[]⟩) 5 3 5 (⟨#[]⟩) ([])).tm) (nxK (lastK (RdD.mk 0 3 1 (⟨#[]⟩) (⟨#[]⟩) 5 3 5 (⟨#[]⟩) ([])) ([(⟨#[97]⟩, ⟨#[]⟩), (⟨#[98]⟩, ⟨#[]⟩)] : List PrT))) ((RdD.mk 0 3 1 (⟨#[]⟩) (⟨#[]⟩) 5 3 5 (⟨#[]⟩) ([])).prs ++ ([(⟨#[97]⟩, ⟨#[]⟩), (⟨#[98]⟩, ⟨#[]⟩)] : List PrT).take (pgN (RdD.mk 0 3 1 (⟨#[]⟩) (⟨#[]⟩) 5 3 5 (⟨#[]⟩) ([])) ([(⟨#[97]⟩, ⟨#[]⟩), (⟨#[98]⟩, ⟨#[]⟩)] : List PrT)))).to_), .int .i64 0, .slice none 0 0, .int .u64 0, .int .i64 0, .int .i64 0, .slice none 0 0, .slice none 0 0, .slice none 0 0, .slice none 0 0] := hk106; clear hk106
 have hz109 := hg108.size
 refine pl_nil ?_
 refine co_then ?_
 refine co_seq ?_
 refine co_reg ?_
 refine pk0 (v := .int .i64 0) h104 rfl fun a110 h110 => ?_; clear h104
 refine pk0 (v := .bool ((0 : Int) == 0)) h110 rfl fun a111 h111 => ?_; clear h110
 refine pk0 (v := .bool ((0 : Int) == 0)) h111 rfl fun a112 h112 => ?_; clear h111
 have hc113 : ((0 : Int) == 0) = true := by first | (simp; done) | (simp; omega) | exact beq_false_of_ne (by omega) | exact beq_iff_eq.2 (by omega)
 rw [hc113] at h112; clear hc113
 refine pk0 (v := .int .i64 ((RdD.mk 0 3 1 (⟨#[]⟩) (⟨#[]⟩) 5 3 5 (⟨#[]⟩) ([])).nd)) h112 rfl fun a114 h114 => ?_; clear h112
 refine pk0 (v := .bool ((RdD.mk 0 3 1 (⟨#[]⟩) (⟨#[]⟩) 5 3 5 (⟨#[]⟩) ([])).nd == 1)) h114 rfl fun a115 h115 => ?_; clear h114
 refine pk0 (v := .bool ((RdD.mk 0 3 1 (⟨#[]⟩) (⟨#[]⟩) 5 3 5 (⟨#[]⟩) ([])).nd == 1)) h115 rfl fun a116 h116 => ?_; clear h115
 refine pk0 (v := .bool ((RdD.mk 0 3 1 (⟨#[]⟩) (⟨#[]⟩) 5 3 5 (⟨#[]⟩) ([])).nd == 1)) h116 rfl fun a117 h117 => ?_; clear h116
 have hc118 : ((RdD.mk 0 3 1 (⟨#[]⟩) (⟨#[]⟩) 5 3 5 (⟨#[]⟩) ([])).nd == 1) = true := by decide
 rw [hc118] at h117; clear hc118
 refine pk0 (v := pt N34 0) h117 rfl fun a119 h119 => ?_; clear h117
 have hk120 := hk43'.kept hg53 (by simp)
 have hk121 := hk120.but hb76 (by first | omega | (simp; omega))
 have hk122 := hk121.below hb85
 have hk123 := hk122.kept hg93 (by simp)
 have hk124 := hk123.kept hg108 (by simp; omega)
 refine pk (v := .int .i64 9) h119 rfl (rn_load1 rfl rfl Try.isAgg3 (hk124.cell rfl)) fun a125 h125 => ?_; clear h119
 refine pk0 (v := .bool ((9 : Int) == 9)) h125 rfl fun a126 h126 => ?_; clear h125
 refine pk0 (v := .bool ((9 : Int) == 9)) h126 rfl fun a127 h127 => ?_; clear h126
 refine pk0 (v := .bool ((9 : Int) == 9)) h127 rfl fun a128 h128 => ?_; clear h127
 have hc129 : ((9 : Int) == 9) = true := by first | (simp; done) | (simp; omega) | exact beq_false_of_ne (by omega) | exact beq_iff_eq.2 (by omega)
 rw [hc129] at h128; clear hc129
 refine pk0 (v := pt N34 7) h128 rfl fun a130 h130 => ?_; clear h128
 refine pk (v := .int .i64 (mnI 2 ((RdD.mk 0 3 1 (⟨#[]⟩) (⟨#[]⟩) 5 3 5 (⟨#[]⟩) ([])).n - ((RdD.mk 0 3 1 (⟨#[]⟩) (⟨#[]⟩) 5 3 5 (⟨#[]⟩) ([])).prs.length : Int)))) h130 rfl (rn_load1 rfl rfl Try.isAgg3 (hk124.cell rfl)) fun a131 h131 => ?_; clear h130
 refine pk0 (v := .bool (mnI 2 ((RdD.mk 0 3 1 (⟨#[]⟩) (⟨#[]⟩) 5 3 5 (⟨#[]⟩) ([])).n - ((RdD.mk 0 3 1 (⟨#[]⟩) (⟨#[]⟩) 5 3 5 (⟨#[]⟩) ([])).prs.length : Int)) == 2)) h131 rfl fun a132 h132 => ?_; clear h131
 refine pk0 (v := .bool (mnI 2 ((RdD.mk 0 3 1 (⟨#[]⟩) (⟨#[]⟩) 5 3 5 (⟨#[]⟩) ([])).n - ((RdD.mk 0 3 1 (⟨#[]⟩) (⟨#[]⟩) 5 3 5 (⟨#[]⟩) ([])).prs.length : Int)) == 2)) h132 rfl fun a133 h133 => ?_; clear h132
 refine pk0 (v := .bool (mnI 2 ((RdD.mk 0 3 1 (⟨#[]⟩) (⟨#[]⟩) 5 3 5 (⟨#[]⟩) ([])).n - ((RdD.mk 0 3 1 (⟨#[]⟩) (⟨#[]⟩) 5 3 5 (⟨#[]⟩) ([])).prs.length : Int)) == 2)) h133 rfl fun a134 h134 => ?_; clear h133
 have hc135 : (mnI 2 ((RdD.mk 0 3 1 (⟨#[]⟩) (⟨#[]⟩) 5 3 5 (⟨#[]⟩) ([])).n - ((RdD.mk 0 3 1 (⟨#[]⟩) (⟨#[]⟩) 5 3 5 (⟨#[]⟩) ([])).prs.length : Int)) == 2) = true := by decide
 rw [hc135] at h134; clear hc135
 refine pk0 (v := .bool true) h134 rfl fun a136 h136 => ?_; clear h134
 refine pk0 (v := .bool true) h136 rfl fun a137 h137 => ?_; clear h136
 refine pk0 (v := .bool true) h137 rfl fun a138 h138 => ?_; clear h137
 refine pk0 (v := pt N92 7) h138 rfl fun a139 h139 => ?_; clear h138
 refine pk (v := .int .i64 (mnI 2 ((RdD.mk ((RdD.mk 0 3 1 (⟨#[]⟩) (⟨#[]⟩) 5 3 5 (⟨#[]⟩) ([])).c) ((RdD.mk 0 3 1 (⟨#[]⟩) (⟨#[]⟩) 5 3 5 (⟨#[]⟩) ([])).rq) ((RdD.mk 0 3 1 (⟨#[]⟩) (⟨#[]⟩) 5 3 5 (⟨#[]⟩) ([])).nd) ((RdD.mk 0 3 1 (⟨#[]⟩) (⟨#[]⟩) 5 3 5 (⟨#[]⟩) ([])).k0) ((RdD.mk 0 3 1 (⟨#[]⟩) (⟨#[]⟩) 5 3 5 (⟨#[]⟩) ([])).to_) ((RdD.mk 0 3 1 (⟨#[]⟩) (⟨#[]⟩) 5 3 5 (⟨#[]⟩) ([])).at0) ((RdD.mk 0 3 1 (⟨#[]⟩) (⟨#[]⟩) 5 3 5 (⟨#[]⟩) ([])).n) ((RdD.mk 0 3 1 (⟨#[]⟩) (⟨#[]⟩) 5 3 5 (⟨#[]⟩) ([])).tm) (nxK (lastK (RdD.mk 0 3 1 (⟨#[]⟩) (⟨#[]⟩) 5 3 5 (⟨#[]⟩) ([])) ([(⟨#[97]⟩, ⟨#[]⟩), (⟨#[98]⟩, ⟨#[]⟩)] : List PrT))) ((RdD.mk 0 3 1 (⟨#[]⟩) (⟨#[]⟩) 5 3 5 (⟨#[]⟩) ([])).prs ++ ([(⟨#[97]⟩, ⟨#[]⟩), (⟨#[98]⟩, ⟨#[]⟩)] : List PrT).take (pgN (RdD.mk 0 3 1 (⟨#[]⟩) (⟨#[]⟩) 5 3 5 (⟨#[]⟩) ([])) ([(⟨#[97]⟩, ⟨#[]⟩), (⟨#[98]⟩, ⟨#[]⟩)] : List PrT)))).n - ((RdD.mk ((RdD.mk 0 3 1 (⟨#[]⟩) (⟨#[]⟩) 5 3 5 (⟨#[]⟩) ([])).c) ((RdD.mk 0 3 1 (⟨#[]⟩) (⟨#[]⟩) 5 3 5 (⟨#[]⟩) ([])).rq) ((RdD.mk 0 3 1 (⟨#[]⟩) (⟨#[]⟩) 5 3 5 (⟨#[]⟩) ([])).nd) ((RdD.mk 0 3 1 (⟨#[]⟩) (⟨#[]⟩) 5 3 5 (⟨#[]⟩) ([])).k0) ((RdD.mk 0 3 1 (⟨#[]⟩) (⟨#[]⟩) 5 3 5 (⟨#[]⟩) ([])).to_) ((RdD.mk 0 3 1 (⟨#[]⟩) (⟨#[]⟩) 5 3 5 (⟨#[]⟩) ([])).at0) ((RdD.mk 0 3 1 (⟨#[]⟩) (⟨#[]⟩) 5 3 5 (⟨#[]⟩) ([])).n) ((RdD.mk 0 3 1 (⟨#[]⟩) (⟨#[]⟩) 5 3 5 (⟨#[]⟩) ([])).tm) (nxK (lastK (RdD.mk 0 3 1 (⟨#[]⟩) (⟨#[]⟩) 5 3 5 (⟨#[]⟩) ([])) ([(⟨#[97]⟩, ⟨#[]⟩), (⟨#[98]⟩, ⟨#[]⟩)] : List PrT))) ((RdD.mk 0 3 1 (⟨#[]⟩) (⟨#[]⟩) 5 3 5 (⟨#[]⟩) ([])).prs ++ ([(⟨#[97]⟩, ⟨#[]⟩), (⟨#[98]⟩, ⟨#[]⟩)] : List PrT).take (pgN (RdD.mk 0 3 1 (⟨#[]⟩) (⟨#[]⟩) 5 3 5 (⟨#[]⟩) ([])) ([(⟨#[97]⟩, ⟨#[]⟩), (⟨#[98]⟩, ⟨#[]⟩)] : List PrT)))).prs.length : Int)))) h139 rfl (rn_load1 rfl rfl Try.isAgg3 (hk106'.cell rfl)) fun a140 h140 => ?_; clear h139
 refine pk0 (v := .bool (mnI 2 ((RdD.mk ((RdD.mk 0 3 1 (⟨#[]⟩) (⟨#[]⟩) 5 3 5 (⟨#[]⟩) ([])).c) ((RdD.mk 0 3 1 (⟨#[]⟩) (⟨#[]⟩) 5 3 5 (⟨#[]⟩) ([])).rq) ((RdD.mk 0 3 1 (⟨#[]⟩) (⟨#[]⟩) 5 3 5 (⟨#[]⟩) ([])).nd) ((RdD.mk 0 3 1 (⟨#[]⟩) (⟨#[]⟩) 5 3 5 (⟨#[]⟩) ([])).k0) ((RdD.mk 0 3 1 (⟨#[]⟩) (⟨#[]⟩) 5 3 5 (⟨#[]⟩) ([])).to_) ((RdD.mk 0 3 1 (⟨#[]⟩) (⟨#[]⟩) 5 3 5 (⟨#[]⟩) ([])).at0) ((RdD.mk 0 3 1 (⟨#[]⟩) (⟨#[]⟩) 5 3 5 (⟨#[]⟩) ([])).n) ((RdD.mk 0 3 1 (⟨#[]⟩) (⟨#[]⟩) 5 3 5 (⟨#[]⟩) ([])).tm) (nxK (lastK (RdD.mk 0 3 1 (⟨#[]⟩) (⟨#[]⟩) 5 3 5 (⟨#[]⟩) ([])) ([(⟨#[97]⟩, ⟨#[]⟩), (⟨#[98]⟩, ⟨#[]⟩)] : List PrT))) ((RdD.mk 0 3 1 (⟨#[]⟩) (⟨#[]⟩) 5 3 5 (⟨#[]⟩) ([])).prs ++ ([(⟨#[97]⟩, ⟨#[]⟩), (⟨#[98]⟩, ⟨#[]⟩)] : List PrT).take (pgN (RdD.mk 0 3 1 (⟨#[]⟩) (⟨#[]⟩) 5 3 5 (⟨#[]⟩) ([])) ([(⟨#[97]⟩, ⟨#[]⟩), (⟨#[98]⟩, ⟨#[]⟩)] : List PrT)))).n - ((RdD.mk ((RdD.mk 0 3 1 (⟨#[]⟩) (⟨#[]⟩) 5 3 5 (⟨#[]⟩) ([])).c) ((RdD.mk 0 3 1 (⟨#[]⟩) (⟨#[]⟩) 5 3 5 (⟨#[]⟩) ([])).rq) ((RdD.mk 0 3 1 (⟨#[]⟩) (⟨#[]⟩) 5 3 5 (⟨#[]⟩) ([])).nd) ((RdD.mk 0 3 1 (⟨#[]⟩) (⟨#[]⟩) 5 3 5 (⟨#[]⟩) ([])).k0) ((RdD.mk 0 3 1 (⟨#[]⟩) (⟨#[]⟩) 5 3 5 (⟨#[]⟩) ([])).to_) ((RdD.mk 0 3 1 (⟨#[]⟩) (⟨#[]⟩) 5 3 5 (⟨#[]⟩) ([])).at0) ((RdD.mk 0 3 1 (⟨#[]⟩) (⟨#[]⟩) 5 3 5 (⟨#[]⟩) ([])).n) ((RdD.mk 0 3 1 (⟨#[]⟩) (⟨#[]⟩) 5 3 5 (⟨#[]⟩) ([])).tm) (nxK (lastK (RdD.mk 0 3 1 (⟨#[]⟩) (⟨#[]⟩) 5 3 5 (⟨#[]⟩) ([])) ([(⟨#[97]⟩, ⟨#[]⟩), (⟨#[98]⟩, ⟨#[]⟩)] : List PrT))) ((RdD.mk 0 3 1 (⟨#[]⟩) (⟨#[]⟩) 5 3 5 (⟨#[]⟩) ([])).prs ++ ([(⟨#[97]⟩, ⟨#[]⟩), (⟨#[98]⟩, ⟨#[]⟩)] : List PrT).take (pgN (RdD.mk 0 3 1 (⟨#[]⟩) (⟨#[]⟩) 5 3 5 (⟨#[]⟩) ([])) ([(⟨#[97]⟩, ⟨#[]⟩), (⟨#[98]⟩, ⟨#[]⟩)] : List PrT)))).prs.length : Int)) == 1)) h140 rfl fun a141 h141 => ?_; clear h140
 refine pk0 (v := .bool (mnI 2 ((RdD.mk ((RdD.mk 0 3 1 (⟨#[]⟩) (⟨#[]⟩) 5 3 5 (⟨#[]⟩) ([])).c) ((RdD.mk 0 3 1 (⟨#[]⟩) (⟨#[]⟩) 5 3 5 (⟨#[]⟩) ([])).rq) ((RdD.mk 0 3 1 (⟨#[]⟩) (⟨#[]⟩) 5 3 5 (⟨#[]⟩) ([])).nd) ((RdD.mk 0 3 1 (⟨#[]⟩) (⟨#[]⟩) 5 3 5 (⟨#[]⟩) ([])).k0) ((RdD.mk 0 3 1 (⟨#[]⟩) (⟨#[]⟩) 5 3 5 (⟨#[]⟩) ([])).to_) ((RdD.mk 0 3 1 (⟨#[]⟩) (⟨#[]⟩) 5 3 5 (⟨#[]⟩) ([])).at0) ((RdD.mk 0 3 1 (⟨#[]⟩) (⟨#[]⟩) 5 3 5 (⟨#[]⟩) ([])).n) ((RdD.mk 0 3 1 (⟨#[]⟩) (⟨#[]⟩) 5 3 5 (⟨#[]⟩) ([])).tm) (nxK (lastK (RdD.mk 0 3 1 (⟨#[]⟩) (⟨#[]⟩) 5 3 5 (⟨#[]⟩) ([])) ([(⟨#[97]⟩, ⟨#[]⟩), (⟨#[98]⟩, ⟨#[]⟩)] : List PrT))) ((RdD.mk 0 3 1 (⟨#[]⟩) (⟨#[]⟩) 5 3 5 (⟨#[]⟩) ([])).prs ++ ([(⟨#[97]⟩, ⟨#[]⟩), (⟨#[98]⟩, ⟨#[]⟩)] : List PrT).take (pgN (RdD.mk 0 3 1 (⟨#[]⟩) (⟨#[]⟩) 5 3 5 (⟨#[]⟩) ([])) ([(⟨#[97]⟩, ⟨#[]⟩), (⟨#[98]⟩, ⟨#[]⟩)] : List PrT)))).n - ((RdD.mk ((RdD.mk 0 3 1 (⟨#[]⟩) (⟨#[]⟩) 5 3 5 (⟨#[]⟩) ([])).c) ((RdD.mk 0 3 1 (⟨#[]⟩) (⟨#[]⟩) 5 3 5 (⟨#[]⟩) ([])).rq) ((RdD.mk 0 3 1 (⟨#[]⟩) (⟨#[]⟩) 5 3 5 (⟨#[]⟩) ([])).nd) ((RdD.mk 0 3 1 (⟨#[]⟩) (⟨#[]⟩) 5 3 5 (⟨#[]⟩) ([])).k0) ((RdD.mk 0 3 1 (⟨#[]⟩) (⟨#[]⟩) 5 3 5 (⟨#[]⟩) ([])).to_) ((RdD.mk 0 3 1 (⟨#[]⟩) (⟨#[]⟩) 5 3 5 (⟨#[]⟩) ([])).at0) ((RdD.mk 0 3 1 (⟨#[]⟩) (⟨#[]⟩) 5 3 5 (⟨#[]⟩) ([])).n) ((RdD.mk 0 3 1 (⟨#[]⟩) (⟨#[]⟩) 5 3 5 (⟨#[]⟩) ([])).tm) (nxK (lastK (RdD.mk 0 3 1 (⟨#[]⟩) (⟨#[]⟩) 5 3 5 (⟨#[]⟩) ([])) ([(⟨#[97]⟩, ⟨#[]⟩), (⟨#[98]⟩, ⟨#[]⟩)] : List PrT))) ((RdD.mk 0 3 1 (⟨#[]⟩) (⟨#[]⟩) 5 3 5 (⟨#[]⟩) ([])).prs ++ ([(⟨#[97]⟩, ⟨#[]⟩), (⟨#[98]⟩, ⟨#[]⟩)] : List PrT).take (pgN (RdD.mk 0 3 1 (⟨#[]⟩) (⟨#[]⟩) 5 3 5 (⟨#[]⟩) ([])) ([(⟨#[97]⟩, ⟨#[]⟩), (⟨#[98]⟩, ⟨#[]⟩)] : List PrT)))).prs.length : Int)) == 1)) h141 rfl fun a142 h142 => ?_; clear h141
 refine pk0 (v := .bool (mnI 2 ((RdD.mk ((RdD.mk 0 3 1 (⟨#[]⟩) (⟨#[]⟩) 5 3 5 (⟨#[]⟩) ([])).c) ((RdD.mk 0 3 1 (⟨#[]⟩) (⟨#[]⟩) 5 3 5 (⟨#[]⟩) ([])).rq) ((RdD.mk 0 3 1 (⟨#[]⟩) (⟨#[]⟩) 5 3 5 (⟨#[]⟩) ([])).nd) ((RdD.mk 0 3 1 (⟨#[]⟩) (⟨#[]⟩) 5 3 5 (⟨#[]⟩) ([])).k0) ((RdD.mk 0 3 1 (⟨#[]⟩) (⟨#[]⟩) 5 3 5 (⟨#[]⟩) ([])).to_) ((RdD.mk 0 3 1 (⟨#[]⟩) (⟨#[]⟩) 5 3 5 (⟨#[]⟩) ([])).at0) ((RdD.mk 0 3 1 (⟨#[]⟩) (⟨#[]⟩) 5 3 5 (⟨#[]⟩) ([])).n) ((RdD.mk 0 3 1 (⟨#[]⟩) (⟨#[]⟩) 5 3 5 (⟨#[]⟩) ([])).tm) (nxK (lastK (RdD.mk 0 3 1 (⟨#[]⟩) (⟨#[]⟩) 5 3 5 (⟨#[]⟩) ([])) ([(⟨#[97]⟩, ⟨#[]⟩), (⟨#[98]⟩, ⟨#[]⟩)] : List PrT))) ((RdD.mk 0 3 1 (⟨#[]⟩) (⟨#[]⟩) 5 3 5 (⟨#[]⟩) ([])).prs ++ ([(⟨#[97]⟩, ⟨#[]⟩), (⟨#[98]⟩, ⟨#[]⟩)] : List PrT).take (pgN (RdD.mk 0 3 1 (⟨#[]⟩) (⟨#[]⟩) 5 3 5 (⟨#[]⟩) ([])) ([(⟨#[97]⟩, ⟨#[]⟩), (⟨#[98]⟩, ⟨#[]⟩)] : List PrT)))).n - ((RdD.mk ((RdD.mk 0 3 1 (⟨#[]⟩) (⟨#[]⟩) 5 3 5 (⟨#[]⟩) ([])).c) ((RdD.mk 0 3 1 (⟨#[]⟩) (⟨#[]⟩) 5 3 5 (⟨#[]⟩) ([])).rq) ((RdD.mk 0 3 1 (⟨#[]⟩) (⟨#[]⟩) 5 3 5 (⟨#[]⟩) ([])).nd) ((RdD.mk 0 3 1 (⟨#[]⟩) (⟨#[]⟩) 5 3 5 (⟨#[]⟩) ([])).k0) ((RdD.mk 0 3 1 (⟨#[]⟩) (⟨#[]⟩) 5 3 5 (⟨#[]⟩) ([])).to_) ((RdD.mk 0 3 1 (⟨#[]⟩) (⟨#[]⟩) 5 3 5 (⟨#[]⟩) ([])).at0) ((RdD.mk 0 3 1 (⟨#[]⟩) (⟨#[]⟩) 5 3 5 (⟨#[]⟩) ([])).n) ((RdD.mk 0 3 1 (⟨#[]⟩) (⟨#[]⟩) 5 3 5 (⟨#[]⟩) ([])).tm) (nxK (lastK (RdD.mk 0 3 1 (⟨#[]⟩) (⟨#[]⟩) 5 3 5 (⟨#[]⟩) ([])) ([(⟨#[97]⟩, ⟨#[]⟩), (⟨#[98]⟩, ⟨#[]⟩)] : List PrT))) ((RdD.mk 0 3 1 (⟨#[]⟩) (⟨#[]⟩) 5 3 5 (⟨#[]⟩) ([])).prs ++ ([(⟨#[97]⟩, ⟨#[]⟩), (⟨#[98]⟩, ⟨#[]⟩)] : List PrT).take (pgN (RdD.mk 0 3 1 (⟨#[]⟩) (⟨#[]⟩) 5 3 5 (⟨#[]⟩) ([])) ([(⟨#[97]⟩, ⟨#[]⟩), (⟨#[98]⟩, ⟨#[]⟩)] : List PrT)))).prs.length : Int)) == 1)) h142 rfl fun a143 h143 => ?_; clear h142
 have hc144 : (mnI 2 ((RdD.mk ((RdD.mk 0 3 1 (⟨#[]⟩) (⟨#[]⟩) 5 3 5 (⟨#[]⟩) ([])).c) ((RdD.mk 0 3 1 (⟨#[]⟩) (⟨#[]⟩) 5 3 5 (⟨#[]⟩) ([])).rq) ((RdD.mk 0 3 1 (⟨#[]⟩) (⟨#[]⟩) 5 3 5 (⟨#[]⟩) ([])).nd) ((RdD.mk 0 3 1 (⟨#[]⟩) (⟨#[]⟩) 5 3 5 (⟨#[]⟩) ([])).k0) ((RdD.mk 0 3 1 (⟨#[]⟩) (⟨#[]⟩) 5 3 5 (⟨#[]⟩) ([])).to_) ((RdD.mk 0 3 1 (⟨#[]⟩) (⟨#[]⟩) 5 3 5 (⟨#[]⟩) ([])).at0) ((RdD.mk 0 3 1 (⟨#[]⟩) (⟨#[]⟩) 5 3 5 (⟨#[]⟩) ([])).n) ((RdD.mk 0 3 1 (⟨#[]⟩) (⟨#[]⟩) 5 3 5 (⟨#[]⟩) ([])).tm) (nxK (lastK (RdD.mk 0 3 1 (⟨#[]⟩) (⟨#[]⟩) 5 3 5 (⟨#[]⟩) ([])) ([(⟨#[97]⟩, ⟨#[]⟩), (⟨#[98]⟩, ⟨#[]⟩)] : List PrT))) ((RdD.mk 0 3 1 (⟨#[]⟩) (⟨#[]⟩) 5 3 5 (⟨#[]⟩) ([])).prs ++ ([(⟨#[97]⟩, ⟨#[]⟩), (⟨#[98]⟩, ⟨#[]⟩)] : List PrT).take (pgN (RdD.mk 0 3 1 (⟨#[]⟩) (⟨#[]⟩) 5 3 5 (⟨#[]⟩) ([])) ([(⟨#[97]⟩, ⟨#[]⟩), (⟨#[98]⟩, ⟨#[]⟩)] : List PrT)))).n - ((RdD.mk ((RdD.mk 0 3 1 (⟨#[]⟩) (⟨#[]⟩) 5 3 5 (⟨#[]⟩) ([])).c) ((RdD.mk 0 3 1 (⟨#[]⟩) (⟨#[]⟩) 5 3 5 (⟨#[]⟩) ([])).rq) ((RdD.mk 0 3 1 (⟨#[]⟩) (⟨#[]⟩) 5 3 5 (⟨#[]⟩) ([])).nd) ((RdD.mk 0 3 1 (⟨#[]⟩) (⟨#[]⟩) 5 3 5 (⟨#[]⟩) ([])).k0) ((RdD.mk 0 3 1 (⟨#[]⟩) (⟨#[]⟩) 5 3 5 (⟨#[]⟩) ([])).to_) ((RdD.mk 0 3 1 (⟨#[]⟩) (⟨#[]⟩) 5 3 5 (⟨#[]⟩) ([])).at0) ((RdD.mk 0 3 1 (⟨#[]⟩) (⟨#[]⟩) 5 3 5 (⟨#[]⟩) ([])).n) ((RdD.mk 0 3 1 (⟨#[]⟩) (⟨#[]⟩) 5 3 5 (⟨#[]⟩) ([])).tm) (nxK (lastK (RdD.mk 0 3 1 (⟨#[]⟩) (⟨#[]⟩) 5 3 5 (⟨#[]⟩) ([])) ([(⟨#[97]⟩, ⟨#[]⟩), (⟨#[98]⟩, ⟨#[]⟩)] : List PrT))) ((RdD.mk 0 3 1 (⟨#[]⟩) (⟨#[]⟩) 5 3 5 (⟨#[]⟩) ([])).prs ++ ([(⟨#[97]⟩, ⟨#[]⟩), (⟨#[98]⟩, ⟨#[]⟩)] : List PrT).take (pgN (RdD.mk 0 3 1 (⟨#[]⟩) (⟨#[]⟩) 5 3 5 (⟨#[]⟩) ([])) ([(⟨#[97]⟩, ⟨#[]⟩), (⟨#[98]⟩, ⟨#[]⟩)] : List PrT)))).prs.length : Int)) == 1) = true := by decide
 rw [hc144] at h143; clear hc144
 refine pk0 (v := pt N92 11) h143 rfl fun a145 h145 => ?_; clear h143
 refine pk (v := .string ((RdD.mk ((RdD.mk 0 3 1 (⟨#[]⟩) (⟨#[]⟩) 5 3 5 (⟨#[]⟩) ([])).c) ((RdD.mk 0 3 1 (⟨#[]⟩) (⟨#[]⟩) 5 3 5 (⟨#[]⟩) ([])).rq) ((RdD.mk 0 3 1 (⟨#[]⟩) (⟨#[]⟩) 5 3 5 (⟨#[]⟩) ([])).nd) ((RdD.mk 0 3 1 (⟨#[]⟩) (⟨#[]⟩) 5 3 5 (⟨#[]⟩) ([])).k0) ((RdD.mk 0 3 1 (⟨#[]⟩) (⟨#[]⟩) 5 3 5 (⟨#[]⟩) ([])).to_) ((RdD.mk 0 3 1 (⟨#[]⟩) (⟨#[]⟩) 5 3 5 (⟨#[]⟩) ([])).at0) ((RdD.mk 0 3 1 (⟨#[]⟩) (⟨#[]⟩) 5 3 5 (⟨#[]⟩) ([])).n) ((RdD.mk 0 3 1 (⟨#[]⟩) (⟨#[]⟩) 5 3 5 (⟨#[]⟩) ([])).tm) (nxK (lastK (RdD.mk 0 3 1 (⟨#[]⟩) (⟨#[]⟩) 5 3 5 (⟨#[]⟩) ([])) ([(⟨#[97]⟩, ⟨#[]⟩), (⟨#[98]⟩, ⟨#[]⟩)] : List PrT))) ((RdD.mk 0 3 1 (⟨#[]⟩) (⟨#[]⟩) 5 3 5 (⟨#[]⟩) ([])).prs ++ ([(⟨#[97]⟩, ⟨#[]⟩), (⟨#[98]⟩, ⟨#[]⟩)] : List PrT).take (pgN (RdD.mk 0 3 1 (⟨#[]⟩) (⟨#[]⟩) 5 3 5 (⟨#[]⟩) ([])) ([(⟨#[97]⟩, ⟨#[]⟩), (⟨#[98]⟩, ⟨#[]⟩)] : List PrT)))).key)) h145 rfl (rn_load1 rfl rfl Try.isAgg9 (hk106'.cell rfl)) fun a146 h146 => ?_; clear h145
 refine pk0 (v := .bool (((RdD.mk ((RdD.mk 0 3 1 (⟨#[]⟩) (⟨#[]⟩) 5 3 5 (⟨#[]⟩) ([])).c) ((RdD.mk 0 3 1 (⟨#[]⟩) (⟨#[]⟩) 5 3 5 (⟨#[]⟩) ([])).rq) ((RdD.mk 0 3 1 (⟨#[]⟩) (⟨#[]⟩) 5 3 5 (⟨#[]⟩) ([])).nd) ((RdD.mk 0 3 1 (⟨#[]⟩) (⟨#[]⟩) 5 3 5 (⟨#[]⟩) ([])).k0) ((RdD.mk 0 3 1 (⟨#[]⟩) (⟨#[]⟩) 5 3 5 (⟨#[]⟩) ([])).to_) ((RdD.mk 0 3 1 (⟨#[]⟩) (⟨#[]⟩) 5 3 5 (⟨#[]⟩) ([])).at0) ((RdD.mk 0 3 1 (⟨#[]⟩) (⟨#[]⟩) 5 3 5 (⟨#[]⟩) ([])).n) ((RdD.mk 0 3 1 (⟨#[]⟩) (⟨#[]⟩) 5 3 5 (⟨#[]⟩) ([])).tm) (nxK (lastK (RdD.mk 0 3 1 (⟨#[]⟩) (⟨#[]⟩) 5 3 5 (⟨#[]⟩) ([])) ([(⟨#[97]⟩, ⟨#[]⟩), (⟨#[98]⟩, ⟨#[]⟩)] : List PrT))) ((RdD.mk 0 3 1 (⟨#[]⟩) (⟨#[]⟩) 5 3 5 (⟨#[]⟩) ([])).prs ++ ([(⟨#[97]⟩, ⟨#[]⟩), (⟨#[98]⟩, ⟨#[]⟩)] : List PrT).take (pgN (RdD.mk 0 3 1 (⟨#[]⟩) (⟨#[]⟩) 5 3 5 (⟨#[]⟩) ([])) ([(⟨#[97]⟩, ⟨#[]⟩), (⟨#[98]⟩, ⟨#[]⟩)] : List PrT)))).key : ByteArray).toList == (⟨#[98, 0]⟩ : ByteArray).toList)) h146 rfl fun a147 h147 => ?_; clear h146
 refine pk0 (v := .bool (((RdD.mk ((RdD.mk 0 3 1 (⟨#[]⟩) (⟨#[]⟩) 5 3 5 (⟨#[]⟩) ([])).c) ((RdD.mk 0 3 1 (⟨#[]⟩) (⟨#[]⟩) 5 3 5 (⟨#[]⟩) ([])).rq) ((RdD.mk 0 3 1 (⟨#[]⟩) (⟨#[]⟩) 5 3 5 (⟨#[]⟩) ([])).nd) ((RdD.mk 0 3 1 (⟨#[]⟩) (⟨#[]⟩) 5 3 5 (⟨#[]⟩) ([])).k0) ((RdD.mk 0 3 1 (⟨#[]⟩) (⟨#[]⟩) 5 3 5 (⟨#[]⟩) ([])).to_) ((RdD.mk 0 3 1 (⟨#[]⟩) (⟨#[]⟩) 5 3 5 (⟨#[]⟩) ([])).at0) ((RdD.mk 0 3 1 (⟨#[]⟩) (⟨#[]⟩) 5 3 5 (⟨#[]⟩) ([])).n) ((RdD.mk 0 3 1 (⟨#[]⟩) (⟨#[]⟩) 5 3 5 (⟨#[]⟩) ([])).tm) (nxK (lastK (RdD.mk 0 3 1 (⟨#[]⟩) (⟨#[]⟩) 5 3 5 (⟨#[]⟩) ([])) ([(⟨#[97]⟩, ⟨#[]⟩), (⟨#[98]⟩, ⟨#[]⟩)] : List PrT))) ((RdD.mk 0 3 1 (⟨#[]⟩) (⟨#[]⟩) 5 3 5 (⟨#[]⟩) ([])).prs ++ ([(⟨#[97]⟩, ⟨#[]⟩), (⟨#[98]⟩, ⟨#[]⟩)] : List PrT).take (pgN (RdD.mk 0 3 1 (⟨#[]⟩) (⟨#[]⟩) 5 3 5 (⟨#[]⟩) ([])) ([(⟨#[97]⟩, ⟨#[]⟩), (⟨#[98]⟩, ⟨#[]⟩)] : List PrT)))).key : ByteArray).toList == (⟨#[98, 0]⟩ : ByteArray).toList)) h147 rfl fun a148 h148 => ?_; clear h147
 refine pk0 (v := .bool (((RdD.mk ((RdD.mk 0 3 1 (⟨#[]⟩) (⟨#[]⟩) 5 3 5 (⟨#[]⟩) ([])).c) ((RdD.mk 0 3 1 (⟨#[]⟩) (⟨#[]⟩) 5 3 5 (⟨#[]⟩) ([])).rq) ((RdD.mk 0 3 1 (⟨#[]⟩) (⟨#[]⟩) 5 3 5 (⟨#[]⟩) ([])).nd) ((RdD.mk 0 3 1 (⟨#[]⟩) (⟨#[]⟩) 5 3 5 (⟨#[]⟩) ([])).k0) ((RdD.mk 0 3 1 (⟨#[]⟩) (⟨#[]⟩) 5 3 5 (⟨#[]⟩) ([])).to_) ((RdD.mk 0 3 1 (⟨#[]⟩) (⟨#[]⟩) 5 3 5 (⟨#[]⟩) ([])).at0) ((RdD.mk 0 3 1 (⟨#[]⟩) (⟨#[]⟩) 5 3 5 (⟨#[]⟩) ([])).n) ((RdD.mk 0 3 1 (⟨#[]⟩) (⟨#[]⟩) 5 3 5 (⟨#[]⟩) ([])).tm) (nxK (lastK (RdD.mk 0 3 1 (⟨#[]⟩) (⟨#[]⟩) 5 3 5 (⟨#[]⟩) ([])) ([(⟨#[97]⟩, ⟨#[]⟩), (⟨#[98]⟩, ⟨#[]⟩)] : List PrT))) ((RdD.mk 0 3 1 (⟨#[]⟩) (⟨#[]⟩) 5 3 5 (⟨#[]⟩) ([])).prs ++ ([(⟨#[97]⟩, ⟨#[]⟩), (⟨#[98]⟩, ⟨#[]⟩)] : List PrT).take (pgN (RdD.mk 0 3 1 (⟨#[]⟩) (⟨#[]⟩) 5 3 5 (⟨#[]⟩) ([])) ([(⟨#[97]⟩, ⟨#[]⟩), (⟨#[98]⟩, ⟨#[]⟩)] : List PrT)))).key : ByteArray).toList == (⟨#[98, 0]⟩ : ByteArray).toList)) h148 rfl fun a149 h149 => ?_; clear h148
 refine pl_nil ?_
 refine co_then ?_
 refine wp_ret ?_
 refine co_ret1 h149 rfl rfl ?_
 have hB150 := hb_call hB0 hb14
 have hB151 := hb_call hB150 hb27
 have hB152 := hb_new hB151 hg35
 have hB153 := hb_at hB152 hg45 (by omega)
 have hB154 := hb_new hB153 hg53
 have hB155 := hb_foot hB154 hb76 (fun i hlt hS => by (try simp at hS); first | omega | (simp; omega) | simp_all)
 have hB156 := hb_call hB155 hb85
 have hB157 := hb_new hB156 hg93
 have hB158 := hb_at hB157 hg108 (by omega)
 exact ⟨ret_bool (by first | rfl | decide | (rw [toList_data, toList_data]; decide)), hB158⟩
end Go.Proofs.Ytaoibbakflacoaa

/- catenalaw34: AsksZero. Conditions: none. -/
namespace Go.Proofs.Ytaoibbakflacoaa
open Go.RowKit Go.PlainAid
set_option linter.unusedVariables false
set_option linter.unusedSimpArgs false

set_option maxRecDepth 100000 in
set_option maxHeartbeats 3200000 in
theorem asksZero_law (n : Int) (mx : MsgX) (w : World) (hm : SliceOf memE 2 w mx.mv mx.d.cms) (hb : SliceOf opE 3 w mx.bv mx.d.bl) (he : SliceOf entE 4 w mx.ev mx.d.en) (ht : SliceOf (intE .u64) 1 w mx.sv mx.d.st) (hp : SliceOf prE 2 w mx.pv mx.d.pr) (hM : MsgOk w mx) :
    Calls Try.prog 5 #[.int .i64 n, .agg #[.int .i64 mx.d.k, .int .i64 mx.d.ep, .int .i64 mx.d.rq, .int .i64 mx.d.sr, .bool mx.d.fg, .int .u64 mx.d.at_, .int .u64 mx.d.la, .int .i64 mx.d.n, .int .i64 mx.d.m, .int .i64 mx.d.p, .int .i64 mx.d.e, .string mx.d.key, .string mx.d.to_, .int .i64 mx.d.cep, mx.mv, .int .u64 mx.d.cfl, .int .i64 mx.d.bc, .int .i64 mx.d.br, mx.bv, mx.ev, mx.sv, mx.pv]] w fun e w' => e = .returned (.bool true) ∧ Below w.heap.size w w' := by
 have hB0 := Below.refl w.heap.size w
 have hl_hm := sl_len hm
 have hl_hb := sl_len hb
 have hl_he := sl_len he
 have hl_ht := sl_len ht
 have hl_hp := sl_len hp
 refine co_enter (n := 102) Try.func5 rfl rfl rfl [(0, .int .i64 n), (1, .agg #[.int .i64 mx.d.k, .int .i64 mx.d.ep, .int .i64 mx.d.rq, .int .i64 mx.d.sr, .bool mx.d.fg, .int .u64 mx.d.at_, .int .u64 mx.d.la, .int .i64 mx.d.n, .int .i64 mx.d.m, .int .i64 mx.d.p, .int .i64 mx.d.e, .string mx.d.key, .string mx.d.to_, .int .i64 mx.d.cep, mx.mv, .int .u64 mx.d.cfl, .int .i64 mx.d.bc, .int .i64 mx.d.br, mx.bv, mx.ev, mx.sv, mx.pv])] rfl (fun a h0 => ?_)
 refine co_seq ?_
 refine co_reg ?_
 refine pw h0 rfl (op_new (v := fun N => pt N 0) (T := 46) (cs := #[.int .i64 mx.d.k, .int .i64 mx.d.ep, .int .i64 mx.d.rq, .int .i64 mx.d.sr, .bool mx.d.fg, .int .u64 mx.d.at_, .int .u64 mx.d.la, .int .i64 mx.d.n, .int .i64 mx.d.m, .int .i64 mx.d.p, .int .i64 mx.d.e, .string mx.d.key, .string mx.d.to_, .int .i64 mx.d.cep, mx.mv, .int .u64 mx.d.cfl, .int .i64 mx.d.bc, .int .i64 mx.d.br, mx.bv, mx.ev, mx.sv, mx.pv]) (by kernel_rfl) (by kernel_rfl) (by kernel_rfl)) ?_; clear h0
 rintro _ w2 a1 ⟨N3, rfl, hN6, hz7, hk5, hg4⟩ h1
 have hz8 := hg4.size
 try dsimp only at h1
 refine pk0 (v := .bool false) h1 rfl fun a9 h9 => ?_; clear h1
 refine pl_nil ?_
 refine co_then ?_
 refine co_seq ?_
 refine co_seq ?_
 refine co_reg ?_
 refine pk0 (v := .agg #[.int .i64 0, .int .i64 0, .string (⟨#[]⟩), .string (⟨#[]⟩), .int .u64 0, .int .i64 0, .slice none 0 0]) h9 rfl fun a10 h10 => ?_; clear h9
 refine pk (v := .agg #[.int .i64 mx.d.k, .int .i64 mx.d.ep, .int .i64 mx.d.rq, .int .i64 mx.d.sr, .bool mx.d.fg, .int .u64 mx.d.at_, .int .u64 mx.d.la, .int .i64 mx.d.n, .int .i64 mx.d.m, .int .i64 mx.d.p, .int .i64 mx.d.e, .string mx.d.key, .string mx.d.to_, .int .i64 mx.d.cep, mx.mv, .int .u64 mx.d.cfl, .int .i64 mx.d.bc, .int .i64 mx.d.br, mx.bv, mx.ev, mx.sv, mx.pv]) h10 rfl (rn_loadN rfl rfl Try.underlying46 rfl (by kernel_rfl) hk5.all) fun a11 h11 => ?_; clear h10
 refine pk0 (v := .agg #[.int .i64 0, .int .i64 0, .int .i64 0, .int .i64 mx.d.k, .int .i64 mx.d.ep, .int .i64 mx.d.rq, .int .i64 mx.d.sr, .bool mx.d.fg, .int .u64 mx.d.at_, .int .u64 mx.d.la, .int .i64 mx.d.n, .int .i64 mx.d.m, .int .i64 mx.d.p, .int .i64 mx.d.e, .string mx.d.key, .string mx.d.to_, .int .i64 mx.d.cep, mx.mv, .int .u64 mx.d.cfl, .int .i64 mx.d.bc, .int .i64 mx.d.br, mx.bv, mx.ev, mx.sv, mx.pv]) h11 rfl fun a12 h12 => ?_; clear h11
 refine pw h12 rfl (op_new (v := fun N => .slice (some ⟨N, 0, none⟩) 1 1) (T := 48) (cs := #[.int .i64 0, .int .i64 0, .int .i64 0, .int .i64 mx.d.k, .int .i64 mx.d.ep, .int .i64 mx.d.rq, .int .i64 mx.d.sr, .bool mx.d.fg, .int .u64 mx.d.at_, .int .u64 mx.d.la, .int .i64 mx.d.n, .int .i64 mx.d.m, .int .i64 mx.d.p, .int .i64 mx.d.e, .string mx.d.key, .string mx.d.to_, .int .i64 mx.d.cep, mx.mv, .int .u64 mx.d.cfl, .int .i64 mx.d.bc, .int .i64 mx.d.br, mx.bv, mx.ev, mx.sv, mx.pv]) (by kernel_rfl) (by kernel_rfl) (by kernel_rfl)) ?_; clear h12
 rintro _ w14 a13 ⟨N15, rfl, hN18, hz19, hk17, hg16⟩ h13
 have hz20 := hg16.size
 try dsimp only at h13
 have hr23 := row_of_cells (enc := aactE) (sz := 25) ([(AActT.mk 0 0 0 mx)] : List AActT) hk17 (Nat.le_refl _) rfl rfl (by unfold maxLen; simp)
 have hB24 := hb_new hB0 hg4
 have hB25 := hb_new hB24 hg16
 refine pw h13 rfl (op_call (args := #[.agg #[.int .i64 0, .int .i64 0, .string (⟨#[]⟩), .string (⟨#[]⟩), .int .u64 0, .int .i64 0, .slice none 0 0], .slice (some ⟨N15, 0, none⟩) 1 1]) (R := fun res xw => ∃ b : Bool, res = .bool b ∧ Below w14.heap.size w14 xw) rfl rfl rfl (by kernel_rfl) (by kernel_rfl) (Try.call6 _ _) (few34_some (.slice (some ⟨N15, 0, none⟩) 1 1) ([(AActT.mk 0 0 0 mx)] : List AActT) w14 (row_sl hr23 aactE_len) (by intro z hz; simp only [List.mem_singleton] at hz; subst hz; exact ⟨hM.hm.below hB25, hM.hb.below hB25, hM.he.below hB25, hM.ht.below hB25, hM.hp.below hB25⟩)) (by rintro e x ⟨b, rfl, h⟩; exact ⟨_, rfl, b, rfl, h⟩)) ?_; clear h13
 rintro _ w22 a21 ⟨b27, rfl, hb26⟩ h21
 have hz28 := hb26.size
 have hB30 := hb_call hB25 hb26
 have hk31 := hk5.kept hg16 (by simp)
 have hk32 := hk31.below hb26
 cases hc29 : (b27)
 ·
  rw [hc29] at h21
  refine pk0 (v := .bool true) h21 rfl fun a33 h33 => ?_; clear h21
  refine pl_nil ?_
  refine co_then ?_
  refine co_true h33 rfl ?_
  refine co_seq ?_
  refine co_reg ?_
  refine pw h33 rfl (op_call (args := #[]) (R := fun res xw => res = .bool true ∧ Below w22.heap.size w22 xw) rfl rfl rfl (by kernel_rfl) (by kernel_rfl) (Try.call7 _ _) (awake34  w22 ) (by rintro e x ⟨rfl, hb36⟩; exact ⟨_, rfl, ⟨rfl, hb36⟩⟩)) ?_; clear h33
  rintro _ w35 a34 ⟨rfl, hb36⟩ h34
  have hz37 := hb36.size
  refine pk0 (v := .bool true) h34 rfl fun a38 h38 => ?_; clear h34
  refine pl_nil ?_
  refine co_then ?_
  refine wp_ret ?_
  refine co_thenR ?_
  refine co_ret1 h38 rfl rfl ?_
  have hB39 := hb_call hB30 hb36
  exact ⟨rfl, hB39⟩
 ·
  rw [hc29] at h21
  refine pk0 (v := .bool false) h21 rfl fun a40 h40 => ?_; clear h21
  refine pl_nil ?_
  refine co_then ?_
  refine co_false h40 rfl ?_
  refine wp_skip ?_
  refine co_then ?_
  refine co_seq ?_
  refine co_reg ?_
  refine pk0 (v := .pointer none) h40 rfl fun a41 h41 => ?_; clear h40
  refine pl_nil ?_
  refine co_then ?_
  refine co_seq ?_
  refine co_reg ?_
  refine pw h41 rfl (op_new (v := fun N => pt N 0) (T := 67) (cs := #[.nilIface, .int .i64 0, .int .i64 0, .bool false, .int .i64 0, .int .i64 0, .int .u64 0, .int .i64 0, .slice none 0 0]) (by kernel_rfl) (by kernel_rfl) (by kernel_rfl)) ?_; clear h41
  rintro _ w43 a42 ⟨N44, rfl, hN47, hz48, hk46, hg45⟩ h42
  have hr50 := row_kept_new hr23 (below_grown hb26)
  have ha49 := row_fresh hr50 hN47
  have hz51 := hg45.size
  try dsimp only at h42
  refine pl_nil ?_
  refine co_then ?_
  refine co_seq ?_
  refine co_reg ?_
  refine pk0 (v := .pointer none) h42 rfl fun a52 h52 => ?_; clear h42
  refine pk0 (v := .int .i64 n) h52 rfl fun a53 h53 => ?_; clear h52
  refine pk0 (v := .int .i64 n) h53 rfl fun a54 h54 => ?_; clear h53
  refine pw h54 rfl (op_call (args := #[.pointer none, .int .i64 n, .int .i64 n]) (R := fun res xw => res = .tuple #[.int .i64 (-1), .agg #[.int .i64 0, .int .i64 0, .int .i64 0, .int .i64 0, .bool false, .int .u64 0, .int .u64 0, .int .i64 0, .int .i64 0, .int .i64 0, .int .i64 0, .string (⟨#[]⟩), .string (⟨#[]⟩), .int .i64 0, .slice none 0 0, .int .u64 0, .int .i64 0, .int .i64 0, .slice none 0 0, .slice none 0 0, .slice none 0 0, .slice none 0 0]] ∧ Below w43.heap.size w43 xw) rfl rfl rfl (by kernel_rfl) (by kernel_rfl) (Try.call13 _ _) (aZNxN_any n n w43 ) (by rintro e x ⟨rfl, hb57⟩; exact ⟨_, rfl, ⟨rfl, hb57⟩⟩)) ?_; clear h54
  rintro _ w56 a55 ⟨rfl, hb57⟩ h55
  have hz58 := hb57.size
  refine pk0 (v := .tuple #[.int .i64 (-1), .agg #[.int .i64 0, .int .i64 0, .int .i64 0, .int .i64 0, .bool false, .int .u64 0, .int .u64 0, .int .i64 0, .int .i64 0, .int .i64 0, .int .i64 0, .string (⟨#[]⟩), .string (⟨#[]⟩), .int .i64 0, .slice none 0 0, .int .u64 0, .int .i64 0, .int .i64 0, .slice none 0 0, .slice none 0 0, .slice none 0 0, .slice none 0 0]]) h55 rfl fun a59 h59 => ?_; clear h55
  refine pk0 (v := .int .i64 (-1)) h59 rfl fun a60 h60 => ?_; clear h59
  refine pk0 (v := .agg #[.int .i64 0, .int .i64 0, .int .i64 0, .int .i64 0, .bool false, .int .u64 0, .int .u64 0, .int .i64 0, .int .i64 0, .int .i64 0, .int .i64 0, .string (⟨#[]⟩), .string (⟨#[]⟩), .int .i64 0, .slice none 0 0, .int .u64 0, .int .i64 0, .int .i64 0, .slice none 0 0, .slice none 0 0, .slice none 0 0, .slice none 0 0]) h60 rfl fun a61 h61 => ?_; clear h60
  refine pw h61 rfl (op_new (v := fun N => pt N 0) (T := 46) (cs := #[.int .i64 0, .int .i64 0, .int .i64 0, .int .i64 0, .bool false, .int .u64 0, .int .u64 0, .int .i64 0, .int .i64 0, .int .i64 0, .int .i64 0, .string (⟨#[]⟩), .string (⟨#[]⟩), .int .i64 0, .slice none 0 0, .int .u64 0, .int .i64 0, .int .i64 0, .slice none 0 0, .slice none 0 0, .slice none 0 0, .slice none 0 0]) (by kernel_rfl) (by kernel_rfl) (by kernel_rfl)) ?_; clear h61
  rintro _ w63 a62 ⟨N64, rfl, hN67, hz68, hk66, hg65⟩ h62
  have hr70 := row_kept_new hr50 hg45
  have hr71 := row_kept_new hr70 (below_grown hb57)
  have ha69 := row_fresh hr71 hN67
  have hz72 := hg65.size
  try dsimp only at h62
  refine pk0 (v := .int .i64 (-1)) h62 rfl fun a73 h73 => ?_; clear h62
  refine pwD h73 rfl (op_storeN rfl rfl rfl (all_cons rfl (all_cons rfl (all_cons rfl (all_cons rfl (all_cons rfl (all_cons rfl (all_cons rfl (all_cons rfl (all_cons rfl (all_cons rfl (all_cons rfl (all_cons rfl (all_cons rfl (all_cons rfl (all_cons rfl (all_cons rfl (all_cons rfl (all_cons rfl (all_cons rfl (all_cons rfl (all_cons rfl (all_cons rfl all_nil)))))))))))))))))))))) (by kernel_rfl) hk66 rfl) ?_; clear h73
  rintro _ w75 a74 ⟨hk76, hz77, hg78⟩ h74
  have hk76' : Blk w75 N64 46 #[.int .i64 0, .int .i64 0, .int .i64 0, .int .i64 0, .bool false, .int .u64 0, .int .u64 0, .int .i64 0, .int .i64 0, .int .i64 0, .int .i64 0, .string (⟨#[]⟩), .string (⟨#[]⟩), .int .i64 0, .slice none 0 0, .int .u64 0, .int .i64 0, .int .i64 0, .slice none 0 0, .slice none 0 0, .slice none 0 0, .slice none 0 0] := hk76; clear hk76
  have hz79 := hg78.size
  refine pl_nil ?_
  refine co_then ?_
  refine co_seq ?_
  refine co_reg ?_
  refine pk0 (v := .int .i64 n) h74 rfl fun a80 h80 => ?_; clear h74
  refine pk0 (v := .int .i64 n) h80 rfl fun a81 h81 => ?_; clear h80
  have hk84 := hk46.below hb57
  have hk85 := hk84.kept hg65 (by simp)
  have hk86 := hk85.kept hg78 (by simp; omega)
  refine pw h81 rfl (op_call (args := #[pt N44 0, .int .i64 n, .int .i64 n]) (R := fun res xw => res = .tuple #[.int .i64 (-1), .agg #[.int .i64 0, .int .i64 0, .int .i64 0, .int .i64 0, .bool false, .int .u64 0, .int .u64 0, .int .i64 0, .int .i64 0, .int .i64 0, .int .i64 0, .string (⟨#[]⟩), .string (⟨#[]⟩), .int .i64 0, .slice none 0 0, .int .u64 0, .int .i64 0, .int .i64 0, .slice none 0 0, .slice none 0 0, .slice none 0 0, .slice none 0 0]] ∧ Below w75.heap.size w75 xw) rfl rfl rfl (by kernel_rfl) (by kernel_rfl) (Try.call13 _ _) (aZNxZ_any N44 n n w75 hk86) (by rintro e x ⟨rfl, hb87⟩; exact ⟨_, rfl, ⟨rfl, hb87⟩⟩)) ?_; clear h81
  rintro _ w83 a82 ⟨rfl, hb87⟩ h82
  have hz88 := hb87.size
  refine pk0 (v := .tuple #[.int .i64 (-1), .agg #[.int .i64 0, .int .i64 0, .int .i64 0, .int .i64 0, .bool false, .int .u64 0, .int .u64 0, .int .i64 0, .int .i64 0, .int .i64 0, .int .i64 0, .string (⟨#[]⟩), .string (⟨#[]⟩), .int .i64 0, .slice none 0 0, .int .u64 0, .int .i64 0, .int .i64 0, .slice none 0 0, .slice none 0 0, .slice none 0 0, .slice none 0 0]]) h82 rfl fun a89 h89 => ?_; clear h82
  refine pk0 (v := .int .i64 (-1)) h89 rfl fun a90 h90 => ?_; clear h89
  refine pk0 (v := .agg #[.int .i64 0, .int .i64 0, .int .i64 0, .int .i64 0, .bool false, .int .u64 0, .int .u64 0, .int .i64 0, .int .i64 0, .int .i64 0, .int .i64 0, .string (⟨#[]⟩), .string (⟨#[]⟩), .int .i64 0, .slice none 0 0, .int .u64 0, .int .i64 0, .int .i64 0, .slice none 0 0, .slice none 0 0, .slice none 0 0, .slice none 0 0]) h90 rfl fun a91 h91 => ?_; clear h90
  refine pw h91 rfl (op_new (v := fun N => pt N 0) (T := 46) (cs := #[.int .i64 0, .int .i64 0, .int .i64 0, .int .i64 0, .bool false, .int .u64 0, .int .u64 0, .int .i64 0, .int .i64 0, .int .i64 0, .int .i64 0, .string (⟨#[]⟩), .string (⟨#[]⟩), .int .i64 0, .slice none 0 0, .int .u64 0, .int .i64 0, .int .i64 0, .slice none 0 0, .slice none 0 0, .slice none 0 0, .slice none 0 0]) (by kernel_rfl) (by kernel_rfl) (by kernel_rfl)) ?_; clear h91
  rintro _ w93 a92 ⟨N94, rfl, hN97, hz98, hk96, hg95⟩ h92
  have hr100 := row_kept_new hr71 hg65
  have hr101 := row_kept_at hr100 hg78 (ha69)
  have hr102 := row_kept_new hr101 (below_grown hb87)
  have ha99 := row_fresh hr102 hN97
  have hz103 := hg95.size
  try dsimp only at h92
  refine pk0 (v := .int .i64 (-1)) h92 rfl fun a104 h104 => ?_; clear h92
  refine pwD h104 rfl (op_storeN rfl rfl rfl (all_cons rfl (all_cons rfl (all_cons rfl (all_cons rfl (all_cons rfl (all_cons rfl (all_cons rfl (all_cons rfl (all_cons rfl (all_cons rfl (all_cons rfl (all_cons rfl (all_cons rfl (all_cons rfl (all_cons rfl (all_cons rfl (all_cons rfl (all_cons rfl (all_cons rfl (all_cons rfl (all_cons rfl (all_cons rfl all_nil)))))))))))))))))))))) (by kernel_rfl) hk96 rfl) ?_; clear h104
  rintro _ w106 a105 ⟨hk107, hz108, hg109⟩ h105
  have hk107' : Blk w106 N94 46 #[.int .i64 0, .int .i64 0, .int .i64 0, .int .i64 0, .bool false, .int .u64 0, .int .u64 0, .int .i64 0, .int .i64 0, .int .i64 0, .int .i64 0, .string (⟨#[]⟩), .string (⟨#[]⟩), .int .i64 0, .slice none 0 0, .int .u64 0, .int .i64 0, .int .i64 0, .slice none 0 0, .slice none 0 0, .slice none 0 0, .slice none 0 0] := hk107; clear hk107
  have hz110 := hg109.size
  refine pl_nil ?_
  refine co_then ?_
  refine co_seq ?_
  refine co_reg ?_
  refine pk0 (v := .pointer none) h105 rfl fun a111 h111 => ?_; clear h105
  refine pw h111 rfl (op_call (args := #[.pointer none]) (R := fun res xw => res = .tuple #[.agg #[.int .i64 0, .int .i64 0, .int .u64 0, .int .i64 0, .slice none 0 0], .bool false] ∧ Below w106.heap.size w106 xw) rfl rfl rfl (by kernel_rfl) (by kernel_rfl) (Try.call9 _ _) (aZDoN_any  w106 ) (by rintro e x ⟨rfl, hb114⟩; exact ⟨_, rfl, ⟨rfl, hb114⟩⟩)) ?_; clear h111
  rintro _ w113 a112 ⟨rfl, hb114⟩ h112
  have hz115 := hb114.size
  refine pk0 (v := .tuple #[.agg #[.int .i64 0, .int .i64 0, .int .u64 0, .int .i64 0, .slice none 0 0], .bool false]) h112 rfl fun a116 h116 => ?_; clear h112
  refine pk0 (v := .agg #[.int .i64 0, .int .i64 0, .int .u64 0, .int .i64 0, .slice none 0 0]) h116 rfl fun a117 h117 => ?_; clear h116
  refine pk0 (v := .bool false) h117 rfl fun a118 h118 => ?_; clear h117
  refine pw h118 rfl (op_new (v := fun N => pt N 0) (T := 35) (cs := #[.int .i64 0, .int .i64 0, .int .u64 0, .int .i64 0, .slice none 0 0]) (by kernel_rfl) (by kernel_rfl) (by kernel_rfl)) ?_; clear h118
  rintro _ w120 a119 ⟨N121, rfl, hN124, hz125, hk123, hg122⟩ h119
  have hr127 := row_kept_new hr102 hg95
  have hr128 := row_kept_at hr127 hg109 (ha99)
  have hr129 := row_kept_new hr128 (below_grown hb114)
  have ha126 := row_fresh hr129 hN124
  have hz130 := hg122.size
  try dsimp only at h119
  refine pwD h119 rfl (op_storeN rfl rfl rfl (all_cons rfl (all_cons rfl (all_cons rfl (all_cons rfl (all_cons rfl all_nil))))) (by kernel_rfl) hk123 rfl) ?_; clear h119
  rintro _ w132 a131 ⟨hk133, hz134, hg135⟩ h131
  have hk133' : Blk w132 N121 35 #[.int .i64 0, .int .i64 0, .int .u64 0, .int .i64 0, .slice none 0 0] := hk133; clear hk133
  have hz136 := hg135.size
  refine pk0 (v := .bool false) h131 rfl fun a137 h137 => ?_; clear h131
  refine pl_nil ?_
  refine co_then ?_
  refine co_seq ?_
  refine co_reg ?_
  have hk140 := hk86.below hb87
  have hk141 := hk140.kept hg95 (by simp)
  have hk142 := hk141.kept hg109 (by simp; omega)
  have hk143 := hk142.below hb114
  have hk144 := hk143.kept hg122 (by simp)
  have hk145 := hk144.kept hg135 (by simp; omega)
  refine pw h137 rfl (op_call (args := #[pt N44 0]) (R := fun res xw => res = .tuple #[.agg #[.int .i64 0, .int .i64 0, .int .u64 0, .int .i64 0, .slice none 0 0], .bool false] ∧ Below w132.heap.size w132 xw) rfl rfl rfl (by kernel_rfl) (by kernel_rfl) (Try.call9 _ _) (aZDoZ_any N44 w132 hk145) (by rintro e x ⟨rfl, hb146⟩; exact ⟨_, rfl, ⟨rfl, hb146⟩⟩)) ?_; clear h137
  rintro _ w139 a138 ⟨rfl, hb146⟩ h138
  have hz147 := hb146.size
  refine pk0 (v := .tuple #[.agg #[.int .i64 0, .int .i64 0, .int .u64 0, .int .i64 0, .slice none 0 0], .bool false]) h138 rfl fun a148 h148 => ?_; clear h138
  refine pk0 (v := .agg #[.int .i64 0, .int .i64 0, .int .u64 0, .int .i64 0, .slice none 0 0]) h148 rfl fun a149 h149 => ?_; clear h148
  refine pk0 (v := .bool false) h149 rfl fun a150 h150 => ?_; clear h149
  refine pw h150 rfl (op_new (v := fun N => pt N 0) (T := 35) (cs := #[.int .i64 0, .int .i64 0, .int .u64 0, .int .i64 0, .slice none 0 0]) (by kernel_rfl) (by kernel_rfl) (by kernel_rfl)) ?_; clear h150
  rintro _ w152 a151 ⟨N153, rfl, hN156, hz157, hk155, hg154⟩ h151
  have hr159 := row_kept_new hr129 hg122
  have hr160 := row_kept_at hr159 hg135 (ha126)
  have hr161 := row_kept_new hr160 (below_grown hb146)
  have ha158 := row_fresh hr161 hN156
  have hz162 := hg154.size
  try dsimp only at h151
  refine pwD h151 rfl (op_storeN rfl rfl rfl (all_cons rfl (all_cons rfl (all_cons rfl (all_cons rfl (all_cons rfl all_nil))))) (by kernel_rfl) hk155 rfl) ?_; clear h151
  rintro _ w164 a163 ⟨hk165, hz166, hg167⟩ h163
  have hk165' : Blk w164 N153 35 #[.int .i64 0, .int .i64 0, .int .u64 0, .int .i64 0, .slice none 0 0] := hk165; clear hk165
  have hz168 := hg167.size
  refine pk0 (v := .bool false) h163 rfl fun a169 h169 => ?_; clear h163
  refine pl_nil ?_
  refine co_then ?_
  refine co_seq ?_
  refine co_reg ?_
  refine pk0 (v := .int .i64 (-1)) h169 rfl fun a170 h170 => ?_; clear h169
  refine pk0 (v := .bool ((-1) == (-1))) h170 rfl fun a171 h171 => ?_; clear h170
  refine pk0 (v := .bool ((-1) == (-1))) h171 rfl fun a172 h172 => ?_; clear h171
  have hc173 : ((-1) == (-1)) = true := by first | (simp; done) | (simp; omega) | exact beq_false_of_ne (by omega) | exact beq_iff_eq.2 (by omega)
  rw [hc173] at h172; clear hc173
  refine pk0 (v := .int .i64 (-1)) h172 rfl fun a174 h174 => ?_; clear h172
  refine pk0 (v := .bool ((-1) == (-1))) h174 rfl fun a175 h175 => ?_; clear h174
  refine pk0 (v := .bool ((-1) == (-1))) h175 rfl fun a176 h176 => ?_; clear h175
  refine pk0 (v := .bool ((-1) == (-1))) h176 rfl fun a177 h177 => ?_; clear h176
  have hc178 : ((-1) == (-1)) = true := by first | (simp; done) | (simp; omega) | exact beq_false_of_ne (by omega) | exact beq_iff_eq.2 (by omega)
  rw [hc178] at h177; clear hc178
  refine pk0 (v := pt N64 0) h177 rfl fun a179 h179 => ?_; clear h177
  have hk180 := hk76'.below hb87
  have hk181 := hk180.kept hg95 (by simp)
  have hk182 := hk181.kept hg109 (by simp; omega)
  have hk183 := hk182.below hb114
  have hk184 := hk183.kept hg122 (by simp)
  have hk185 := hk184.kept hg135 (by simp; omega)
  have hk186 := hk185.below hb146
  have hk187 := hk186.kept hg154 (by simp)
  have hk188 := hk187.kept hg167 (by simp; omega)
  refine pk (v := .int .i64 0) h179 rfl (rn_load1 rfl rfl Try.isAgg3 (hk188.cell rfl)) fun a189 h189 => ?_; clear h179
  refine pk0 (v := .bool ((0 : Int) == 0)) h189 rfl fun a190 h190 => ?_; clear h189
  refine pk0 (v := .bool ((0 : Int) == 0)) h190 rfl fun a191 h191 => ?_; clear h190
  refine pk0 (v := .bool ((0 : Int) == 0)) h191 rfl fun a192 h192 => ?_; clear h191
  have hc193 : ((0 : Int) == 0) = true := by first | (simp; done) | (simp; omega) | exact beq_false_of_ne (by omega) | exact beq_iff_eq.2 (by omega)
  rw [hc193] at h192; clear hc193
  refine pk0 (v := pt N94 0) h192 rfl fun a194 h194 => ?_; clear h192
  have hk195 := hk107'.below hb114
  have hk196 := hk195.kept hg122 (by simp)
  have hk197 := hk196.kept hg135 (by simp; omega)
  have hk198 := hk197.below hb146
  have hk199 := hk198.kept hg154 (by simp)
  have hk200 := hk199.kept hg167 (by simp; omega)
  refine pk (v := .int .i64 0) h194 rfl (rn_load1 rfl rfl Try.isAgg3 (hk200.cell rfl)) fun a201 h201 => ?_; clear h194
  refine pk0 (v := .bool ((0 : Int) == 0)) h201 rfl fun a202 h202 => ?_; clear h201
  refine pk0 (v := .bool ((0 : Int) == 0)) h202 rfl fun a203 h203 => ?_; clear h202
  refine pk0 (v := .bool ((0 : Int) == 0)) h203 rfl fun a204 h204 => ?_; clear h203
  have hc205 : ((0 : Int) == 0) = true := by first | (simp; done) | (simp; omega) | exact beq_false_of_ne (by omega) | exact beq_iff_eq.2 (by omega)
  rw [hc205] at h204; clear hc205
  refine pk0 (v := .bool false) h204 rfl fun a206 h206 => ?_; clear h204
  refine pk0 (v := .bool true) h206 rfl fun a207 h207 => ?_; clear h206
  refine pk0 (v := .bool true) h207 rfl fun a208 h208 => ?_; clear h207
  refine pk0 (v := .bool true) h208 rfl fun a209 h209 => ?_; clear h208
  refine pk0 (v := .bool false) h209 rfl fun a210 h210 => ?_; clear h209
  refine pk0 (v := .bool true) h210 rfl fun a211 h211 => ?_; clear h210
  refine pk0 (v := .bool true) h211 rfl fun a212 h212 => ?_; clear h211
  refine pk0 (v := .bool true) h212 rfl fun a213 h213 => ?_; clear h212
  refine pk0 (v := .pointer none) h213 rfl fun a214 h214 => ?_; clear h213
  refine pk0 (v := .int .i64 n) h214 rfl fun a215 h215 => ?_; clear h214
  have hk216 := hk32.kept hg45 (by simp)
  have hk217 := hk216.below hb57
  have hk218 := hk217.kept hg65 (by simp)
  have hk219 := hk218.kept hg78 (by simp; omega)
  have hk220 := hk219.below hb87
  have hk221 := hk220.kept hg95 (by simp)
  have hk222 := hk221.kept hg109 (by simp; omega)
  have hk223 := hk222.below hb114
  have hk224 := hk223.kept hg122 (by simp)
  have hk225 := hk224.kept hg135 (by simp; omega)
  have hk226 := hk225.below hb146
  have hk227 := hk226.kept hg154 (by simp)
  have hk228 := hk227.kept hg167 (by simp; omega)
  refine pk (v := .agg #[.int .i64 mx.d.k, .int .i64 mx.d.ep, .int .i64 mx.d.rq, .int .i64 mx.d.sr, .bool mx.d.fg, .int .u64 mx.d.at_, .int .u64 mx.d.la, .int .i64 mx.d.n, .int .i64 mx.d.m, .int .i64 mx.d.p, .int .i64 mx.d.e, .string mx.d.key, .string mx.d.to_, .int .i64 mx.d.cep, mx.mv, .int .u64 mx.d.cfl, .int .i64 mx.d.bc, .int .i64 mx.d.br, mx.bv, mx.ev, mx.sv, mx.pv]) h215 rfl (rn_loadN rfl rfl Try.underlying46 rfl (by kernel_rfl) hk228.all) fun a229 h229 => ?_; clear h215
  refine pw h229 rfl (op_call (args := #[.pointer none, .int .i64 n, .agg #[.int .i64 mx.d.k, .int .i64 mx.d.ep, .int .i64 mx.d.rq, .int .i64 mx.d.sr, .bool mx.d.fg, .int .u64 mx.d.at_, .int .u64 mx.d.la, .int .i64 mx.d.n, .int .i64 mx.d.m, .int .i64 mx.d.p, .int .i64 mx.d.e, .string mx.d.key, .string mx.d.to_, .int .i64 mx.d.cep, mx.mv, .int .u64 mx.d.cfl, .int .i64 mx.d.bc, .int .i64 mx.d.br, mx.bv, mx.ev, mx.sv, mx.pv]]) (R := fun res xw => res = .bool false ∧ Below w164.heap.size w164 xw) rfl rfl rfl (by kernel_rfl) (by kernel_rfl) (Try.call11 _ _) (aZTaN_any n _ w164 ) (by rintro e x ⟨rfl, hb232⟩; exact ⟨_, rfl, ⟨rfl, hb232⟩⟩)) ?_; clear h229
  rintro _ w231 a230 ⟨rfl, hb232⟩ h230
  have hz233 := hb232.size
  refine pk0 (v := .bool true) h230 rfl fun a234 h234 => ?_; clear h230
  refine pk0 (v := .bool true) h234 rfl fun a235 h235 => ?_; clear h234
  refine pk0 (v := .bool true) h235 rfl fun a236 h236 => ?_; clear h235
  refine pk0 (v := .int .i64 n) h236 rfl fun a237 h237 => ?_; clear h236
  have hk238 := hk228.below hb232
  refine pk (v := .agg #[.int .i64 mx.d.k, .int .i64 mx.d.ep, .int .i64 mx.d.rq, .int .i64 mx.d.sr, .bool mx.d.fg, .int .u64 mx.d.at_, .int .u64 mx.d.la, .int .i64 mx.d.n, .int .i64 mx.d.m, .int .i64 mx.d.p, .int .i64 mx.d.e, .string mx.d.key, .string mx.d.to_, .int .i64 mx.d.cep, mx.mv, .int .u64 mx.d.cfl, .int .i64 mx.d.bc, .int .i64 mx.d.br, mx.bv, mx.ev, mx.sv, mx.pv]) h237 rfl (rn_loadN rfl rfl Try.underlying46 rfl (by kernel_rfl) hk238.all) fun a239 h239 => ?_; clear h237
  have hk242 := hk145.below hb146
  have hk243 := hk242.kept hg154 (by simp)
  have hk244 := hk243.kept hg167 (by simp; omega)
  have hk245 := hk244.below hb232
  refine pw h239 rfl (op_call (args := #[pt N44 0, .int .i64 n, .agg #[.int .i64 mx.d.k, .int .i64 mx.d.ep, .int .i64 mx.d.rq, .int .i64 mx.d.sr, .bool mx.d.fg, .int .u64 mx.d.at_, .int .u64 mx.d.la, .int .i64 mx.d.n, .int .i64 mx.d.m, .int .i64 mx.d.p, .int .i64 mx.d.e, .string mx.d.key, .string mx.d.to_, .int .i64 mx.d.cep, mx.mv, .int .u64 mx.d.cfl, .int .i64 mx.d.bc, .int .i64 mx.d.br, mx.bv, mx.ev, mx.sv, mx.pv]]) (R := fun res xw => res = .bool false ∧ Below w231.heap.size w231 xw) rfl rfl rfl (by kernel_rfl) (by kernel_rfl) (Try.call11 _ _) (aZTaZ_any N44 n _ w231 hk245) (by rintro e x ⟨rfl, hb246⟩; exact ⟨_, rfl, ⟨rfl, hb246⟩⟩)) ?_; clear h239
  rintro _ w241 a240 ⟨rfl, hb246⟩ h240
  have hz247 := hb246.size
  refine pk0 (v := .bool true) h240 rfl fun a248 h248 => ?_; clear h240
  refine pk0 (v := .bool true) h248 rfl fun a249 h249 => ?_; clear h248
  refine pk0 (v := .bool true) h249 rfl fun a250 h250 => ?_; clear h249
  refine pk0 (v := .pointer none) h250 rfl fun a251 h251 => ?_; clear h250
  refine pw h251 rfl (op_call (args := #[.pointer none]) (R := fun res xw => res = .bool false ∧ Below w241.heap.size w241 xw) rfl rfl rfl (by kernel_rfl) (by kernel_rfl) (Try.call10 _ _) (aZTiN_any  w241 ) (by rintro e x ⟨rfl, hb254⟩; exact ⟨_, rfl, ⟨rfl, hb254⟩⟩)) ?_; clear h251
  rintro _ w253 a252 ⟨rfl, hb254⟩ h252
  have hz255 := hb254.size
  refine pk0 (v := .bool true) h252 rfl fun a256 h256 => ?_; clear h252
  refine pk0 (v := .bool true) h256 rfl fun a257 h257 => ?_; clear h256
  refine pk0 (v := .bool true) h257 rfl fun a258 h258 => ?_; clear h257
  have hk261 := hk245.below hb246
  have hk262 := hk261.below hb254
  refine pw h258 rfl (op_call (args := #[pt N44 0]) (R := fun res xw => res = .bool false ∧ Below w253.heap.size w253 xw) rfl rfl rfl (by kernel_rfl) (by kernel_rfl) (Try.call10 _ _) (aZTiZ_any N44 w253 hk262) (by rintro e x ⟨rfl, hb263⟩; exact ⟨_, rfl, ⟨rfl, hb263⟩⟩)) ?_; clear h258
  rintro _ w260 a259 ⟨rfl, hb263⟩ h259
  have hz264 := hb263.size
  refine pk0 (v := .bool true) h259 rfl fun a265 h265 => ?_; clear h259
  refine pk0 (v := .bool true) h265 rfl fun a266 h266 => ?_; clear h265
  refine pk0 (v := .bool true) h266 rfl fun a267 h267 => ?_; clear h266
  refine pk0 (v := .pointer none) h267 rfl fun a268 h268 => ?_; clear h267
  refine pw h268 rfl (op_call (args := #[.pointer none]) (R := fun res xw => res = .bool false ∧ Below w260.heap.size w260 xw) rfl rfl rfl (by kernel_rfl) (by kernel_rfl) (Try.call19 _ _) (aZWrN_any  w260 ) (by rintro e x ⟨rfl, hb271⟩; exact ⟨_, rfl, ⟨rfl, hb271⟩⟩)) ?_; clear h268
  rintro _ w270 a269 ⟨rfl, hb271⟩ h269
  have hz272 := hb271.size
  refine pk0 (v := .bool true) h269 rfl fun a273 h273 => ?_; clear h269
  refine pk0 (v := .bool true) h273 rfl fun a274 h274 => ?_; clear h273
  refine pk0 (v := .bool true) h274 rfl fun a275 h275 => ?_; clear h274
  have hk278 := hk262.below hb263
  have hk279 := hk278.below hb271
  refine pw h275 rfl (op_call (args := #[pt N44 0]) (R := fun res xw => res = .bool false ∧ Below w270.heap.size w270 xw) rfl rfl rfl (by kernel_rfl) (by kernel_rfl) (Try.call19 _ _) (aZWrZ_any N44 w270 hk279) (by rintro e x ⟨rfl, hb280⟩; exact ⟨_, rfl, ⟨rfl, hb280⟩⟩)) ?_; clear h275
  rintro _ w277 a276 ⟨rfl, hb280⟩ h276
  have hz281 := hb280.size
  refine pk0 (v := .bool true) h276 rfl fun a282 h282 => ?_; clear h276
  refine pk0 (v := .bool true) h282 rfl fun a283 h283 => ?_; clear h282
  refine pk0 (v := .bool true) h283 rfl fun a284 h284 => ?_; clear h283
  refine pw h284 rfl (op_call (args := #[]) (R := fun res xw => res = .bool true ∧ Below w277.heap.size w277 xw) rfl rfl rfl (by kernel_rfl) (by kernel_rfl) (Try.call7 _ _) (awake34  w277 ) (by rintro e x ⟨rfl, hb287⟩; exact ⟨_, rfl, ⟨rfl, hb287⟩⟩)) ?_; clear h284
  rintro _ w286 a285 ⟨rfl, hb287⟩ h285
  have hz288 := hb287.size
  refine pk0 (v := .bool true) h285 rfl fun a289 h289 => ?_; clear h285
  refine pk0 (v := .bool true) h289 rfl fun a290 h290 => ?_; clear h289
  refine pl_nil ?_
  refine co_then ?_
  refine wp_ret ?_
  refine co_ret1 h290 rfl rfl ?_
  have hB291 := hb_new hB30 hg45
  have hB292 := hb_call hB291 hb57
  have hB293 := hb_new hB292 hg65
  have hB294 := hb_at hB293 hg78 (by omega)
  have hB295 := hb_call hB294 hb87
  have hB296 := hb_new hB295 hg95
  have hB297 := hb_at hB296 hg109 (by omega)
  have hB298 := hb_call hB297 hb114
  have hB299 := hb_new hB298 hg122
  have hB300 := hb_at hB299 hg135 (by omega)
  have hB301 := hb_call hB300 hb146
  have hB302 := hb_new hB301 hg154
  have hB303 := hb_at hB302 hg167 (by omega)
  have hB304 := hb_call hB303 hb232
  have hB305 := hb_call hB304 hb246
  have hB306 := hb_call hB305 hb254
  have hB307 := hb_call hB306 hb263
  have hB308 := hb_call hB307 hb271
  have hB309 := hb_call hB308 hb280
  have hB310 := hb_call hB309 hb287
  exact ⟨rfl, hB310⟩
end Go.Proofs.Ytaoibbakflacoaa

/- catenalaw34: AsksZero. Conditions: none. -/
namespace Go.Proofs.Ytaoibbakflacoaa
open Go.RowKit Go.PlainAid
theorem asksZero_c (n : Int) (mx : MsgX) (w : World) (g : MsgOk w mx) : Calls Try.prog 5 #[.int .i64 n, msgV mx] w fun e w' => e = .returned (.bool true) ∧ Below w.heap.size w w' :=
  asksZero_law n mx w g.hm g.hb g.he g.ht g.hp g
end Go.Proofs.Ytaoibbakflacoaa
