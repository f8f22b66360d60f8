/- Put together: MessJMbq, PexTMbq, ItemBMbq, MessKMbq, MessLMbq, MessMMbq, MessNMbq, ConfTMbq, MessWMbq, MessXMbq, MessYMbq, MessOMbq, MessSMbq, MessTMbq. Conditions: as each says. -/
import Derived.Test.YtcbagajjgbfgdaaMbs3
import Derived.Test.YtcbagajjgbfgdaaMbs1
import Derived.Test.YtcbagajjgbfgdaaMbs2
/- Package mess: read, where a part is bytes of its own, stamps, pairs. Conditions: none. -/
namespace Go.Proofs.Ytcbagajjgbfgdaa
open Go.RowKit Go.PlainAid
set_option linter.unusedVariables false
set_option linter.unusedSimpArgs false

set_option maxRecDepth 100000 in
theorem mRead67_any (b : Nat) (s : ByteArray) (ra : Int) (N : Nat) (ce0 : Int) (ce1 : Int) (ce2 : Int) (ce3 : Int) (ce4 : Bool) (ce5 : Int) (ce6 : Int) (ce7 : Int) (ce8 : Int) (ce9 : Int) (ce10 : Int) (ce11 : ByteArray) (ce12 : ByteArray) (ce13 : Int) (ce14 : Value) (ce15 : Int) (ce16 : Int) (ce17 : Int) (ce18 : Value) (ce19 : Value) (ce20 : Value) (ce21 : Value) (tx : ByteArray) (ep : Int) (ms : List MemT) (fl : Int) (za : Int) (ze : Int) (x : Int) (r : Int) (w : World) (hsz : s.size ≤ 9223372036854775807) (ho : OR b s ra 0 w) (hN : Blk w N 34 #[.int .i64 ce0, .int .i64 ce1, .int .i64 ce2, .int .i64 ce3, .bool ce4, .int .u64 ce5, .int .u64 ce6, .int .i64 ce7, .int .i64 ce8, .int .i64 ce9, .int .i64 ce10, .string ce11, .string ce12, .int .i64 ce13, ce14, .int .u64 ce15, .int .i64 ce16, .int .i64 ce17, ce18, ce19, ce20, ce21]) (hbN : b ≠ N) (hot : textR s ra 0 65536 = (tx, za, ze)) (hof : ofC tx = ((ep, ms, fl), x)) (hr : (ze ≠ 0 → r = ze) ∧ (ze = 0 → r = x)) :
    Calls Try.prog 21 #[pt b 0, pt N 0, .int .i32 67] w fun e w' => ∃ (u : Value), e = .returned (.int .i64 r) ∧ w'.ownsRow w.heap.size 102 2 u ms.length (ms.flatMap memE) ∧ Blk w' N 34 #[.int .i64 ce0, .int .i64 ce1, .int .i64 ce2, .int .i64 ce3, .bool ce4, .int .u64 ce5, .int .u64 ce6, .int .i64 ce7, .int .i64 ce8, .int .i64 ce9, .int .i64 ce10, .string ce11, .string ce12, .int .i64 ep, u, .int .u64 fl, .int .i64 ce16, .int .i64 ce17, ce18, ce19, ce20, ce21] ∧ OR b s za ze w' ∧ But (fun q => q = b ∨ q = N) w w' := by
 have hB0 := But.refl (fun q => q = b ∨ q = N) w;have hl_ho := ho.lt;have hl_hN := hN.lt;refine co_enter (n := 119) Try.func21 rfl rfl rfl [(0, pt b 0), (1, pt N 0), (2, .int .i32 67)] rfl (fun a g => ?_);refine q2 ?_;refine pk0 (v := .int .i64 0) g rfl fun _ g => q3 ?_;refine pk0 (v := .int .i64 1073741824) g rfl fun _ g => ?_;refine pk0 (v := .int .i64 0) g rfl fun _ g => q6 ?_;refine pk0 (v := .int .i32 67) g rfl fun _ g => q1 <| wp_block <| co_seq <| wp_block <| co_seq <| wp_block <| co_seq <| wp_block <| co_seq <| wp_block <| co_seq <| wp_block <| co_seq <| wp_block <| co_seq <| wp_block <| co_seq <| wp_block <| co_seq <| wp_block <| co_seq <| wp_block <| co_seq <| q9 ?_;refine pk0 (v := .bool ((67 : Int) == 102)) g rfl fun _ g => ?_;refine pk0 (v := .bool ((67 : Int) == 102)) g rfl fun _ g => q1 ?_;have hc7 : ((67 : Int) == 102) = false := by first | (simp; done) | (simp; omega) | exact beq_false_of_ne (by omega) | exact beq_iff_eq.2 (by omega)
 rw [hc7] at g;refine co_false g rfl <| q0 <| co_seq <| q9 ?_;refine pk0 (v := .bool ((67 : Int) == 97)) g rfl fun _ g => ?_;refine pk0 (v := .bool ((67 : Int) == 97)) g rfl fun _ g => q1 ?_;have hc10 : ((67 : Int) == 97) = false := by first | (simp; done) | (simp; omega) | exact beq_false_of_ne (by omega) | exact beq_iff_eq.2 (by omega)
 rw [hc10] at g;refine co_false g rfl <| co_reg ?_;refine pk0 (v := .bool ((67 : Int) == 108)) g rfl fun _ g => ?_;refine pk0 (v := .bool ((67 : Int) == 108)) g rfl fun _ g => q1 ?_;have hc13 : ((67 : Int) == 108) = false := by first | (simp; done) | (simp; omega) | exact beq_false_of_ne (by omega) | exact beq_iff_eq.2 (by omega)
 rw [hc13] at g;refine co_false g rfl <| q0 <| co_seq <| q9 ?_;refine pk0 (v := .bool ((67 : Int) == 107)) g rfl fun _ g => ?_;refine pk0 (v := .bool ((67 : Int) == 107)) g rfl fun _ g => q1 ?_;have hc16 : ((67 : Int) == 107) = false := by first | (simp; done) | (simp; omega) | exact beq_false_of_ne (by omega) | exact beq_iff_eq.2 (by omega)
 rw [hc16] at g;refine co_false g rfl <| co_reg ?_;refine pk0 (v := .bool ((67 : Int) == 116)) g rfl fun _ g => ?_;refine pk0 (v := .bool ((67 : Int) == 116)) g rfl fun _ g => q1 ?_;have hc19 : ((67 : Int) == 116) = false := by first | (simp; done) | (simp; omega) | exact beq_false_of_ne (by omega) | exact beq_iff_eq.2 (by omega)
 rw [hc19] at g;refine co_false g rfl <| q8 ?_;refine pk0 (v := .bool ((67 : Int) == 67)) g rfl fun _ g => ?_;refine pk0 (v := .bool ((67 : Int) == 67)) g rfl fun _ g => q1 ?_;have hc22 : ((67 : Int) == 67) = true := by first | (simp; done) | (simp; omega) | exact beq_false_of_ne (by omega) | exact beq_iff_eq.2 (by omega)
 rw [hc22] at g;refine co_true g rfl <| wp_exit <| co_thenX <| co_thenX ?_;refine co_blockY (by decide) ?_;refine co_thenX ?_;refine co_blockY (by decide) ?_;refine co_thenX ?_;refine co_blockY (by decide) ?_;refine co_thenX <| qx <| q2 ?_;refine pk0 (v := pt N 0) g rfl fun _ g => ?_;refine pk0 (v := pt b 0) g rfl fun _ g => ?_;refine pw g rfl (op_call (args := #[pt b 0, .func (.func 50) #[] #[]]) (R := fun res xw => ∃ u : Value, res = .tuple #[.agg #[.int .i64 ep, u, .int .u64 fl], .int .i64 x] ∧ xw.ownsRow w.heap.size 102 2 u ms.length (ms.flatMap memE) ∧ OR b s za ze xw ∧ But (fun q => q = b) w xw) rfl rfl rfl (by kernel_rfl) (by kernel_rfl) (Try.call49 _ _) (mWholeC_any b s ra 0 tx ep ms fl za ze x w (by first | omega | (simp; done) | (simp; omega)) ho hot hof) (by rintro e x ⟨u, rfl, hq28, hq29, hb30⟩; exact ⟨_, rfl, ⟨u, rfl, hq28, hq29, hb30⟩⟩)) ?_;rintro _ w26 a25 ⟨u27, rfl, hq28, hq29, hb30⟩ g;have hz31 := hb30.size;have hl32 := sl_len (row_sl hq28 memE_len);have hl33 := hq29.lt;refine pk0 (v := .tuple #[.agg #[.int .i64 ep, u27, .int .u64 fl], .int .i64 x]) g rfl fun _ g => ?_;refine pk0 (v := .agg #[.int .i64 ep, u27, .int .u64 fl]) g rfl fun _ g => ?_;refine pk0 (v := .int .i64 x) g rfl fun _ g => ?_;refine pk0 (v := pt N 0) g rfl fun _ g => ?_;refine pk0 (v := pt N 13) g rfl fun _ g => ?_;have hk44 := hN.but hb30 (by first | omega | (simp; omega));refine pwD g rfl (op_storePart (k := 13) (cs' := #[.int .i64 ce0, .int .i64 ce1, .int .i64 ce2, .int .i64 ce3, .bool ce4, .int .u64 ce5, .int .u64 ce6, .int .i64 ce7, .int .i64 ce8, .int .i64 ce9, .int .i64 ce10, .string ce11, .string ce12, .int .i64 ep, u27, .int .u64 fl, .int .i64 ce16, .int .i64 ce17, ce18, ce19, ce20, ce21]) rfl rfl rfl (all_cons rfl (all_cons (row_one hq28) (all_cons rfl all_nil))) (by kernel_rfl) hk44 rfl rfl) ?_;rintro _ w40 a39 ⟨hk41, hz42, hg43⟩ g;have hk41' : Blk w40 N 34 #[.int .i64 ce0, .int .i64 ce1, .int .i64 ce2, .int .i64 ce3, .bool ce4, .int .u64 ce5, .int .u64 ce6, .int .i64 ce7, .int .i64 ce8, .int .i64 ce9, .int .i64 ce10, .string ce11, .string ce12, .int .i64 ep, u27, .int .u64 fl, .int .i64 ce16, .int .i64 ce17, ce18, ce19, ce20, ce21] := hk41;have hz45 := hg43.size;refine pk0 (v := .int .i64 x) g rfl fun _ g => q1 <| wp_exit ?_;refine co_blockY (by decide) ?_;refine co_thenX ?_;refine co_blockY (by decide) ?_;refine co_thenX ?_;refine co_blockY (by decide) ?_;refine co_thenX ?_;refine co_blockY (by decide) ?_;refine co_thenX ?_;refine co_blockY (by decide) ?_;refine co_thenX ?_;refine co_blockY (by decide) ?_;refine co_thenX <| qx <| q9 ?_;refine pk0 (v := pt b 0) g rfl fun _ g => ?_;have ho50 := hq29.at (by omega) hg43;refine pw g rfl (op_call (args := #[pt b 0]) (R := fun res xw => res = .int .i64 ze ∧ w40 = xw) rfl rfl rfl (by kernel_rfl) (by kernel_rfl) (Try.call19 _ _) (or_err b s za ze w40 ho50) (by rintro q x ⟨rfl, rfl⟩; exact ⟨_, rfl, rfl, rfl⟩)) ?_;rintro _ _ a48 ⟨rfl, rfl⟩ g;refine pk0 (v := .int .i64 ze) g rfl fun _ g => q3 ?_;refine pk0 (v := .int .i64 ze) g rfl fun _ g => ?_;refine pk0 (v := .bool (ze != 0)) g rfl fun _ g => q1 ?_;have hB55 := fb_foot hB0 hb30 (fun i hlt hS => by (try simp at hS); first | omega | (simp; omega) | simp_all);have hB56 := fb_at hB55 hg43 (fun hlt => by first | (exfalso; omega) | (simp; done) | simp_all);cases hc54 : (ze != 0)
 ·
  rw [hc54] at g;have hp57 : ¬ (ze ≠ 0) := by first | simpa using hc54 | simpa [and_assoc] using hc54
  refine co_false g rfl <| q7 ?_;refine pk0 (v := .int .i64 x) g rfl fun _ g => ?_;refine pk0 (v := .int .i64 x) g rfl fun _ g => q4 ?_;refine co_ret1 g rfl rfl ?_;have hr60 := row_kept_at hq28 hg43 (row_ne_lt hq28 (by omega));exact ⟨_, ret_int (by omega), (row_lows hr60 (by omega)), hk41', ho50, hB56⟩
 rw [hc54] at g;have hp61 : ze ≠ 0 := by first | simpa using hc54 | simpa [and_assoc] using hc54
 refine co_true g rfl <| q2 ?_;refine pk0 (v := .int .i64 ze) g rfl fun _ g => ?_;refine pk0 (v := .int .i64 ze) g rfl fun _ g => q5 ?_;refine co_ret1 g rfl rfl ?_;have hr64 := row_kept_at hq28 hg43 (row_ne_lt hq28 (by omega));exact ⟨_, ret_int (by omega), (row_lows hr64 (by omega)), hk41', ho50, hB56⟩
set_option maxRecDepth 100000 in
theorem mRead66_any (b : Nat) (s : ByteArray) (ra : Int) (N : Nat) (ce0 : Int) (ce1 : Int) (ce2 : Int) (ce3 : Int) (ce4 : Bool) (ce5 : Int) (ce6 : Int) (ce7 : Int) (ce8 : Int) (ce9 : Int) (ce10 : Int) (ce11 : ByteArray) (ce12 : ByteArray) (ce13 : Int) (ce14 : Value) (ce15 : Int) (ce16 : Int) (ce17 : Int) (ce18 : Value) (ce19 : Value) (ce20 : Value) (ce21 : Value) (tx : ByteArray) (c : Int) (q : Int) (l : List OpT) (za : Int) (ze : Int) (x : Int) (r : Int) (w : World) (hsz : s.size ≤ 9223372036854775807) (ho : OR b s ra 0 w) (hN : Blk w N 34 #[.int .i64 ce0, .int .i64 ce1, .int .i64 ce2, .int .i64 ce3, .bool ce4, .int .u64 ce5, .int .u64 ce6, .int .i64 ce7, .int .i64 ce8, .int .i64 ce9, .int .i64 ce10, .string ce11, .string ce12, .int .i64 ce13, ce14, .int .u64 ce15, .int .i64 ce16, .int .i64 ce17, ce18, ce19, ce20, ce21]) (hbN : b ≠ N) (hot : textR s ra 0 65536 = (tx, za, ze)) (hof : ofB tx = ((c, q, l), x)) (hr : (ze ≠ 0 → r = ze) ∧ (ze = 0 → r = x)) :
    Calls Try.prog 21 #[pt b 0, pt N 0, .int .i32 66] w fun e w' => ∃ (u : Value), e = .returned (.int .i64 r) ∧ w'.ownsRow w.heap.size 115 3 u l.length (l.flatMap opE) ∧ Blk w' N 34 #[.int .i64 ce0, .int .i64 ce1, .int .i64 ce2, .int .i64 ce3, .bool ce4, .int .u64 ce5, .int .u64 ce6, .int .i64 ce7, .int .i64 ce8, .int .i64 ce9, .int .i64 ce10, .string ce11, .string ce12, .int .i64 ce13, ce14, .int .u64 ce15, .int .i64 c, .int .i64 q, u, ce19, ce20, ce21] ∧ OR b s za ze w' ∧ But (fun q => q = b ∨ q = N) w w' := by
 have hB0 := But.refl (fun q => q = b ∨ q = N) w;have hl_ho := ho.lt;have hl_hN := hN.lt;refine co_enter (n := 119) Try.func21 rfl rfl rfl [(0, pt b 0), (1, pt N 0), (2, .int .i32 66)] rfl (fun a g => ?_);refine q2 ?_;refine pk0 (v := .int .i64 0) g rfl fun _ g => q3 ?_;refine pk0 (v := .int .i64 1073741824) g rfl fun _ g => ?_;refine pk0 (v := .int .i64 0) g rfl fun _ g => q6 ?_;refine pk0 (v := .int .i32 66) g rfl fun _ g => q1 <| wp_block <| co_seq <| wp_block <| co_seq <| wp_block <| co_seq <| wp_block <| co_seq <| wp_block <| co_seq <| wp_block <| co_seq <| wp_block <| co_seq <| wp_block <| co_seq <| wp_block <| co_seq <| wp_block <| co_seq <| wp_block <| co_seq <| q9 ?_;refine pk0 (v := .bool ((66 : Int) == 102)) g rfl fun _ g => ?_;refine pk0 (v := .bool ((66 : Int) == 102)) g rfl fun _ g => q1 ?_;have hc7 : ((66 : Int) == 102) = false := by first | (simp; done) | (simp; omega) | exact beq_false_of_ne (by omega) | exact beq_iff_eq.2 (by omega)
 rw [hc7] at g;refine co_false g rfl <| q0 <| co_seq <| q9 ?_;refine pk0 (v := .bool ((66 : Int) == 97)) g rfl fun _ g => ?_;refine pk0 (v := .bool ((66 : Int) == 97)) g rfl fun _ g => q1 ?_;have hc10 : ((66 : Int) == 97) = false := by first | (simp; done) | (simp; omega) | exact beq_false_of_ne (by omega) | exact beq_iff_eq.2 (by omega)
 rw [hc10] at g;refine co_false g rfl <| co_reg ?_;refine pk0 (v := .bool ((66 : Int) == 108)) g rfl fun _ g => ?_;refine pk0 (v := .bool ((66 : Int) == 108)) g rfl fun _ g => q1 ?_;have hc13 : ((66 : Int) == 108) = false := by first | (simp; done) | (simp; omega) | exact beq_false_of_ne (by omega) | exact beq_iff_eq.2 (by omega)
 rw [hc13] at g;refine co_false g rfl <| q0 <| co_seq <| q9 ?_;refine pk0 (v := .bool ((66 : Int) == 107)) g rfl fun _ g => ?_;refine pk0 (v := .bool ((66 : Int) == 107)) g rfl fun _ g => q1 ?_;have hc16 : ((66 : Int) == 107) = false := by first | (simp; done) | (simp; omega) | exact beq_false_of_ne (by omega) | exact beq_iff_eq.2 (by omega)
 rw [hc16] at g;refine co_false g rfl <| co_reg ?_;refine pk0 (v := .bool ((66 : Int) == 116)) g rfl fun _ g => ?_;refine pk0 (v := .bool ((66 : Int) == 116)) g rfl fun _ g => q1 ?_;have hc19 : ((66 : Int) == 116) = false := by first | (simp; done) | (simp; omega) | exact beq_false_of_ne (by omega) | exact beq_iff_eq.2 (by omega)
 rw [hc19] at g;refine co_false g rfl <| q8 ?_;refine pk0 (v := .bool ((66 : Int) == 67)) g rfl fun _ g => ?_;refine pk0 (v := .bool ((66 : Int) == 67)) g rfl fun _ g => q1 ?_;have hc22 : ((66 : Int) == 67) = false := by first | (simp; done) | (simp; omega) | exact beq_false_of_ne (by omega) | exact beq_iff_eq.2 (by omega)
 rw [hc22] at g;refine co_false g rfl <| q8 ?_;refine pk0 (v := .bool ((66 : Int) == 66)) g rfl fun _ g => ?_;refine pk0 (v := .bool ((66 : Int) == 66)) g rfl fun _ g => q1 ?_;have hc25 : ((66 : Int) == 66) = true := by first | (simp; done) | (simp; omega) | exact beq_false_of_ne (by omega) | exact beq_iff_eq.2 (by omega)
 rw [hc25] at g;refine co_true g rfl <| wp_exit <| co_thenX <| co_thenX ?_;refine co_blockY (by decide) ?_;refine co_thenX ?_;refine co_blockY (by decide) ?_;refine co_thenX ?_;refine co_blockY (by decide) ?_;refine co_thenX ?_;refine co_blockY (by decide) ?_;refine co_thenX <| qx <| q2 ?_;refine pk0 (v := pt N 0) g rfl fun _ g => ?_;refine pk0 (v := pt b 0) g rfl fun _ g => ?_;refine pw g rfl (op_call (args := #[pt b 0, .func (.func 52) #[] #[]]) (R := fun res xw => ∃ u : Value, res = .tuple #[.agg #[.int .i64 c, .int .i64 q, u], .int .i64 x] ∧ xw.ownsRow w.heap.size 115 3 u l.length (l.flatMap opE) ∧ OR b s za ze xw ∧ But (fun q => q = b) w xw) rfl rfl rfl (by kernel_rfl) (by kernel_rfl) (Try.call51 _ _) (mWholeB_any b s ra 0 tx c q l za ze x w (by first | omega | (simp; done) | (simp; omega)) ho hot hof) (by rintro e x ⟨u, rfl, hq31, hq32, hb33⟩; exact ⟨_, rfl, ⟨u, rfl, hq31, hq32, hb33⟩⟩)) ?_;rintro _ w29 a28 ⟨u30, rfl, hq31, hq32, hb33⟩ g;have hz34 := hb33.size;have hl35 := sl_len (row_sl hq31 opE_len);have hl36 := hq32.lt;refine pk0 (v := .tuple #[.agg #[.int .i64 c, .int .i64 q, u30], .int .i64 x]) g rfl fun _ g => ?_;refine pk0 (v := .agg #[.int .i64 c, .int .i64 q, u30]) g rfl fun _ g => ?_;refine pk0 (v := .int .i64 x) g rfl fun _ g => ?_;refine pk0 (v := pt N 0) g rfl fun _ g => ?_;refine pk0 (v := pt N 16) g rfl fun _ g => ?_;have hk47 := hN.but hb33 (by first | omega | (simp; omega));refine pwD g rfl (op_storePart (k := 16) (cs' := #[.int .i64 ce0, .int .i64 ce1, .int .i64 ce2, .int .i64 ce3, .bool ce4, .int .u64 ce5, .int .u64 ce6, .int .i64 ce7, .int .i64 ce8, .int .i64 ce9, .int .i64 ce10, .string ce11, .string ce12, .int .i64 ce13, ce14, .int .u64 ce15, .int .i64 c, .int .i64 q, u30, ce19, ce20, ce21]) rfl rfl rfl (all_cons rfl (all_cons rfl (all_cons (row_one hq31) all_nil))) (by kernel_rfl) hk47 rfl rfl) ?_;rintro _ w43 a42 ⟨hk44, hz45, hg46⟩ g;have hk44' : Blk w43 N 34 #[.int .i64 ce0, .int .i64 ce1, .int .i64 ce2, .int .i64 ce3, .bool ce4, .int .u64 ce5, .int .u64 ce6, .int .i64 ce7, .int .i64 ce8, .int .i64 ce9, .int .i64 ce10, .string ce11, .string ce12, .int .i64 ce13, ce14, .int .u64 ce15, .int .i64 c, .int .i64 q, u30, ce19, ce20, ce21] := hk44;have hz48 := hg46.size;refine pk0 (v := .int .i64 x) g rfl fun _ g => q1 <| wp_exit ?_;refine co_blockY (by decide) ?_;refine co_thenX ?_;refine co_blockY (by decide) ?_;refine co_thenX ?_;refine co_blockY (by decide) ?_;refine co_thenX ?_;refine co_blockY (by decide) ?_;refine co_thenX ?_;refine co_blockY (by decide) ?_;refine co_thenX <| qx <| q9 ?_;refine pk0 (v := pt b 0) g rfl fun _ g => ?_;have ho53 := hq32.at (by omega) hg46;refine pw g rfl (op_call (args := #[pt b 0]) (R := fun res xw => res = .int .i64 ze ∧ w43 = xw) rfl rfl rfl (by kernel_rfl) (by kernel_rfl) (Try.call19 _ _) (or_err b s za ze w43 ho53) (by rintro q x ⟨rfl, rfl⟩; exact ⟨_, rfl, rfl, rfl⟩)) ?_;rintro _ _ a51 ⟨rfl, rfl⟩ g;refine pk0 (v := .int .i64 ze) g rfl fun _ g => q3 ?_;refine pk0 (v := .int .i64 ze) g rfl fun _ g => ?_;refine pk0 (v := .bool (ze != 0)) g rfl fun _ g => q1 ?_;have hB58 := fb_foot hB0 hb33 (fun i hlt hS => by (try simp at hS); first | omega | (simp; omega) | simp_all);have hB59 := fb_at hB58 hg46 (fun hlt => by first | (exfalso; omega) | (simp; done) | simp_all);cases hc57 : (ze != 0)
 ·
  rw [hc57] at g;have hp60 : ¬ (ze ≠ 0) := by first | simpa using hc57 | simpa [and_assoc] using hc57
  refine co_false g rfl <| q7 ?_;refine pk0 (v := .int .i64 x) g rfl fun _ g => ?_;refine pk0 (v := .int .i64 x) g rfl fun _ g => q4 ?_;refine co_ret1 g rfl rfl ?_;have hr63 := row_kept_at hq31 hg46 (row_ne_lt hq31 (by omega));exact ⟨_, ret_int (by omega), (row_lows hr63 (by omega)), hk44', ho53, hB59⟩
 rw [hc57] at g;have hp64 : ze ≠ 0 := by first | simpa using hc57 | simpa [and_assoc] using hc57
 refine co_true g rfl <| q2 ?_;refine pk0 (v := .int .i64 ze) g rfl fun _ g => ?_;refine pk0 (v := .int .i64 ze) g rfl fun _ g => q5 ?_;refine co_ret1 g rfl rfl ?_;have hr67 := row_kept_at hq31 hg46 (row_ne_lt hq31 (by omega));exact ⟨_, ret_int (by omega), (row_lows hr67 (by omega)), hk44', ho53, hB59⟩
set_option maxRecDepth 100000 in
theorem mRead83_any (b : Nat) (s : ByteArray) (ra : Int) (N : Nat) (ce0 : Int) (ce1 : Int) (ce2 : Int) (ce3 : Int) (ce4 : Bool) (ce5 : Int) (ce6 : Int) (ce7 : Int) (ce8 : Int) (ce9 : Int) (ce10 : Int) (ce11 : ByteArray) (ce12 : ByteArray) (ce13 : Int) (ce14 : Value) (ce15 : Int) (ce16 : Int) (ce17 : Int) (ce18 : Value) (ce19 : Value) (ce21 : Value) (zl : List Int) (za : Int) (r : Int) (w : World) (hsz : s.size ≤ 9223372036854775807) (ho : OR b s ra 0 w) (hN : Blk w N 34 #[.int .i64 ce0, .int .i64 ce1, .int .i64 ce2, .int .i64 ce3, .bool ce4, .int .u64 ce5, .int .u64 ce6, .int .i64 ce7, .int .i64 ce8, .int .i64 ce9, .int .i64 ce10, .string ce11, .string ce12, .int .i64 ce13, ce14, .int .u64 ce15, .int .i64 ce16, .int .i64 ce17, ce18, ce19, .slice none 0 0, ce21]) (hbN : b ≠ N) (hof : rdS s ra = (zl, za, r)) :
    Calls Try.prog 21 #[pt b 0, pt N 0, .int .i32 83] w fun e w' => ∃ (u : Value), e = .returned (.int .i64 r) ∧ w'.ownsRow w.heap.size 22 1 u zl.length (zl.flatMap (intE .u64)) ∧ Blk w' N 34 #[.int .i64 ce0, .int .i64 ce1, .int .i64 ce2, .int .i64 ce3, .bool ce4, .int .u64 ce5, .int .u64 ce6, .int .i64 ce7, .int .i64 ce8, .int .i64 ce9, .int .i64 ce10, .string ce11, .string ce12, .int .i64 ce13, ce14, .int .u64 ce15, .int .i64 ce16, .int .i64 ce17, ce18, ce19, u, ce21] ∧ OR b s za r w' ∧ But (fun q => q = b ∨ q = N) w w' := by
 have hB0 := But.refl (fun q => q = b ∨ q = N) w;have hl_ho := ho.lt;have hl_hN := hN.lt;refine co_enter (n := 119) Try.func21 rfl rfl rfl [(0, pt b 0), (1, pt N 0), (2, .int .i32 83)] rfl (fun a g => ?_);refine q2 ?_;refine pk0 (v := .int .i64 0) g rfl fun _ g => q3 ?_;refine pk0 (v := .int .i64 1073741824) g rfl fun _ g => ?_;refine pk0 (v := .int .i64 0) g rfl fun _ g => q6 ?_;refine pk0 (v := .int .i32 83) g rfl fun _ g => q1 <| wp_block <| co_seq <| wp_block <| co_seq <| wp_block <| co_seq <| wp_block <| co_seq <| wp_block <| co_seq <| wp_block <| co_seq <| wp_block <| co_seq <| wp_block <| co_seq <| wp_block <| co_seq <| wp_block <| co_seq <| wp_block <| co_seq <| q9 ?_;refine pk0 (v := .bool ((83 : Int) == 102)) g rfl fun _ g => ?_;refine pk0 (v := .bool ((83 : Int) == 102)) g rfl fun _ g => q1 ?_;have hc7 : ((83 : Int) == 102) = false := by first | (simp; done) | (simp; omega) | exact beq_false_of_ne (by omega) | exact beq_iff_eq.2 (by omega)
 rw [hc7] at g;refine co_false g rfl <| q0 <| co_seq <| q9 ?_;refine pk0 (v := .bool ((83 : Int) == 97)) g rfl fun _ g => ?_;refine pk0 (v := .bool ((83 : Int) == 97)) g rfl fun _ g => q1 ?_;have hc10 : ((83 : Int) == 97) = false := by first | (simp; done) | (simp; omega) | exact beq_false_of_ne (by omega) | exact beq_iff_eq.2 (by omega)
 rw [hc10] at g;refine co_false g rfl <| co_reg ?_;refine pk0 (v := .bool ((83 : Int) == 108)) g rfl fun _ g => ?_;refine pk0 (v := .bool ((83 : Int) == 108)) g rfl fun _ g => q1 ?_;have hc13 : ((83 : Int) == 108) = false := by first | (simp; done) | (simp; omega) | exact beq_false_of_ne (by omega) | exact beq_iff_eq.2 (by omega)
 rw [hc13] at g;refine co_false g rfl <| q0 <| co_seq <| q9 ?_;refine pk0 (v := .bool ((83 : Int) == 107)) g rfl fun _ g => ?_;refine pk0 (v := .bool ((83 : Int) == 107)) g rfl fun _ g => q1 ?_;have hc16 : ((83 : Int) == 107) = false := by first | (simp; done) | (simp; omega) | exact beq_false_of_ne (by omega) | exact beq_iff_eq.2 (by omega)
 rw [hc16] at g;refine co_false g rfl <| co_reg ?_;refine pk0 (v := .bool ((83 : Int) == 116)) g rfl fun _ g => ?_;refine pk0 (v := .bool ((83 : Int) == 116)) g rfl fun _ g => q1 ?_;have hc19 : ((83 : Int) == 116) = false := by first | (simp; done) | (simp; omega) | exact beq_false_of_ne (by omega) | exact beq_iff_eq.2 (by omega)
 rw [hc19] at g;refine co_false g rfl <| q8 ?_;refine pk0 (v := .bool ((83 : Int) == 67)) g rfl fun _ g => ?_;refine pk0 (v := .bool ((83 : Int) == 67)) g rfl fun _ g => q1 ?_;have hc22 : ((83 : Int) == 67) = false := by first | (simp; done) | (simp; omega) | exact beq_false_of_ne (by omega) | exact beq_iff_eq.2 (by omega)
 rw [hc22] at g;refine co_false g rfl <| q8 ?_;refine pk0 (v := .bool ((83 : Int) == 66)) g rfl fun _ g => ?_;refine pk0 (v := .bool ((83 : Int) == 66)) g rfl fun _ g => q1 ?_;have hc25 : ((83 : Int) == 66) = false := by first | (simp; done) | (simp; omega) | exact beq_false_of_ne (by omega) | exact beq_iff_eq.2 (by omega)
 rw [hc25] at g;refine co_false g rfl <| q8 ?_;refine pk0 (v := .bool ((83 : Int) == 76)) g rfl fun _ g => ?_;refine pk0 (v := .bool ((83 : Int) == 76)) g rfl fun _ g => q1 ?_;have hc28 : ((83 : Int) == 76) = false := by first | (simp; done) | (simp; omega) | exact beq_false_of_ne (by omega) | exact beq_iff_eq.2 (by omega)
 rw [hc28] at g;refine co_false g rfl <| q8 ?_;refine pk0 (v := .bool ((83 : Int) == 83)) g rfl fun _ g => ?_;refine pk0 (v := .bool ((83 : Int) == 83)) g rfl fun _ g => q1 ?_;have hc31 : ((83 : Int) == 83) = true := by first | (simp; done) | (simp; omega) | exact beq_false_of_ne (by omega) | exact beq_iff_eq.2 (by omega)
 rw [hc31] at g;refine co_true g rfl <| wp_exit <| co_thenX <| co_thenX ?_;refine co_blockY (by decide) ?_;refine co_thenX ?_;refine co_blockY (by decide) ?_;refine co_thenX ?_;refine co_blockY (by decide) ?_;refine co_thenX ?_;refine co_blockY (by decide) ?_;refine co_thenX ?_;refine co_blockY (by decide) ?_;refine co_thenX ?_;refine co_blockY (by decide) ?_;refine co_thenX <| qx <| q9 ?_;refine pk0 (v := pt b 0) g rfl fun _ g => ?_;refine pw g rfl (op_call (args := #[pt b 0, .int .i64 8]) (R := fun res xw => ∃ (n : Int) (a' e' : Int), res = .int .i64 n ∧ numR s ra 0 8 = (n, a', e') ∧ 0 ≤ n ∧ n ≤ 8 ∧ OR b s a' e' xw ∧ w.grownBy xw (some b)) rfl rfl rfl (by kernel_rfl) (by kernel_rfl) (Try.call18 _ _) (or_num b s ra 0 8 w ho (by omega) (by omega) (by omega)) (by rintro q x ⟨n, a', e', rfl, h0, k0, k1, h1, h2⟩; exact ⟨_, rfl, n, a', e', rfl, h0, k0, k1, h1, h2⟩)) ?_;rintro _ w34 a33 ⟨n35, a36, e37, rfl, hq38, hn39, hm40, ho41, hg42⟩ g;have hz43 := hg42.size;have hl44 := ho41.lt;refine pk0 (v := .int .i64 0) g rfl fun _ g => q1 <| wp_block ?_;obtain ⟨base46, hb_base46⟩ : ∃ b, b = w34.heap.size := ⟨_, rfl⟩;have hNb : N < base46 := by omega
 have hbb : b < base46 := by omega
 have g : Slots 119 [(0, pt b 0), (1, pt N 0), (8, .int .i64 0), (73, .int .i64 n35), (74, .int .i64 0)] _ := g.sub ⟨rfl, rfl, rfl, rfl, rfl, trivial⟩;refine co_loop (fun mm a x => ∃ (i : Nat) (u : Value) (ls : List Int) (ps : Int) (er : Int), Slots 119 [(0, pt b 0), (1, pt N 0), (8, .int .i64 0), (73, .int .i64 n35), (74, .int .i64 (i : Int))] a ∧ mm = n35.toNat - i ∧ ((i : Int) ≤ n35) ∧ (ls.length = i) ∧ (rS s i ([], a36, e37) = (ls, ps, er)) ∧ Blk x N 34 #[.int .i64 ce0, .int .i64 ce1, .int .i64 ce2, .int .i64 ce3, .bool ce4, .int .u64 ce5, .int .u64 ce6, .int .i64 ce7, .int .i64 ce8, .int .i64 ce9, .int .i64 ce10, .string ce11, .string ce12, .int .i64 ce13, ce14, .int .u64 ce15, .int .i64 ce16, .int .i64 ce17, ce18, ce19, u, ce21] ∧ OR b s ps er x ∧ x.ownsRow base46 22 1 u ls.length (ls.flatMap (intE .u64)) ∧ base46 ≤ x.heap.size ∧ But (fun q => q = b ∨ q = N) w x) (n35.toNat - 0) ?_ ?_;have hk48 := hN.kept hg42 (by simp; omega);have hB49 := fb_at hB0 hg42 (fun hlt => by first | (exfalso; omega) | (simp; done) | simp_all)
 · exact ⟨0, (.slice none 0 0), [], a36, e37, g.sub ⟨rfl, rfl, rfl, rfl, (slot_eq rfl (congrArg (Value.int .i64) (by first | rfl | omega))), trivial⟩, rfl, by omega, by first | rfl | (simp; omega), by first | rfl | exact hR', hk48, ho41, (row_nilL _ _ _ _ _), (by omega), hB49⟩
 · rintro k50 a51 w52 ⟨i, u, ls, ps, er, g, rfl, hi53, hi54, hi55, hf56, hf57, hf58, hf59, hB60⟩
   have hz61 := hB60.size;have hl62 := hf56.lt;have hl63 := hf57.lt;have hR : rS s i ([], a36, e37) = (ls, ps, er) := by assumption
   refine q2 ?_;refine pk0 (v := .bool (decide ((i : Int) < n35))) g rfl fun _ g => q1 <| co_seq ?_;cases hc65 : (decide ((i : Int) < n35))
   ·
    rw [hc65] at g;have hp66 : ¬ ((i : Int) < n35) := of_decide_eq_false hc65;refine co_false g rfl <| wp_exit <| co_thenX <| co_thenX <| qx <| wp_exit ?_;refine co_blockY (by decide) ?_;refine co_thenX ?_;refine co_blockY (by decide) ?_;refine co_thenX ?_;refine co_blockY (by decide) ?_;refine co_thenX <| qx <| q9 ?_;refine pk0 (v := pt b 0) g rfl fun _ g => ?_;refine pw g rfl (op_call (args := #[pt b 0]) (R := fun res xw => res = .int .i64 er ∧ w52 = xw) rfl rfl rfl (by kernel_rfl) (by kernel_rfl) (Try.call19 _ _) (or_err b s ps er w52 hf57) (by rintro q x ⟨rfl, rfl⟩; exact ⟨_, rfl, rfl, rfl⟩)) ?_;rintro _ _ a68 ⟨rfl, rfl⟩ g;refine pk0 (v := .int .i64 er) g rfl fun _ g => q3 ?_;refine pk0 (v := .int .i64 er) g rfl fun _ g => ?_;refine pk0 (v := .bool (er != 0)) g rfl fun _ g => q1 ?_;cases hc73 : (er != 0)
    ·
     rw [hc73] at g;have hp74 : ¬ (er ≠ 0) := by first | simpa using hc73 | simpa [and_assoc] using hc73
     refine co_false g rfl <| q7 ?_;refine pk0 (v := .int .i64 0) g rfl fun _ g => ?_;refine pk0 (v := .int .i64 0) g rfl fun _ g => q4 ?_;refine co_ret1 g rfl rfl ?_;cases hof.symm.trans (rdS_at hq38 hR (by omega));exact ⟨_, ret_int (by omega), (row_lows hf58 (by omega)), hf56, hf57, hB60⟩
    rw [hc73] at g;have hp77 : er ≠ 0 := by first | simpa using hc73 | simpa [and_assoc] using hc73
    refine co_true g rfl <| q2 ?_;refine pk0 (v := .int .i64 er) g rfl fun _ g => ?_;refine pk0 (v := .int .i64 er) g rfl fun _ g => q5 ?_;refine co_ret1 g rfl rfl ?_;cases hof.symm.trans (rdS_at hq38 hR (by omega));exact ⟨_, ret_int (by omega), (row_lows hf58 (by omega)), hf56, hf57, hB60⟩
   rw [hc65] at g;have hp80 : (i : Int) < n35 := of_decide_eq_true hc65;refine co_true g rfl <| q0 <| co_seq <| wp_block ?_;refine dr_gen (fun x => But (fun q => q = b ∨ q = N) w x) (by kernel_rfl) (fun w81 hg82 => ?_) (fun w81 hg82 => ?_)
   ·
    have hz83 := hg82.size;have hB84 := fb_new hB60 hg82;exact hB84
   have hz85 := hg82.size;have hB86 := fb_new hB60 hg82;refine dk0 0 (v := pt N 0) g rfl rfl hB86 fun _ g => ?_;refine dk0 1 (v := pt N 0) g rfl rfl hB86 fun _ g => ?_;refine dk0 2 (v := pt N 0) g rfl rfl hB86 fun _ g => ?_;refine dk0 3 (v := pt N 20) g rfl rfl hB86 fun _ g => ?_;refine dk0 5 (v := pt b 0) g rfl rfl hB86 fun _ g => ?_;refine dr_many [4, 6] (by kernel_rfl) (by simp) ⟨?_, ?_, trivial⟩
   ·
    have hk92 := hf56.kept hg82 (by simp);refine dr_opVal (i := 4) (v := u) g rfl rfl rfl rfl (by kernel_rfl) rfl (rn_load1 rfl rfl Try.isAgg31 (hk92.cell rfl)) hB86 (fun _ g => ?_);have ho104 := hf57.new hg82;refine d1 6 g rfl rfl (op_call (args := #[pt b 0]) (R := fun res xw => ∃ (n : Int) (a' e' : Int), res = .int .u64 n ∧ bigR s ps er = (n, a', e') ∧ 0 ≤ n ∧ n < 18446744073709551616 ∧ OR b s a' e' xw ∧ w81.grownBy xw (some b)) rfl rfl rfl (by kernel_rfl) (by kernel_rfl) (Try.call47 _ _) (or_big b s ps er w81 ho104 (by omega)) (by rintro q x ⟨n, a', e', rfl, h0, k0, k1, h1, h2⟩; exact ⟨_, rfl, n, a', e', rfl, h0, k0, k1, h1, h2⟩)) ?_ ?_
    ·
     rintro _ w95 ⟨n96, a97, e98, rfl, hq99, hn100, hm101, ho102, hg103⟩;have hz105 := hg103.size;have hl106 := ho102.lt;have hB107 := fb_at hB86 hg103 (fun hlt => by first | (exfalso; omega) | (simp; done) | simp_all);exact hB107
    rintro _ w95 a94 ⟨n96, a97, e98, rfl, hq99, hn100, hm101, ho102, hg103⟩ g;have hz105 := hg103.size;have hl106 := ho102.lt;have hB107 := fb_at hB86 hg103 (fun hlt => by first | (exfalso; omega) | (simp; done) | simp_all);refine d1 7 g rfl rfl (op_new (v := fun N => .slice (some ⟨N, 0, none⟩) 1 1) (T := 22) (cs := #[.int .u64 n96]) (by kernel_rfl) (by kernel_rfl) (by kernel_rfl)) ?_ ?_
    ·
     rintro _ w109 ⟨N110, rfl, hN113, hz114, hk112, hg111⟩;have hr116 := row_kept_new hf58 hg82;have hr117 := row_kept_at hr116 hg103 (row_ne_lt hr116 (by omega));have ha115 := row_fresh hr117 hN113;have hz118 := hg111.size;have hB119 := fb_new hB107 hg111;exact hB119
    rintro _ w109 a108 ⟨N110, rfl, hN113, hz114, hk112, hg111⟩ g;have hr116 := row_kept_new hf58 hg82;have hr117 := row_kept_at hr116 hg103 (row_ne_lt hr116 (by omega));have ha115 := row_fresh hr117 hN113;have hz118 := hg111.size
    try dsimp only at g
    have hB119 := fb_new hB107 hg111;have hr126 := row_kept_new hr117 hg111;refine d1 8 g rfl rfl (op_append rfl base46 22 (z := .int .u64 0) (size := 1) (bytes := 8) Try.underlying31 (by kernel_rfl) rfl rfl rfl hr126 rfl hk112 rfl (by kernel_rfl) (by first | omega | (simp only [List.length_nil, List.length_append, List.length_cons, List.length_take, List.length_drop]; omega)) (by first | omega | (simp only [List.length_nil, List.length_append, List.length_cons, List.length_take, List.length_drop]; omega)) (by omega)) ?_ ?_
    ·
     rintro v122 w121 ⟨hr123, hg124⟩;have hr123' : w121.ownsRow base46 22 1 v122 ((ls ++ [n96]).length) ((ls ++ [n96]).flatMap (intE .u64)) := row_push (y := n96) hr123 rfl rfl;have hz127 := hg124.size;have hB128 := fb_row hB119 hr126 (by omega) hg124;exact hB128
    rintro v122 w121 a120 ⟨hr123, hg124⟩ g;have hr123' : w121.ownsRow base46 22 1 v122 ((ls ++ [n96]).length) ((ls ++ [n96]).flatMap (intE .u64)) := row_push (y := n96) hr123 rfl rfl;have hz127 := hg124.size;have hB128 := fb_row hB119 hr126 (by omega) hg124;refine dk0 9 (v := pt N 0) g rfl rfl hB128 fun _ g => ?_;refine dk0 10 (v := pt N 20) g rfl rfl hB128 fun _ g => ?_;have hk136 := hk92.kept hg103 (by simp; omega);have hk137 := hk136.kept hg111 (by simp);have hk138 := hk137.kept hg124 (row_ne_lt hr126 (by omega));refine d1D 11 g rfl rfl (op_store1 rfl rfl rfl (row_one hr123') Try.sizeOf31 hk138 rfl) ?_ ?_
    ·
     rintro _ w132 ⟨hk133, hz134, hg135⟩;have hk133' : Blk w132 N 34 #[.int .i64 ce0, .int .i64 ce1, .int .i64 ce2, .int .i64 ce3, .bool ce4, .int .u64 ce5, .int .u64 ce6, .int .i64 ce7, .int .i64 ce8, .int .i64 ce9, .int .i64 ce10, .string ce11, .string ce12, .int .i64 ce13, ce14, .int .u64 ce15, .int .i64 ce16, .int .i64 ce17, ce18, ce19, v122, ce21] := hk133;have hz139 := hg135.size;have hB140 := fb_at hB128 hg135 (fun hlt => by first | (exfalso; omega) | (simp; done) | simp_all);exact hB140
    rintro _ w132 a131 ⟨hk133, hz134, hg135⟩ g;have hk133' : Blk w132 N 34 #[.int .i64 ce0, .int .i64 ce1, .int .i64 ce2, .int .i64 ce3, .bool ce4, .int .u64 ce5, .int .u64 ce6, .int .i64 ce7, .int .i64 ce8, .int .i64 ce9, .int .i64 ce10, .string ce11, .string ce12, .int .i64 ce13, ce14, .int .u64 ce15, .int .i64 ce16, .int .i64 ce17, ce18, ce19, v122, ce21] := hk133;have hz139 := hg135.size;refine dr_done (by kernel_rfl) ?_;refine co_blockN <| co_then <| co_reg ?_;refine pk (v := .int .i64 ((i + 1 : Nat) : Int)) g rfl (rn_arith' rfl rfl rfl rfl rfl rfl (IntWalk.i64_in _ (by omega)) (by omega)) fun _ g => ?_;refine pk0 (v := .int .i64 ((i + 1 : Nat) : Int)) g rfl fun _ g => q1 ?_;refine ⟨(n35.toNat - (i + 1)), by omega, ?_⟩;have hR' := rS_step hR hq99;have ho142 := ho102.new hg111;have ho143 := ho142.row (row_ne_lt hr126 (by omega)) hg124;have ho144 := ho143.at (by omega) hg135;have hr145 := row_kept_at hr123' hg135 (row_ne_lt hr123' (by omega));have hB146 := fb_at hB128 hg135 (fun hlt => by first | (exfalso; omega) | (simp; done) | simp_all);exact ⟨i + 1, v122, ls ++ [n96], a97, e98, g.sub ⟨rfl, rfl, rfl, rfl, rfl, trivial⟩, rfl, by omega, by first | rfl | (simp; omega), by first | rfl | exact hR', hk133', ho144, (row_eq hr145 (rfl)), (by omega), hB146⟩
   have ho157 := hf57.new hg82;refine dr_op (i := 6) g rfl rfl rfl rfl (op_call (args := #[pt b 0]) (R := fun res xw => ∃ (n : Int) (a' e' : Int), res = .int .u64 n ∧ bigR s ps er = (n, a', e') ∧ 0 ≤ n ∧ n < 18446744073709551616 ∧ OR b s a' e' xw ∧ w81.grownBy xw (some b)) rfl rfl rfl (by kernel_rfl) (by kernel_rfl) (Try.call47 _ _) (or_big b s ps er w81 ho157 (by omega)) (by rintro q x ⟨n, a', e', rfl, h0, k0, k1, h1, h2⟩; exact ⟨_, rfl, n, a', e', rfl, h0, k0, k1, h1, h2⟩)) ?_ ?_
   ·
    rintro _ w148 ⟨n149, a150, e151, rfl, hq152, hn153, hm154, ho155, hg156⟩;have hz158 := hg156.size;have hl159 := ho155.lt;have hB160 := fb_at hB86 hg156 (fun hlt => by first | (exfalso; omega) | (simp; done) | simp_all);exact hB160
   rintro _ w148 a147 ⟨n149, a150, e151, rfl, hq152, hn153, hm154, ho155, hg156⟩ g;have hz158 := hg156.size;have hl159 := ho155.lt;have hB160 := fb_at hB86 hg156 (fun hlt => by first | (exfalso; omega) | (simp; done) | simp_all);refine dr_many [4, 7] (by kernel_rfl) (by simp) ⟨?_, ?_, trivial⟩
   ·
    have hk161 := hf56.kept hg82 (by simp);have hk162 := hk161.kept hg156 (by simp; omega);refine dr_opVal (i := 4) (v := u) g rfl rfl rfl rfl (by kernel_rfl) rfl (rn_load1 rfl rfl Try.isAgg31 (hk162.cell rfl)) hB160 (fun _ g => ?_);refine d1 7 g rfl rfl (op_new (v := fun N => .slice (some ⟨N, 0, none⟩) 1 1) (T := 22) (cs := #[.int .u64 n149]) (by kernel_rfl) (by kernel_rfl) (by kernel_rfl)) ?_ ?_
    ·
     rintro _ w165 ⟨N166, rfl, hN169, hz170, hk168, hg167⟩;have hr172 := row_kept_new hf58 hg82;have hr173 := row_kept_at hr172 hg156 (row_ne_lt hr172 (by omega));have ha171 := row_fresh hr173 hN169;have hz174 := hg167.size;have hB175 := fb_new hB160 hg167;exact hB175
    rintro _ w165 a164 ⟨N166, rfl, hN169, hz170, hk168, hg167⟩ g;have hr172 := row_kept_new hf58 hg82;have hr173 := row_kept_at hr172 hg156 (row_ne_lt hr172 (by omega));have ha171 := row_fresh hr173 hN169;have hz174 := hg167.size
    try dsimp only at g
    have hB175 := fb_new hB160 hg167;have hr182 := row_kept_new hr173 hg167;refine d1 8 g rfl rfl (op_append rfl base46 22 (z := .int .u64 0) (size := 1) (bytes := 8) Try.underlying31 (by kernel_rfl) rfl rfl rfl hr182 rfl hk168 rfl (by kernel_rfl) (by first | omega | (simp only [List.length_nil, List.length_append, List.length_cons, List.length_take, List.length_drop]; omega)) (by first | omega | (simp only [List.length_nil, List.length_append, List.length_cons, List.length_take, List.length_drop]; omega)) (by omega)) ?_ ?_
    ·
     rintro v178 w177 ⟨hr179, hg180⟩;have hr179' : w177.ownsRow base46 22 1 v178 ((ls ++ [n149]).length) ((ls ++ [n149]).flatMap (intE .u64)) := row_push (y := n149) hr179 rfl rfl;have hz183 := hg180.size;have hB184 := fb_row hB175 hr182 (by omega) hg180;exact hB184
    rintro v178 w177 a176 ⟨hr179, hg180⟩ g;have hr179' : w177.ownsRow base46 22 1 v178 ((ls ++ [n149]).length) ((ls ++ [n149]).flatMap (intE .u64)) := row_push (y := n149) hr179 rfl rfl;have hz183 := hg180.size;have hB184 := fb_row hB175 hr182 (by omega) hg180;refine dk0 9 (v := pt N 0) g rfl rfl hB184 fun _ g => ?_;refine dk0 10 (v := pt N 20) g rfl rfl hB184 fun _ g => ?_;have hk192 := hk162.kept hg167 (by simp);have hk193 := hk192.kept hg180 (row_ne_lt hr182 (by omega));refine d1D 11 g rfl rfl (op_store1 rfl rfl rfl (row_one hr179') Try.sizeOf31 hk193 rfl) ?_ ?_
    ·
     rintro _ w188 ⟨hk189, hz190, hg191⟩;have hk189' : Blk w188 N 34 #[.int .i64 ce0, .int .i64 ce1, .int .i64 ce2, .int .i64 ce3, .bool ce4, .int .u64 ce5, .int .u64 ce6, .int .i64 ce7, .int .i64 ce8, .int .i64 ce9, .int .i64 ce10, .string ce11, .string ce12, .int .i64 ce13, ce14, .int .u64 ce15, .int .i64 ce16, .int .i64 ce17, ce18, ce19, v178, ce21] := hk189;have hz194 := hg191.size;have hB195 := fb_at hB184 hg191 (fun hlt => by first | (exfalso; omega) | (simp; done) | simp_all);exact hB195
    rintro _ w188 a187 ⟨hk189, hz190, hg191⟩ g;have hk189' : Blk w188 N 34 #[.int .i64 ce0, .int .i64 ce1, .int .i64 ce2, .int .i64 ce3, .bool ce4, .int .u64 ce5, .int .u64 ce6, .int .i64 ce7, .int .i64 ce8, .int .i64 ce9, .int .i64 ce10, .string ce11, .string ce12, .int .i64 ce13, ce14, .int .u64 ce15, .int .i64 ce16, .int .i64 ce17, ce18, ce19, v178, ce21] := hk189;have hz194 := hg191.size;refine dr_done (by kernel_rfl) ?_;refine co_blockN <| co_then <| co_reg ?_;refine pk (v := .int .i64 ((i + 1 : Nat) : Int)) g rfl (rn_arith' rfl rfl rfl rfl rfl rfl (IntWalk.i64_in _ (by omega)) (by omega)) fun _ g => ?_;refine pk0 (v := .int .i64 ((i + 1 : Nat) : Int)) g rfl fun _ g => q1 ?_;refine ⟨(n35.toNat - (i + 1)), by omega, ?_⟩;have hR' := rS_step hR hq152;have ho197 := ho155.new hg167;have ho198 := ho197.row (row_ne_lt hr182 (by omega)) hg180;have ho199 := ho198.at (by omega) hg191;have hr200 := row_kept_at hr179' hg191 (row_ne_lt hr179' (by omega));have hB201 := fb_at hB184 hg191 (fun hlt => by first | (exfalso; omega) | (simp; done) | simp_all);exact ⟨i + 1, v178, ls ++ [n149], a150, e151, g.sub ⟨rfl, rfl, rfl, rfl, rfl, trivial⟩, rfl, by omega, by first | rfl | (simp; omega), by first | rfl | exact hR', hk189', ho199, (row_eq hr200 (rfl)), (by omega), hB201⟩
   refine dr_op (i := 7) g rfl rfl rfl rfl (op_new (v := fun N => .slice (some ⟨N, 0, none⟩) 1 1) (T := 22) (cs := #[.int .u64 n149]) (by kernel_rfl) (by kernel_rfl) (by kernel_rfl)) ?_ ?_
   ·
    rintro _ w203 ⟨N204, rfl, hN207, hz208, hk206, hg205⟩;have hr210 := row_kept_new hf58 hg82;have hr211 := row_kept_at hr210 hg156 (row_ne_lt hr210 (by omega));have ha209 := row_fresh hr211 hN207;have hz212 := hg205.size;have hB213 := fb_new hB160 hg205;exact hB213
   rintro _ w203 a202 ⟨N204, rfl, hN207, hz208, hk206, hg205⟩ g;have hr210 := row_kept_new hf58 hg82;have hr211 := row_kept_at hr210 hg156 (row_ne_lt hr210 (by omega));have ha209 := row_fresh hr211 hN207;have hz212 := hg205.size
   try dsimp only at g
   have hB213 := fb_new hB160 hg205;refine dr_many [4] (by kernel_rfl) (by simp) ⟨?_, trivial⟩;have hk214 := hf56.kept hg82 (by simp);have hk215 := hk214.kept hg156 (by simp; omega);have hk216 := hk215.kept hg205 (by simp);refine dr_opVal (i := 4) (v := u) g rfl rfl rfl rfl (by kernel_rfl) rfl (rn_load1 rfl rfl Try.isAgg31 (hk216.cell rfl)) hB213 (fun _ g => ?_);have hr224 := row_kept_new hr211 hg205;refine d1 8 g rfl rfl (op_append rfl base46 22 (z := .int .u64 0) (size := 1) (bytes := 8) Try.underlying31 (by kernel_rfl) rfl rfl rfl hr224 rfl hk206 rfl (by kernel_rfl) (by first | omega | (simp only [List.length_nil, List.length_append, List.length_cons, List.length_take, List.length_drop]; omega)) (by first | omega | (simp only [List.length_nil, List.length_append, List.length_cons, List.length_take, List.length_drop]; omega)) (by omega)) ?_ ?_
   ·
    rintro v220 w219 ⟨hr221, hg222⟩;have hr221' : w219.ownsRow base46 22 1 v220 ((ls ++ [n149]).length) ((ls ++ [n149]).flatMap (intE .u64)) := row_push (y := n149) hr221 rfl rfl;have hz225 := hg222.size;have hB226 := fb_row hB213 hr224 (by omega) hg222;exact hB226
   rintro v220 w219 a218 ⟨hr221, hg222⟩ g;have hr221' : w219.ownsRow base46 22 1 v220 ((ls ++ [n149]).length) ((ls ++ [n149]).flatMap (intE .u64)) := row_push (y := n149) hr221 rfl rfl;have hz225 := hg222.size;have hB226 := fb_row hB213 hr224 (by omega) hg222;refine dk0 9 (v := pt N 0) g rfl rfl hB226 fun _ g => ?_;refine dk0 10 (v := pt N 20) g rfl rfl hB226 fun _ g => ?_;have hk234 := hk216.kept hg222 (row_ne_lt hr224 (by omega));refine d1D 11 g rfl rfl (op_store1 rfl rfl rfl (row_one hr221') Try.sizeOf31 hk234 rfl) ?_ ?_
   ·
    rintro _ w230 ⟨hk231, hz232, hg233⟩;have hk231' : Blk w230 N 34 #[.int .i64 ce0, .int .i64 ce1, .int .i64 ce2, .int .i64 ce3, .bool ce4, .int .u64 ce5, .int .u64 ce6, .int .i64 ce7, .int .i64 ce8, .int .i64 ce9, .int .i64 ce10, .string ce11, .string ce12, .int .i64 ce13, ce14, .int .u64 ce15, .int .i64 ce16, .int .i64 ce17, ce18, ce19, v220, ce21] := hk231;have hz235 := hg233.size;have hB236 := fb_at hB226 hg233 (fun hlt => by first | (exfalso; omega) | (simp; done) | simp_all);exact hB236
   rintro _ w230 a229 ⟨hk231, hz232, hg233⟩ g;have hk231' : Blk w230 N 34 #[.int .i64 ce0, .int .i64 ce1, .int .i64 ce2, .int .i64 ce3, .bool ce4, .int .u64 ce5, .int .u64 ce6, .int .i64 ce7, .int .i64 ce8, .int .i64 ce9, .int .i64 ce10, .string ce11, .string ce12, .int .i64 ce13, ce14, .int .u64 ce15, .int .i64 ce16, .int .i64 ce17, ce18, ce19, v220, ce21] := hk231;have hz235 := hg233.size;refine dr_done (by kernel_rfl) ?_;refine co_blockN <| co_then <| co_reg ?_;refine pk (v := .int .i64 ((i + 1 : Nat) : Int)) g rfl (rn_arith' rfl rfl rfl rfl rfl rfl (IntWalk.i64_in _ (by omega)) (by omega)) fun _ g => ?_;refine pk0 (v := .int .i64 ((i + 1 : Nat) : Int)) g rfl fun _ g => q1 ?_;refine ⟨(n35.toNat - (i + 1)), by omega, ?_⟩;have hR' := rS_step hR hq152;have ho238 := ho155.new hg205;have ho239 := ho238.row (row_ne_lt hr224 (by omega)) hg222;have ho240 := ho239.at (by omega) hg233;have hr241 := row_kept_at hr221' hg233 (row_ne_lt hr221' (by omega));have hB242 := fb_at hB226 hg233 (fun hlt => by first | (exfalso; omega) | (simp; done) | simp_all);exact ⟨i + 1, v220, ls ++ [n149], a150, e151, g.sub ⟨rfl, rfl, rfl, rfl, rfl, trivial⟩, rfl, by omega, by first | rfl | (simp; omega), by first | rfl | exact hR', hk231', ho240, (row_eq hr241 (rfl)), (by omega), hB242⟩
set_option maxRecDepth 100000 in
theorem mRead82_any (b : Nat) (s : ByteArray) (ra : Int) (N : Nat) (ce0 : Int) (ce1 : Int) (ce2 : Int) (ce3 : Int) (ce4 : Bool) (ce5 : Int) (ce6 : Int) (ce7 : Int) (ce8 : Int) (ce9 : Int) (ce10 : Int) (ce11 : ByteArray) (ce12 : ByteArray) (ce13 : Int) (ce14 : Value) (ce15 : Int) (ce16 : Int) (ce17 : Int) (ce18 : Value) (ce19 : Value) (ce20 : Value) (zl : List PrT) (za : Int) (r : Int) (w : World) (hsz : s.size ≤ 9223372036854775807) (ho : OR b s ra 0 w) (hN : Blk w N 34 #[.int .i64 ce0, .int .i64 ce1, .int .i64 ce2, .int .i64 ce3, .bool ce4, .int .u64 ce5, .int .u64 ce6, .int .i64 ce7, .int .i64 ce8, .int .i64 ce9, .int .i64 ce10, .string ce11, .string ce12, .int .i64 ce13, ce14, .int .u64 ce15, .int .i64 ce16, .int .i64 ce17, ce18, ce19, ce20, .slice none 0 0]) (hbN : b ≠ N) (hof : rdR s ra = (zl, za, r)) :
    Calls Try.prog 21 #[pt b 0, pt N 0, .int .i32 82] w fun e w' => ∃ (u : Value), e = .returned (.int .i64 r) ∧ w'.ownsRow w.heap.size 84 2 u zl.length (zl.flatMap prE) ∧ Blk w' N 34 #[.int .i64 ce0, .int .i64 ce1, .int .i64 ce2, .int .i64 ce3, .bool ce4, .int .u64 ce5, .int .u64 ce6, .int .i64 ce7, .int .i64 ce8, .int .i64 ce9, .int .i64 ce10, .string ce11, .string ce12, .int .i64 ce13, ce14, .int .u64 ce15, .int .i64 ce16, .int .i64 ce17, ce18, ce19, ce20, u] ∧ OR b s za r w' ∧ But (fun q => q = b ∨ q = N) w w' := by
 have hB0 := But.refl (fun q => q = b ∨ q = N) w;have hl_ho := ho.lt;have hl_hN := hN.lt;refine co_enter (n := 119) Try.func21 rfl rfl rfl [(0, pt b 0), (1, pt N 0), (2, .int .i32 82)] rfl (fun a g => ?_);refine q2 ?_;refine pk0 (v := .int .i64 0) g rfl fun _ g => q3 ?_;refine pk0 (v := .int .i64 1073741824) g rfl fun _ g => ?_;refine pk0 (v := .int .i64 0) g rfl fun _ g => q6 ?_;refine pk0 (v := .int .i32 82) g rfl fun _ g => q1 <| wp_block <| co_seq <| wp_block <| co_seq <| wp_block <| co_seq <| wp_block <| co_seq <| wp_block <| co_seq <| wp_block <| co_seq <| wp_block <| co_seq <| wp_block <| co_seq <| wp_block <| co_seq <| wp_block <| co_seq <| wp_block <| co_seq <| q9 ?_;refine pk0 (v := .bool ((82 : Int) == 102)) g rfl fun _ g => ?_;refine pk0 (v := .bool ((82 : Int) == 102)) g rfl fun _ g => q1 ?_;have hc7 : ((82 : Int) == 102) = false := by first | (simp; done) | (simp; omega) | exact beq_false_of_ne (by omega) | exact beq_iff_eq.2 (by omega)
 rw [hc7] at g;refine co_false g rfl <| q0 <| co_seq <| q9 ?_;refine pk0 (v := .bool ((82 : Int) == 97)) g rfl fun _ g => ?_;refine pk0 (v := .bool ((82 : Int) == 97)) g rfl fun _ g => q1 ?_;have hc10 : ((82 : Int) == 97) = false := by first | (simp; done) | (simp; omega) | exact beq_false_of_ne (by omega) | exact beq_iff_eq.2 (by omega)
 rw [hc10] at g;refine co_false g rfl <| co_reg ?_;refine pk0 (v := .bool ((82 : Int) == 108)) g rfl fun _ g => ?_;refine pk0 (v := .bool ((82 : Int) == 108)) g rfl fun _ g => q1 ?_;have hc13 : ((82 : Int) == 108) = false := by first | (simp; done) | (simp; omega) | exact beq_false_of_ne (by omega) | exact beq_iff_eq.2 (by omega)
 rw [hc13] at g;refine co_false g rfl <| q0 <| co_seq <| q9 ?_;refine pk0 (v := .bool ((82 : Int) == 107)) g rfl fun _ g => ?_;refine pk0 (v := .bool ((82 : Int) == 107)) g rfl fun _ g => q1 ?_;have hc16 : ((82 : Int) == 107) = false := by first | (simp; done) | (simp; omega) | exact beq_false_of_ne (by omega) | exact beq_iff_eq.2 (by omega)
 rw [hc16] at g;refine co_false g rfl <| co_reg ?_;refine pk0 (v := .bool ((82 : Int) == 116)) g rfl fun _ g => ?_;refine pk0 (v := .bool ((82 : Int) == 116)) g rfl fun _ g => q1 ?_;have hc19 : ((82 : Int) == 116) = false := by first | (simp; done) | (simp; omega) | exact beq_false_of_ne (by omega) | exact beq_iff_eq.2 (by omega)
 rw [hc19] at g;refine co_false g rfl <| q8 ?_;refine pk0 (v := .bool ((82 : Int) == 67)) g rfl fun _ g => ?_;refine pk0 (v := .bool ((82 : Int) == 67)) g rfl fun _ g => q1 ?_;have hc22 : ((82 : Int) == 67) = false := by first | (simp; done) | (simp; omega) | exact beq_false_of_ne (by omega) | exact beq_iff_eq.2 (by omega)
 rw [hc22] at g;refine co_false g rfl <| q8 ?_;refine pk0 (v := .bool ((82 : Int) == 66)) g rfl fun _ g => ?_;refine pk0 (v := .bool ((82 : Int) == 66)) g rfl fun _ g => q1 ?_;have hc25 : ((82 : Int) == 66) = false := by first | (simp; done) | (simp; omega) | exact beq_false_of_ne (by omega) | exact beq_iff_eq.2 (by omega)
 rw [hc25] at g;refine co_false g rfl <| q8 ?_;refine pk0 (v := .bool ((82 : Int) == 76)) g rfl fun _ g => ?_;refine pk0 (v := .bool ((82 : Int) == 76)) g rfl fun _ g => q1 ?_;have hc28 : ((82 : Int) == 76) = false := by first | (simp; done) | (simp; omega) | exact beq_false_of_ne (by omega) | exact beq_iff_eq.2 (by omega)
 rw [hc28] at g;refine co_false g rfl <| q8 ?_;refine pk0 (v := .bool ((82 : Int) == 83)) g rfl fun _ g => ?_;refine pk0 (v := .bool ((82 : Int) == 83)) g rfl fun _ g => q1 ?_;have hc31 : ((82 : Int) == 83) = false := by first | (simp; done) | (simp; omega) | exact beq_false_of_ne (by omega) | exact beq_iff_eq.2 (by omega)
 rw [hc31] at g;refine co_false g rfl <| q8 ?_;refine pk0 (v := .bool ((82 : Int) == 82)) g rfl fun _ g => ?_;refine pk0 (v := .bool ((82 : Int) == 82)) g rfl fun _ g => q1 ?_;have hc34 : ((82 : Int) == 82) = true := by first | (simp; done) | (simp; omega) | exact beq_false_of_ne (by omega) | exact beq_iff_eq.2 (by omega)
 rw [hc34] at g;refine co_true g rfl <| wp_exit <| co_thenX <| co_thenX ?_;refine co_blockY (by decide) ?_;refine co_thenX ?_;refine co_blockY (by decide) ?_;refine co_thenX ?_;refine co_blockY (by decide) ?_;refine co_thenX ?_;refine co_blockY (by decide) ?_;refine co_thenX ?_;refine co_blockY (by decide) ?_;refine co_thenX ?_;refine co_blockY (by decide) ?_;refine co_thenX ?_;refine co_blockY (by decide) ?_;refine co_thenX <| qx <| q9 ?_;refine pk0 (v := pt b 0) g rfl fun _ g => ?_;refine pw g rfl (op_call (args := #[pt b 0, .int .i64 32]) (R := fun res xw => ∃ (n : Int) (a' e' : Int), res = .int .i64 n ∧ numR s ra 0 32 = (n, a', e') ∧ 0 ≤ n ∧ n ≤ 32 ∧ OR b s a' e' xw ∧ w.grownBy xw (some b)) rfl rfl rfl (by kernel_rfl) (by kernel_rfl) (Try.call18 _ _) (or_num b s ra 0 32 w ho (by omega) (by omega) (by omega)) (by rintro q x ⟨n, a', e', rfl, h0, k0, k1, h1, h2⟩; exact ⟨_, rfl, n, a', e', rfl, h0, k0, k1, h1, h2⟩)) ?_;rintro _ w37 a36 ⟨n38, a39, e40, rfl, hq41, hn42, hm43, ho44, hg45⟩ g;have hz46 := hg45.size;have hl47 := ho44.lt;refine pk0 (v := .int .i64 0) g rfl fun _ g => q1 <| wp_block ?_;obtain ⟨base49, hb_base49⟩ : ∃ b, b = w37.heap.size := ⟨_, rfl⟩;have hNb : N < base49 := by omega
 have hbb : b < base49 := by omega
 have g : Slots 119 [(0, pt b 0), (1, pt N 0), (8, .int .i64 0), (89, .int .i64 n38), (90, .int .i64 0)] _ := g.sub ⟨rfl, rfl, rfl, rfl, rfl, trivial⟩;refine co_loop (fun mm a x => ∃ (i : Nat) (u : Value) (ls : List PrT) (ps : Int) (er : Int), Slots 119 [(0, pt b 0), (1, pt N 0), (8, .int .i64 0), (89, .int .i64 n38), (90, .int .i64 (i : Int))] a ∧ mm = n38.toNat - i ∧ ((i : Int) ≤ n38) ∧ (ls.length = i) ∧ (rR s i ([], a39, e40) = (ls, ps, er)) ∧ Blk x N 34 #[.int .i64 ce0, .int .i64 ce1, .int .i64 ce2, .int .i64 ce3, .bool ce4, .int .u64 ce5, .int .u64 ce6, .int .i64 ce7, .int .i64 ce8, .int .i64 ce9, .int .i64 ce10, .string ce11, .string ce12, .int .i64 ce13, ce14, .int .u64 ce15, .int .i64 ce16, .int .i64 ce17, ce18, ce19, ce20, u] ∧ OR b s ps er x ∧ x.ownsRow base49 84 2 u ls.length (ls.flatMap prE) ∧ base49 ≤ x.heap.size ∧ But (fun q => q = b ∨ q = N) w x) (n38.toNat - 0) ?_ ?_;have hk51 := hN.kept hg45 (by simp; omega);have hB52 := fb_at hB0 hg45 (fun hlt => by first | (exfalso; omega) | (simp; done) | simp_all)
 · exact ⟨0, (.slice none 0 0), [], a39, e40, g.sub ⟨rfl, rfl, rfl, rfl, (slot_eq rfl (congrArg (Value.int .i64) (by first | rfl | omega))), trivial⟩, rfl, by omega, by first | rfl | (simp; omega), by first | rfl | exact hR', hk51, ho44, (row_nilL _ _ _ _ _), (by omega), hB52⟩
 · rintro k53 a54 w55 ⟨i, u, ls, ps, er, g, rfl, hi56, hi57, hi58, hf59, hf60, hf61, hf62, hB63⟩
   have hz64 := hB63.size;have hl65 := hf59.lt;have hl66 := hf60.lt;have hR : rR s i ([], a39, e40) = (ls, ps, er) := by assumption
   refine q2 ?_;refine pk0 (v := .bool (decide ((i : Int) < n38))) g rfl fun _ g => q1 <| co_seq ?_;cases hc68 : (decide ((i : Int) < n38))
   ·
    rw [hc68] at g;have hp69 : ¬ ((i : Int) < n38) := of_decide_eq_false hc68;refine co_false g rfl <| wp_exit <| co_thenX <| co_thenX <| qx <| wp_exit ?_;refine co_blockY (by decide) ?_;refine co_thenX ?_;refine co_blockY (by decide) ?_;refine co_thenX <| qx <| q9 ?_;refine pk0 (v := pt b 0) g rfl fun _ g => ?_;refine pw g rfl (op_call (args := #[pt b 0]) (R := fun res xw => res = .int .i64 er ∧ w55 = xw) rfl rfl rfl (by kernel_rfl) (by kernel_rfl) (Try.call19 _ _) (or_err b s ps er w55 hf60) (by rintro q x ⟨rfl, rfl⟩; exact ⟨_, rfl, rfl, rfl⟩)) ?_;rintro _ _ a71 ⟨rfl, rfl⟩ g;refine pk0 (v := .int .i64 er) g rfl fun _ g => q3 ?_;refine pk0 (v := .int .i64 er) g rfl fun _ g => ?_;refine pk0 (v := .bool (er != 0)) g rfl fun _ g => q1 ?_;cases hc76 : (er != 0)
    ·
     rw [hc76] at g;have hp77 : ¬ (er ≠ 0) := by first | simpa using hc76 | simpa [and_assoc] using hc76
     refine co_false g rfl <| q7 ?_;refine pk0 (v := .int .i64 0) g rfl fun _ g => ?_;refine pk0 (v := .int .i64 0) g rfl fun _ g => q4 ?_;refine co_ret1 g rfl rfl ?_;cases hof.symm.trans (rdR_at hq41 hR (by omega));exact ⟨_, ret_int (by omega), (row_lows hf61 (by omega)), hf59, hf60, hB63⟩
    rw [hc76] at g;have hp80 : er ≠ 0 := by first | simpa using hc76 | simpa [and_assoc] using hc76
    refine co_true g rfl <| q2 ?_;refine pk0 (v := .int .i64 er) g rfl fun _ g => ?_;refine pk0 (v := .int .i64 er) g rfl fun _ g => q5 ?_;refine co_ret1 g rfl rfl ?_;cases hof.symm.trans (rdR_at hq41 hR (by omega));exact ⟨_, ret_int (by omega), (row_lows hf61 (by omega)), hf59, hf60, hB63⟩
   rw [hc68] at g;have hp83 : (i : Int) < n38 := of_decide_eq_true hc68;refine co_true g rfl <| q0 <| co_seq <| wp_block ?_;refine dr_gen (fun x => But (fun q => q = b ∨ q = N) w x) (by kernel_rfl) (fun w84 hg85 => ?_) (fun w84 hg85 => ?_)
   ·
    have hz86 := hg85.size;have hB87 := fb_new hB63 hg85;exact hB87
   have hz88 := hg85.size;have hB89 := fb_new hB63 hg85;refine dk0 0 (v := pt N 0) g rfl rfl hB89 fun _ g => ?_;refine dk0 1 (v := pt N 0) g rfl rfl hB89 fun _ g => ?_;refine dk0 2 (v := pt N 0) g rfl rfl hB89 fun _ g => ?_;refine dk0 3 (v := pt N 21) g rfl rfl hB89 fun _ g => ?_;refine dk0 5 (v := pt b 0) g rfl rfl hB89 fun _ g => ?_;refine dk0 7 (v := pt b 0) g rfl rfl hB89 fun _ g => ?_;refine dr_many [4, 6] (by kernel_rfl) (by simp) ⟨?_, ?_, trivial⟩
   ·
    have hk96 := hf59.kept hg85 (by simp);refine dr_opVal (i := 4) (v := u) g rfl rfl rfl rfl (by kernel_rfl) rfl (rn_load1 rfl rfl Try.isAgg32 (hk96.cell rfl)) hB89 (fun _ g => ?_);have ho108 := hf60.new hg85;refine d1 6 g rfl rfl (op_call (args := #[pt b 0, .int .i64 8]) (R := fun res xw => ∃ (n : ByteArray) (a' e' : Int), res = .string n ∧ textR s ps er 8 = (n, a', e') ∧ (n.size : Int) ≤ 8 ∧ OR b s a' e' xw ∧ w84.grownBy xw (some b)) rfl rfl rfl (by kernel_rfl) (by kernel_rfl) (Try.call48 _ _) (or_text b s ps er 8 w84 ho108 (by omega) (by omega) (by omega)) (by rintro q x ⟨n, a', e', rfl, h0, k0, h1, h2⟩; exact ⟨_, rfl, n, a', e', rfl, h0, k0, h1, h2⟩)) ?_ ?_
    ·
     rintro _ w99 ⟨n100, a101, e102, rfl, hq103, hn104, ho106, hg107⟩;have hz109 := hg107.size;have hl110 := ho106.lt;have hB111 := fb_at hB89 hg107 (fun hlt => by first | (exfalso; omega) | (simp; done) | simp_all);exact hB111
    rintro _ w99 a98 ⟨n100, a101, e102, rfl, hq103, hn104, ho106, hg107⟩ g;have hz109 := hg107.size;have hl110 := ho106.lt;have hB111 := fb_at hB89 hg107 (fun hlt => by first | (exfalso; omega) | (simp; done) | simp_all);refine d1 8 g rfl rfl (op_call (args := #[pt b 0, .int .i64 8]) (R := fun res xw => ∃ (n : ByteArray) (a' e' : Int), res = .string n ∧ textR s a101 e102 8 = (n, a', e') ∧ (n.size : Int) ≤ 8 ∧ OR b s a' e' xw ∧ w99.grownBy xw (some b)) rfl rfl rfl (by kernel_rfl) (by kernel_rfl) (Try.call48 _ _) (or_text b s a101 e102 8 w99 ho106 (by omega) (by omega) (by omega)) (by rintro q x ⟨n, a', e', rfl, h0, k0, h1, h2⟩; exact ⟨_, rfl, n, a', e', rfl, h0, k0, h1, h2⟩)) ?_ ?_
    ·
     rintro _ w113 ⟨n114, a115, e116, rfl, hq117, hn118, ho120, hg121⟩;have hz122 := hg121.size;have hl123 := ho120.lt;have hB124 := fb_at hB111 hg121 (fun hlt => by first | (exfalso; omega) | (simp; done) | simp_all);exact hB124
    rintro _ w113 a112 ⟨n114, a115, e116, rfl, hq117, hn118, ho120, hg121⟩ g;have hz122 := hg121.size;have hl123 := ho120.lt;have hB124 := fb_at hB111 hg121 (fun hlt => by first | (exfalso; omega) | (simp; done) | simp_all);refine dk0 9 (v := .agg #[.string n100, .string n114]) g rfl rfl hB124 fun _ g => ?_;refine d1 10 g rfl rfl (op_new (v := fun N => .slice (some ⟨N, 0, none⟩) 1 1) (T := 84) (cs := #[.string n100, .string n114]) (by kernel_rfl) (by kernel_rfl) (by kernel_rfl)) ?_ ?_
    ·
     rintro _ w127 ⟨N128, rfl, hN131, hz132, hk130, hg129⟩;have hr134 := row_kept_new hf61 hg85;have hr135 := row_kept_at hr134 hg107 (row_ne_lt hr134 (by omega));have hr136 := row_kept_at hr135 hg121 (row_ne_lt hr135 (by omega));have ha133 := row_fresh hr136 hN131;have hz137 := hg129.size;have hB138 := fb_new hB124 hg129;exact hB138
    rintro _ w127 a126 ⟨N128, rfl, hN131, hz132, hk130, hg129⟩ g;have hr134 := row_kept_new hf61 hg85;have hr135 := row_kept_at hr134 hg107 (row_ne_lt hr134 (by omega));have hr136 := row_kept_at hr135 hg121 (row_ne_lt hr135 (by omega));have ha133 := row_fresh hr136 hN131;have hz137 := hg129.size
    try dsimp only at g
    have hB138 := fb_new hB124 hg129;have hr145 := row_kept_new hr136 hg129;refine d1 11 g rfl rfl (op_append rfl base49 84 (z := .agg #[.string (⟨#[]⟩), .string (⟨#[]⟩)]) (size := 2) (bytes := 32) Try.underlying32 (by kernel_rfl) rfl rfl rfl hr145 rfl hk130 rfl (by kernel_rfl) (by first | omega | (simp only [List.length_nil, List.length_append, List.length_cons, List.length_take, List.length_drop]; omega)) (by first | omega | (simp only [List.length_nil, List.length_append, List.length_cons, List.length_take, List.length_drop]; omega)) (by omega)) ?_ ?_
    ·
     rintro v141 w140 ⟨hr142, hg143⟩;have hr142' : w140.ownsRow base49 84 2 v141 ((ls ++ [(n100, n114)]).length) ((ls ++ [(n100, n114)]).flatMap prE) := row_push (y := (n100, n114)) hr142 rfl rfl;have hz146 := hg143.size;have hB147 := fb_row hB138 hr145 (by omega) hg143;exact hB147
    rintro v141 w140 a139 ⟨hr142, hg143⟩ g;have hr142' : w140.ownsRow base49 84 2 v141 ((ls ++ [(n100, n114)]).length) ((ls ++ [(n100, n114)]).flatMap prE) := row_push (y := (n100, n114)) hr142 rfl rfl;have hz146 := hg143.size;have hB147 := fb_row hB138 hr145 (by omega) hg143;refine dk0 12 (v := pt N 0) g rfl rfl hB147 fun _ g => ?_;refine dk0 13 (v := pt N 21) g rfl rfl hB147 fun _ g => ?_;have hk155 := hk96.kept hg107 (by simp; omega);have hk156 := hk155.kept hg121 (by simp; omega);have hk157 := hk156.kept hg129 (by simp);have hk158 := hk157.kept hg143 (row_ne_lt hr145 (by omega));refine d1D 14 g rfl rfl (op_store1 rfl rfl rfl (row_one hr142') Try.sizeOf32 hk158 rfl) ?_ ?_
    ·
     rintro _ w151 ⟨hk152, hz153, hg154⟩;have hk152' : Blk w151 N 34 #[.int .i64 ce0, .int .i64 ce1, .int .i64 ce2, .int .i64 ce3, .bool ce4, .int .u64 ce5, .int .u64 ce6, .int .i64 ce7, .int .i64 ce8, .int .i64 ce9, .int .i64 ce10, .string ce11, .string ce12, .int .i64 ce13, ce14, .int .u64 ce15, .int .i64 ce16, .int .i64 ce17, ce18, ce19, ce20, v141] := hk152;have hz159 := hg154.size;have hB160 := fb_at hB147 hg154 (fun hlt => by first | (exfalso; omega) | (simp; done) | simp_all);exact hB160
    rintro _ w151 a150 ⟨hk152, hz153, hg154⟩ g;have hk152' : Blk w151 N 34 #[.int .i64 ce0, .int .i64 ce1, .int .i64 ce2, .int .i64 ce3, .bool ce4, .int .u64 ce5, .int .u64 ce6, .int .i64 ce7, .int .i64 ce8, .int .i64 ce9, .int .i64 ce10, .string ce11, .string ce12, .int .i64 ce13, ce14, .int .u64 ce15, .int .i64 ce16, .int .i64 ce17, ce18, ce19, ce20, v141] := hk152;have hz159 := hg154.size;refine dr_done (by kernel_rfl) ?_;refine co_blockN <| co_then <| co_reg ?_;refine pk (v := .int .i64 ((i + 1 : Nat) : Int)) g rfl (rn_arith' rfl rfl rfl rfl rfl rfl (IntWalk.i64_in _ (by omega)) (by omega)) fun _ g => ?_;refine pk0 (v := .int .i64 ((i + 1 : Nat) : Int)) g rfl fun _ g => q1 ?_;refine ⟨(n38.toNat - (i + 1)), by omega, ?_⟩;have hR' := rR_step hR hq103 hq117;have ho162 := ho120.new hg129;have ho163 := ho162.row (row_ne_lt hr145 (by omega)) hg143;have ho164 := ho163.at (by omega) hg154;have hr165 := row_kept_at hr142' hg154 (row_ne_lt hr142' (by omega));have hB166 := fb_at hB147 hg154 (fun hlt => by first | (exfalso; omega) | (simp; done) | simp_all);exact ⟨i + 1, v141, ls ++ [(n100, n114)], a115, e116, g.sub ⟨rfl, rfl, rfl, rfl, rfl, trivial⟩, rfl, by omega, by first | rfl | (simp; omega), by first | rfl | exact hR', hk152', ho164, (row_eq hr165 (rfl)), (by omega), hB166⟩
   have ho177 := hf60.new hg85;refine dr_op (i := 6) g rfl rfl rfl rfl (op_call (args := #[pt b 0, .int .i64 8]) (R := fun res xw => ∃ (n : ByteArray) (a' e' : Int), res = .string n ∧ textR s ps er 8 = (n, a', e') ∧ (n.size : Int) ≤ 8 ∧ OR b s a' e' xw ∧ w84.grownBy xw (some b)) rfl rfl rfl (by kernel_rfl) (by kernel_rfl) (Try.call48 _ _) (or_text b s ps er 8 w84 ho177 (by omega) (by omega) (by omega)) (by rintro q x ⟨n, a', e', rfl, h0, k0, h1, h2⟩; exact ⟨_, rfl, n, a', e', rfl, h0, k0, h1, h2⟩)) ?_ ?_
   ·
    rintro _ w168 ⟨n169, a170, e171, rfl, hq172, hn173, ho175, hg176⟩;have hz178 := hg176.size;have hl179 := ho175.lt;have hB180 := fb_at hB89 hg176 (fun hlt => by first | (exfalso; omega) | (simp; done) | simp_all);exact hB180
   rintro _ w168 a167 ⟨n169, a170, e171, rfl, hq172, hn173, ho175, hg176⟩ g;have hz178 := hg176.size;have hl179 := ho175.lt;have hB180 := fb_at hB89 hg176 (fun hlt => by first | (exfalso; omega) | (simp; done) | simp_all);refine dr_many [4, 8] (by kernel_rfl) (by simp) ⟨?_, ?_, trivial⟩
   ·
    have hk181 := hf59.kept hg85 (by simp);have hk182 := hk181.kept hg176 (by simp; omega);refine dr_opVal (i := 4) (v := u) g rfl rfl rfl rfl (by kernel_rfl) rfl (rn_load1 rfl rfl Try.isAgg32 (hk182.cell rfl)) hB180 (fun _ g => ?_);refine d1 8 g rfl rfl (op_call (args := #[pt b 0, .int .i64 8]) (R := fun res xw => ∃ (n : ByteArray) (a' e' : Int), res = .string n ∧ textR s a170 e171 8 = (n, a', e') ∧ (n.size : Int) ≤ 8 ∧ OR b s a' e' xw ∧ w168.grownBy xw (some b)) rfl rfl rfl (by kernel_rfl) (by kernel_rfl) (Try.call48 _ _) (or_text b s a170 e171 8 w168 ho175 (by omega) (by omega) (by omega)) (by rintro q x ⟨n, a', e', rfl, h0, k0, h1, h2⟩; exact ⟨_, rfl, n, a', e', rfl, h0, k0, h1, h2⟩)) ?_ ?_
    ·
     rintro _ w185 ⟨n186, a187, e188, rfl, hq189, hn190, ho192, hg193⟩;have hz194 := hg193.size;have hl195 := ho192.lt;have hB196 := fb_at hB180 hg193 (fun hlt => by first | (exfalso; omega) | (simp; done) | simp_all);exact hB196
    rintro _ w185 a184 ⟨n186, a187, e188, rfl, hq189, hn190, ho192, hg193⟩ g;have hz194 := hg193.size;have hl195 := ho192.lt;have hB196 := fb_at hB180 hg193 (fun hlt => by first | (exfalso; omega) | (simp; done) | simp_all);refine dk0 9 (v := .agg #[.string n169, .string n186]) g rfl rfl hB196 fun _ g => ?_;refine d1 10 g rfl rfl (op_new (v := fun N => .slice (some ⟨N, 0, none⟩) 1 1) (T := 84) (cs := #[.string n169, .string n186]) (by kernel_rfl) (by kernel_rfl) (by kernel_rfl)) ?_ ?_
    ·
     rintro _ w199 ⟨N200, rfl, hN203, hz204, hk202, hg201⟩;have hr206 := row_kept_new hf61 hg85;have hr207 := row_kept_at hr206 hg176 (row_ne_lt hr206 (by omega));have hr208 := row_kept_at hr207 hg193 (row_ne_lt hr207 (by omega));have ha205 := row_fresh hr208 hN203;have hz209 := hg201.size;have hB210 := fb_new hB196 hg201;exact hB210
    rintro _ w199 a198 ⟨N200, rfl, hN203, hz204, hk202, hg201⟩ g;have hr206 := row_kept_new hf61 hg85;have hr207 := row_kept_at hr206 hg176 (row_ne_lt hr206 (by omega));have hr208 := row_kept_at hr207 hg193 (row_ne_lt hr207 (by omega));have ha205 := row_fresh hr208 hN203;have hz209 := hg201.size
    try dsimp only at g
    have hB210 := fb_new hB196 hg201;have hr217 := row_kept_new hr208 hg201;refine d1 11 g rfl rfl (op_append rfl base49 84 (z := .agg #[.string (⟨#[]⟩), .string (⟨#[]⟩)]) (size := 2) (bytes := 32) Try.underlying32 (by kernel_rfl) rfl rfl rfl hr217 rfl hk202 rfl (by kernel_rfl) (by first | omega | (simp only [List.length_nil, List.length_append, List.length_cons, List.length_take, List.length_drop]; omega)) (by first | omega | (simp only [List.length_nil, List.length_append, List.length_cons, List.length_take, List.length_drop]; omega)) (by omega)) ?_ ?_
    ·
     rintro v213 w212 ⟨hr214, hg215⟩;have hr214' : w212.ownsRow base49 84 2 v213 ((ls ++ [(n169, n186)]).length) ((ls ++ [(n169, n186)]).flatMap prE) := row_push (y := (n169, n186)) hr214 rfl rfl;have hz218 := hg215.size;have hB219 := fb_row hB210 hr217 (by omega) hg215;exact hB219
    rintro v213 w212 a211 ⟨hr214, hg215⟩ g;have hr214' : w212.ownsRow base49 84 2 v213 ((ls ++ [(n169, n186)]).length) ((ls ++ [(n169, n186)]).flatMap prE) := row_push (y := (n169, n186)) hr214 rfl rfl;have hz218 := hg215.size;have hB219 := fb_row hB210 hr217 (by omega) hg215;refine dk0 12 (v := pt N 0) g rfl rfl hB219 fun _ g => ?_;refine dk0 13 (v := pt N 21) g rfl rfl hB219 fun _ g => ?_;have hk227 := hk182.kept hg193 (by simp; omega);have hk228 := hk227.kept hg201 (by simp);have hk229 := hk228.kept hg215 (row_ne_lt hr217 (by omega));refine d1D 14 g rfl rfl (op_store1 rfl rfl rfl (row_one hr214') Try.sizeOf32 hk229 rfl) ?_ ?_
    ·
     rintro _ w223 ⟨hk224, hz225, hg226⟩;have hk224' : Blk w223 N 34 #[.int .i64 ce0, .int .i64 ce1, .int .i64 ce2, .int .i64 ce3, .bool ce4, .int .u64 ce5, .int .u64 ce6, .int .i64 ce7, .int .i64 ce8, .int .i64 ce9, .int .i64 ce10, .string ce11, .string ce12, .int .i64 ce13, ce14, .int .u64 ce15, .int .i64 ce16, .int .i64 ce17, ce18, ce19, ce20, v213] := hk224;have hz230 := hg226.size;have hB231 := fb_at hB219 hg226 (fun hlt => by first | (exfalso; omega) | (simp; done) | simp_all);exact hB231
    rintro _ w223 a222 ⟨hk224, hz225, hg226⟩ g;have hk224' : Blk w223 N 34 #[.int .i64 ce0, .int .i64 ce1, .int .i64 ce2, .int .i64 ce3, .bool ce4, .int .u64 ce5, .int .u64 ce6, .int .i64 ce7, .int .i64 ce8, .int .i64 ce9, .int .i64 ce10, .string ce11, .string ce12, .int .i64 ce13, ce14, .int .u64 ce15, .int .i64 ce16, .int .i64 ce17, ce18, ce19, ce20, v213] := hk224;have hz230 := hg226.size;refine dr_done (by kernel_rfl) ?_;refine co_blockN <| co_then <| co_reg ?_;refine pk (v := .int .i64 ((i + 1 : Nat) : Int)) g rfl (rn_arith' rfl rfl rfl rfl rfl rfl (IntWalk.i64_in _ (by omega)) (by omega)) fun _ g => ?_;refine pk0 (v := .int .i64 ((i + 1 : Nat) : Int)) g rfl fun _ g => q1 ?_;refine ⟨(n38.toNat - (i + 1)), by omega, ?_⟩;have hR' := rR_step hR hq172 hq189;have ho233 := ho192.new hg201;have ho234 := ho233.row (row_ne_lt hr217 (by omega)) hg215;have ho235 := ho234.at (by omega) hg226;have hr236 := row_kept_at hr214' hg226 (row_ne_lt hr214' (by omega));have hB237 := fb_at hB219 hg226 (fun hlt => by first | (exfalso; omega) | (simp; done) | simp_all);exact ⟨i + 1, v213, ls ++ [(n169, n186)], a187, e188, g.sub ⟨rfl, rfl, rfl, rfl, rfl, trivial⟩, rfl, by omega, by first | rfl | (simp; omega), by first | rfl | exact hR', hk224', ho235, (row_eq hr236 (rfl)), (by omega), hB237⟩
   refine dr_op (i := 8) g rfl rfl rfl rfl (op_call (args := #[pt b 0, .int .i64 8]) (R := fun res xw => ∃ (n : ByteArray) (a' e' : Int), res = .string n ∧ textR s a170 e171 8 = (n, a', e') ∧ (n.size : Int) ≤ 8 ∧ OR b s a' e' xw ∧ w168.grownBy xw (some b)) rfl rfl rfl (by kernel_rfl) (by kernel_rfl) (Try.call48 _ _) (or_text b s a170 e171 8 w168 ho175 (by omega) (by omega) (by omega)) (by rintro q x ⟨n, a', e', rfl, h0, k0, h1, h2⟩; exact ⟨_, rfl, n, a', e', rfl, h0, k0, h1, h2⟩)) ?_ ?_
   ·
    rintro _ w239 ⟨n240, a241, e242, rfl, hq243, hn244, ho246, hg247⟩;have hz248 := hg247.size;have hl249 := ho246.lt;have hB250 := fb_at hB180 hg247 (fun hlt => by first | (exfalso; omega) | (simp; done) | simp_all);exact hB250
   rintro _ w239 a238 ⟨n240, a241, e242, rfl, hq243, hn244, ho246, hg247⟩ g;have hz248 := hg247.size;have hl249 := ho246.lt;have hB250 := fb_at hB180 hg247 (fun hlt => by first | (exfalso; omega) | (simp; done) | simp_all);refine dk0 9 (v := .agg #[.string n169, .string n240]) g rfl rfl hB250 fun _ g => ?_;refine dr_many [4, 10] (by kernel_rfl) (by simp) ⟨?_, ?_, trivial⟩
   ·
    have hk252 := hf59.kept hg85 (by simp);have hk253 := hk252.kept hg176 (by simp; omega);have hk254 := hk253.kept hg247 (by simp; omega);refine dr_opVal (i := 4) (v := u) g rfl rfl rfl rfl (by kernel_rfl) rfl (rn_load1 rfl rfl Try.isAgg32 (hk254.cell rfl)) hB250 (fun _ g => ?_);refine d1 10 g rfl rfl (op_new (v := fun N => .slice (some ⟨N, 0, none⟩) 1 1) (T := 84) (cs := #[.string n169, .string n240]) (by kernel_rfl) (by kernel_rfl) (by kernel_rfl)) ?_ ?_
    ·
     rintro _ w257 ⟨N258, rfl, hN261, hz262, hk260, hg259⟩;have hr264 := row_kept_new hf61 hg85;have hr265 := row_kept_at hr264 hg176 (row_ne_lt hr264 (by omega));have hr266 := row_kept_at hr265 hg247 (row_ne_lt hr265 (by omega));have ha263 := row_fresh hr266 hN261;have hz267 := hg259.size;have hB268 := fb_new hB250 hg259;exact hB268
    rintro _ w257 a256 ⟨N258, rfl, hN261, hz262, hk260, hg259⟩ g;have hr264 := row_kept_new hf61 hg85;have hr265 := row_kept_at hr264 hg176 (row_ne_lt hr264 (by omega));have hr266 := row_kept_at hr265 hg247 (row_ne_lt hr265 (by omega));have ha263 := row_fresh hr266 hN261;have hz267 := hg259.size
    try dsimp only at g
    have hB268 := fb_new hB250 hg259;have hr275 := row_kept_new hr266 hg259;refine d1 11 g rfl rfl (op_append rfl base49 84 (z := .agg #[.string (⟨#[]⟩), .string (⟨#[]⟩)]) (size := 2) (bytes := 32) Try.underlying32 (by kernel_rfl) rfl rfl rfl hr275 rfl hk260 rfl (by kernel_rfl) (by first | omega | (simp only [List.length_nil, List.length_append, List.length_cons, List.length_take, List.length_drop]; omega)) (by first | omega | (simp only [List.length_nil, List.length_append, List.length_cons, List.length_take, List.length_drop]; omega)) (by omega)) ?_ ?_
    ·
     rintro v271 w270 ⟨hr272, hg273⟩;have hr272' : w270.ownsRow base49 84 2 v271 ((ls ++ [(n169, n240)]).length) ((ls ++ [(n169, n240)]).flatMap prE) := row_push (y := (n169, n240)) hr272 rfl rfl;have hz276 := hg273.size;have hB277 := fb_row hB268 hr275 (by omega) hg273;exact hB277
    rintro v271 w270 a269 ⟨hr272, hg273⟩ g;have hr272' : w270.ownsRow base49 84 2 v271 ((ls ++ [(n169, n240)]).length) ((ls ++ [(n169, n240)]).flatMap prE) := row_push (y := (n169, n240)) hr272 rfl rfl;have hz276 := hg273.size;have hB277 := fb_row hB268 hr275 (by omega) hg273;refine dk0 12 (v := pt N 0) g rfl rfl hB277 fun _ g => ?_;refine dk0 13 (v := pt N 21) g rfl rfl hB277 fun _ g => ?_;have hk285 := hk254.kept hg259 (by simp);have hk286 := hk285.kept hg273 (row_ne_lt hr275 (by omega));refine d1D 14 g rfl rfl (op_store1 rfl rfl rfl (row_one hr272') Try.sizeOf32 hk286 rfl) ?_ ?_
    ·
     rintro _ w281 ⟨hk282, hz283, hg284⟩;have hk282' : Blk w281 N 34 #[.int .i64 ce0, .int .i64 ce1, .int .i64 ce2, .int .i64 ce3, .bool ce4, .int .u64 ce5, .int .u64 ce6, .int .i64 ce7, .int .i64 ce8, .int .i64 ce9, .int .i64 ce10, .string ce11, .string ce12, .int .i64 ce13, ce14, .int .u64 ce15, .int .i64 ce16, .int .i64 ce17, ce18, ce19, ce20, v271] := hk282;have hz287 := hg284.size;have hB288 := fb_at hB277 hg284 (fun hlt => by first | (exfalso; omega) | (simp; done) | simp_all);exact hB288
    rintro _ w281 a280 ⟨hk282, hz283, hg284⟩ g;have hk282' : Blk w281 N 34 #[.int .i64 ce0, .int .i64 ce1, .int .i64 ce2, .int .i64 ce3, .bool ce4, .int .u64 ce5, .int .u64 ce6, .int .i64 ce7, .int .i64 ce8, .int .i64 ce9, .int .i64 ce10, .string ce11, .string ce12, .int .i64 ce13, ce14, .int .u64 ce15, .int .i64 ce16, .int .i64 ce17, ce18, ce19, ce20, v271] := hk282;have hz287 := hg284.size;refine dr_done (by kernel_rfl) ?_;refine co_blockN <| co_then <| co_reg ?_;refine pk (v := .int .i64 ((i + 1 : Nat) : Int)) g rfl (rn_arith' rfl rfl rfl rfl rfl rfl (IntWalk.i64_in _ (by omega)) (by omega)) fun _ g => ?_;refine pk0 (v := .int .i64 ((i + 1 : Nat) : Int)) g rfl fun _ g => q1 ?_;refine ⟨(n38.toNat - (i + 1)), by omega, ?_⟩;have hR' := rR_step hR hq172 hq243;have ho290 := ho246.new hg259;have ho291 := ho290.row (row_ne_lt hr275 (by omega)) hg273;have ho292 := ho291.at (by omega) hg284;have hr293 := row_kept_at hr272' hg284 (row_ne_lt hr272' (by omega));have hB294 := fb_at hB277 hg284 (fun hlt => by first | (exfalso; omega) | (simp; done) | simp_all);exact ⟨i + 1, v271, ls ++ [(n169, n240)], a241, e242, g.sub ⟨rfl, rfl, rfl, rfl, rfl, trivial⟩, rfl, by omega, by first | rfl | (simp; omega), by first | rfl | exact hR', hk282', ho292, (row_eq hr293 (rfl)), (by omega), hB294⟩
   refine dr_op (i := 10) g rfl rfl rfl rfl (op_new (v := fun N => .slice (some ⟨N, 0, none⟩) 1 1) (T := 84) (cs := #[.string n169, .string n240]) (by kernel_rfl) (by kernel_rfl) (by kernel_rfl)) ?_ ?_
   ·
    rintro _ w296 ⟨N297, rfl, hN300, hz301, hk299, hg298⟩;have hr303 := row_kept_new hf61 hg85;have hr304 := row_kept_at hr303 hg176 (row_ne_lt hr303 (by omega));have hr305 := row_kept_at hr304 hg247 (row_ne_lt hr304 (by omega));have ha302 := row_fresh hr305 hN300;have hz306 := hg298.size;have hB307 := fb_new hB250 hg298;exact hB307
   rintro _ w296 a295 ⟨N297, rfl, hN300, hz301, hk299, hg298⟩ g;have hr303 := row_kept_new hf61 hg85;have hr304 := row_kept_at hr303 hg176 (row_ne_lt hr303 (by omega));have hr305 := row_kept_at hr304 hg247 (row_ne_lt hr304 (by omega));have ha302 := row_fresh hr305 hN300;have hz306 := hg298.size
   try dsimp only at g
   have hB307 := fb_new hB250 hg298;refine dr_many [4] (by kernel_rfl) (by simp) ⟨?_, trivial⟩;have hk308 := hf59.kept hg85 (by simp);have hk309 := hk308.kept hg176 (by simp; omega);have hk310 := hk309.kept hg247 (by simp; omega);have hk311 := hk310.kept hg298 (by simp);refine dr_opVal (i := 4) (v := u) g rfl rfl rfl rfl (by kernel_rfl) rfl (rn_load1 rfl rfl Try.isAgg32 (hk311.cell rfl)) hB307 (fun _ g => ?_);have hr319 := row_kept_new hr305 hg298;refine d1 11 g rfl rfl (op_append rfl base49 84 (z := .agg #[.string (⟨#[]⟩), .string (⟨#[]⟩)]) (size := 2) (bytes := 32) Try.underlying32 (by kernel_rfl) rfl rfl rfl hr319 rfl hk299 rfl (by kernel_rfl) (by first | omega | (simp only [List.length_nil, List.length_append, List.length_cons, List.length_take, List.length_drop]; omega)) (by first | omega | (simp only [List.length_nil, List.length_append, List.length_cons, List.length_take, List.length_drop]; omega)) (by omega)) ?_ ?_
   ·
    rintro v315 w314 ⟨hr316, hg317⟩;have hr316' : w314.ownsRow base49 84 2 v315 ((ls ++ [(n169, n240)]).length) ((ls ++ [(n169, n240)]).flatMap prE) := row_push (y := (n169, n240)) hr316 rfl rfl;have hz320 := hg317.size;have hB321 := fb_row hB307 hr319 (by omega) hg317;exact hB321
   rintro v315 w314 a313 ⟨hr316, hg317⟩ g;have hr316' : w314.ownsRow base49 84 2 v315 ((ls ++ [(n169, n240)]).length) ((ls ++ [(n169, n240)]).flatMap prE) := row_push (y := (n169, n240)) hr316 rfl rfl;have hz320 := hg317.size;have hB321 := fb_row hB307 hr319 (by omega) hg317;refine dk0 12 (v := pt N 0) g rfl rfl hB321 fun _ g => ?_;refine dk0 13 (v := pt N 21) g rfl rfl hB321 fun _ g => ?_;have hk329 := hk311.kept hg317 (row_ne_lt hr319 (by omega));refine d1D 14 g rfl rfl (op_store1 rfl rfl rfl (row_one hr316') Try.sizeOf32 hk329 rfl) ?_ ?_
   ·
    rintro _ w325 ⟨hk326, hz327, hg328⟩;have hk326' : Blk w325 N 34 #[.int .i64 ce0, .int .i64 ce1, .int .i64 ce2, .int .i64 ce3, .bool ce4, .int .u64 ce5, .int .u64 ce6, .int .i64 ce7, .int .i64 ce8, .int .i64 ce9, .int .i64 ce10, .string ce11, .string ce12, .int .i64 ce13, ce14, .int .u64 ce15, .int .i64 ce16, .int .i64 ce17, ce18, ce19, ce20, v315] := hk326;have hz330 := hg328.size;have hB331 := fb_at hB321 hg328 (fun hlt => by first | (exfalso; omega) | (simp; done) | simp_all);exact hB331
   rintro _ w325 a324 ⟨hk326, hz327, hg328⟩ g;have hk326' : Blk w325 N 34 #[.int .i64 ce0, .int .i64 ce1, .int .i64 ce2, .int .i64 ce3, .bool ce4, .int .u64 ce5, .int .u64 ce6, .int .i64 ce7, .int .i64 ce8, .int .i64 ce9, .int .i64 ce10, .string ce11, .string ce12, .int .i64 ce13, ce14, .int .u64 ce15, .int .i64 ce16, .int .i64 ce17, ce18, ce19, ce20, v315] := hk326;have hz330 := hg328.size;refine dr_done (by kernel_rfl) ?_;refine co_blockN <| co_then <| co_reg ?_;refine pk (v := .int .i64 ((i + 1 : Nat) : Int)) g rfl (rn_arith' rfl rfl rfl rfl rfl rfl (IntWalk.i64_in _ (by omega)) (by omega)) fun _ g => ?_;refine pk0 (v := .int .i64 ((i + 1 : Nat) : Int)) g rfl fun _ g => q1 ?_;refine ⟨(n38.toNat - (i + 1)), by omega, ?_⟩;have hR' := rR_step hR hq172 hq243;have ho333 := ho246.new hg298;have ho334 := ho333.row (row_ne_lt hr319 (by omega)) hg317;have ho335 := ho334.at (by omega) hg328;have hr336 := row_kept_at hr316' hg328 (row_ne_lt hr316' (by omega));have hB337 := fb_at hB321 hg328 (fun hlt => by first | (exfalso; omega) | (simp; done) | simp_all);exact ⟨i + 1, v315, ls ++ [(n169, n240)], a241, e242, g.sub ⟨rfl, rfl, rfl, rfl, rfl, trivial⟩, rfl, by omega, by first | rfl | (simp; omega), by first | rfl | exact hR', hk326', ho335, (row_eq hr336 (rfl)), (by omega), hB337⟩
end Go.Proofs.Ytcbagajjgbfgdaa

/- Steps of a walk over known slots: rows and blocks of other types lie apart; three results, the first one a struct in a cell. Conditions: none. -/
namespace Go.Proofs.Ytcbagajjgbfgdaa
open Go.RowKit
section
variable {P : Program} {n : Nat} {m : List (Nat × Value)} {w x : World} {N : Nat} {T : TypeId} {cs : Array Value}
theorem own_neT {B sz k : Nat} {e : TypeId} {v : Value} {xs : List Value} (h : w.ownsRow B e sz v k xs) (hb : Blk w N T cs) (hT : e ≠ T) : v.ownBlock ≠ some N := fun e1 => by
  rcases h.2 with ⟨rfl, _⟩ | ⟨g, c, cur, rfl, hg, hh, _⟩
  · simp [Value.ownBlock] at e1
  · simp only [Value.ownBlock, Option.some.injEq] at e1
    subst e1
    have := hh.symm.trans hb
    simp only [Option.some.injEq, Obj.cells.injEq] at this
    exact hT this.2.1
theorem sl_form {α : Type} {enc : α → List Value} {sz : Nat} {v : Value} {l : List α} (h : SliceOf enc sz w v l) : ∃ a n c, v = .slice a n c := by
  obtain ⟨ao, cap, rfl, _⟩ := h; exact ⟨_, _, _, rfl⟩
end
end Go.Proofs.Ytcbagajjgbfgdaa

/- Package item: Right, Stamped, Last; how much a list holds. Conditions: none. -/
namespace Go.Proofs.Ytcbagajjgbfgdaa
open Go.RowKit Go.PlainAid
set_option linter.unusedVariables false


theorem entE_len (e : EntT) : (entE e).length = 4 := rfl
end Go.Proofs.Ytcbagajjgbfgdaa

/- Package mess: entries are read. Conditions: none. -/
namespace Go.Proofs.Ytcbagajjgbfgdaa
open Go.RowKit Go.PlainAid
set_option linter.unusedVariables false
set_option linter.unusedSimpArgs false


/-- An entry whose operations lie in a row of its own, from B on. -/
structure OwE (B : Nat) (w : World) (z : EntT) : Prop where
  row : w.ownsRow B 115 3 z.ops z.opl.length (z.opl.flatMap opE)
  each : ∀ o ∈ z.opl, opOk o
  ts0 : 0 ≤ z.ts
  ts1 : z.ts < 18446744073709551616
  cl : (Lit.int .i64 z.client).wf = true
  rq : (Lit.int .i64 z.req).wf = true
def Ents (B : Nat) (w : World) (en : List EntT) : Prop := ∀ z ∈ en, OwE B w z
section
variable {w x : World} {B N : Nat} {en : List EntT}
theorem OwE.map {z : EntT} (h : OwE B w z) (hr : ∀ {v : Value} {k : Nat} {xs : List Value}, w.ownsRow B 115 3 v k xs → x.ownsRow B 115 3 v k xs) : OwE B x z := ⟨hr h.row, h.each, h.ts0, h.ts1, h.cl, h.rq⟩
theorem Ents.new (h : Ents B w en) (hg : w.grownBy x none) : Ents B x en := fun z hz => (h z hz).map (fun r => row_kept_new r hg)
theorem Ents.call (h : Ents B w en) (hb : Below w.heap.size w x) : Ents B x en := h.new (below_grown hb)
theorem Ents.at (h : Ents B w en) (hN : N < B) (hg : w.grownBy x (some N)) : Ents B x en := fun z hz => (h z hz).map (fun r => row_kept_at r hg (row_ne_lt r hN))
theorem Ents.atT {T : TypeId} {cs : Array Value} (h : Ents B w en) (hk : Blk w N T cs) (hT : 115 ≠ T) (hg : w.grownBy x (some N)) : Ents B x en := fun z hz => (h z hz).map (fun r => row_kept_at r hg (fun e1 => by
  obtain ⟨_, h2⟩ := r
  rcases h2 with h2 | ⟨g, cap, cur, hv, hg', hh, _⟩
  · rw [h2.1] at e1; simp [Value.ownBlock] at e1
  · rw [hv] at e1
    simp only [Value.ownBlock, Option.some.injEq] at e1
    subst e1
    unfold Blk at hk; rw [hk] at hh; injection hh with hh; injection hh with h3 h4; exact hT h4.symm))
theorem Ents.row {B' sz k : Nat} {T : TypeId} {v : Value} {ys : List Value} (h : Ents B w en) (hr : w.ownsRow B' T sz v k ys) (hT : 115 ≠ T) (hg : w.grownBy x v.ownBlock) : Ents B x en := fun z hz => (h z hz).map (fun r => row_kept_row r hr hg hT)
theorem Ents.but {S : Nat → Prop} (h : Ents B w en) (hb : But S w x) (hS : ∀ i, S i → i < B) : Ents B x en := fun z hz => (h z hz).map (fun r => own_but r hb (fun i hi hs => by have := hS i hs; have := (r.lt i hi).1; omega))
theorem Ents.sit {r pos : Nat} {s : ByteArray} (h : Ents B w en) (hs : SIt w r s pos) (hg : w.grownBy x (some r)) : Ents B x en := fun z hz => (h z hz).map (fun q => row_kept_at q hg (fun e1 => hs.row q e1))
theorem Ents.nil : Ents B w [] := fun z hz => by cases hz
theorem Ents.low {B' : Nat} (h : Ents B w en) (hb : B' ≤ B) : Ents B' w en := fun z hz => ⟨row_lows (h z hz).row hb, (h z hz).each, (h z hz).ts0, (h z hz).ts1, (h z hz).cl, (h z hz).rq⟩
theorem Ents.snoc {z : EntT} (h : Ents B w en) (hz : OwE B w z) : Ents B w (en ++ [z]) := fun y hy => by
  rcases List.mem_append.1 hy with h1 | h1
  · exact h y h1
  · rw [List.mem_singleton.1 h1]; exact hz
theorem Ents.ok (h : Ents B w en) : ∀ z ∈ en, EntOk w z := fun z hz => ⟨row_sl (h z hz).row opE_len, (h z hz).each, (h z hz).ts0, (h z hz).ts1, (h z hz).cl, (h z hz).rq⟩
end
theorem textR_nil {s t : ByteArray} {a e m a1 e1 : Int} (h : textR s a e m = (t, a1, e1)) (he : e1 ≠ 0) : t = ⟨#[]⟩ := by
  unfold textR at h
  repeat' split at h
  all_goals first | (cases h; rfl) | (cases h; exact absurd rfl he)
theorem numR_e9 {s : ByteArray} {a x m n a1 e1 : Int} (h : numR s a x m = (n, a1, e1)) : e1 ≠ 0 → n = 0 := fun he => by
  unfold numR at h
  split at h
  · cases h; rfl
  · cases h
    rename_i h1
    split
    · rename_i h2; exact absurd h2 he
    · rfl
theorem ofE_nil : (ofE ⟨#[]⟩).2 ≠ 0 := by decide
theorem ofE_bad {s t : ByteArray} {a e m a1 e1 x : Int} {q : Int × Int × List OpT × Int} (h : textR s a e m = (t, a1, e1)) (h2 : ofE t = (q, x)) : e1 ≠ 0 → x ≠ 0 := fun he hx => by
  have := textR_nil h he
  subst this
  exact ofE_nil (by rw [h2]; exact hx)
theorem ofE_own {B : Nat} {w : World} {t : ByteArray} {c r ts x : Int} {l : List OpT} {v : Value} (h : ofE t = ((c, r, l, ts), x)) (hx : x = 0) (hr : w.ownsRow B 115 3 v l.length (l.flatMap opE)) : OwE B w ⟨c, r, v, l, ts⟩ := by
  have h1 := ofE_ts t
  have hb := (backE (s := t) (by rw [h]; exact hx)).2
  rw [h] at h1 hb
  have h2 := chkB_ok hb
  have h3 := chkB_all hb
  have hw : ∀ n : Int, 0 ≤ n ∧ n ≤ 1073741824 → (Lit.int .i64 n).wf = true := fun n hn => by show (decide ((-9223372036854775808 : Int) ≤ n) && decide (n ≤ (9223372036854775807 : Int))) = true; simp; omega
  exact ⟨hr, fun o ho => by have := h3 o ho; unfold OpOk at this; unfold opOk; omega, h1.1, h1.2, hw c (by simp only at h2; omega), hw r (by simp only at h2; omega)⟩

set_option maxRecDepth 100000 in
theorem mEnts_any (b : Nat) (s : ByteArray) (ra : Int) (zl : List EntT) (za : Int) (zr : Int) (w : World) (hsz : s.size ≤ 9223372036854775807) (ho : OR b s ra 0 w) (hof : rdE s ra = (zl, za, zr)) :
    Calls Try.prog 53 #[pt b 0] w fun e w' => ∃ (en2 : List EntT) (x2 : Int) (a2 : Int) (e2 : Int) (u : Value), e = .returned (.tuple #[u, .int .i64 x2]) ∧ w'.ownsRow w.heap.size 66 4 u en2.length (en2.flatMap entE) ∧ OR b s a2 e2 w' ∧ Ents w.heap.size w' en2 ∧ (e2 ≠ 0 → zr = e2) ∧ (e2 = 0 → zr = x2) ∧ (e2 = 0 → x2 = 0 → en2.map pE = zl ∧ a2 = za) ∧ But (fun q => q = b) w w' := by
 have hB0 := But.refl (fun q => q = b) w;have hl_ho := ho.lt;refine co_enter (n := 27) Try.func53 rfl rfl rfl [(0, pt b 0)] rfl (fun a g => ?_);refine q2 ?_;refine pk0 (v := .slice none 0 0) g rfl fun _ g => ?_;refine pk0 (v := .int .i64 0) g rfl fun a2 g => ?_;refine q3 ?_;refine pk0 (v := .slice none 0 0) g rfl fun _ g => q6 ?_;refine pk0 (v := pt b 0) g rfl fun _ g => ?_;refine pw g rfl (op_call (args := #[pt b 0, .int .i64 4]) (R := fun res xw => ∃ (n : Int) (a' e' : Int), res = .int .i64 n ∧ numR s ra 0 4 = (n, a', e') ∧ 0 ≤ n ∧ n ≤ 4 ∧ OR b s a' e' xw ∧ w.grownBy xw (some b)) rfl rfl rfl (by kernel_rfl) (by kernel_rfl) (Try.call18 _ _) (or_num b s ra 0 4 w ho (by omega) (by omega) (by omega)) (by rintro q x ⟨n, a', e', rfl, h0, k0, k1, h1, h2⟩; exact ⟨_, rfl, n, a', e', rfl, h0, k0, k1, h1, h2⟩)) ?_;rintro _ w6 a5 ⟨n7, a8, e9, rfl, hq10, hn11, hm12, ho13, hg14⟩ g;have hz15 := hg14.size;have hl16 := ho13.lt;refine pk0 (v := .int .i64 0) g rfl fun _ g => q1 <| wp_block ?_;obtain ⟨base18, hb_base18⟩ : ∃ b, b = w6.heap.size := ⟨_, rfl⟩;have hbb : b < base18 := by omega
 have k19 := numR_e9 hq10;have g : Slots 27 [(0, pt b 0), (4, .slice none 0 0), (8, .int .i64 n7), (9, .int .i64 0)] _ := g.sub ⟨rfl, rfl, rfl, rfl, trivial⟩;refine co_loop (fun mm a x => ∃ (i : Nat) (u : Value) (en : List EntT) (ls : List EntT) (ps : Int) (er : Int), Slots 27 [(0, pt b 0), (4, u), (8, .int .i64 n7), (9, .int .i64 (i : Int))] a ∧ mm = n7.toNat - i ∧ ((i : Int) ≤ n7) ∧ (en.length = i) ∧ (en.map pE = ls) ∧ (rE s i ([], a8, e9, 0) = (ls, ps, er, 0)) ∧ (er ≠ 0 → n7 = 0) ∧ OR b s ps er x ∧ x.ownsRow base18 66 4 u en.length (en.flatMap entE) ∧ Ents base18 x en ∧ base18 ≤ x.heap.size ∧ But (fun q => q = b) w x) (n7.toNat - 0) ?_ ?_;have hB21 := fb_at hB0 hg14 (fun hlt => by first | (exfalso; omega) | (simp; done) | simp_all)
 · exact ⟨0, (.slice none 0 0), [], [], a8, e9, g.sub ⟨rfl, rfl, rfl, (slot_eq rfl (congrArg (Value.int .i64) (by first | rfl | omega))), trivial⟩, rfl, by omega, by first | rfl | (simp; omega), by first | rfl | (simp [hmp, pE, mkE]; done), by first | rfl | (rw [hze]; exact hR'), by first | assumption | (intro hq; exact absurd hze hq), ho13, (row_nilL _ _ _ _ _), Ents.nil, (by omega), hB21⟩
 · rintro k22 a23 w24 ⟨i, u, en, ls, ps, er, g, rfl, hi25, hi26, hi27, hi28, hi29, hf30, hf31, hf32, hf33, hB34⟩
   have hz35 := hB34.size;have hl36 := hf30.lt;have hR : rE s i ([], a8, e9, 0) = (ls, ps, er, 0) := by assumption
   have hmp : en.map pE = ls := by assumption
   have hern : er ≠ 0 → n7 = 0 := by assumption
   refine q2 ?_;refine pk0 (v := .bool (decide ((i : Int) < n7))) g rfl fun _ g => q1 <| co_seq ?_;cases hc38 : (decide ((i : Int) < n7))
   ·
    rw [hc38] at g;have hp39 : ¬ ((i : Int) < n7) := of_decide_eq_false hc38;refine co_false g rfl <| wp_exit <| co_thenX <| co_thenX <| qx <| q2 ?_;refine pk0 (v := u) g rfl fun _ g => ?_;refine pk0 (v := pt b 0) g rfl fun _ g => ?_;refine pw g rfl (op_call (args := #[pt b 0]) (R := fun res xw => res = .int .i64 er ∧ w24 = xw) rfl rfl rfl (by kernel_rfl) (by kernel_rfl) (Try.call19 _ _) (or_err b s ps er w24 hf30) (by rintro q x ⟨rfl, rfl⟩; exact ⟨_, rfl, rfl, rfl⟩)) ?_;rintro _ _ a42 ⟨rfl, rfl⟩ g;refine pk0 (v := u) g rfl fun _ g => ?_;refine pk0 (v := .int .i64 er) g rfl fun _ g => q4 ?_;refine co_ret2 g rfl rfl rfl ?_;have hof' := hof; rw [rdE_of hq10 hR (by omega) (.inl (by omega))] at hof'; simp only [Prod.mk.injEq] at hof';exact ⟨en, er, ps, er, _, rfl, (row_lows hf31 (by omega)), hf30, Ents.low hf32 (by omega), (fun he => by rw [← hof'.2.2, if_pos he]), (fun he => by rw [← hof'.2.2, if_neg (by simp [he])]; exact he.symm), fun _ _ => ⟨by rw [hmp]; exact hof'.1, hof'.2.1⟩, hB34⟩
   rw [hc38] at g;have hp46 : (i : Int) < n7 := of_decide_eq_true hc38;refine co_true g rfl <| q0 <| co_seq <| wp_block <| q2 ?_;refine pk0 (v := pt b 0) g rfl fun _ g => ?_;obtain ⟨t50, za51, ze52, hot58⟩ : ∃ t a' e', textR s ps er 65536 = (t, a', e') := ⟨_, _, _, rfl⟩;obtain ⟨zc53, zr54, zl55, zt56, zx57, hof59⟩ : ∃ c r l ts x, ofE t50 = ((c, r, l, ts), x) := ⟨_, _, _, _, _, rfl⟩;have k60 := ofE_bad hot58 hof59;have k61 := ofE_ts t50; rw [hof59] at k61; simp only at k61;refine pw g rfl (op_call (args := #[pt b 0, .func (.func 77) #[] #[]]) (R := fun res xw => ∃ u : Value, res = .tuple #[.agg #[.int .i64 zc53, .int .i64 zr54, u, .int .u64 zt56], .int .i64 zx57] ∧ xw.ownsRow w24.heap.size 115 3 u zl55.length (zl55.flatMap opE) ∧ OR b s za51 ze52 xw ∧ But (fun q => q = b) w24 xw) rfl rfl rfl (by kernel_rfl) (by kernel_rfl) (Try.call76 _ _) (mWholeE_any b s ps er t50 zc53 zr54 zl55 zt56 za51 ze52 zx57 w24 (by first | omega | (simp; done) | (simp; omega)) hf30 hot58 hof59) (by rintro e x ⟨u, rfl, hq63, hq64, hb65⟩; exact ⟨_, rfl, ⟨u, rfl, hq63, hq64, hb65⟩⟩)) ?_;rintro _ w49 a48 ⟨u62, rfl, hq63, hq64, hb65⟩ g;have hz66 := hb65.size;have hl67 := sl_len (row_sl hq63 opE_len);have hl68 := hq64.lt;refine pk0 (v := .tuple #[.agg #[.int .i64 zc53, .int .i64 zr54, u62, .int .u64 zt56], .int .i64 zx57]) g rfl fun _ g => ?_;refine pk0 (v := .agg #[.int .i64 zc53, .int .i64 zr54, u62, .int .u64 zt56]) g rfl fun _ g => ?_;refine pk0 (v := .int .i64 zx57) g rfl fun _ g => ?_;refine pw g rfl (op_new (v := fun N => pt N 0) (T := 66) (cs := #[.int .i64 0, .int .i64 0, .slice none 0 0, .int .u64 0]) (by kernel_rfl) (by kernel_rfl) (by kernel_rfl)) ?_;rintro _ w73 a72 ⟨N74, rfl, hN77, hz78, hk76, hg75⟩ g;have hr80 := own_but hf31 hb65 (fun i hi hS => by (try simp at hS); subst hS; exact absurd hi (row_ne_lt hf31 (by omega)));have ha79 := row_fresh hr80 hN77;have ha81 := row_fresh hq63 hN77;have hz82 := hg75.size
   try dsimp only at g
   have hr88 := row_kept_new hq63 hg75;refine pwD g rfl (op_storeN rfl rfl rfl (all_cons rfl (all_cons rfl (all_cons (row_one hr88) (all_cons rfl all_nil)))) (by kernel_rfl) hk76 rfl) ?_;rintro _ w84 a83 ⟨hk85, hz86, hg87⟩ g;have hk85' : Blk w84 N74 66 #[.int .i64 zc53, .int .i64 zr54, u62, .int .u64 zt56] := hk85;have hz89 := hg87.size;refine pk0 (v := .int .i64 zx57) g rfl fun _ g => q6 ?_;refine pk0 (v := .int .i64 zx57) g rfl fun _ g => ?_;refine pk0 (v := .bool (zx57 != 0)) g rfl fun _ g => q1 ?_;have hB94 := fb_foot hB34 hb65 (fun i hlt hS => by (try simp at hS); first | omega | (simp; omega) | simp_all);have hB95 := fb_new hB94 hg75;have hB96 := fb_at hB95 hg87 (fun hlt => by first | (exfalso; omega) | (simp; done) | simp_all);have hr97 := row_kept_new hr80 hg75;have hr98 := row_kept_at hr97 hg87 (ha79);have hE99 := Ents.but hf32 hb65 (fun i hi => by (try simp at hi); omega);have hE100 := Ents.new hE99 hg75;have hE101 := Ents.atT hE100 hk76 (by decide) hg87;have ho102 := hq64.new hg75;have ho103 := ho102.at (by omega) hg87;cases hc93 : (zx57 != 0)
   ·
    rw [hc93] at g;have hp104 : ¬ (zx57 ≠ 0) := by first | simpa using hc93 | simpa [and_assoc] using hc93
    refine co_false g rfl <| q0 <| co_reg ?_;refine pk0 (v := u) g rfl fun _ g => ?_;refine pk (v := .agg #[.int .i64 zc53, .int .i64 zr54, u62, .int .u64 zt56]) g rfl (rn_loadN rfl rfl Try.underlying66 rfl (by kernel_rfl) hk85'.all) fun _ g => ?_;refine pw g rfl (op_new (v := fun N => .slice (some ⟨N, 0, none⟩) 1 1) (T := 66) (cs := #[.int .i64 zc53, .int .i64 zr54, u62, .int .u64 zt56]) (by kernel_rfl) (by kernel_rfl) (by kernel_rfl)) ?_;rintro _ w108 a107 ⟨N109, rfl, hN112, hz113, hk111, hg110⟩ g;have ha114 := row_fresh hr98 hN112;have hr116 := row_kept_at hr88 hg87 (ha81);have ha115 := row_fresh hr116 hN112;have hz117 := hg110.size
    try dsimp only at g
    have hr124 := row_kept_new hr98 hg110;have hr125 := row_kept_new hr116 hg110;refine pw g rfl (op_append rfl base18 66 (z := .agg #[.int .i64 0, .int .i64 0, .slice none 0 0, .int .u64 0]) (size := 4) (bytes := 48) Try.underlying30 (by kernel_rfl) rfl rfl rfl hr124 rfl hk111 rfl (all_cons rfl (all_cons rfl (all_cons (row_one hr125) (all_cons rfl all_nil)))) (by first | omega | (simp only [List.length_nil, List.length_append, List.length_cons, List.length_take, List.length_drop]; omega)) (by first | omega | (simp only [List.length_nil, List.length_append, List.length_cons, List.length_take, List.length_drop]; omega)) (by omega)) ?_;rintro v120 w119 a118 ⟨hr121, hg122⟩ g;have hr121' : w119.ownsRow base18 66 4 v120 ((en ++ [(EntT.mk zc53 zr54 u62 zl55 zt56)]).length) ((en ++ [(EntT.mk zc53 zr54 u62 zl55 zt56)]).flatMap entE) := row_push (y := (EntT.mk zc53 zr54 u62 zl55 zt56)) hr121 rfl rfl;have hz126 := hg122.size;refine pk0 (v := v120) g rfl fun _ g => pl_nil <| co_blockN <| co_then <| co_reg ?_;refine pk (v := .int .i64 ((i + 1 : Nat) : Int)) g rfl (rn_arith' rfl rfl rfl rfl rfl rfl (IntWalk.i64_in _ (by omega)) (by omega)) fun _ g => ?_;refine pk0 (v := .int .i64 ((i + 1 : Nat) : Int)) g rfl fun _ g => q1 ?_;refine ⟨(n7.toNat - (i + 1)), by omega, ?_⟩;have her : er = 0 := by have := hern; omega
    have hze : ze52 = 0 := by omega
    have hzx : zx57 = 0 := by omega
    have hR' : rE s (i + 1) ([], a8, e9, 0) = (ls ++ [mkE (zc53, zr54, zl55, zt56)], za51, 0, 0) := by rw [her] at hR; rw [her, hze] at hot58; rw [hzx] at hof59; exact rE_step hR hot58 hof59
    have ho130 := ho103.new hg110;have ho131 := ho130.row (row_ne_lt hr124 (by omega)) hg122;have hE132 := Ents.new hE101 hg110;have hE133 := Ents.row hE132 hr124 (by decide) hg122;have hr134 := row_kept_row hr125 hr124 hg122 (by decide);have hB135 := fb_new hB96 hg110;have hB136 := fb_row hB135 hr124 (by omega) hg122;exact ⟨i + 1, v120, en ++ [(EntT.mk zc53 zr54 u62 zl55 zt56)], ls ++ [mkE (zc53, zr54, zl55, zt56)], za51, ze52, g.sub ⟨rfl, rfl, rfl, rfl, trivial⟩, rfl, by omega, by first | rfl | (simp; omega), by first | rfl | (simp [hmp, pE, mkE]; done), by first | rfl | (rw [hze]; exact hR'), by first | assumption | (intro hq; exact absurd hze hq), ho131, (row_eq hr121' (rfl)), (Ents.snoc hE133 (ofE_own hof59 (by omega) (row_lows hr134 (by omega)))), (by omega), hB136⟩
   rw [hc93] at g;have hp137 : zx57 ≠ 0 := by first | simpa using hc93 | simpa [and_assoc] using hc93
   refine co_true g rfl <| q2 ?_;refine pk0 (v := .int .i64 zx57) g rfl fun _ g => ?_;refine pk0 (v := .slice none 0 0) g rfl fun _ g => ?_;refine pk0 (v := .int .i64 zx57) g rfl fun _ g => q5 <| qr <| co_thenR <| qr ?_;refine co_ret2 g rfl rfl rfl ?_;have her : er = 0 := by have := hern; omega
   rw [her] at hR; rw [her] at hot58;have hof' := congrArg (·.2.2) hof; simp only at hof';have hz1 : ze52 ≠ 0 → zr = ze52 := fun he => by rw [rdE_of hq10 (rE_bad hR hot58 he) (by omega) (.inr (.inl he))] at hof'; rw [← hof']; exact if_pos he
   have hz2 : ze52 = 0 → zr = zx57 := fun he => by subst he; rw [rdE_of hq10 (rE_step hR hot58 hof59) (by omega) (.inr (.inr (by assumption)))] at hof'; simpa using hof'.symm
   exact ⟨[], zx57, za51, ze52, _, rfl, row_nilL _ _ _ _ _, ho103, Ents.nil, hz1, hz2, fun _ hx => absurd hx (by assumption), hB96⟩
end Go.Proofs.Ytcbagajjgbfgdaa

/- Package mess: read, where a part is entries. Conditions: none. -/
namespace Go.Proofs.Ytcbagajjgbfgdaa
open Go.RowKit Go.PlainAid
set_option linter.unusedVariables false
set_option linter.unusedSimpArgs false

set_option maxRecDepth 100000 in
theorem mRead76_any (b : Nat) (s : ByteArray) (ra : Int) (N : Nat) (ce0 : Int) (ce1 : Int) (ce2 : Int) (ce3 : Int) (ce4 : Bool) (ce5 : Int) (ce6 : Int) (ce7 : Int) (ce8 : Int) (ce9 : Int) (ce10 : Int) (ce11 : ByteArray) (ce12 : ByteArray) (ce13 : Int) (ce14 : Value) (ce15 : Int) (ce16 : Int) (ce17 : Int) (ce18 : Value) (ce19 : Value) (ce20 : Value) (ce21 : Value) (zl : List EntT) (za : Int) (zr : Int) (w : World) (hsz : s.size ≤ 9223372036854775807) (ho : OR b s ra 0 w) (hN : Blk w N 34 #[.int .i64 ce0, .int .i64 ce1, .int .i64 ce2, .int .i64 ce3, .bool ce4, .int .u64 ce5, .int .u64 ce6, .int .i64 ce7, .int .i64 ce8, .int .i64 ce9, .int .i64 ce10, .string ce11, .string ce12, .int .i64 ce13, ce14, .int .u64 ce15, .int .i64 ce16, .int .i64 ce17, ce18, ce19, ce20, ce21]) (hbN : b ≠ N) (hof : rdE s ra = (zl, za, zr)) :
    Calls Try.prog 21 #[pt b 0, pt N 0, .int .i32 76] w fun e w' => ∃ (en2 : List EntT) (a2 : Int) (e2 : Int) (u : Value), e = .returned (.int .i64 zr) ∧ w'.ownsRow w.heap.size 66 4 u en2.length (en2.flatMap entE) ∧ Blk w' N 34 #[.int .i64 ce0, .int .i64 ce1, .int .i64 ce2, .int .i64 ce3, .bool ce4, .int .u64 ce5, .int .u64 ce6, .int .i64 ce7, .int .i64 ce8, .int .i64 ce9, .int .i64 ce10, .string ce11, .string ce12, .int .i64 ce13, ce14, .int .u64 ce15, .int .i64 ce16, .int .i64 ce17, ce18, u, ce20, ce21] ∧ OR b s a2 e2 w' ∧ Ents w.heap.size w' en2 ∧ (zr = 0 → en2.map pE = zl ∧ a2 = za ∧ e2 = 0) ∧ But (fun q => q = b ∨ q = N) w w' := by
 have hB0 := But.refl (fun q => q = b ∨ q = N) w;have hl_ho := ho.lt;have hl_hN := hN.lt;refine co_enter (n := 119) Try.func21 rfl rfl rfl [(0, pt b 0), (1, pt N 0), (2, .int .i32 76)] rfl (fun a g => ?_);refine q2 ?_;refine pk0 (v := .int .i64 0) g rfl fun _ g => q3 ?_;refine pk0 (v := .int .i64 1073741824) g rfl fun a2 g => ?_;refine pk0 (v := .int .i64 0) g rfl fun _ g => q6 ?_;refine pk0 (v := .int .i32 76) g rfl fun _ g => q1 <| wp_block <| co_seq <| wp_block <| co_seq <| wp_block <| co_seq <| wp_block <| co_seq <| wp_block <| co_seq <| wp_block <| co_seq <| wp_block <| co_seq <| wp_block <| co_seq <| wp_block <| co_seq <| wp_block <| co_seq <| wp_block <| co_seq <| q9 ?_;refine pk0 (v := .bool ((76 : Int) == 102)) g rfl fun _ g => ?_;refine pk0 (v := .bool ((76 : Int) == 102)) g rfl fun _ g => q1 ?_;have hc7 : ((76 : Int) == 102) = false := by first | (simp; done) | (simp; omega) | exact beq_false_of_ne (by omega) | exact beq_iff_eq.2 (by omega)
 rw [hc7] at g;refine co_false g rfl <| q0 <| co_seq <| q9 ?_;refine pk0 (v := .bool ((76 : Int) == 97)) g rfl fun _ g => ?_;refine pk0 (v := .bool ((76 : Int) == 97)) g rfl fun _ g => q1 ?_;have hc10 : ((76 : Int) == 97) = false := by first | (simp; done) | (simp; omega) | exact beq_false_of_ne (by omega) | exact beq_iff_eq.2 (by omega)
 rw [hc10] at g;refine co_false g rfl <| co_reg ?_;refine pk0 (v := .bool ((76 : Int) == 108)) g rfl fun _ g => ?_;refine pk0 (v := .bool ((76 : Int) == 108)) g rfl fun _ g => q1 ?_;have hc13 : ((76 : Int) == 108) = false := by first | (simp; done) | (simp; omega) | exact beq_false_of_ne (by omega) | exact beq_iff_eq.2 (by omega)
 rw [hc13] at g;refine co_false g rfl <| q0 <| co_seq <| q9 ?_;refine pk0 (v := .bool ((76 : Int) == 107)) g rfl fun _ g => ?_;refine pk0 (v := .bool ((76 : Int) == 107)) g rfl fun _ g => q1 ?_;have hc16 : ((76 : Int) == 107) = false := by first | (simp; done) | (simp; omega) | exact beq_false_of_ne (by omega) | exact beq_iff_eq.2 (by omega)
 rw [hc16] at g;refine co_false g rfl <| co_reg ?_;refine pk0 (v := .bool ((76 : Int) == 116)) g rfl fun _ g => ?_;refine pk0 (v := .bool ((76 : Int) == 116)) g rfl fun _ g => q1 ?_;have hc19 : ((76 : Int) == 116) = false := by first | (simp; done) | (simp; omega) | exact beq_false_of_ne (by omega) | exact beq_iff_eq.2 (by omega)
 rw [hc19] at g;refine co_false g rfl <| q8 ?_;refine pk0 (v := .bool ((76 : Int) == 67)) g rfl fun _ g => ?_;refine pk0 (v := .bool ((76 : Int) == 67)) g rfl fun _ g => q1 ?_;have hc22 : ((76 : Int) == 67) = false := by first | (simp; done) | (simp; omega) | exact beq_false_of_ne (by omega) | exact beq_iff_eq.2 (by omega)
 rw [hc22] at g;refine co_false g rfl <| q8 ?_;refine pk0 (v := .bool ((76 : Int) == 66)) g rfl fun _ g => ?_;refine pk0 (v := .bool ((76 : Int) == 66)) g rfl fun _ g => q1 ?_;have hc25 : ((76 : Int) == 66) = false := by first | (simp; done) | (simp; omega) | exact beq_false_of_ne (by omega) | exact beq_iff_eq.2 (by omega)
 rw [hc25] at g;refine co_false g rfl <| q8 ?_;refine pk0 (v := .bool ((76 : Int) == 76)) g rfl fun _ g => ?_;refine pk0 (v := .bool ((76 : Int) == 76)) g rfl fun _ g => q1 ?_;have hc28 : ((76 : Int) == 76) = true := by first | (simp; done) | (simp; omega) | exact beq_false_of_ne (by omega) | exact beq_iff_eq.2 (by omega)
 rw [hc28] at g;refine co_true g rfl <| wp_exit <| co_thenX <| co_thenX ?_;refine co_blockY (by decide) ?_;refine co_thenX ?_;refine co_blockY (by decide) ?_;refine co_thenX ?_;refine co_blockY (by decide) ?_;refine co_thenX ?_;refine co_blockY (by decide) ?_;refine co_thenX ?_;refine co_blockY (by decide) ?_;refine co_thenX <| qx <| q2 ?_;refine pk0 (v := pt N 0) g rfl fun _ g => ?_;refine pk0 (v := pt b 0) g rfl fun _ g => ?_;refine pw g rfl (op_call (args := #[pt b 0]) (R := fun res xw => ∃ en2 : List EntT, ∃ x2 : Int, ∃ a2 : Int, ∃ e2 : Int, ∃ u : Value, res = .tuple #[u, .int .i64 x2] ∧ xw.ownsRow w.heap.size 66 4 u en2.length (en2.flatMap entE) ∧ OR b s a2 e2 xw ∧ Ents w.heap.size xw en2 ∧ (e2 ≠ 0 → zr = e2) ∧ (e2 = 0 → zr = x2) ∧ (e2 = 0 → x2 = 0 → en2.map pE = zl ∧ a2 = za) ∧ But (fun q => q = b) w xw) rfl rfl rfl (by kernel_rfl) (by kernel_rfl) (Try.call53 _ _) (mEnts_any b s ra zl za zr w (by first | omega | (simp; done) | (simp; omega)) ho hof) (by rintro e x ⟨en2, x2, a2, e2, u, rfl, hq38, hq39, hq40, hq41, hq42, hq43, hb44⟩; exact ⟨_, rfl, ⟨en2, x2, a2, e2, u, rfl, hq38, hq39, hq40, hq41, hq42, hq43, hb44⟩⟩)) ?_;rintro _ w32 a31 ⟨en233, x234, a235, e236, u37, rfl, hq38, hq39, hq40, hq41, hq42, hq43, hb44⟩ g;have hz45 := hb44.size;have hl46 := sl_len (row_sl hq38 entE_len);have hl47 := hq39.lt;refine pk0 (v := .tuple #[u37, .int .i64 x234]) g rfl fun _ g => ?_;refine pk0 (v := u37) g rfl fun _ g => ?_;refine pk0 (v := .int .i64 x234) g rfl fun _ g => ?_;refine pk0 (v := pt N 0) g rfl fun _ g => ?_;refine pk0 (v := pt N 19) g rfl fun _ g => ?_;have hk58 := hN.but hb44 (by first | omega | (simp; omega));refine pwD g rfl (op_store1 rfl rfl rfl (row_one hq38) Try.sizeOf30 hk58 rfl) ?_;rintro _ w54 a53 ⟨hk55, hz56, hg57⟩ g;have hk55' : Blk w54 N 34 #[.int .i64 ce0, .int .i64 ce1, .int .i64 ce2, .int .i64 ce3, .bool ce4, .int .u64 ce5, .int .u64 ce6, .int .i64 ce7, .int .i64 ce8, .int .i64 ce9, .int .i64 ce10, .string ce11, .string ce12, .int .i64 ce13, ce14, .int .u64 ce15, .int .i64 ce16, .int .i64 ce17, ce18, u37, ce20, ce21] := hk55;have hz59 := hg57.size;refine pk0 (v := .int .i64 x234) g rfl fun _ g => q1 <| wp_exit ?_;refine co_blockY (by decide) ?_;refine co_thenX ?_;refine co_blockY (by decide) ?_;refine co_thenX ?_;refine co_blockY (by decide) ?_;refine co_thenX ?_;refine co_blockY (by decide) ?_;refine co_thenX <| qx <| q9 ?_;refine pk0 (v := pt b 0) g rfl fun _ g => ?_;have ho64 := hq39.at (by omega) hg57;refine pw g rfl (op_call (args := #[pt b 0]) (R := fun res xw => res = .int .i64 e236 ∧ w54 = xw) rfl rfl rfl (by kernel_rfl) (by kernel_rfl) (Try.call19 _ _) (or_err b s a235 e236 w54 ho64) (by rintro q x ⟨rfl, rfl⟩; exact ⟨_, rfl, rfl, rfl⟩)) ?_;rintro _ _ a62 ⟨rfl, rfl⟩ g;refine pk0 (v := .int .i64 e236) g rfl fun _ g => q3 ?_;refine pk0 (v := .int .i64 e236) g rfl fun _ g => ?_;refine pk0 (v := .bool (e236 != 0)) g rfl fun _ g => q1 ?_;have hB69 := fb_foot hB0 hb44 (fun i hlt hS => by (try simp at hS); first | omega | (simp; omega) | simp_all);have hB70 := fb_at hB69 hg57 (fun hlt => by first | (exfalso; omega) | (simp; done) | simp_all);cases hc68 : (e236 != 0)
 ·
  rw [hc68] at g;have hp71 : ¬ (e236 ≠ 0) := by first | simpa using hc68 | simpa [and_assoc] using hc68
  refine co_false g rfl <| q7 ?_;refine pk0 (v := .int .i64 x234) g rfl fun _ g => ?_;refine pk0 (v := .int .i64 x234) g rfl fun _ g => q4 ?_;refine co_ret1 g rfl rfl ?_;have hr74 := row_kept_at hq38 hg57 (row_ne_lt hq38 (by omega));have hE75 := Ents.atT hq40 hk58 (by decide) hg57;exact ⟨en233, a235, e236, _, ret_int (by omega), (row_lows hr74 (by omega)), hk55', ho64, Ents.low hE75 (by omega), (fun hz => ⟨(hq43 (by omega) (by omega)).1, (hq43 (by omega) (by omega)).2, by omega⟩), hB70⟩
 rw [hc68] at g;have hp76 : e236 ≠ 0 := by first | simpa using hc68 | simpa [and_assoc] using hc68
 refine co_true g rfl <| q2 ?_;refine pk0 (v := .int .i64 e236) g rfl fun _ g => ?_;refine pk0 (v := .int .i64 e236) g rfl fun _ g => q5 ?_;refine co_ret1 g rfl rfl ?_;have hr79 := row_kept_at hq38 hg57 (row_ne_lt hq38 (by omega));have hE80 := Ents.atT hq40 hk58 (by decide) hg57;exact ⟨en233, a235, e236, _, ret_int (by omega), (row_lows hr79 (by omega)), hk55', ho64, Ents.low hE80 (by omega), (fun hz => ⟨(hq43 (by omega) (by omega)).1, (hq43 (by omega) (by omega)).2, by omega⟩), hB70⟩
end Go.Proofs.Ytcbagajjgbfgdaa

/- Package mess: read, whatever letter it is given. Conditions: none. -/
namespace Go.Proofs.Ytcbagajjgbfgdaa
open Go.RowKit Go.PlainAid
set_option linter.unusedVariables false
set_option linter.unusedSimpArgs false


/-- What is known of a message that was read. -/
structure MsgS (w : World) (d : MsgD) (mv bv ev sv pv : Value) : Prop where
  mem : SliceOf memE 2 w mv d.cms
  ops : SliceOf opE 3 w bv d.bl
  ent : SliceOf entE 4 w ev d.en
  st : SliceOf (intE .u64) 1 w sv d.st
  pr : SliceOf prE 2 w pv d.pr
  ok : ∀ z ∈ d.en, EntOk w z
theorem MsgS.below {w w' : World} {d : MsgD} {mv bv ev sv pv : Value} (h : MsgS w d mv bv ev sv pv) (hb : Below w.heap.size w w') : MsgS w' d mv bv ev sv pv := ⟨h.mem.below hb, h.ops.below hb, h.ent.below hb, h.st.below hb, h.pr.below hb, fun z hz => (h.ok z hz).below hb⟩
theorem zM_S (w : World) (k : Int) : MsgS w (zM k) (.slice none 0 0) (.slice none 0 0) (.slice none 0 0) (.slice none 0 0) (.slice none 0 0) := ⟨sl_nil _, sl_nil _, sl_nil _, sl_nil _, sl_nil _, fun z hz => by cases hz⟩
theorem ofC_ok9 (s : ByteArray) : (∀ m ∈ (ofC s).1.2.1, memOk m) ∧ (-9223372036854775808 ≤ (ofC s).1.1 ∧ (ofC s).1.1 ≤ 9223372036854775807) ∧ (0 ≤ (ofC s).1.2.2 ∧ (ofC s).1.2.2 < 18446744073709551616) := by
  unfold ofC
  split
  · have h1 := numR_bd s 0 0 1073741824 (by omega)
    refine ⟨ofRows_ok _ _ _ _ _ (by simp), ⟨?_, ?_⟩, bigR_bd _ _ _⟩
    · show _ ≤ (numR s 0 0 1073741824).1; omega
    · show (numR s 0 0 1073741824).1 ≤ _; omega
  · exact ⟨by simp, by simp, by simp⟩
theorem rS_bd (s : ByteArray) : ∀ (i : Nat) (a e : Int), ∀ t ∈ (rS s i ([], a, e)).1, 0 ≤ t ∧ t < 18446744073709551616
  | 0, _, _, t, h => by cases h
  | i + 1, a, e, t, h => by
    have h' : t ∈ (rS s i ([], a, e)).1 ++ [(bigR s (rS s i ([], a, e)).2.1 (rS s i ([], a, e)).2.2).1] := h
    rcases List.mem_append.1 h' with h1 | h1
    · exact rS_bd s i a e t h1
    · rw [List.mem_singleton.1 h1]; exact bigR_bd _ _ _
theorem rdS_bd (s : ByteArray) (a : Int) : ∀ t ∈ (rdS s a).1, 0 ≤ t ∧ t < 18446744073709551616 := rS_bd s _ _ _
/-- The lists of a message that is being read: rows of their own, from B on. -/
structure Mv (B : Nat) (w : World) (d : MsgD) (mv bv ev sv pv : Value) : Prop where
  mem : w.ownsRow B 102 2 mv d.cms.length (d.cms.flatMap memE)
  ops : w.ownsRow B 115 3 bv d.bl.length (d.bl.flatMap opE)
  ent : w.ownsRow B 66 4 ev d.en.length (d.en.flatMap entE)
  st : w.ownsRow B 22 1 sv d.st.length (d.st.flatMap (intE .u64))
  pr : w.ownsRow B 84 2 pv d.pr.length (d.pr.flatMap prE)
  ents : Ents B w d.en
  R : MsgR d
section
variable {w x : World} {B N : Nat} {d d' : MsgD} {mv bv ev sv pv : Value}
theorem Mv.map (h : Mv B w d mv bv ev sv pv) (hr : ∀ {T : TypeId} {sz k : Nat} {v : Value} {xs : List Value}, T ≠ 34 → w.ownsRow B T sz v k xs → x.ownsRow B T sz v k xs) : Mv B x d mv bv ev sv pv :=
  ⟨hr (by decide) h.mem, hr (by decide) h.ops, hr (by decide) h.ent, hr (by decide) h.st, hr (by decide) h.pr, fun z hz => (h.ents z hz).map (fun r => hr (by decide) r), h.R⟩
theorem Mv.new (h : Mv B w d mv bv ev sv pv) (hg : w.grownBy x none) : Mv B x d mv bv ev sv pv := h.map (fun _ r => row_kept_new r hg)
theorem Mv.call (h : Mv B w d mv bv ev sv pv) (hb : Below w.heap.size w x) : Mv B x d mv bv ev sv pv := h.new (below_grown hb)
theorem Mv.at (h : Mv B w d mv bv ev sv pv) (hN : N < B) (hg : w.grownBy x (some N)) : Mv B x d mv bv ev sv pv := h.map (fun _ r => row_kept_at r hg (row_ne_lt r hN))
theorem Mv.atM {cs : Array Value} (h : Mv B w d mv bv ev sv pv) (hk : Blk w N 34 cs) (hg : w.grownBy x (some N)) : Mv B x d mv bv ev sv pv := h.map (fun hT r => row_kept_at r hg (own_neT r hk hT))
theorem Mv.sit {r pos : Nat} {s : ByteArray} (h : Mv B w d mv bv ev sv pv) (hs : SIt w r s pos) (hg : w.grownBy x (some r)) : Mv B x d mv bv ev sv pv := h.map (fun _ q => row_kept_at q hg (fun e1 => hs.row q e1))
theorem Mv.but {S : Nat → Prop} (h : Mv B w d mv bv ev sv pv) (hb : But S w x) (hS : ∀ i, S i → i < B) : Mv B x d mv bv ev sv pv := h.map (fun _ r => own_but r hb (fun i hi hs => by have := hS i hs; have := (r.lt i hi).1; omega))
theorem Mv.set (h : Mv B w d mv bv ev sv pv) (e1 : d'.cms = d.cms) (e2 : d'.bl = d.bl) (e3 : d'.en = d.en) (e4 : d'.st = d.st) (e5 : d'.pr = d.pr) (hR : MsgR d') : Mv B w d' mv bv ev sv pv := by
  refine ⟨?_, ?_, ?_, ?_, ?_, ?_, hR⟩
  · rw [e1]; exact h.mem
  · rw [e2]; exact h.ops
  · rw [e3]; exact h.ent
  · rw [e4]; exact h.st
  · rw [e5]; exact h.pr
  · rw [e3]; exact h.ents
theorem Mv.S (h : Mv B w d mv bv ev sv pv) : MsgS w d mv bv ev sv pv := ⟨row_sl h.mem memE_len, row_sl h.ops opE_len, row_sl h.ent entE_len, row_sl h.st (intE_len _), row_sl h.pr prE_len, Ents.ok h.ents⟩
theorem Mv.zero (w : World) (B : Nat) (k : Int) : Mv B w (zM k) (.slice none 0 0) (.slice none 0 0) (.slice none 0 0) (.slice none 0 0) (.slice none 0 0) := ⟨row_nilL _ _ _ _ _, row_nilL _ _ _ _ _, row_nilL _ _ _ _ _, row_nilL _ _ _ _ _, row_nilL _ _ _ _ _, Ents.nil, zM_R k⟩
end
theorem foot2 {b N B : Nat} (h1 : b < B) (h2 : N < B) : ∀ i, (i = b ∨ i = N) → i < B := fun i h => by rcases h with h | h <;> omega

/-- What read does, whatever letter it is given. -/
def RdPost (B b N : Nat) (s : ByteArray) (p a : Int) (d : MsgD) (sv pv : Value) (w : World) (e : Ending) (w' : World) : Prop := ∃ (r a' e' : Int) (d' : MsgD) (mv' bv' ev' sv' pv' : Value), e = .returned (.int .i64 r) ∧ Blk w' N 34 #[.int .i64 d'.k, .int .i64 d'.ep, .int .i64 d'.rq, .int .i64 d'.sr, .bool d'.fg, .int .u64 d'.at_, .int .u64 d'.la, .int .i64 d'.n, .int .i64 d'.m, .int .i64 d'.p, .int .i64 d'.e, .string d'.key, .string d'.to_, .int .i64 d'.cep, mv', .int .u64 d'.cfl, .int .i64 d'.bc, .int .i64 d'.br, bv', ev', sv', pv'] ∧ Mv B w' d' mv' bv' ev' sv' pv' ∧ OR b s a' e' w' ∧ (r = 0 → e' = 0) ∧ (r = 0 → rdP s p (nM d) a = (nM d', a', 0)) ∧ (r ≠ 0 → (rdP s p (nM d) a).2.2 = r) ∧ (p ≠ 83 → sv' = sv) ∧ (p ≠ 82 → pv' = pv) ∧ But (fun q => q = b ∨ q = N) w w'
theorem rdAny_101 {B b N : Nat} {s : ByteArray} {a : Int} {d : MsgD} {mv bv ev sv pv : Value} (w : World) (hsz : s.size ≤ 9223372036854775807) (ho : OR b s a 0 w) (hk : Blk w N 34 #[.int .i64 d.k, .int .i64 d.ep, .int .i64 d.rq, .int .i64 d.sr, .bool d.fg, .int .u64 d.at_, .int .u64 d.la, .int .i64 d.n, .int .i64 d.m, .int .i64 d.p, .int .i64 d.e, .string d.key, .string d.to_, .int .i64 d.cep, mv, .int .u64 d.cfl, .int .i64 d.bc, .int .i64 d.br, bv, ev, sv, pv]) (hM : Mv B w d mv bv ev sv pv) (hbN : b ≠ N) (hbB : b < B) (hNB : N < B) (hBw : B ≤ w.heap.size) : Calls Try.prog 21 #[pt b 0, pt N 0, .int .i32 101] w (RdPost B b N s 101 a d sv pv w) := by
  rcases hq : numR s a 0 1073741824 with ⟨v, a', r⟩
  refine (mReadS_any b s a N d mv bv ev sv pv 101 w hsz ho hk hbN (by omega)).mono ?_
  rw [rd_101 (d := d) hq]
  rintro e x ⟨rfl, hk', ho', hb⟩
  exact ⟨r, a', r, { d with ep := v }, mv, bv, ev, sv, pv, rfl, hk', (hM.but hb (foot2 hbB hNB)).set rfl rfl rfl rfl rfl ⟨hM.R.mem, hM.R.rng, hM.R.st⟩, ho', fun h => h, fun h => by subst h; exact rd_101 hq, fun h => by rw [rd_101 hq], fun _ => rfl, fun _ => rfl, hb⟩
theorem rdAny_115 {B b N : Nat} {s : ByteArray} {a : Int} {d : MsgD} {mv bv ev sv pv : Value} (w : World) (hsz : s.size ≤ 9223372036854775807) (ho : OR b s a 0 w) (hk : Blk w N 34 #[.int .i64 d.k, .int .i64 d.ep, .int .i64 d.rq, .int .i64 d.sr, .bool d.fg, .int .u64 d.at_, .int .u64 d.la, .int .i64 d.n, .int .i64 d.m, .int .i64 d.p, .int .i64 d.e, .string d.key, .string d.to_, .int .i64 d.cep, mv, .int .u64 d.cfl, .int .i64 d.bc, .int .i64 d.br, bv, ev, sv, pv]) (hM : Mv B w d mv bv ev sv pv) (hbN : b ≠ N) (hbB : b < B) (hNB : N < B) (hBw : B ≤ w.heap.size) : Calls Try.prog 21 #[pt b 0, pt N 0, .int .i32 115] w (RdPost B b N s 115 a d sv pv w) := by
  rcases hq : numR s a 0 1073741824 with ⟨v, a', r⟩
  refine (mReadS_any b s a N d mv bv ev sv pv 115 w hsz ho hk hbN (by omega)).mono ?_
  rw [rd_115 (d := d) hq]
  rintro e x ⟨rfl, hk', ho', hb⟩
  exact ⟨r, a', r, { d with sr := v }, mv, bv, ev, sv, pv, rfl, hk', (hM.but hb (foot2 hbB hNB)).set rfl rfl rfl rfl rfl ⟨hM.R.mem, hM.R.rng, hM.R.st⟩, ho', fun h => h, fun h => by subst h; exact rd_115 hq, fun h => by rw [rd_115 hq], fun _ => rfl, fun _ => rfl, hb⟩
theorem rdAny_113 {B b N : Nat} {s : ByteArray} {a : Int} {d : MsgD} {mv bv ev sv pv : Value} (w : World) (hsz : s.size ≤ 9223372036854775807) (ho : OR b s a 0 w) (hk : Blk w N 34 #[.int .i64 d.k, .int .i64 d.ep, .int .i64 d.rq, .int .i64 d.sr, .bool d.fg, .int .u64 d.at_, .int .u64 d.la, .int .i64 d.n, .int .i64 d.m, .int .i64 d.p, .int .i64 d.e, .string d.key, .string d.to_, .int .i64 d.cep, mv, .int .u64 d.cfl, .int .i64 d.bc, .int .i64 d.br, bv, ev, sv, pv]) (hM : Mv B w d mv bv ev sv pv) (hbN : b ≠ N) (hbB : b < B) (hNB : N < B) (hBw : B ≤ w.heap.size) : Calls Try.prog 21 #[pt b 0, pt N 0, .int .i32 113] w (RdPost B b N s 113 a d sv pv w) := by
  rcases hq : numR s a 0 1073741824 with ⟨v, a', r⟩
  refine (mReadS_any b s a N d mv bv ev sv pv 113 w hsz ho hk hbN (by omega)).mono ?_
  rw [rd_113 (d := d) hq]
  rintro e x ⟨rfl, hk', ho', hb⟩
  exact ⟨r, a', r, { d with rq := v }, mv, bv, ev, sv, pv, rfl, hk', (hM.but hb (foot2 hbB hNB)).set rfl rfl rfl rfl rfl ⟨hM.R.mem, hM.R.rng, hM.R.st⟩, ho', fun h => h, fun h => by subst h; exact rd_113 hq, fun h => by rw [rd_113 hq], fun _ => rfl, fun _ => rfl, hb⟩
theorem rdAny_110 {B b N : Nat} {s : ByteArray} {a : Int} {d : MsgD} {mv bv ev sv pv : Value} (w : World) (hsz : s.size ≤ 9223372036854775807) (ho : OR b s a 0 w) (hk : Blk w N 34 #[.int .i64 d.k, .int .i64 d.ep, .int .i64 d.rq, .int .i64 d.sr, .bool d.fg, .int .u64 d.at_, .int .u64 d.la, .int .i64 d.n, .int .i64 d.m, .int .i64 d.p, .int .i64 d.e, .string d.key, .string d.to_, .int .i64 d.cep, mv, .int .u64 d.cfl, .int .i64 d.bc, .int .i64 d.br, bv, ev, sv, pv]) (hM : Mv B w d mv bv ev sv pv) (hbN : b ≠ N) (hbB : b < B) (hNB : N < B) (hBw : B ≤ w.heap.size) : Calls Try.prog 21 #[pt b 0, pt N 0, .int .i32 110] w (RdPost B b N s 110 a d sv pv w) := by
  rcases hq : numR s a 0 1073741824 with ⟨v, a', r⟩
  refine (mReadS_any b s a N d mv bv ev sv pv 110 w hsz ho hk hbN (by omega)).mono ?_
  rw [rd_110 (d := d) hq]
  rintro e x ⟨rfl, hk', ho', hb⟩
  exact ⟨r, a', r, { d with n := v }, mv, bv, ev, sv, pv, rfl, hk', (hM.but hb (foot2 hbB hNB)).set rfl rfl rfl rfl rfl ⟨hM.R.mem, hM.R.rng, hM.R.st⟩, ho', fun h => h, fun h => by subst h; exact rd_110 hq, fun h => by rw [rd_110 hq], fun _ => rfl, fun _ => rfl, hb⟩
theorem rdAny_109 {B b N : Nat} {s : ByteArray} {a : Int} {d : MsgD} {mv bv ev sv pv : Value} (w : World) (hsz : s.size ≤ 9223372036854775807) (ho : OR b s a 0 w) (hk : Blk w N 34 #[.int .i64 d.k, .int .i64 d.ep, .int .i64 d.rq, .int .i64 d.sr, .bool d.fg, .int .u64 d.at_, .int .u64 d.la, .int .i64 d.n, .int .i64 d.m, .int .i64 d.p, .int .i64 d.e, .string d.key, .string d.to_, .int .i64 d.cep, mv, .int .u64 d.cfl, .int .i64 d.bc, .int .i64 d.br, bv, ev, sv, pv]) (hM : Mv B w d mv bv ev sv pv) (hbN : b ≠ N) (hbB : b < B) (hNB : N < B) (hBw : B ≤ w.heap.size) : Calls Try.prog 21 #[pt b 0, pt N 0, .int .i32 109] w (RdPost B b N s 109 a d sv pv w) := by
  rcases hq : numR s a 0 1073741824 with ⟨v, a', r⟩
  refine (mReadS_any b s a N d mv bv ev sv pv 109 w hsz ho hk hbN (by omega)).mono ?_
  rw [rd_109 (d := d) hq]
  rintro e x ⟨rfl, hk', ho', hb⟩
  exact ⟨r, a', r, { d with m := v }, mv, bv, ev, sv, pv, rfl, hk', (hM.but hb (foot2 hbB hNB)).set rfl rfl rfl rfl rfl ⟨hM.R.mem, hM.R.rng, hM.R.st⟩, ho', fun h => h, fun h => by subst h; exact rd_109 hq, fun h => by rw [rd_109 hq], fun _ => rfl, fun _ => rfl, hb⟩
theorem rdAny_112 {B b N : Nat} {s : ByteArray} {a : Int} {d : MsgD} {mv bv ev sv pv : Value} (w : World) (hsz : s.size ≤ 9223372036854775807) (ho : OR b s a 0 w) (hk : Blk w N 34 #[.int .i64 d.k, .int .i64 d.ep, .int .i64 d.rq, .int .i64 d.sr, .bool d.fg, .int .u64 d.at_, .int .u64 d.la, .int .i64 d.n, .int .i64 d.m, .int .i64 d.p, .int .i64 d.e, .string d.key, .string d.to_, .int .i64 d.cep, mv, .int .u64 d.cfl, .int .i64 d.bc, .int .i64 d.br, bv, ev, sv, pv]) (hM : Mv B w d mv bv ev sv pv) (hbN : b ≠ N) (hbB : b < B) (hNB : N < B) (hBw : B ≤ w.heap.size) : Calls Try.prog 21 #[pt b 0, pt N 0, .int .i32 112] w (RdPost B b N s 112 a d sv pv w) := by
  rcases hq : numR s a 0 1073741824 with ⟨v, a', r⟩
  refine (mReadS_any b s a N d mv bv ev sv pv 112 w hsz ho hk hbN (by omega)).mono ?_
  rw [rd_112 (d := d) hq]
  rintro e x ⟨rfl, hk', ho', hb⟩
  exact ⟨r, a', r, { d with p := v }, mv, bv, ev, sv, pv, rfl, hk', (hM.but hb (foot2 hbB hNB)).set rfl rfl rfl rfl rfl ⟨hM.R.mem, hM.R.rng, hM.R.st⟩, ho', fun h => h, fun h => by subst h; exact rd_112 hq, fun h => by rw [rd_112 hq], fun _ => rfl, fun _ => rfl, hb⟩
theorem rdAny_120 {B b N : Nat} {s : ByteArray} {a : Int} {d : MsgD} {mv bv ev sv pv : Value} (w : World) (hsz : s.size ≤ 9223372036854775807) (ho : OR b s a 0 w) (hk : Blk w N 34 #[.int .i64 d.k, .int .i64 d.ep, .int .i64 d.rq, .int .i64 d.sr, .bool d.fg, .int .u64 d.at_, .int .u64 d.la, .int .i64 d.n, .int .i64 d.m, .int .i64 d.p, .int .i64 d.e, .string d.key, .string d.to_, .int .i64 d.cep, mv, .int .u64 d.cfl, .int .i64 d.bc, .int .i64 d.br, bv, ev, sv, pv]) (hM : Mv B w d mv bv ev sv pv) (hbN : b ≠ N) (hbB : b < B) (hNB : N < B) (hBw : B ≤ w.heap.size) : Calls Try.prog 21 #[pt b 0, pt N 0, .int .i32 120] w (RdPost B b N s 120 a d sv pv w) := by
  rcases hq : numR s a 0 21 with ⟨v, a', r⟩
  refine (mReadS_any b s a N d mv bv ev sv pv 120 w hsz ho hk hbN (by omega)).mono ?_
  rw [rd_120 (d := d) hq]
  rintro e x ⟨rfl, hk', ho', hb⟩
  exact ⟨r, a', r, { d with e := v }, mv, bv, ev, sv, pv, rfl, hk', (hM.but hb (foot2 hbB hNB)).set rfl rfl rfl rfl rfl ⟨hM.R.mem, hM.R.rng, hM.R.st⟩, ho', fun h => h, fun h => by subst h; exact rd_120 hq, fun h => by rw [rd_120 hq], fun _ => rfl, fun _ => rfl, hb⟩
theorem rdAny_102 {B b N : Nat} {s : ByteArray} {a : Int} {d : MsgD} {mv bv ev sv pv : Value} (w : World) (hsz : s.size ≤ 9223372036854775807) (ho : OR b s a 0 w) (hk : Blk w N 34 #[.int .i64 d.k, .int .i64 d.ep, .int .i64 d.rq, .int .i64 d.sr, .bool d.fg, .int .u64 d.at_, .int .u64 d.la, .int .i64 d.n, .int .i64 d.m, .int .i64 d.p, .int .i64 d.e, .string d.key, .string d.to_, .int .i64 d.cep, mv, .int .u64 d.cfl, .int .i64 d.bc, .int .i64 d.br, bv, ev, sv, pv]) (hM : Mv B w d mv bv ev sv pv) (hbN : b ≠ N) (hbB : b < B) (hNB : N < B) (hBw : B ≤ w.heap.size) : Calls Try.prog 21 #[pt b 0, pt N 0, .int .i32 102] w (RdPost B b N s 102 a d sv pv w) := by
  rcases hq : flagR s a.toNat 0 with ⟨v, a', r⟩
  refine (mReadS_any b s a N d mv bv ev sv pv 102 w hsz ho hk hbN (by omega)).mono ?_
  rw [rd_102 (d := d) hq]
  rintro e x ⟨rfl, hk', ho', hb⟩
  exact ⟨r, a', r, { d with fg := v }, mv, bv, ev, sv, pv, rfl, hk', (hM.but hb (foot2 hbB hNB)).set rfl rfl rfl rfl rfl ⟨hM.R.mem, hM.R.rng, hM.R.st⟩, ho', fun h => h, fun h => by subst h; exact rd_102 hq, fun h => by rw [rd_102 hq], fun _ => rfl, fun _ => rfl, hb⟩
theorem rdAny_97 {B b N : Nat} {s : ByteArray} {a : Int} {d : MsgD} {mv bv ev sv pv : Value} (w : World) (hsz : s.size ≤ 9223372036854775807) (ho : OR b s a 0 w) (hk : Blk w N 34 #[.int .i64 d.k, .int .i64 d.ep, .int .i64 d.rq, .int .i64 d.sr, .bool d.fg, .int .u64 d.at_, .int .u64 d.la, .int .i64 d.n, .int .i64 d.m, .int .i64 d.p, .int .i64 d.e, .string d.key, .string d.to_, .int .i64 d.cep, mv, .int .u64 d.cfl, .int .i64 d.bc, .int .i64 d.br, bv, ev, sv, pv]) (hM : Mv B w d mv bv ev sv pv) (hbN : b ≠ N) (hbB : b < B) (hNB : N < B) (hBw : B ≤ w.heap.size) : Calls Try.prog 21 #[pt b 0, pt N 0, .int .i32 97] w (RdPost B b N s 97 a d sv pv w) := by
  rcases hq : bigR s a 0 with ⟨v, a', r⟩
  have hv := bigR_le (s := s) (a := a) (x := 0); rw [hq] at hv; simp only at hv
  refine (mReadS_any b s a N d mv bv ev sv pv 97 w hsz ho hk hbN (by omega)).mono ?_
  rw [rd_97 (d := d) hq]
  rintro e x ⟨rfl, hk', ho', hb⟩
  exact ⟨r, a', r, { d with at_ := v }, mv, bv, ev, sv, pv, rfl, hk', (hM.but hb (foot2 hbB hNB)).set rfl rfl rfl rfl rfl ⟨hM.R.mem, ⟨hM.R.rng.1, hM.R.rng.2.1, hv, hM.R.rng.2.2.2⟩, hM.R.st⟩, ho', fun h => h, fun h => by subst h; exact rd_97 hq, fun h => by rw [rd_97 hq], fun _ => rfl, fun _ => rfl, hb⟩
theorem rdAny_108 {B b N : Nat} {s : ByteArray} {a : Int} {d : MsgD} {mv bv ev sv pv : Value} (w : World) (hsz : s.size ≤ 9223372036854775807) (ho : OR b s a 0 w) (hk : Blk w N 34 #[.int .i64 d.k, .int .i64 d.ep, .int .i64 d.rq, .int .i64 d.sr, .bool d.fg, .int .u64 d.at_, .int .u64 d.la, .int .i64 d.n, .int .i64 d.m, .int .i64 d.p, .int .i64 d.e, .string d.key, .string d.to_, .int .i64 d.cep, mv, .int .u64 d.cfl, .int .i64 d.bc, .int .i64 d.br, bv, ev, sv, pv]) (hM : Mv B w d mv bv ev sv pv) (hbN : b ≠ N) (hbB : b < B) (hNB : N < B) (hBw : B ≤ w.heap.size) : Calls Try.prog 21 #[pt b 0, pt N 0, .int .i32 108] w (RdPost B b N s 108 a d sv pv w) := by
  rcases hq : bigR s a 0 with ⟨v, a', r⟩
  have hv := bigR_le (s := s) (a := a) (x := 0); rw [hq] at hv; simp only at hv
  refine (mReadS_any b s a N d mv bv ev sv pv 108 w hsz ho hk hbN (by omega)).mono ?_
  rw [rd_108 (d := d) hq]
  rintro e x ⟨rfl, hk', ho', hb⟩
  exact ⟨r, a', r, { d with la := v }, mv, bv, ev, sv, pv, rfl, hk', (hM.but hb (foot2 hbB hNB)).set rfl rfl rfl rfl rfl ⟨hM.R.mem, ⟨hM.R.rng.1, hM.R.rng.2.1, hM.R.rng.2.2.1, hv⟩, hM.R.st⟩, ho', fun h => h, fun h => by subst h; exact rd_108 hq, fun h => by rw [rd_108 hq], fun _ => rfl, fun _ => rfl, hb⟩
theorem rdAny_107 {B b N : Nat} {s : ByteArray} {a : Int} {d : MsgD} {mv bv ev sv pv : Value} (w : World) (hsz : s.size ≤ 9223372036854775807) (ho : OR b s a 0 w) (hk : Blk w N 34 #[.int .i64 d.k, .int .i64 d.ep, .int .i64 d.rq, .int .i64 d.sr, .bool d.fg, .int .u64 d.at_, .int .u64 d.la, .int .i64 d.n, .int .i64 d.m, .int .i64 d.p, .int .i64 d.e, .string d.key, .string d.to_, .int .i64 d.cep, mv, .int .u64 d.cfl, .int .i64 d.bc, .int .i64 d.br, bv, ev, sv, pv]) (hM : Mv B w d mv bv ev sv pv) (hbN : b ≠ N) (hbB : b < B) (hNB : N < B) (hBw : B ≤ w.heap.size) : Calls Try.prog 21 #[pt b 0, pt N 0, .int .i32 107] w (RdPost B b N s 107 a d sv pv w) := by
  rcases hq : textR s a 0 8 with ⟨v, a', r⟩
  refine (mReadS_any b s a N d mv bv ev sv pv 107 w hsz ho hk hbN (by omega)).mono ?_
  rw [rd_107 (d := d) hq]
  rintro e x ⟨rfl, hk', ho', hb⟩
  exact ⟨r, a', r, { d with key := v }, mv, bv, ev, sv, pv, rfl, hk', (hM.but hb (foot2 hbB hNB)).set rfl rfl rfl rfl rfl ⟨hM.R.mem, hM.R.rng, hM.R.st⟩, ho', fun h => h, fun h => by subst h; exact rd_107 hq, fun h => by rw [rd_107 hq], fun _ => rfl, fun _ => rfl, hb⟩
theorem rdAny_116 {B b N : Nat} {s : ByteArray} {a : Int} {d : MsgD} {mv bv ev sv pv : Value} (w : World) (hsz : s.size ≤ 9223372036854775807) (ho : OR b s a 0 w) (hk : Blk w N 34 #[.int .i64 d.k, .int .i64 d.ep, .int .i64 d.rq, .int .i64 d.sr, .bool d.fg, .int .u64 d.at_, .int .u64 d.la, .int .i64 d.n, .int .i64 d.m, .int .i64 d.p, .int .i64 d.e, .string d.key, .string d.to_, .int .i64 d.cep, mv, .int .u64 d.cfl, .int .i64 d.bc, .int .i64 d.br, bv, ev, sv, pv]) (hM : Mv B w d mv bv ev sv pv) (hbN : b ≠ N) (hbB : b < B) (hNB : N < B) (hBw : B ≤ w.heap.size) : Calls Try.prog 21 #[pt b 0, pt N 0, .int .i32 116] w (RdPost B b N s 116 a d sv pv w) := by
  rcases hq : textR s a 0 8 with ⟨v, a', r⟩
  refine (mReadS_any b s a N d mv bv ev sv pv 116 w hsz ho hk hbN (by omega)).mono ?_
  rw [rd_116 (d := d) hq]
  rintro e x ⟨rfl, hk', ho', hb⟩
  exact ⟨r, a', r, { d with to_ := v }, mv, bv, ev, sv, pv, rfl, hk', (hM.but hb (foot2 hbB hNB)).set rfl rfl rfl rfl rfl ⟨hM.R.mem, hM.R.rng, hM.R.st⟩, ho', fun h => h, fun h => by subst h; exact rd_116 hq, fun h => by rw [rd_116 hq], fun _ => rfl, fun _ => rfl, hb⟩
theorem rdAny_67 {B b N : Nat} {s : ByteArray} {a : Int} {d : MsgD} {mv bv ev sv pv : Value} (w : World) (hsz : s.size ≤ 9223372036854775807) (ho : OR b s a 0 w) (hk : Blk w N 34 #[.int .i64 d.k, .int .i64 d.ep, .int .i64 d.rq, .int .i64 d.sr, .bool d.fg, .int .u64 d.at_, .int .u64 d.la, .int .i64 d.n, .int .i64 d.m, .int .i64 d.p, .int .i64 d.e, .string d.key, .string d.to_, .int .i64 d.cep, mv, .int .u64 d.cfl, .int .i64 d.bc, .int .i64 d.br, bv, ev, sv, pv]) (hM : Mv B w d mv bv ev sv pv) (hbN : b ≠ N) (hbB : b < B) (hNB : N < B) (hBw : B ≤ w.heap.size) : Calls Try.prog 21 #[pt b 0, pt N 0, .int .i32 67] w (RdPost B b N s 67 a d sv pv w) := by
  rcases ht : textR s a 0 65536 with ⟨t, a', e'⟩
  rcases hq : ofC t with ⟨⟨ep, ms, fl⟩, x⟩
  obtain ⟨r, hr, hrr⟩ : ∃ r, (if e' ≠ 0 then e' else x) = r ∧ ((e' ≠ 0 → r = e') ∧ (e' = 0 → r = x)) := ⟨_, rfl, fun h => if_pos h, fun h => if_neg (fun q => q h)⟩
  have hz := rdC_at ht hq; rw [hr] at hz
  have hC := ofC_ok9 t; rw [hq] at hC; simp only at hC
  refine (mRead67_any b s a N d.k d.ep d.rq d.sr d.fg d.at_ d.la d.n d.m d.p d.e d.key d.to_ d.cep mv d.cfl d.bc d.br bv ev sv pv t ep ms fl a' e' x r w hsz ho hk hbN ht hq hrr).mono ?_
  rintro e y ⟨u, rfl, hrow, hk', ho', hb⟩
  have hM' := hM.but hb (foot2 hbB hNB)
  exact ⟨r, a', e', { d with cep := ep, cms := ms, cfl := fl }, u, bv, ev, sv, pv, rfl, hk', ⟨row_lows hrow hBw, hM'.ops, hM'.ent, hM'.st, hM'.pr, hM'.ents, ⟨hC.1, ⟨hC.2.1, hC.2.2, hM.R.rng.2.2⟩, hM.R.st⟩⟩, ho', fun h => by omega, fun h => by subst h; exact rd_67 hz, fun h => by rw [rd_67 hz], fun _ => rfl, fun _ => rfl, hb⟩
theorem rdAny_66 {B b N : Nat} {s : ByteArray} {a : Int} {d : MsgD} {mv bv ev sv pv : Value} (w : World) (hsz : s.size ≤ 9223372036854775807) (ho : OR b s a 0 w) (hk : Blk w N 34 #[.int .i64 d.k, .int .i64 d.ep, .int .i64 d.rq, .int .i64 d.sr, .bool d.fg, .int .u64 d.at_, .int .u64 d.la, .int .i64 d.n, .int .i64 d.m, .int .i64 d.p, .int .i64 d.e, .string d.key, .string d.to_, .int .i64 d.cep, mv, .int .u64 d.cfl, .int .i64 d.bc, .int .i64 d.br, bv, ev, sv, pv]) (hM : Mv B w d mv bv ev sv pv) (hbN : b ≠ N) (hbB : b < B) (hNB : N < B) (hBw : B ≤ w.heap.size) : Calls Try.prog 21 #[pt b 0, pt N 0, .int .i32 66] w (RdPost B b N s 66 a d sv pv w) := by
  rcases ht : textR s a 0 65536 with ⟨t, a', e'⟩
  rcases hq : ofB t with ⟨⟨c, q, l⟩, x⟩
  obtain ⟨r, hr, hrr⟩ : ∃ r, (if e' ≠ 0 then e' else x) = r ∧ ((e' ≠ 0 → r = e') ∧ (e' = 0 → r = x)) := ⟨_, rfl, fun h => if_pos h, fun h => if_neg (fun q => q h)⟩
  have hz := rdB_at ht hq; rw [hr] at hz
  refine (mRead66_any b s a N d.k d.ep d.rq d.sr d.fg d.at_ d.la d.n d.m d.p d.e d.key d.to_ d.cep mv d.cfl d.bc d.br bv ev sv pv t c q l a' e' x r w hsz ho hk hbN ht hq hrr).mono ?_
  rintro e y ⟨u, rfl, hrow, hk', ho', hb⟩
  have hM' := hM.but hb (foot2 hbB hNB)
  exact ⟨r, a', e', { d with bc := c, br := q, bl := l }, mv, u, ev, sv, pv, rfl, hk', ⟨hM'.mem, row_lows hrow hBw, hM'.ent, hM'.st, hM'.pr, hM'.ents, ⟨hM.R.mem, hM.R.rng, hM.R.st⟩⟩, ho', fun h => by omega, fun h => by subst h; exact rd_66 hz, fun h => by rw [rd_66 hz], fun _ => rfl, fun _ => rfl, hb⟩
theorem rdAny_76 {B b N : Nat} {s : ByteArray} {a : Int} {d : MsgD} {mv bv ev sv pv : Value} (w : World) (hsz : s.size ≤ 9223372036854775807) (ho : OR b s a 0 w) (hk : Blk w N 34 #[.int .i64 d.k, .int .i64 d.ep, .int .i64 d.rq, .int .i64 d.sr, .bool d.fg, .int .u64 d.at_, .int .u64 d.la, .int .i64 d.n, .int .i64 d.m, .int .i64 d.p, .int .i64 d.e, .string d.key, .string d.to_, .int .i64 d.cep, mv, .int .u64 d.cfl, .int .i64 d.bc, .int .i64 d.br, bv, ev, sv, pv]) (hM : Mv B w d mv bv ev sv pv) (hbN : b ≠ N) (hbB : b < B) (hNB : N < B) (hBw : B ≤ w.heap.size) : Calls Try.prog 21 #[pt b 0, pt N 0, .int .i32 76] w (RdPost B b N s 76 a d sv pv w) := by
  rcases hq : rdE s a with ⟨l, a', r⟩
  refine (mRead76_any b s a N d.k d.ep d.rq d.sr d.fg d.at_ d.la d.n d.m d.p d.e d.key d.to_ d.cep mv d.cfl d.bc d.br bv ev sv pv l a' r w hsz ho hk hbN hq).mono ?_
  rintro e y ⟨en2, a2, e2, u, rfl, hrow, hk', ho', hE, hz, hb⟩
  have hM' := hM.but hb (foot2 hbB hNB)
  exact ⟨r, a2, e2, { d with en := en2 }, mv, bv, u, sv, pv, rfl, hk', ⟨hM'.mem, hM'.ops, row_lows hrow hBw, hM'.st, hM'.pr, hE.low hBw, ⟨hM.R.mem, hM.R.rng, hM.R.st⟩⟩, ho', fun h => (hz h).2.2, fun h => by obtain ⟨h1, h2, _⟩ := hz h; subst h; rw [rd_76 hq, ← h1, ← h2]; rfl, fun h => by rw [rd_76 hq], fun _ => rfl, fun _ => rfl, hb⟩
theorem rdAny_83 {B b N : Nat} {s : ByteArray} {a : Int} {d : MsgD} {mv bv ev sv pv : Value} (w : World) (hsz : s.size ≤ 9223372036854775807) (ho : OR b s a 0 w) (hk : Blk w N 34 #[.int .i64 d.k, .int .i64 d.ep, .int .i64 d.rq, .int .i64 d.sr, .bool d.fg, .int .u64 d.at_, .int .u64 d.la, .int .i64 d.n, .int .i64 d.m, .int .i64 d.p, .int .i64 d.e, .string d.key, .string d.to_, .int .i64 d.cep, mv, .int .u64 d.cfl, .int .i64 d.bc, .int .i64 d.br, bv, ev, sv, pv]) (hM : Mv B w d mv bv ev sv pv) (hbN : b ≠ N) (hbB : b < B) (hNB : N < B) (hBw : B ≤ w.heap.size) (hsv : sv = .slice none 0 0) : Calls Try.prog 21 #[pt b 0, pt N 0, .int .i32 83] w (RdPost B b N s 83 a d sv pv w) := by
  rcases hq : rdS s a with ⟨l, a', r⟩
  have hS := rdS_bd s a; rw [hq] at hS; simp only at hS
  subst hsv
  refine (mRead83_any b s a N d.k d.ep d.rq d.sr d.fg d.at_ d.la d.n d.m d.p d.e d.key d.to_ d.cep mv d.cfl d.bc d.br bv ev pv l a' r w hsz ho hk hbN hq).mono ?_
  rintro e y ⟨u, rfl, hrow, hk', ho', hb⟩
  have hM' := hM.but hb (foot2 hbB hNB)
  exact ⟨r, a', r, { d with st := l }, mv, bv, ev, u, pv, rfl, hk', ⟨hM'.mem, hM'.ops, hM'.ent, row_lows hrow hBw, hM'.pr, hM'.ents, ⟨hM.R.mem, hM.R.rng, hS⟩⟩, ho', fun h => h, fun h => by subst h; exact rd_83 hq, fun h => by rw [rd_83 hq], fun h => absurd rfl h, fun _ => rfl, hb⟩
theorem rdAny_82 {B b N : Nat} {s : ByteArray} {a : Int} {d : MsgD} {mv bv ev sv pv : Value} (w : World) (hsz : s.size ≤ 9223372036854775807) (ho : OR b s a 0 w) (hk : Blk w N 34 #[.int .i64 d.k, .int .i64 d.ep, .int .i64 d.rq, .int .i64 d.sr, .bool d.fg, .int .u64 d.at_, .int .u64 d.la, .int .i64 d.n, .int .i64 d.m, .int .i64 d.p, .int .i64 d.e, .string d.key, .string d.to_, .int .i64 d.cep, mv, .int .u64 d.cfl, .int .i64 d.bc, .int .i64 d.br, bv, ev, sv, pv]) (hM : Mv B w d mv bv ev sv pv) (hbN : b ≠ N) (hbB : b < B) (hNB : N < B) (hBw : B ≤ w.heap.size) (hpv : pv = .slice none 0 0) : Calls Try.prog 21 #[pt b 0, pt N 0, .int .i32 82] w (RdPost B b N s 82 a d sv pv w) := by
  rcases hq : rdR s a with ⟨l, a', r⟩
  subst hpv
  refine (mRead82_any b s a N d.k d.ep d.rq d.sr d.fg d.at_ d.la d.n d.m d.p d.e d.key d.to_ d.cep mv d.cfl d.bc d.br bv ev sv l a' r w hsz ho hk hbN hq).mono ?_
  rintro e y ⟨u, rfl, hrow, hk', ho', hb⟩
  have hM' := hM.but hb (foot2 hbB hNB)
  exact ⟨r, a', r, { d with pr := l }, mv, bv, ev, sv, u, rfl, hk', ⟨hM'.mem, hM'.ops, hM'.ent, hM'.st, row_lows hrow hBw, hM'.ents, ⟨hM.R.mem, hM.R.rng, hM.R.st⟩⟩, ho', fun h => h, fun h => by subst h; exact rd_82 hq, fun h => by rw [rd_82 hq], fun _ => rfl, fun h => absurd rfl h, hb⟩
end Go.Proofs.Ytcbagajjgbfgdaa

/- Package mess: Of. Conditions: none. -/
namespace Go.Proofs.Ytcbagajjgbfgdaa
open Go.RowKit Go.PlainAid
set_option linter.unusedVariables false
set_option linter.unusedSimpArgs false


theorem rdAny {B b N : Nat} {s : ByteArray} {a p : Int} {d : MsgD} {mv bv ev sv pv : Value} (w : World) (hp : LetP p) (hsv : p = 83 → sv = .slice none 0 0) (hpv : p = 82 → pv = .slice none 0 0) (hsz : s.size ≤ 9223372036854775807) (ho : OR b s a 0 w) (hk : Blk w N 34 #[.int .i64 d.k, .int .i64 d.ep, .int .i64 d.rq, .int .i64 d.sr, .bool d.fg, .int .u64 d.at_, .int .u64 d.la, .int .i64 d.n, .int .i64 d.m, .int .i64 d.p, .int .i64 d.e, .string d.key, .string d.to_, .int .i64 d.cep, mv, .int .u64 d.cfl, .int .i64 d.bc, .int .i64 d.br, bv, ev, sv, pv]) (hM : Mv B w d mv bv ev sv pv) (hbN : b ≠ N) (hbB : b < B) (hNB : N < B) (hBw : B ≤ w.heap.size) : Calls Try.prog 21 #[pt b 0, pt N 0, .int .i32 p] w (RdPost B b N s p a d sv pv w) := by
  rcases hp with rfl | rfl | rfl | rfl | rfl | rfl | rfl | rfl | rfl | rfl | rfl | rfl | rfl | rfl | rfl | rfl | rfl
  · exact rdAny_101 w hsz ho hk hM hbN hbB hNB hBw
  · exact rdAny_115 w hsz ho hk hM hbN hbB hNB hBw
  · exact rdAny_113 w hsz ho hk hM hbN hbB hNB hBw
  · exact rdAny_110 w hsz ho hk hM hbN hbB hNB hBw
  · exact rdAny_109 w hsz ho hk hM hbN hbB hNB hBw
  · exact rdAny_112 w hsz ho hk hM hbN hbB hNB hBw
  · exact rdAny_120 w hsz ho hk hM hbN hbB hNB hBw
  · exact rdAny_97 w hsz ho hk hM hbN hbB hNB hBw
  · exact rdAny_108 w hsz ho hk hM hbN hbB hNB hBw
  · exact rdAny_102 w hsz ho hk hM hbN hbB hNB hBw
  · exact rdAny_107 w hsz ho hk hM hbN hbB hNB hBw
  · exact rdAny_116 w hsz ho hk hM hbN hbB hNB hBw
  · exact rdAny_67 w hsz ho hk hM hbN hbB hNB hBw
  · exact rdAny_66 w hsz ho hk hM hbN hbB hNB hBw
  · exact rdAny_76 w hsz ho hk hM hbN hbB hNB hBw
  · exact rdAny_83 w hsz ho hk hM hbN hbB hNB hBw (hsv rfl)
  · exact rdAny_82 w hsz ho hk hM hbN hbB hNB hBw (hpv rfl)

theorem ptL_nodup (k : Int) : (ptL k).Nodup := by
  unfold ptL
  repeat' split
  all_goals decide
/-- Where the parts' loop stands. -/
structure RdInv (s : ByteArray) (n a0 : Int) (i : Nat) (d : MsgD) (a : Int) (sv pv : Value) : Prop where
  eq : rdL s ((ptL n).drop i) (nM d) a = rdL s (ptL n) (zM n) a0
  sv : 83 ∈ (ptL n).drop i → sv = .slice none 0 0
  pv : 82 ∈ (ptL n).drop i → pv = .slice none 0 0
section
variable {s : ByteArray} {n a0 : Int} {i : Nat} {d d' : MsgD} {a a' r : Int} {sv pv sv' pv' : Value} {c : UInt8}
theorem RdInv.start : RdInv s n a0 0 (zM n) a0 (.slice none 0 0) (.slice none 0 0) := ⟨rfl, fun _ => rfl, fun _ => rfl⟩
theorem RdInv.svAt (h : RdInv s n a0 i d a sv pv) (hc : (ptL n)[i]? = some c) (he : ((c.toNat : Nat) : Int) = 83) : sv = .slice none 0 0 := h.sv (by rw [dropM hc, show c = 83 from UInt8.toNat.inj (by simp; omega)]; simp)
theorem RdInv.pvAt (h : RdInv s n a0 i d a sv pv) (hc : (ptL n)[i]? = some c) (he : ((c.toNat : Nat) : Int) = 82) : pv = .slice none 0 0 := h.pv (by rw [dropM hc, show c = 82 from UInt8.toNat.inj (by simp; omega)]; simp)
theorem RdInv.step (h : RdInv s n a0 i d a sv pv) (hc : (ptL n)[i]? = some c) (hr : rdP s (c.toNat : Int) (nM d) a = (nM d', a', 0)) (h1 : ((c.toNat : Nat) : Int) ≠ 83 → sv' = sv) (h2 : ((c.toNat : Nat) : Int) ≠ 82 → pv' = pv) : RdInv s n a0 (i + 1) d' a' sv' pv' := by
  have hn := ptL_nodup n
  have hd := dropM hc
  have hnd : ((ptL n).drop i).Nodup := hn.sublist (List.drop_sublist _ _)
  rw [hd] at hnd
  have hno := (List.nodup_cons.1 hnd).1
  refine ⟨?_, fun hm => ?_, fun hm => ?_⟩
  · rw [← h.eq, hd]; exact (rdL_ok hr rfl rfl).symm
  · rw [h1 (fun e => hno (by rw [show c = 83 from UInt8.toNat.inj (by simp; omega)]; exact hm))]; exact h.sv (by rw [hd]; exact List.mem_cons_of_mem _ hm)
  · rw [h2 (fun e => hno (by rw [show c = 82 from UInt8.toNat.inj (by simp; omega)]; exact hm))]; exact h.pv (by rw [hd]; exact List.mem_cons_of_mem _ hm)
theorem RdInv.err (h : RdInv s n a0 i d a sv pv) (hc : (ptL n)[i]? = some c) (hr : (rdP s (c.toNat : Int) (nM d) a).2.2 = r) (hx : r ≠ 0) : (rdL s (ptL n) (zM n) a0).2.2 = r := by
  rw [← h.eq, dropM hc]; unfold rdL; rw [if_pos (by rw [hr]; exact hx)]; exact hr
theorem RdInv.fin (h : RdInv s n a0 i d a sv pv) (hi : (ptL n).length ≤ i) : rdL s (ptL n) (zM n) a0 = (nM d, a, 0) := by
  rw [← h.eq, List.drop_eq_nil_of_le hi]; rfl
theorem ofM_k9 {k e : Int} (h : numR s 0 0 15 = (k, a, e)) (he : e = 0) (hk : k = 0) : ofM s = (zM 0, 11) := by subst hk; exact ofM_k h he
theorem ofM_r9 {k e : Int} (h : numR s 0 0 15 = (k, a, e)) (he : e = 0) (hk : k ≠ 0) (h2 : (rdL s (ptL k) (zM k) a).2.2 = r) (hx : r ≠ 0) : ofM s = (zM 0, r) := ofM_r h he hk (show rdL s (ptL k) (zM k) a = (_, _, r) by rw [← h2]) hx
end

set_option maxRecDepth 100000 in
set_option maxHeartbeats 3200000 in
theorem mOf_any (s : ByteArray) (z : MsgD) (x : Int) (w : World) (hsz : s.size ≤ 9223372036854775807) (hof : ofM s = (z, x)) :
    Calls Try.prog 7 #[.string s] w fun e w' => ∃ (dA : MsgD) (mA : Value) (bA : Value) (eA : Value) (sA : Value) (pA : Value), e = .returned (.tuple #[.agg #[.int .i64 dA.k, .int .i64 dA.ep, .int .i64 dA.rq, .int .i64 dA.sr, .bool dA.fg, .int .u64 dA.at_, .int .u64 dA.la, .int .i64 dA.n, .int .i64 dA.m, .int .i64 dA.p, .int .i64 dA.e, .string dA.key, .string dA.to_, .int .i64 dA.cep, mA, .int .u64 dA.cfl, .int .i64 dA.bc, .int .i64 dA.br, bA, eA, sA, pA], .int .i64 x]) ∧ nM dA = z ∧ MsgS w' dA mA bA eA sA pA ∧ MsgR dA ∧ Below w.heap.size w w' := by
 have hB0 := Below.refl w.heap.size w;refine co_enter (n := 55) Try.func7 rfl rfl rfl [(0, .string s)] rfl (fun a g => ?_);refine q2 ?_;refine pw g rfl (op_new (v := fun N => pt N 0) (T := 34) (cs := #[.int .i64 0, .int .i64 0, .int .i64 0, .int .i64 0, .bool false, .int .u64 0, .int .u64 0, .int .i64 0, .int .i64 0, .int .i64 0, .int .i64 0, .string (⟨#[]⟩), .string (⟨#[]⟩), .int .i64 0, .slice none 0 0, .int .u64 0, .int .i64 0, .int .i64 0, .slice none 0 0, .slice none 0 0, .slice none 0 0, .slice none 0 0]) (by kernel_rfl) (by kernel_rfl) (by kernel_rfl)) ?_;rintro _ w2 a1 ⟨N3, rfl, hN6, hz7, hk5, hg4⟩ g;have hz8 := hg4.size
 try dsimp only at g
 refine pk0 (v := .int .i64 0) g rfl fun _ g => q3 ?_;refine pk0 (v := .string s) g rfl fun _ g => ?_;refine pw g rfl (op_call (args := #[.string s]) (R := fun res xw => ∃ b : Nat, res = pt b 0 ∧ b = w2.heap.size ∧ OR b s 0 0 xw ∧ Below w2.heap.size w2 xw) rfl rfl rfl (by kernel_rfl) (by kernel_rfl) (Try.call17 _ _) (or_open s w2) (by rintro e x ⟨b, rfl, h0, h1, h2⟩; exact ⟨_, rfl, b, rfl, h0, h1, h2⟩)) ?_;rintro _ w12 a11 ⟨b13, rfl, hN14, ho15, hb16⟩ g;have hz17 := hb16.size;have hl18 := ho15.lt;refine pk0 (v := pt b13 0) g rfl fun _ g => q3 ?_;refine pk0 (v := pt b13 0) g rfl fun _ g => ?_;refine pw g rfl (op_call (args := #[pt b13 0, .int .i64 15]) (R := fun res xw => ∃ (n : Int) (a' e' : Int), res = .int .i64 n ∧ numR s 0 0 15 = (n, a', e') ∧ 0 ≤ n ∧ n ≤ 15 ∧ OR b13 s a' e' xw ∧ w12.grownBy xw (some b13)) rfl rfl rfl (by kernel_rfl) (by kernel_rfl) (Try.call18 _ _) (or_num b13 s 0 0 15 w12 ho15 (by omega) (by omega) (by omega)) (by rintro q x ⟨n, a', e', rfl, h0, k0, k1, h1, h2⟩; exact ⟨_, rfl, n, a', e', rfl, h0, k0, k1, h1, h2⟩)) ?_;rintro _ w22 a21 ⟨n23, a24, e25, rfl, hq26, hn27, hm28, ho29, hg30⟩ g;have hz31 := hg30.size;have hl32 := ho29.lt;refine pk0 (v := .agg #[.int .i64 n23, .int .i64 0, .int .i64 0, .int .i64 0, .bool false, .int .u64 0, .int .u64 0, .int .i64 0, .int .i64 0, .int .i64 0, .int .i64 0, .string (⟨#[]⟩), .string (⟨#[]⟩), .int .i64 0, .slice none 0 0, .int .u64 0, .int .i64 0, .int .i64 0, .slice none 0 0, .slice none 0 0, .slice none 0 0, .slice none 0 0]) g rfl fun _ g => ?_;refine pw g rfl (op_new (v := fun N => pt N 0) (T := 34) (cs := #[.int .i64 0, .int .i64 0, .int .i64 0, .int .i64 0, .bool false, .int .u64 0, .int .u64 0, .int .i64 0, .int .i64 0, .int .i64 0, .int .i64 0, .string (⟨#[]⟩), .string (⟨#[]⟩), .int .i64 0, .slice none 0 0, .int .u64 0, .int .i64 0, .int .i64 0, .slice none 0 0, .slice none 0 0, .slice none 0 0, .slice none 0 0]) (by kernel_rfl) (by kernel_rfl) (by kernel_rfl)) ?_;rintro _ w35 a34 ⟨N36, rfl, hN39, hz40, hk38, hg37⟩ g;have hz41 := hg37.size
 try dsimp only at g
 refine pwD g rfl (op_storeN rfl rfl rfl (all_cons rfl (all_cons rfl (all_cons rfl (all_cons rfl (all_cons rfl (all_cons rfl (all_cons rfl (all_cons rfl (all_cons rfl (all_cons rfl (all_cons rfl (all_cons rfl (all_cons rfl (all_cons rfl (all_cons rfl (all_cons rfl (all_cons rfl (all_cons rfl (all_cons rfl (all_cons rfl (all_cons rfl (all_cons rfl all_nil)))))))))))))))))))))) (by kernel_rfl) hk38 rfl) ?_;rintro _ w43 a42 ⟨hk44, hz45, hg46⟩ g;have hk44' : Blk w43 N36 34 #[.int .i64 n23, .int .i64 0, .int .i64 0, .int .i64 0, .bool false, .int .u64 0, .int .u64 0, .int .i64 0, .int .i64 0, .int .i64 0, .int .i64 0, .string (⟨#[]⟩), .string (⟨#[]⟩), .int .i64 0, .slice none 0 0, .int .u64 0, .int .i64 0, .int .i64 0, .slice none 0 0, .slice none 0 0, .slice none 0 0, .slice none 0 0] := hk44;have hz47 := hg46.size;refine q6 ?_;refine pk0 (v := pt b13 0) g rfl fun _ g => ?_;have ho51 := ho29.new hg37;have ho52 := ho51.at (by omega) hg46;refine pw g rfl (op_call (args := #[pt b13 0]) (R := fun res xw => res = .int .i64 e25 ∧ w43 = xw) rfl rfl rfl (by kernel_rfl) (by kernel_rfl) (Try.call19 _ _) (or_err b13 s a24 e25 w43 ho52) (by rintro q x ⟨rfl, rfl⟩; exact ⟨_, rfl, rfl, rfl⟩)) ?_;rintro _ _ a49 ⟨rfl, rfl⟩ g;refine pk0 (v := .int .i64 e25) g rfl fun _ g => q3 ?_;refine pk0 (v := .int .i64 e25) g rfl fun _ g => ?_;refine pk0 (v := .bool (e25 != 0)) g rfl fun _ g => q1 ?_;have hB57 := hb_new hB0 hg4;have hB58 := hb_call hB57 hb16;have hB59 := hb_at hB58 hg30 (by omega);have hB60 := hb_new hB59 hg37;have hB61 := hb_at hB60 hg46 (by omega);have hk62 := hk5.below hb16;have hk63 := hk62.kept hg30 (by simp; omega);have hk64 := hk63.kept hg37 (by simp);have hk65 := hk64.kept hg46 (by simp; omega);cases hc56 : (e25 != 0)
 ·
  rw [hc56] at g;have hp66 : ¬ (e25 ≠ 0) := by first | simpa using hc56 | simpa [and_assoc] using hc56
  refine co_false g rfl <| q8 ?_;refine pk0 (v := pt N36 0) g rfl fun _ g => ?_;refine pk (v := .int .i64 n23) g rfl (rn_load1 rfl rfl Try.isAgg3 (hk44'.cell rfl)) fun _ g => ?_;refine pw g rfl (op_call (args := #[.int .i64 n23]) (R := fun res xw => res = .bool (decide (1 ≤ n23 ∧ n23 ≤ 15)) ∧ Below w43.heap.size w43 xw) rfl rfl rfl (by kernel_rfl) (by kernel_rfl) (Try.call20 _ _) (mKnown_any n23 w43 ) (by rintro e x ⟨rfl, hb71⟩; exact ⟨_, rfl, ⟨rfl, hb71⟩⟩)) ?_;rintro _ w70 a69 ⟨rfl, hb71⟩ g;have hz72 := hb71.size;have hB74 := hb_call hB61 hb71;cases hc73 : (decide (1 ≤ n23 ∧ n23 ≤ 15))
  ·
   rw [hc73] at g;have hp75 : ¬ (1 ≤ n23 ∧ n23 ≤ 15) := of_decide_eq_false hc73;refine pk0 (v := .bool true) g rfl fun _ g => q1 ?_;refine co_true g rfl <| q2 ?_;refine pk0 (v := .agg #[.int .i64 0, .int .i64 0, .int .i64 0, .int .i64 0, .bool false, .int .u64 0, .int .u64 0, .int .i64 0, .int .i64 0, .int .i64 0, .int .i64 0, .string (⟨#[]⟩), .string (⟨#[]⟩), .int .i64 0, .slice none 0 0, .int .u64 0, .int .i64 0, .int .i64 0, .slice none 0 0, .slice none 0 0, .slice none 0 0, .slice none 0 0]) g rfl fun _ g => ?_;have hk83 := hk65.below hb71;refine pwD g rfl (op_storeN rfl rfl rfl (all_cons rfl (all_cons rfl (all_cons rfl (all_cons rfl (all_cons rfl (all_cons rfl (all_cons rfl (all_cons rfl (all_cons rfl (all_cons rfl (all_cons rfl (all_cons rfl (all_cons rfl (all_cons rfl (all_cons rfl (all_cons rfl (all_cons rfl (all_cons rfl (all_cons rfl (all_cons rfl (all_cons rfl (all_cons rfl all_nil)))))))))))))))))))))) (by kernel_rfl) hk83 rfl) ?_;rintro _ w79 a78 ⟨hk80, hz81, hg82⟩ g;have hk80' : Blk w79 N3 34 #[.int .i64 0, .int .i64 0, .int .i64 0, .int .i64 0, .bool false, .int .u64 0, .int .u64 0, .int .i64 0, .int .i64 0, .int .i64 0, .int .i64 0, .string (⟨#[]⟩), .string (⟨#[]⟩), .int .i64 0, .slice none 0 0, .int .u64 0, .int .i64 0, .int .i64 0, .slice none 0 0, .slice none 0 0, .slice none 0 0, .slice none 0 0] := hk80;have hz84 := hg82.size;refine pk0 (v := .int .i64 11) g rfl fun _ g => q5 ?_;refine co_retC1 (Q := fun _ _ _ => True) g rfl rfl rfl hk80' Try.underlying34 rfl (by kernel_rfl) ?_;have hB86 := hb_at hB74 hg82 (by omega);cases hof.symm.trans (ofM_k9 hq26 (by omega) (by omega));exact ⟨zM 0, _, _, _, _, _, rfl, rfl, zM_S _ 0, zM_R 0, hB86⟩
  rw [hc73] at g;have hp87 : 1 ≤ n23 ∧ n23 ≤ 15 := of_decide_eq_true hc73;refine pk0 (v := .bool false) g rfl fun _ g => q1 ?_;refine co_false g rfl <| q8 ?_;refine pk0 (v := pt N36 0) g rfl fun _ g => ?_;have hk90 := hk44'.below hb71;refine pk (v := .int .i64 n23) g rfl (rn_load1 rfl rfl Try.isAgg3 (hk90.cell rfl)) fun _ g => ?_;refine pw g rfl (op_call (args := #[.int .i64 n23]) (R := fun res xw => res = .string (pstr n23) ∧ Below w70.heap.size w70 xw) rfl rfl rfl (by kernel_rfl) (by kernel_rfl) (Try.call14 _ _) (mParts_any n23 w70 ) (by rintro e x ⟨rfl, hb94⟩; exact ⟨_, rfl, ⟨rfl, hb94⟩⟩)) ?_;rintro _ w93 a92 ⟨rfl, hb94⟩ g;have hz95 := hb94.size;refine pw g rfl (op_rangeS rfl rfl Try.underlying9) ?_;rintro _ w97 a96 ⟨r98, rfl, hN99, hI100, hz101, hg102⟩ g;have hz103 := hg102.size;have hl104 := hI100.lt;refine q1 <| wp_block ?_;obtain ⟨base105, hb_base105⟩ : ∃ b, b = w97.heap.size := ⟨_, rfl⟩;have k106 : N36 < base105 := by omega
  have k107 : b13 < base105 := by omega
  have g : Slots 55 [(2, pt N3 0), (3, .int .i64 0), (4, pt b13 0), (5, pt N36 0), (31, pt r98 0)] _ := g.sub ⟨rfl, rfl, rfl, rfl, rfl, trivial⟩;refine co_loop (fun mm a x => ∃ (i : Nat) (d : MsgD) (mv : Value) (bv : Value) (ev : Value) (sv : Value) (pv : Value) (pa : Int), Slots 55 [(2, pt N3 0), (3, .int .i64 0), (4, pt b13 0), (5, pt N36 0), (31, pt r98 0)] a ∧ mm = (pstr n23).size - i ∧ (i ≤ (pstr n23).size) ∧ (RdInv s n23 a24 i d pa sv pv) ∧ SIt x r98 (pstr n23) i ∧ OR b13 s pa 0 x ∧ Blk x N36 34 #[.int .i64 d.k, .int .i64 d.ep, .int .i64 d.rq, .int .i64 d.sr, .bool d.fg, .int .u64 d.at_, .int .u64 d.la, .int .i64 d.n, .int .i64 d.m, .int .i64 d.p, .int .i64 d.e, .string d.key, .string d.to_, .int .i64 d.cep, mv, .int .u64 d.cfl, .int .i64 d.bc, .int .i64 d.br, bv, ev, sv, pv] ∧ Mv base105 x d mv bv ev sv pv ∧ base105 ≤ x.heap.size ∧ Below w.heap.size w x ∧ Blk x N3 34 #[.int .i64 0, .int .i64 0, .int .i64 0, .int .i64 0, .bool false, .int .u64 0, .int .u64 0, .int .i64 0, .int .i64 0, .int .i64 0, .int .i64 0, .string (⟨#[]⟩), .string (⟨#[]⟩), .int .i64 0, .slice none 0 0, .int .u64 0, .int .i64 0, .int .i64 0, .slice none 0 0, .slice none 0 0, .slice none 0 0, .slice none 0 0]) ((pstr n23).size - 0) ?_ ?_;have ho109 := ho52.below hb71;have ho110 := ho109.below hb94;have ho111 := ho110.new hg102;have hk112 := hk90.below hb94;have hk113 := hk112.kept hg102 (by simp);have hB114 := hb_call hB74 hb94;have hB115 := hb_new hB114 hg102;have hk116 := hk65.below hb71;have hk117 := hk116.below hb94;have hk118 := hk117.kept hg102 (by simp)
  · exact ⟨0, (zM n23), (.slice none 0 0), (.slice none 0 0), (.slice none 0 0), (.slice none 0 0), (.slice none 0 0), a24, g.sub ⟨rfl, rfl, rfl, rfl, rfl, trivial⟩, rfl, by omega, by first | exact RdInv.start | exact hI', hI100, (ho111.e0 (by omega)), hk113, (Mv.zero _ _ _), (by omega), hB115, hk118⟩
  · rintro k119 a120 w121 ⟨i, d, mv, bv, ev, sv, pv, pa, g, rfl, hi122, hi123, hf124, hf125, hf126, hf127, hf128, hB129, hk130⟩
    have hz131 := hB129.size;have hl132 := hk130.lt;have hl133 := hf124.lt;have hl134 := hf125.lt;have hl135 := hf126.lt;have hI : RdInv s n23 a24 i d pa sv pv := by assumption
    refine q2 ?_;refine pl_want g rfl rfl rfl (op_nextS rfl rfl hf124 (pstr_ascii _)) ?_;rintro _ w137 a136 (⟨hend138, rfl, rfl⟩ | ⟨hlt139, rfl, hI140, hz141, hg142⟩) g
    ·
     refine pk0 (v := .bool false) g rfl fun _ g => q1 <| co_seq ?_;refine co_false g rfl <| wp_exit <| co_thenX <| co_thenX <| qx <| q9 ?_;refine pk0 (v := pt b13 0) g rfl fun _ g => ?_;refine pw g rfl (op_call (args := #[pt b13 0]) (R := fun res xw => ∃ r : Int, res = .int .i64 r ∧ endV s pa.toNat 0 = r ∧ Below w121.heap.size w121 xw) rfl rfl rfl (by kernel_rfl) (by kernel_rfl) (Try.call22 _ _) (or_end b13 s pa 0 w121 hf125 (by omega)) (by rintro e x ⟨r, rfl, h0, h2⟩; exact ⟨_, rfl, r, rfl, h0, h2⟩)) ?_;rintro _ w146 a145 ⟨r147, rfl, hq148, hb149⟩ g;have hz150 := hb149.size;refine pk0 (v := .int .i64 r147) g rfl fun _ g => q3 ?_;refine pk0 (v := .int .i64 r147) g rfl fun _ g => ?_;refine pk0 (v := .bool (r147 != 0)) g rfl fun _ g => q1 ?_;have hB155 := hb_call hB129 hb149;cases hc154 : (r147 != 0)
     ·
      rw [hc154] at g;have hp156 : ¬ (r147 ≠ 0) := by first | simpa using hc154 | simpa [and_assoc] using hc154
      refine co_false g rfl <| q8 ?_;have hk157 := hf126.below hb149;refine pk (v := .agg #[.int .i64 d.k, .int .i64 d.ep, .int .i64 d.rq, .int .i64 d.sr, .bool d.fg, .int .u64 d.at_, .int .u64 d.la, .int .i64 d.n, .int .i64 d.m, .int .i64 d.p, .int .i64 d.e, .string d.key, .string d.to_, .int .i64 d.cep, mv, .int .u64 d.cfl, .int .i64 d.bc, .int .i64 d.br, bv, ev, sv, pv]) g rfl (rn_loadN rfl rfl Try.underlying34 rfl (by kernel_rfl) hk157.all) fun _ g => ?_;have hM162 := Mv.call hf127 hb149;refine pw g rfl (op_call (args := #[.agg #[.int .i64 d.k, .int .i64 d.ep, .int .i64 d.rq, .int .i64 d.sr, .bool d.fg, .int .u64 d.at_, .int .u64 d.la, .int .i64 d.n, .int .i64 d.m, .int .i64 d.p, .int .i64 d.e, .string d.key, .string d.to_, .int .i64 d.cep, mv, .int .u64 d.cfl, .int .i64 d.bc, .int .i64 d.br, bv, ev, sv, pv]]) (R := fun res xw => res = .int .i64 (chkMg d) ∧ Below w146.heap.size w146 xw) rfl rfl rfl (by kernel_rfl) (by kernel_rfl) (Try.call11 _ _) (mCheck_any d mv bv ev sv pv w146 (Mv.S hM162).mem (Mv.S hM162).ops (Mv.S hM162).ent (Mv.S hM162).st (Mv.S hM162).pr (Mv.S hM162).ok hM162.R) (by rintro e x ⟨rfl, h⟩; exact ⟨_, rfl, rfl, h⟩)) ?_;rintro _ w160 a159 ⟨rfl, hb161⟩ g;have hz163 := hb161.size;refine pk0 (v := .int .i64 (chkMg d)) g rfl fun _ g => q3 ?_;refine pk0 (v := .int .i64 (chkMg d)) g rfl fun _ g => ?_;refine pk0 (v := .bool (chkMg d != 0)) g rfl fun _ g => q1 ?_;have hB168 := hb_call hB155 hb161;have hk169 := hk130.below hb149;have hk170 := hk169.below hb161;have hI171 := hf124.kept (below_grown hb149) (by simp);have hI172 := hI171.kept (below_grown hb161) (by simp);have ho173 := hf125.below hb149;have ho174 := ho173.below hb161;cases hc167 : (chkMg d != 0)
      ·
       rw [hc167] at g;have hp175 : ¬ (chkMg d ≠ 0) := by first | simpa using hc167 | simpa [and_assoc] using hc167
       refine co_false g rfl <| q7 ?_;have hk176 := hk157.below hb161;refine pk (v := .agg #[.int .i64 d.k, .int .i64 d.ep, .int .i64 d.rq, .int .i64 d.sr, .bool d.fg, .int .u64 d.at_, .int .u64 d.la, .int .i64 d.n, .int .i64 d.m, .int .i64 d.p, .int .i64 d.e, .string d.key, .string d.to_, .int .i64 d.cep, mv, .int .u64 d.cfl, .int .i64 d.bc, .int .i64 d.br, bv, ev, sv, pv]) g rfl (rn_loadN rfl rfl Try.underlying34 rfl (by kernel_rfl) hk176.all) fun _ g => ?_;have hM183 := Mv.call hM162 hb161;refine pwD g rfl (op_storeN rfl rfl rfl (all_cons rfl (all_cons rfl (all_cons rfl (all_cons rfl (all_cons rfl (all_cons rfl (all_cons rfl (all_cons rfl (all_cons rfl (all_cons rfl (all_cons rfl (all_cons rfl (all_cons rfl (all_cons rfl (all_cons (row_one (Mv.mem hM183)) (all_cons rfl (all_cons rfl (all_cons rfl (all_cons (row_one (Mv.ops hM183)) (all_cons (row_one (Mv.ent hM183)) (all_cons (row_one (Mv.st hM183)) (all_cons (row_one (Mv.pr hM183)) all_nil)))))))))))))))))))))) (by kernel_rfl) hk170 rfl) ?_;rintro _ w179 a178 ⟨hk180, hz181, hg182⟩ g;have hk180' : Blk w179 N3 34 #[.int .i64 d.k, .int .i64 d.ep, .int .i64 d.rq, .int .i64 d.sr, .bool d.fg, .int .u64 d.at_, .int .u64 d.la, .int .i64 d.n, .int .i64 d.m, .int .i64 d.p, .int .i64 d.e, .string d.key, .string d.to_, .int .i64 d.cep, mv, .int .u64 d.cfl, .int .i64 d.bc, .int .i64 d.br, bv, ev, sv, pv] := hk180;have hz184 := hg182.size;refine pk0 (v := .int .i64 0) g rfl fun _ g => q4 ?_;refine co_retC1 (Q := fun _ _ _ => True) g rfl rfl rfl hk180' Try.underlying34 rfl (by kernel_rfl) ?_;have hB186 := hb_at hB168 hg182 (by omega);have hM187 := Mv.atM hM183 hk170 hg182;cases hof.symm.trans (ofM_o hq26 (by omega) (by omega) (hI.fin (by have hp1 := pstr_len n23; omega)) (by omega) (by omega));exact ⟨d, mv, bv, ev, sv, pv, rfl, rfl, Mv.S hM187, Mv.R hM187, hB186⟩
      rw [hc167] at g;have hp188 : chkMg d ≠ 0 := by first | simpa using hc167 | simpa [and_assoc] using hc167
      refine co_true g rfl <| q2 ?_;refine pk0 (v := .agg #[.int .i64 0, .int .i64 0, .int .i64 0, .int .i64 0, .bool false, .int .u64 0, .int .u64 0, .int .i64 0, .int .i64 0, .int .i64 0, .int .i64 0, .string (⟨#[]⟩), .string (⟨#[]⟩), .int .i64 0, .slice none 0 0, .int .u64 0, .int .i64 0, .int .i64 0, .slice none 0 0, .slice none 0 0, .slice none 0 0, .slice none 0 0]) g rfl fun _ g => ?_;refine pk0 (v := .int .i64 (chkMg d)) g rfl fun _ g => ?_;refine pwD g rfl (op_storeN rfl rfl rfl (all_cons rfl (all_cons rfl (all_cons rfl (all_cons rfl (all_cons rfl (all_cons rfl (all_cons rfl (all_cons rfl (all_cons rfl (all_cons rfl (all_cons rfl (all_cons rfl (all_cons rfl (all_cons rfl (all_cons rfl (all_cons rfl (all_cons rfl (all_cons rfl (all_cons rfl (all_cons rfl (all_cons rfl (all_cons rfl all_nil)))))))))))))))))))))) (by kernel_rfl) hk170 rfl) ?_;rintro _ w192 a191 ⟨hk193, hz194, hg195⟩ g;have hk193' : Blk w192 N3 34 #[.int .i64 0, .int .i64 0, .int .i64 0, .int .i64 0, .bool false, .int .u64 0, .int .u64 0, .int .i64 0, .int .i64 0, .int .i64 0, .int .i64 0, .string (⟨#[]⟩), .string (⟨#[]⟩), .int .i64 0, .slice none 0 0, .int .u64 0, .int .i64 0, .int .i64 0, .slice none 0 0, .slice none 0 0, .slice none 0 0, .slice none 0 0] := hk193;have hz196 := hg195.size;refine pk0 (v := .int .i64 (chkMg d)) g rfl fun _ g => q5 ?_;refine co_retC1 (Q := fun _ _ _ => True) g rfl rfl rfl hk193' Try.underlying34 rfl (by kernel_rfl) ?_;have hB198 := hb_at hB168 hg195 (by omega);cases hof.symm.trans (ofM_c hq26 (by omega) (by omega) (hI.fin (by have hp1 := pstr_len n23; omega)) (by omega) (by assumption));exact ⟨zM 0, _, _, _, _, _, rfl, rfl, zM_S _ 0, zM_R 0, hB198⟩
     rw [hc154] at g;have hp199 : r147 ≠ 0 := by first | simpa using hc154 | simpa [and_assoc] using hc154
     refine co_true g rfl <| q2 ?_;refine pk0 (v := .agg #[.int .i64 0, .int .i64 0, .int .i64 0, .int .i64 0, .bool false, .int .u64 0, .int .u64 0, .int .i64 0, .int .i64 0, .int .i64 0, .int .i64 0, .string (⟨#[]⟩), .string (⟨#[]⟩), .int .i64 0, .slice none 0 0, .int .u64 0, .int .i64 0, .int .i64 0, .slice none 0 0, .slice none 0 0, .slice none 0 0, .slice none 0 0]) g rfl fun _ g => ?_;refine pk0 (v := .int .i64 r147) g rfl fun _ g => ?_;have hk207 := hk130.below hb149;refine pwD g rfl (op_storeN rfl rfl rfl (all_cons rfl (all_cons rfl (all_cons rfl (all_cons rfl (all_cons rfl (all_cons rfl (all_cons rfl (all_cons rfl (all_cons rfl (all_cons rfl (all_cons rfl (all_cons rfl (all_cons rfl (all_cons rfl (all_cons rfl (all_cons rfl (all_cons rfl (all_cons rfl (all_cons rfl (all_cons rfl (all_cons rfl (all_cons rfl all_nil)))))))))))))))))))))) (by kernel_rfl) hk207 rfl) ?_;rintro _ w203 a202 ⟨hk204, hz205, hg206⟩ g;have hk204' : Blk w203 N3 34 #[.int .i64 0, .int .i64 0, .int .i64 0, .int .i64 0, .bool false, .int .u64 0, .int .u64 0, .int .i64 0, .int .i64 0, .int .i64 0, .int .i64 0, .string (⟨#[]⟩), .string (⟨#[]⟩), .int .i64 0, .slice none 0 0, .int .u64 0, .int .i64 0, .int .i64 0, .slice none 0 0, .slice none 0 0, .slice none 0 0, .slice none 0 0] := hk204;have hz208 := hg206.size;refine pk0 (v := .int .i64 r147) g rfl fun _ g => q5 ?_;refine co_retC1 (Q := fun _ _ _ => True) g rfl rfl rfl hk204' Try.underlying34 rfl (by kernel_rfl) ?_;have hB210 := hb_at hB155 hg206 (by omega);cases hof.symm.trans (ofM_x hq26 (by omega) (by omega) (hI.fin (by have hp1 := pstr_len n23; omega)) hq148 (by omega));exact ⟨zM 0, _, _, _, _, _, rfl, rfl, zM_S _ 0, zM_R 0, hB210⟩
    have hz211 := hg142.size;have hl212 := hI140.lt;refine pk0 (v := .bool true) g rfl fun _ g => q1 <| co_seq ?_;refine co_true g rfl <| q0 <| wp_block <| q2 ?_;refine pk0 (v := .int .i32 (byteAt (pstr n23) i)) g rfl fun _ g => ?_;refine pk0 (v := .int .i32 (byteAt (pstr n23) i)) g rfl fun _ g => q3 ?_;refine pk0 (v := pt b13 0) g rfl fun _ g => ?_;refine pk0 (v := .int .i32 (byteAt (pstr n23) i)) g rfl fun _ g => ?_;obtain ⟨cl, hcl, hcb⟩ := byteAt_pstr (k := n23) (i := i) (by omega);have ho238 := hf125.at (by omega) hg142;have hk239 := hf126.kept hg142 (by simp; omega);have hM240 := Mv.sit hf127 hf124 hg142;refine pw g rfl (op_call (args := #[pt b13 0, pt N36 0, .int .i32 (byteAt (pstr n23) i)]) (R := fun res xw => ∃ (r a' e' : Int) (d' : MsgD) (mv' bv' ev' sv' pv' : Value), res = .int .i64 r ∧ Blk xw N36 34 #[.int .i64 d'.k, .int .i64 d'.ep, .int .i64 d'.rq, .int .i64 d'.sr, .bool d'.fg, .int .u64 d'.at_, .int .u64 d'.la, .int .i64 d'.n, .int .i64 d'.m, .int .i64 d'.p, .int .i64 d'.e, .string d'.key, .string d'.to_, .int .i64 d'.cep, mv', .int .u64 d'.cfl, .int .i64 d'.bc, .int .i64 d'.br, bv', ev', sv', pv'] ∧ Mv base105 xw d' mv' bv' ev' sv' pv' ∧ OR b13 s a' e' xw ∧ (r = 0 → e' = 0) ∧ (r = 0 → rdP s (byteAt (pstr n23) i) (nM d) pa = (nM d', a', 0)) ∧ (r ≠ 0 → (rdP s (byteAt (pstr n23) i) (nM d) pa).2.2 = r) ∧ ((byteAt (pstr n23) i) ≠ 83 → sv' = sv) ∧ ((byteAt (pstr n23) i) ≠ 82 → pv' = pv) ∧ But (fun q => q = b13 ∨ q = N36) w137 xw) rfl rfl rfl (by kernel_rfl) (by kernel_rfl) (Try.call21 _ _) (rdAny (B := base105) w137 (by rw [hcb]; exact ptL_let _ _ (List.mem_of_getElem? hcl)) (fun h => hI.svAt hcl (by rw [← hcb]; exact h)) (fun h => hI.pvAt hcl (by rw [← hcb]; exact h)) hsz ho238 hk239 hM240 (by omega) (by omega) (by omega) (by omega)) (by rintro e x ⟨r, a', e', d', mv', bv', ev', sv', pv', rfl, h⟩; exact ⟨_, rfl, r, a', e', d', mv', bv', ev', sv', pv', rfl, h⟩)) ?_;rintro _ w219 a218 ⟨zr220, za221, ze222, zd223, zmv233, zbv234, zev235, zsv236, zpv237, rfl, hk224, hM225, ho226, hz227, hq228, hq229, hs230, hs231, hb232⟩ g;have hz241 := hb232.size;have hl242 := hk224.lt;have hl243 := ho226.lt;have k244 := hM225.R.rng;refine pk0 (v := .int .i64 zr220) g rfl fun _ g => q3 ?_;refine pk0 (v := .int .i64 zr220) g rfl fun _ g => ?_;refine pk0 (v := .bool (zr220 != 0)) g rfl fun _ g => q1 ?_;have hB249 := hb_at hB129 hg142 (by omega);have hB250 := hb_foot hB249 hb232 (fun i hlt hS => by (try simp at hS); first | omega | (simp; omega) | simp_all);have hk251 := hk130.kept hg142 (by simp; omega);have hk252 := hk251.but hb232 (by first | omega | (simp; omega));cases hc248 : (zr220 != 0)
    ·
     rw [hc248] at g;have hp253 : ¬ (zr220 ≠ 0) := by first | simpa using hc248 | simpa [and_assoc] using hc248
     refine co_false g rfl <| wp_skip <| co_blockN <| co_then ?_;refine ⟨((pstr n23).size - (i + 1)), by omega, ?_⟩;have hI' := hI.step hcl (by rw [← hcb]; exact hq228 (by omega)) (by rw [← hcb]; exact hs230) (by rw [← hcb]; exact hs231);have hI254 := hI140.but hb232 (by first | omega | (simp; omega));exact ⟨i + 1, zd223, zmv233, zbv234, zev235, zsv236, zpv237, za221, g.sub ⟨rfl, rfl, rfl, rfl, rfl, trivial⟩, rfl, by omega, by first | exact RdInv.start | exact hI', hI254, (ho226.e0 (by omega)), hk224, hM225, (by omega), hB250, hk252⟩
    rw [hc248] at g;have hp255 : zr220 ≠ 0 := by first | simpa using hc248 | simpa [and_assoc] using hc248
    refine co_true g rfl <| q2 ?_;refine pk0 (v := .agg #[.int .i64 0, .int .i64 0, .int .i64 0, .int .i64 0, .bool false, .int .u64 0, .int .u64 0, .int .i64 0, .int .i64 0, .int .i64 0, .int .i64 0, .string (⟨#[]⟩), .string (⟨#[]⟩), .int .i64 0, .slice none 0 0, .int .u64 0, .int .i64 0, .int .i64 0, .slice none 0 0, .slice none 0 0, .slice none 0 0, .slice none 0 0]) g rfl fun _ g => ?_;refine pk0 (v := .int .i64 zr220) g rfl fun _ g => ?_;refine pwD g rfl (op_storeN rfl rfl rfl (all_cons rfl (all_cons rfl (all_cons rfl (all_cons rfl (all_cons rfl (all_cons rfl (all_cons rfl (all_cons rfl (all_cons rfl (all_cons rfl (all_cons rfl (all_cons rfl (all_cons rfl (all_cons rfl (all_cons rfl (all_cons rfl (all_cons rfl (all_cons rfl (all_cons rfl (all_cons rfl (all_cons rfl (all_cons rfl all_nil)))))))))))))))))))))) (by kernel_rfl) hk252 rfl) ?_;rintro _ w259 a258 ⟨hk260, hz261, hg262⟩ g;have hk260' : Blk w259 N3 34 #[.int .i64 0, .int .i64 0, .int .i64 0, .int .i64 0, .bool false, .int .u64 0, .int .u64 0, .int .i64 0, .int .i64 0, .int .i64 0, .int .i64 0, .string (⟨#[]⟩), .string (⟨#[]⟩), .int .i64 0, .slice none 0 0, .int .u64 0, .int .i64 0, .int .i64 0, .slice none 0 0, .slice none 0 0, .slice none 0 0, .slice none 0 0] := hk260;have hz263 := hg262.size;refine pk0 (v := .int .i64 zr220) g rfl fun _ g => q4 <| qr <| qr ?_;refine co_retC1 (Q := fun _ _ _ => True) g rfl rfl rfl hk260' Try.underlying34 rfl (by kernel_rfl) ?_;have hB265 := hb_at hB250 hg262 (by omega);cases hof.symm.trans (ofM_r9 hq26 (by omega) (by omega) (hI.err (r := zr220) hcl (by rw [← hcb]; exact hq229 (by omega)) (by omega)) (by omega));exact ⟨zM 0, _, _, _, _, _, rfl, rfl, zM_S _ 0, zM_R 0, hB265⟩
 rw [hc56] at g;have hp266 : e25 ≠ 0 := by first | simpa using hc56 | simpa [and_assoc] using hc56
 refine co_true g rfl <| q2 ?_;refine pk0 (v := .agg #[.int .i64 0, .int .i64 0, .int .i64 0, .int .i64 0, .bool false, .int .u64 0, .int .u64 0, .int .i64 0, .int .i64 0, .int .i64 0, .int .i64 0, .string (⟨#[]⟩), .string (⟨#[]⟩), .int .i64 0, .slice none 0 0, .int .u64 0, .int .i64 0, .int .i64 0, .slice none 0 0, .slice none 0 0, .slice none 0 0, .slice none 0 0]) g rfl fun _ g => ?_;refine pk0 (v := .int .i64 e25) g rfl fun _ g => ?_;refine pwD g rfl (op_storeN rfl rfl rfl (all_cons rfl (all_cons rfl (all_cons rfl (all_cons rfl (all_cons rfl (all_cons rfl (all_cons rfl (all_cons rfl (all_cons rfl (all_cons rfl (all_cons rfl (all_cons rfl (all_cons rfl (all_cons rfl (all_cons rfl (all_cons rfl (all_cons rfl (all_cons rfl (all_cons rfl (all_cons rfl (all_cons rfl (all_cons rfl all_nil)))))))))))))))))))))) (by kernel_rfl) hk65 rfl) ?_;rintro _ w270 a269 ⟨hk271, hz272, hg273⟩ g;have hk271' : Blk w270 N3 34 #[.int .i64 0, .int .i64 0, .int .i64 0, .int .i64 0, .bool false, .int .u64 0, .int .u64 0, .int .i64 0, .int .i64 0, .int .i64 0, .int .i64 0, .string (⟨#[]⟩), .string (⟨#[]⟩), .int .i64 0, .slice none 0 0, .int .u64 0, .int .i64 0, .int .i64 0, .slice none 0 0, .slice none 0 0, .slice none 0 0, .slice none 0 0] := hk271;have hz274 := hg273.size;refine pk0 (v := .int .i64 e25) g rfl fun _ g => q5 ?_;refine co_retC1 (Q := fun _ _ _ => True) g rfl rfl rfl hk271' Try.underlying34 rfl (by kernel_rfl) ?_;have hB276 := hb_at hB61 hg273 (by omega);cases hof.symm.trans (ofM_e hq26 (by omega));exact ⟨zM 0, _, _, _, _, _, rfl, rfl, zM_S _ 0, zM_R 0, hB276⟩
end Go.Proofs.Ytcbagajjgbfgdaa

/- Configurations: what is put is read as it was, what is read is put so; without the program. Conditions: none. -/
namespace Go.Proofs.Ytcbagajjgbfgdaa
open Go.RowKit Go.PlainAid

theorem ofRows_eats (s : ByteArray) : ∀ (k : Nat) (a : Nat) (x : Int) (acc : List MemT), a ≤ s.size ∨ x ≠ 0 → (ofRows s k a x acc).2.2 = 0 → x = 0 ∧ ∃ b : Nat, (ofRows s k a x acc).2.1 = b ∧ ∃ new, (ofRows s k a x acc).1 = acc ++ new ∧ new.length = k ∧ eats s a (putM new) b
  | 0, a, x, acc, ha, h => by
    have hx : x = 0 := h
    exact ⟨hx, a, rfl, [], by simp [ofRows], rfl, eats.nil (by rcases ha with h1 | h1; exact h1; exact absurd hx h1)⟩
  | k + 1, a, x, acc, ha, h => by
    have e : ofRows s (k + 1) a x acc = ofRows s k (numR s (numR s a x 3).2.1 (numR s a x 3).2.2 1073741824).2.1 (numR s (numR s a x 3).2.1 (numR s a x 3).2.2 1073741824).2.2 (acc ++ [((numR s a x 3).1, (numR s (numR s a x 3).2.1 (numR s a x 3).2.2 1073741824).1)]) := rfl
    rw [e] at h ⊢
    obtain ⟨b1, hb1⟩ := numR_nat s a x 3
    rw [hb1] at h ⊢
    obtain ⟨b2, hb2⟩ := numR_nat s b1 (numR s a x 3).2.2 1073741824
    rw [hb2] at h ⊢
    have hpos : b2 ≤ s.size ∨ (numR s b1 (numR s a x 3).2.2 1073741824).2.2 ≠ 0 := by
      by_cases hz : (numR s b1 (numR s a x 3).2.2 1073741824).2.2 = 0
      · left
        obtain ⟨_, b, hb, he⟩ := numR_eats hz
        have := he.2.1; omega
      · exact Or.inr hz
    obtain ⟨hz2, b, hb, new, hnew, hlen, hea⟩ := ofRows_eats s k b2 _ _ hpos h
    obtain ⟨hz1, c2, hc2, he2⟩ := numR_eats hz2
    obtain ⟨hz0, c1, hc1, he1⟩ := numR_eats hz1
    have e1 : c1 = b1 := by omega
    have e2 : c2 = b2 := by omega
    subst e1 e2
    refine ⟨hz0, b, hb, ((numR s a x 3).1, (numR s c1 (numR s a x 3).2.2 1073741824).1) :: new, by rw [hnew]; simp, by simp [hlen], ?_⟩
    have := (he1.app he2).app hea
    simpa [putM] using this
theorem cof_back {s : ByteArray} (h : ofErr s = 0) : (⟨(putC (ofAll s).1 (ofAll s).2.1 (ofAll s).2.2.1).toArray⟩ : ByteArray) = s ∧ chkC (ofAll s).1 (ofAll s).2.1 = 0 := by
  unfold ofErr at h
  split at h
  · rename_i h1; exact absurd h h1
  rename_i h1
  refine ⟨?_, h⟩
  have hE : endV s (ofAll s).2.2.2.1.toNat (ofAll s).2.2.2.2 = 0 := by omega
  clear h h1
  unfold ofAll at hE ⊢
  simp only at hE ⊢
  obtain ⟨a0, ha0⟩ := numR_nat s 0 0 1073741824
  have ha0' : (numR s 0 0 1073741824).2.1 = a0 := ha0
  rw [ha0'] at hE ⊢
  obtain ⟨a1, ha1⟩ := numR_nat s a0 (numR s 0 0 1073741824).2.2 4
  rw [ha1] at hE ⊢
  obtain ⟨nn, hnn⟩ : ∃ nn : Nat, (numR s a0 (numR s 0 0 1073741824).2.2 4).1 = (nn : Int) := ⟨_, (Int.toNat_of_nonneg (numR_bd s a0 _ 4 (by omega)).1).symm⟩
  rw [hnn, Int.toNat_natCast] at hE ⊢
  generalize hR : ofRows s nn a1 (numR s a0 (numR s 0 0 1073741824).2.2 4).2.2 [] = R at hE ⊢
  unfold endV at hE
  have hx : (bigR s R.2.1 R.2.2).2.2 = 0 := by
    by_cases hx : (bigR s R.2.1 R.2.2).2.2 = 0
    · exact hx
    · rw [if_neg hx] at hE; exact hE
  rw [if_pos hx] at hE
  have hend : ¬ (bigR s R.2.1 R.2.2).2.1.toNat < s.size := by
    intro hlt; rw [if_pos hlt] at hE; simp at hE
  have hR2 : R.2.2 = 0 := by
    by_cases hz : R.2.2 = 0
    · exact hz
    · rw [bigR_err hz] at hx; exact absurd hx hz
  have hpos1 : a1 ≤ s.size ∨ (numR s a0 (numR s 0 0 1073741824).2.2 4).2.2 ≠ 0 := by
    by_cases hz : (numR s a0 (numR s 0 0 1073741824).2.2 4).2.2 = 0
    · left
      obtain ⟨_, b, hb, he⟩ := numR_eats hz
      have := he.2.1; omega
    · exact Or.inr hz
  obtain ⟨hz1, b, hb, new, hnew, hlen, hea⟩ := ofRows_eats s nn a1 _ [] hpos1 (by rw [hR]; exact hR2)
  rw [hR] at hb hnew
  obtain ⟨hz0, c1, hc1, he1⟩ := numR_eats hz1
  obtain ⟨_, c0, hc0, he0⟩ := numR_eats (a := 0) hz0
  have e1 : c1 = a1 := by omega
  have e0 : c0 = a0 := by have : ((0 : Nat) : Int) = 0 := rfl; rw [this] at hc0; omega
  subst e1 e0
  rw [hb] at hx hend ⊢
  obtain ⟨_, c3, hc3, he3⟩ := bigR_eats hx
  rw [hc3, Int.toNat_natCast] at hend
  have hall := ((he0.app he1).app hea).app he3
  have hc3s : c3 = s.size := by have := hall.2.1; omega
  have hl : s.data.toList = putC (numR s 0 0 1073741824).1 R.1 (bigR s b R.2.2).1 := by
    have := hall.2.2
    rw [hc3s, Nat.sub_zero, List.drop_zero, List.take_of_length_le (by simp)] at this
    rw [this]
    unfold putC
    rw [hnew, List.nil_append, hlen, hnn]
    rfl
  rw [← hl]
/-- What was put is read. -/
theorem ofRows_put {T : ByteArray} : ∀ (l : List MemT) (a : Nat) (acc : List MemT), (∀ m ∈ l, (0 ≤ m.1 ∧ m.1 < 4) ∧ (1 ≤ m.2 ∧ m.2 ≤ 1073741824)) → has T a (putM l) → a + (putM l).length ≤ T.size → ofRows T l.length a 0 acc = (acc ++ l, ((a + (putM l).length : Nat) : Int), 0)
  | [], a, acc, _, _, _ => by simp [ofRows, putM]
  | m :: r, a, acc, hm, hh, hs => by
    have e : putM (m :: r) = putL m.1 ++ (putL m.2 ++ putM r) := by simp [putM]
    rw [e] at hh hs
    simp only [List.length_append] at hs
    obtain ⟨h1, h2⟩ := has_app hh
    obtain ⟨h3, h4⟩ := has_app h2
    have hmm := hm m (by simp)
    have k1 := numR_of (m := 3) hmm.1.1 (by omega) (by omega) h1 (by omega)
    have k2 := numR_of (m := 1073741824) (by omega) hmm.2.2 (by omega) h3 (by omega)
    show ofRows T (r.length + 1) a 0 acc = _
    unfold ofRows
    rw [k1]
    simp only
    rw [k2]
    simp only
    rw [ofRows_put r _ _ (fun x hx => hm x (by simp [hx])) h4 (by omega), e]
    simp only [List.length_append, List.append_assoc, List.singleton_append]
    refine Prod.ext rfl (Prod.ext ?_ rfl)
    simp only
    omega
theorem cof_put {ep fl : Int} {ms : List MemT} (hc : chkC ep ms = 0) (hf0 : 0 ≤ fl) (hf1 : fl < 18446744073709551616) : ofErr ⟨(putC ep ms fl).toArray⟩ = 0 ∧ (ofAll ⟨(putC ep ms fl).toArray⟩).1 = ep ∧ (ofAll ⟨(putC ep ms fl).toArray⟩).2.1 = ms ∧ (ofAll ⟨(putC ep ms fl).toArray⟩).2.2.1 = fl := by
  obtain ⟨⟨e1, e2⟩, ⟨l1, l2⟩, hm0, hmem⟩ := chkC_ok hc
  have hself := has_self (putC ep ms fl)
  have hsz : (⟨(putC ep ms fl).toArray⟩ : ByteArray).size = (putC ep ms fl).length := rfl
  generalize hT : (⟨(putC ep ms fl).toArray⟩ : ByteArray) = T at hself hsz ⊢
  have hlen : (putC ep ms fl).length = (putL ep).length + (putL (ms.length : Int)).length + (putM ms).length + (putL fl).length := by unfold putC; simp only [List.length_append]
  unfold putC at hself
  obtain ⟨h123, h4⟩ := has_app hself
  obtain ⟨h12, h3⟩ := has_app h123
  obtain ⟨h1, h2⟩ := has_app h12
  simp only [List.length_append, Nat.zero_add] at h2 h3 h4
  have k0 := numR_of (m := 1073741824) (by omega) e2 (by omega) h1 (by omega)
  have k1 := numR_of (m := 4) (by omega) (by omega) (by omega) h2 (by omega)
  have k2 := ofRows_put ms _ [] hmem h3 (by omega)
  have k3 := bigR_of hf0 hf1 h4 (by omega)
  have hall : ofAll T = (ep, ms, fl, (((putL ep).length + (putL (ms.length : Int)).length + (putM ms).length + (putL fl).length : Nat) : Int), 0) := by
    unfold ofAll
    simp only
    rw [show (0 : Int) = ((0 : Nat) : Int) from rfl] at k0 ⊢
    rw [k0]
    simp only [Nat.zero_add]
    rw [show ((0 : Nat) : Int) = 0 from rfl, k1]
    simp only [Int.toNat_natCast]
    rw [k2]
    simp only [List.nil_append]
    rw [k3]
  refine ⟨?_, by rw [hall], by rw [hall], by rw [hall]⟩
  unfold ofErr
  rw [hall]
  simp only
  have : endV T (((putL ep).length + (putL (ms.length : Int)).length + (putM ms).length + (putL fl).length : Nat) : Int).toNat 0 = 0 := by
    unfold endV; rw [if_pos rfl, if_neg (by rw [Int.toNat_natCast]; omega)]
  rw [this, if_neg (by simp)]
  exact hc
end Go.Proofs.Ytcbagajjgbfgdaa

/- Mess, pure: parts that were put are read (one by one). Conditions: none. -/
namespace Go.Proofs.Ytcbagajjgbfgdaa
open Go.RowKit Go.PlainAid
set_option linter.unusedVariables false
set_option linter.unusedSimpArgs false


/-- A message with another's part. -/
def setP (x d : MsgD) (p : Int) : MsgD := { k := x.k, ep := if p = 101 then d.ep else x.ep, rq := if p = 113 then d.rq else x.rq, sr := if p = 115 then d.sr else x.sr, fg := if p = 102 then d.fg else x.fg, at_ := if p = 97 then d.at_ else x.at_, la := if p = 108 then d.la else x.la, n := if p = 110 then d.n else x.n, m := if p = 109 then d.m else x.m, p := if p = 112 then d.p else x.p, e := if p = 120 then d.e else x.e, key := if p = 107 then d.key else x.key, to_ := if p = 116 then d.to_ else x.to_, cep := if p = 67 then d.cep else x.cep, cms := if p = 67 then d.cms else x.cms, cfl := if p = 67 then d.cfl else x.cfl, bc := if p = 66 then d.bc else x.bc, br := if p = 66 then d.br else x.br, bl := if p = 66 then d.bl else x.bl, en := if p = 76 then d.en else x.en, st := if p = 83 then d.st else x.st, pr := if p = 82 then d.pr else x.pr }
/-- A message with another's parts. -/
def ownM (L : List UInt8) (d x : MsgD) : MsgD := { k := x.k, ep := if (101 : UInt8) ∈ L then d.ep else x.ep, rq := if (113 : UInt8) ∈ L then d.rq else x.rq, sr := if (115 : UInt8) ∈ L then d.sr else x.sr, fg := if (102 : UInt8) ∈ L then d.fg else x.fg, at_ := if (97 : UInt8) ∈ L then d.at_ else x.at_, la := if (108 : UInt8) ∈ L then d.la else x.la, n := if (110 : UInt8) ∈ L then d.n else x.n, m := if (109 : UInt8) ∈ L then d.m else x.m, p := if (112 : UInt8) ∈ L then d.p else x.p, e := if (120 : UInt8) ∈ L then d.e else x.e, key := if (107 : UInt8) ∈ L then d.key else x.key, to_ := if (116 : UInt8) ∈ L then d.to_ else x.to_, cep := if (67 : UInt8) ∈ L then d.cep else x.cep, cms := if (67 : UInt8) ∈ L then d.cms else x.cms, cfl := if (67 : UInt8) ∈ L then d.cfl else x.cfl, bc := if (66 : UInt8) ∈ L then d.bc else x.bc, br := if (66 : UInt8) ∈ L then d.br else x.br, bl := if (66 : UInt8) ∈ L then d.bl else x.bl, en := if (76 : UInt8) ∈ L then d.en else x.en, st := if (83 : UInt8) ∈ L then d.st else x.st, pr := if (82 : UInt8) ∈ L then d.pr else x.pr }
/-- A message's own parts alone. -/
def cleanM (d : MsgD) : MsgD := if 1 ≤ d.k ∧ d.k ≤ 15 then ownM (ptL d.k) d (zM d.k) else zM 0
theorem u8i (c e : UInt8) : ((c.toNat : Nat) : Int) = ((e.toNat : Nat) : Int) ↔ c = e := ⟨fun h => UInt8.toNat.inj (by omega), fun h => by rw [h]⟩
theorem ite_own {α : Type} (c e : UInt8) (n : Int) (he : ((e.toNat : Nat) : Int) = n) (L : List UInt8) (u v : α) : (if e ∈ c :: L then u else v) = (if e ∈ L then u else if ((c.toNat : Nat) : Int) = n then u else v) := by
  by_cases h1 : e ∈ L
  · rw [if_pos h1, if_pos (List.mem_cons_of_mem _ h1)]
  · rw [if_neg h1]
    by_cases h2 : ((c.toNat : Nat) : Int) = n
    · rw [if_pos h2, if_pos (by rw [(u8i c e).1 (by omega)]; exact List.mem_cons_self)]
    · rw [if_neg h2, if_neg (fun h => by
        rcases List.mem_cons.1 h with h | h
        · exact h2 (by rw [← h]; exact he)
        · exact h1 h)]
theorem ownM_cons (c : UInt8) (L : List UInt8) (d x : MsgD) : ownM (c :: L) d x = ownM L d (setP x d (c.toNat : Int)) := by
  unfold ownM setP
  simp only [MsgD.mk.injEq]
  exact ⟨trivial, ite_own c 101 101 rfl L _ _, ite_own c 113 113 rfl L _ _, ite_own c 115 115 rfl L _ _, ite_own c 102 102 rfl L _ _, ite_own c 97 97 rfl L _ _, ite_own c 108 108 rfl L _ _, ite_own c 110 110 rfl L _ _, ite_own c 109 109 rfl L _ _, ite_own c 112 112 rfl L _ _, ite_own c 120 120 rfl L _ _, ite_own c 107 107 rfl L _ _, ite_own c 116 116 rfl L _ _, ite_own c 67 67 rfl L _ _, ite_own c 67 67 rfl L _ _, ite_own c 67 67 rfl L _ _, ite_own c 66 66 rfl L _ _, ite_own c 66 66 rfl L _ _, ite_own c 66 66 rfl L _ _, ite_own c 76 76 rfl L _ _, ite_own c 83 83 rfl L _ _, ite_own c 82 82 rfl L _ _⟩
theorem ownM_nil (d x : MsgD) : ownM [] d x = x := by unfold ownM; simp
theorem setP_101 {x d : MsgD} : setP x d 101 = { x with ep := d.ep } := by unfold setP; simp
theorem setP_115 {x d : MsgD} : setP x d 115 = { x with sr := d.sr } := by unfold setP; simp
theorem setP_113 {x d : MsgD} : setP x d 113 = { x with rq := d.rq } := by unfold setP; simp
theorem setP_110 {x d : MsgD} : setP x d 110 = { x with n := d.n } := by unfold setP; simp
theorem setP_109 {x d : MsgD} : setP x d 109 = { x with m := d.m } := by unfold setP; simp
theorem setP_112 {x d : MsgD} : setP x d 112 = { x with p := d.p } := by unfold setP; simp
theorem setP_120 {x d : MsgD} : setP x d 120 = { x with e := d.e } := by unfold setP; simp
theorem setP_102 {x d : MsgD} : setP x d 102 = { x with fg := d.fg } := by unfold setP; simp
theorem setP_97 {x d : MsgD} : setP x d 97 = { x with at_ := d.at_ } := by unfold setP; simp
theorem setP_108 {x d : MsgD} : setP x d 108 = { x with la := d.la } := by unfold setP; simp
theorem setP_107 {x d : MsgD} : setP x d 107 = { x with key := d.key } := by unfold setP; simp
theorem setP_116 {x d : MsgD} : setP x d 116 = { x with to_ := d.to_ } := by unfold setP; simp
theorem setP_67 {x d : MsgD} : setP x d 67 = { x with cep := d.cep, cms := d.cms, cfl := d.cfl } := by unfold setP; simp
theorem setP_66 {x d : MsgD} : setP x d 66 = { x with bc := d.bc, br := d.br, bl := d.bl } := by unfold setP; simp
theorem setP_76 {x d : MsgD} : setP x d 76 = { x with en := d.en } := by unfold setP; simp
theorem setP_83 {x d : MsgD} : setP x d 83 = { x with st := d.st } := by unfold setP; simp
theorem setP_82 {x d : MsgD} : setP x d 82 = { x with pr := d.pr } := by unfold setP; simp

section
variable {T : ByteArray} {a : Nat} {rest : List UInt8} {d x : MsgD}
theorem n_at {n m : Int} (h : has T a (putL n ++ rest)) (hs : a + (putL n ++ rest).length = T.size) (h0 : 0 ≤ n) (h1 : n ≤ m) (h2 : m ≤ 9223372036854775807) : ∃ b : Nat, numR T a 0 m = (n, (b : Int), 0) ∧ has T b rest ∧ b + rest.length = T.size := by
  rw [List.length_append] at hs
  obtain ⟨k1, k2⟩ := has_app h
  exact ⟨_, numR_of h0 h1 h2 k1 (by omega), k2, by omega⟩
theorem b_at {n : Int} (h : has T a (putL n ++ rest)) (hs : a + (putL n ++ rest).length = T.size) (h0 : 0 ≤ n) (h1 : n < 18446744073709551616) : ∃ b : Nat, bigR T a 0 = (n, (b : Int), 0) ∧ has T b rest ∧ b + rest.length = T.size := by
  rw [List.length_append] at hs
  obtain ⟨k1, k2⟩ := has_app h
  exact ⟨_, bigR_of h0 h1 k1 (by omega), k2, by omega⟩
theorem t_at {t : ByteArray} {m : Int} (h : has T a (txM t ++ rest)) (hs : a + (txM t ++ rest).length = T.size) (h1 : (t.size : Int) ≤ m) (h2 : m ≤ 9223372036854775807) : ∃ b : Nat, textR T a 0 m = (t, (b : Int), 0) ∧ has T b rest ∧ b + rest.length = T.size := by
  rw [List.length_append] at hs
  obtain ⟨k1, k2⟩ := has_app h
  have e : (txM t).length = (putL (t.size : Int) ++ t.data.toList).length := rfl
  exact ⟨_, textR_of h1 h2 k1 (by omega), k2, by omega⟩
theorem flagR_of9 {f : Bool} (h : has T a [flagB f]) (hs : a + 1 ≤ T.size) : flagR T a 0 = (f, ((a + 1 : Nat) : Int), 0) := by
  have hb := h 0 (by simp)
  simp only [Nat.add_zero, List.getElem_cons_zero] at hb
  unfold flagR
  rw [if_neg (by simp), if_neg (by omega), hb]
  cases f <;> simp [flagB]
theorem f_at {f : Bool} (h : has T a ([flagB f] ++ rest)) (hs : a + ([flagB f] ++ rest).length = T.size) : ∃ b : Nat, flagR T ((a : Nat) : Int).toNat 0 = (f, (b : Int), 0) ∧ has T b rest ∧ b + rest.length = T.size := by
  rw [List.length_append] at hs
  obtain ⟨k1, k2⟩ := has_app h
  have hl : ([flagB f] : List UInt8).length = 1 := rfl
  rw [hl] at k2 hs
  exact ⟨a + 1, by rw [Int.toNat_natCast]; exact flagR_of9 k1 (by omega), k2, by omega⟩
theorem ofC_put9 {ep fl : Int} {ms : List MemT} (hc : chkC ep ms = 0) (h0 : 0 ≤ fl ∧ fl < 18446744073709551616) : ofC (putCf ep ms fl) = ((ep, ms, fl), 0) := by
  rw [putCf_ok hc]
  obtain ⟨h1, h2, h3, h4⟩ := cof_put hc h0.1 h0.2
  unfold ofC; rw [if_pos h1, h2, h3, h4]
theorem ofC_back9 {t : ByteArray} (h : (ofC t).2 = 0) : putCf (ofC t).1.1 (ofC t).1.2.1 (ofC t).1.2.2 = t := by
  unfold ofC at h ⊢
  by_cases he : ofErr t = 0
  · simp only [if_pos he] at h ⊢
    have := cof_back he
    rw [putCf_ok this.2]; exact this.1
  · simp only [if_neg he] at h; exact absurd h he
theorem lst_split {α : Type} {l : List α} {i : Nat} (h : i < l.length) (f : α → List UInt8) : l.flatMap f = (l.take i).flatMap f ++ (f l[i] ++ (l.drop (i + 1)).flatMap f) := by
  have : l = l.take i ++ (l[i] :: l.drop (i + 1)) := by rw [← List.drop_eq_getElem_cons h, List.take_append_drop]
  conv => lhs; rw [this]
  rw [List.flatMap_append, List.flatMap_cons]
/-- One of a list: where its bytes lie. -/
theorem one_at {α : Type} {l : List α} {i : Nat} {f : α → List UInt8} (h : i < l.length) (hh : has T a (l.flatMap f ++ rest)) (hs : a + (l.flatMap f ++ rest).length = T.size) : ∃ rest' : List UInt8, has T (a + ((l.take i).flatMap f).length) (f l[i] ++ rest') ∧ a + ((l.take i).flatMap f).length + (f l[i] ++ rest').length = T.size := by
  rw [lst_split h f, List.append_assoc] at hh hs
  obtain ⟨_, h2⟩ := has_app hh
  refine ⟨(l.drop (i + 1)).flatMap f ++ rest, by rw [List.append_assoc] at h2; exact h2, ?_⟩
  simp only [List.length_append] at hs ⊢; omega
theorem tk1 {α : Type} {l : List α} {i : Nat} {f : α → List UInt8} (h : i < l.length) : ((l.take (i + 1)).flatMap f).length = ((l.take i).flatMap f).length + (f l[i]).length := by
  rw [takeM (List.getElem?_eq_getElem h), List.flatMap_append, List.length_append]; simp
theorem rS_put (l : List Int) (hok : ∀ x ∈ l, 0 ≤ x ∧ x < 18446744073709551616) (hh : has T a (l.flatMap putL ++ rest)) (hs : a + (l.flatMap putL ++ rest).length = T.size) :
    ∀ i, i ≤ l.length → rS T i ([], (a : Int), 0) = (l.take i, ((a + ((l.take i).flatMap putL).length : Nat) : Int), 0)
  | 0, _ => by simp [rS]
  | i + 1, hi => by
    have ih := rS_put l hok hh hs i (by omega)
    obtain ⟨rest', g1, g2⟩ := one_at (i := i) (by omega) hh hs
    have hx := hok l[i] (List.getElem_mem _)
    obtain ⟨b, q1, _, q3⟩ := b_at g1 g2 hx.1 hx.2
    rw [rS_step ih q1, takeM (List.getElem?_eq_getElem (by omega)), show l.take i ++ [l[i]] = l.take (i + 1) from (takeM (List.getElem?_eq_getElem (by omega))).symm, tk1 (by omega)]
    simp only [List.length_append] at g2
    refine Prod.ext rfl (Prod.ext ?_ rfl)
    show (b : Int) = ((a + (((l.take i).flatMap putL).length + (putL l[i]).length) : Nat) : Int)
    omega
theorem rR_put (l : List PrT) (hok : ∀ y ∈ l, y.1.size ≤ 8 ∧ y.2.size ≤ 8) (hh : has T a (l.flatMap putPr ++ rest)) (hs : a + (l.flatMap putPr ++ rest).length = T.size) :
    ∀ i, i ≤ l.length → rR T i ([], (a : Int), 0) = (l.take i, ((a + ((l.take i).flatMap putPr).length : Nat) : Int), 0)
  | 0, _ => by simp [rR]
  | i + 1, hi => by
    have ih := rR_put l hok hh hs i (by omega)
    obtain ⟨rest', g1, g2⟩ := one_at (i := i) (by omega) hh hs
    have hx := hok l[i] (List.getElem_mem _)
    rw [show putPr l[i] = txM l[i].1 ++ txM l[i].2 from rfl, List.append_assoc] at g1 g2
    obtain ⟨b, q1, k1, s1⟩ := t_at (m := 8) g1 g2 (by omega) (by decide)
    obtain ⟨b2, q2, k2, s2⟩ := t_at (m := 8) k1 s1 (by omega) (by decide)
    rw [rR_step ih q1 q2, takeM (List.getElem?_eq_getElem (by omega)), show l.take i ++ [(l[i].1, l[i].2)] = l.take (i + 1) from (takeM (List.getElem?_eq_getElem (by omega))).symm, tk1 (by omega)]
    simp only [List.length_append] at g2 s1
    refine Prod.ext rfl (Prod.ext ?_ rfl)
    show (b2 : Int) = ((a + (((l.take i).flatMap putPr).length + (putPr l[i]).length) : Nat) : Int)
    have e : (putPr l[i]).length = (txM l[i].1).length + (txM l[i].2).length := by unfold putPr; rw [List.length_append]
    omega
theorem rE_put (l : List EntT) (hok : ∀ y ∈ l, chkEn y = 0 ∧ 0 ≤ y.ts ∧ y.ts < 18446744073709551616) (hh : has T a (l.flatMap putEn ++ rest)) (hs : a + (l.flatMap putEn ++ rest).length = T.size) :
    ∀ i, i ≤ l.length → rE T i ([], (a : Int), 0, 0) = ((l.take i).map pE, ((a + ((l.take i).flatMap putEn).length : Nat) : Int), 0, 0)
  | 0, _ => by simp [rE]
  | i + 1, hi => by
    have ih := rE_put l hok hh hs i (by omega)
    obtain ⟨rest', g1, g2⟩ := one_at (i := i) (by omega) hh hs
    have hx := hok l[i] (List.getElem_mem _)
    have hsm := putE_small (c := l[i].client) (r := l[i].req) (l := l[i].opl) (ts := l[i].ts)
    obtain ⟨b, q1, k1, s1⟩ := t_at (m := 65536) g1 g2 (by omega) (by decide)
    have hE := ofE_of (c := l[i].client) (r := l[i].req) (l := l[i].opl) (ts := l[i].ts) hx.1 hx.2.1 hx.2.2
    rw [rE_step ih q1 hE, tk1 (by omega)]
    simp only [List.length_append] at g2
    have ht : (l.take i).map pE ++ [mkE (l[i].client, l[i].req, l[i].opl, l[i].ts)] = (l.take (i + 1)).map pE := by
      rw [takeM (List.getElem?_eq_getElem (show i < l.length by omega)), List.map_append]; rfl
    rw [ht]
    refine Prod.ext rfl (Prod.ext ?_ rfl)
    show (b : Int) = ((a + (((l.take i).flatMap putEn).length + (putEn l[i]).length) : Nat) : Int)
    have e : (putEn l[i]).length = (txM (putE l[i].client l[i].req l[i].opl l[i].ts)).length := rfl
    omega
end

end Go.Proofs.Ytcbagajjgbfgdaa

/- Mess, pure: what is put is read. Conditions: none. -/
namespace Go.Proofs.Ytcbagajjgbfgdaa
open Go.RowKit Go.PlainAid
set_option linter.unusedVariables false
set_option linter.unusedSimpArgs false

theorem let_u8 {c : UInt8} (h : LetP (c.toNat : Int)) : c = 101 ∨ c = 115 ∨ c = 113 ∨ c = 110 ∨ c = 109 ∨ c = 112 ∨ c = 120 ∨ c = 97 ∨ c = 108 ∨ c = 102 ∨ c = 107 ∨ c = 116 ∨ c = 67 ∨ c = 66 ∨ c = 76 ∨ c = 83 ∨ c = 82 := by
  unfold LetP at h
  rcases h with e | e | e | e | e | e | e | e | e | e | e | e | e | e | e | e | e
  · exact .inl (UInt8.toNat.inj (by simp; omega))
  · exact .inr (.inl (UInt8.toNat.inj (by simp; omega)))
  · exact .inr (.inr (.inl (UInt8.toNat.inj (by simp; omega))))
  · exact .inr (.inr (.inr (.inl (UInt8.toNat.inj (by simp; omega)))))
  · exact .inr (.inr (.inr (.inr (.inl (UInt8.toNat.inj (by simp; omega))))))
  · exact .inr (.inr (.inr (.inr (.inr (.inl (UInt8.toNat.inj (by simp; omega)))))))
  · exact .inr (.inr (.inr (.inr (.inr (.inr (.inl (UInt8.toNat.inj (by simp; omega))))))))
  · exact .inr (.inr (.inr (.inr (.inr (.inr (.inr (.inl (UInt8.toNat.inj (by simp; omega)))))))))
  · exact .inr (.inr (.inr (.inr (.inr (.inr (.inr (.inr (.inl (UInt8.toNat.inj (by simp; omega))))))))))
  · exact .inr (.inr (.inr (.inr (.inr (.inr (.inr (.inr (.inr (.inl (UInt8.toNat.inj (by simp; omega)))))))))))
  · exact .inr (.inr (.inr (.inr (.inr (.inr (.inr (.inr (.inr (.inr (.inl (UInt8.toNat.inj (by simp; omega))))))))))))
  · exact .inr (.inr (.inr (.inr (.inr (.inr (.inr (.inr (.inr (.inr (.inr (.inl (UInt8.toNat.inj (by simp; omega)))))))))))))
  · exact .inr (.inr (.inr (.inr (.inr (.inr (.inr (.inr (.inr (.inr (.inr (.inr (.inl (UInt8.toNat.inj (by simp; omega))))))))))))))
  · exact .inr (.inr (.inr (.inr (.inr (.inr (.inr (.inr (.inr (.inr (.inr (.inr (.inr (.inl (UInt8.toNat.inj (by simp; omega)))))))))))))))
  · exact .inr (.inr (.inr (.inr (.inr (.inr (.inr (.inr (.inr (.inr (.inr (.inr (.inr (.inr (.inl (UInt8.toNat.inj (by simp; omega))))))))))))))))
  · exact .inr (.inr (.inr (.inr (.inr (.inr (.inr (.inr (.inr (.inr (.inr (.inr (.inr (.inr (.inr (.inl (UInt8.toNat.inj (by simp; omega)))))))))))))))))
  · exact .inr (.inr (.inr (.inr (.inr (.inr (.inr (.inr (.inr (.inr (.inr (.inr (.inr (.inr (.inr (.inr (UInt8.toNat.inj (by simp; omega)))))))))))))))))

section
variable {T : ByteArray} {a : Nat} {rest : List UInt8} {d x : MsgD}
theorem pt_101 (hck : chkP d 101 = 0) (hR : MsgR d) (hh : has T a (putP d 101 ++ rest)) (hs : a + (putP d 101 ++ rest).length = T.size) : ∃ b : Nat, rdP T 101 x a = (setP x (nM d) 101, (b : Int), 0) ∧ has T b rest ∧ b + rest.length = T.size := by
  have hok := part_ok hck
  have hv := hok.2.1 (by decide)
  rw [pp_n (.inl (by omega)), ← np_1 (d := d) rfl] at hh hs
  rw [← np_1 (d := d) rfl] at hv
  obtain ⟨b, q1, k1, s1⟩ := n_at (m := 1073741824) hh hs (by omega) (by omega) (by decide)
  exact ⟨b, (rd_101 q1).trans (by rw [setP_101]; rfl), k1, s1⟩
theorem pt_115 (hck : chkP d 115 = 0) (hR : MsgR d) (hh : has T a (putP d 115 ++ rest)) (hs : a + (putP d 115 ++ rest).length = T.size) : ∃ b : Nat, rdP T 115 x a = (setP x (nM d) 115, (b : Int), 0) ∧ has T b rest ∧ b + rest.length = T.size := by
  have hok := part_ok hck
  have hv := hok.2.1 (by decide)
  rw [pp_n (.inl (by omega)), ← np_2 (d := d) rfl] at hh hs
  rw [← np_2 (d := d) rfl] at hv
  obtain ⟨b, q1, k1, s1⟩ := n_at (m := 1073741824) hh hs (by omega) (by omega) (by decide)
  exact ⟨b, (rd_115 q1).trans (by rw [setP_115]; rfl), k1, s1⟩
theorem pt_113 (hck : chkP d 113 = 0) (hR : MsgR d) (hh : has T a (putP d 113 ++ rest)) (hs : a + (putP d 113 ++ rest).length = T.size) : ∃ b : Nat, rdP T 113 x a = (setP x (nM d) 113, (b : Int), 0) ∧ has T b rest ∧ b + rest.length = T.size := by
  have hok := part_ok hck
  have hv := hok.2.1 (by decide)
  rw [pp_n (.inl (by omega)), ← np_3 (d := d) rfl] at hh hs
  rw [← np_3 (d := d) rfl] at hv
  obtain ⟨b, q1, k1, s1⟩ := n_at (m := 1073741824) hh hs (by omega) (by omega) (by decide)
  exact ⟨b, (rd_113 q1).trans (by rw [setP_113]; rfl), k1, s1⟩
theorem pt_110 (hck : chkP d 110 = 0) (hR : MsgR d) (hh : has T a (putP d 110 ++ rest)) (hs : a + (putP d 110 ++ rest).length = T.size) : ∃ b : Nat, rdP T 110 x a = (setP x (nM d) 110, (b : Int), 0) ∧ has T b rest ∧ b + rest.length = T.size := by
  have hok := part_ok hck
  have hv := hok.2.1 (by decide)
  rw [pp_n (.inl (by omega)), ← np_4 (d := d) rfl] at hh hs
  rw [← np_4 (d := d) rfl] at hv
  obtain ⟨b, q1, k1, s1⟩ := n_at (m := 1073741824) hh hs (by omega) (by omega) (by decide)
  exact ⟨b, (rd_110 q1).trans (by rw [setP_110]; rfl), k1, s1⟩
theorem pt_109 (hck : chkP d 109 = 0) (hR : MsgR d) (hh : has T a (putP d 109 ++ rest)) (hs : a + (putP d 109 ++ rest).length = T.size) : ∃ b : Nat, rdP T 109 x a = (setP x (nM d) 109, (b : Int), 0) ∧ has T b rest ∧ b + rest.length = T.size := by
  have hok := part_ok hck
  have hv := hok.2.1 (by decide)
  rw [pp_n (.inl (by omega)), ← np_5 (d := d) rfl] at hh hs
  rw [← np_5 (d := d) rfl] at hv
  obtain ⟨b, q1, k1, s1⟩ := n_at (m := 1073741824) hh hs (by omega) (by omega) (by decide)
  exact ⟨b, (rd_109 q1).trans (by rw [setP_109]; rfl), k1, s1⟩
theorem pt_112 (hck : chkP d 112 = 0) (hR : MsgR d) (hh : has T a (putP d 112 ++ rest)) (hs : a + (putP d 112 ++ rest).length = T.size) : ∃ b : Nat, rdP T 112 x a = (setP x (nM d) 112, (b : Int), 0) ∧ has T b rest ∧ b + rest.length = T.size := by
  have hok := part_ok hck
  have hv := hok.2.1 (by decide)
  rw [pp_n (.inl (by omega)), ← np_6 (d := d) rfl] at hh hs
  rw [← np_6 (d := d) rfl] at hv
  obtain ⟨b, q1, k1, s1⟩ := n_at (m := 1073741824) hh hs (by omega) (by omega) (by decide)
  exact ⟨b, (rd_112 q1).trans (by rw [setP_112]; rfl), k1, s1⟩
theorem pt_120 (hck : chkP d 120 = 0) (hR : MsgR d) (hh : has T a (putP d 120 ++ rest)) (hs : a + (putP d 120 ++ rest).length = T.size) : ∃ b : Nat, rdP T 120 x a = (setP x (nM d) 120, (b : Int), 0) ∧ has T b rest ∧ b + rest.length = T.size := by
  have hok := part_ok hck
  have hv := hok.1 rfl
  rw [pp_n (.inr rfl), ← np_7 (d := d) (p := 120) (by decide)] at hh hs
  obtain ⟨b, q1, k1, s1⟩ := n_at (m := 21) hh hs (by omega) (by omega) (by decide)
  exact ⟨b, (rd_120 q1).trans (by rw [setP_120]; rfl), k1, s1⟩
theorem pt_102 (hck : chkP d 102 = 0) (hR : MsgR d) (hh : has T a (putP d 102 ++ rest)) (hs : a + (putP d 102 ++ rest).length = T.size) : ∃ b : Nat, rdP T 102 x a = (setP x (nM d) 102, (b : Int), 0) ∧ has T b rest ∧ b + rest.length = T.size := by
  have hok := part_ok hck
  rw [pp_f rfl] at hh hs
  obtain ⟨b, q1, k1, s1⟩ := f_at hh hs
  exact ⟨b, (rd_102 q1).trans (by rw [setP_102]; rfl), k1, s1⟩
theorem pt_97 (hck : chkP d 97 = 0) (hR : MsgR d) (hh : has T a (putP d 97 ++ rest)) (hs : a + (putP d 97 ++ rest).length = T.size) : ∃ b : Nat, rdP T 97 x a = (setP x (nM d) 97, (b : Int), 0) ∧ has T b rest ∧ b + rest.length = T.size := by
  have hok := part_ok hck
  rw [pp_a rfl] at hh hs
  have hr := hR.rng
  obtain ⟨b, q1, k1, s1⟩ := b_at hh hs (by omega) (by omega)
  exact ⟨b, (rd_97 q1).trans (by rw [setP_97]; rfl), k1, s1⟩
theorem pt_108 (hck : chkP d 108 = 0) (hR : MsgR d) (hh : has T a (putP d 108 ++ rest)) (hs : a + (putP d 108 ++ rest).length = T.size) : ∃ b : Nat, rdP T 108 x a = (setP x (nM d) 108, (b : Int), 0) ∧ has T b rest ∧ b + rest.length = T.size := by
  have hok := part_ok hck
  rw [pp_l rfl] at hh hs
  have hr := hR.rng
  obtain ⟨b, q1, k1, s1⟩ := b_at hh hs (by omega) (by omega)
  exact ⟨b, (rd_108 q1).trans (by rw [setP_108]; rfl), k1, s1⟩
theorem pt_107 (hck : chkP d 107 = 0) (hR : MsgR d) (hh : has T a (putP d 107 ++ rest)) (hs : a + (putP d 107 ++ rest).length = T.size) : ∃ b : Nat, rdP T 107 x a = (setP x (nM d) 107, (b : Int), 0) ∧ has T b rest ∧ b + rest.length = T.size := by
  have hok := part_ok hck
  have hv := hok.2.2.1 rfl
  rw [pp_k rfl] at hh hs
  obtain ⟨b, q1, k1, s1⟩ := t_at (m := 8) hh hs (by omega) (by decide)
  exact ⟨b, (rd_107 q1).trans (by rw [setP_107]; rfl), k1, s1⟩
theorem pt_116 (hck : chkP d 116 = 0) (hR : MsgR d) (hh : has T a (putP d 116 ++ rest)) (hs : a + (putP d 116 ++ rest).length = T.size) : ∃ b : Nat, rdP T 116 x a = (setP x (nM d) 116, (b : Int), 0) ∧ has T b rest ∧ b + rest.length = T.size := by
  have hok := part_ok hck
  have hv := hok.2.2.2.1 rfl
  rw [pp_t rfl] at hh hs
  obtain ⟨b, q1, k1, s1⟩ := t_at (m := 8) hh hs (by omega) (by decide)
  exact ⟨b, (rd_116 q1).trans (by rw [setP_116]; rfl), k1, s1⟩
theorem pt_67 (hck : chkP d 67 = 0) (hR : MsgR d) (hh : has T a (putP d 67 ++ rest)) (hs : a + (putP d 67 ++ rest).length = T.size) : ∃ b : Nat, rdP T 67 x a = (setP x (nM d) 67, (b : Int), 0) ∧ has T b rest ∧ b + rest.length = T.size := by
  have hok := part_ok hck
  rw [cp_C rfl] at hck
  rw [pp_C rfl] at hh hs
  have hsm := putCf_small (ep := d.cep) (ms := d.cms) (fl := d.cfl)
  obtain ⟨b, q1, k1, s1⟩ := t_at (m := 65536) hh hs (by omega) (by decide)
  have hC := ofC_put9 (fl := d.cfl) hck hR.rng.2.1
  exact ⟨b, (rd_67 (by rw [rdC_at q1 hC, if_neg (by simp)])).trans (by rw [setP_67]; rfl), k1, s1⟩
theorem pt_66 (hck : chkP d 66 = 0) (hR : MsgR d) (hh : has T a (putP d 66 ++ rest)) (hs : a + (putP d 66 ++ rest).length = T.size) : ∃ b : Nat, rdP T 66 x a = (setP x (nM d) 66, (b : Int), 0) ∧ has T b rest ∧ b + rest.length = T.size := by
  have hok := part_ok hck
  rw [cp_B rfl] at hck
  rw [pp_B rfl] at hh hs
  have hsm := putB_small (c := d.bc) (r := d.br) (l := d.bl)
  obtain ⟨b, q1, k1, s1⟩ := t_at (m := 65536) hh hs (by omega) (by decide)
  have hC := of_put hck
  exact ⟨b, (rd_66 (by rw [rdB_at q1 hC, if_neg (by simp)])).trans (by rw [setP_66]; rfl), k1, s1⟩
theorem hen9 {l : List EntT} (h : chkLs 4 chkEn l = 0) (hE : ∀ z ∈ l, 0 ≤ z.ts ∧ z.ts < 18446744073709551616) : ∀ y ∈ l, chkEn y = 0 ∧ 0 ≤ y.ts ∧ y.ts < 18446744073709551616 := by
  have hl := cLs_len h
  unfold chkLs at h; rw [if_neg (by omega)] at h
  exact fun y hy => ⟨cF_all h y hy, hE y hy⟩
theorem pt_76 (hck : chkP d 76 = 0) (hR : MsgR d) (hE : ∀ z ∈ d.en, 0 ≤ z.ts ∧ z.ts < 18446744073709551616) (hh : has T a (putP d 76 ++ rest)) (hs : a + (putP d 76 ++ rest).length = T.size) : ∃ b : Nat, rdP T 76 x a = (setP x (nM d) 76, (b : Int), 0) ∧ has T b rest ∧ b + rest.length = T.size := by
  have hok := part_ok hck
  have hv := hok.2.2.2.2.1 rfl
  rw [pp_L rfl, List.append_assoc] at hh hs
  obtain ⟨b0, q0, k0, s0⟩ := n_at (m := 4) hh hs (by omega) (by omega) (by decide)
  have q2 := rE_put d.en (hen9 (by rw [← cp_L (d := d) (p := 76) rfl]; exact hck) hE) k0 s0 d.en.length (Nat.le_refl _)
  rw [List.take_of_length_le (Nat.le_refl _)] at q2
  obtain ⟨_, k1⟩ := has_app k0
  have s1 : b0 + (d.en.flatMap putEn).length + rest.length = T.size := by rw [List.length_append] at s0; omega
  exact ⟨b0 + (d.en.flatMap putEn).length, (rd_76 (x := 0) (a' := ((b0 + (d.en.flatMap putEn).length : Nat) : Int)) (by have h9 := rdE_of q0 q2 (by omega) (.inl (by omega)); simpa using h9)).trans (by rw [setP_76]; rfl), k1, s1⟩
theorem pt_83 (hck : chkP d 83 = 0) (hR : MsgR d) (hh : has T a (putP d 83 ++ rest)) (hs : a + (putP d 83 ++ rest).length = T.size) : ∃ b : Nat, rdP T 83 x a = (setP x (nM d) 83, (b : Int), 0) ∧ has T b rest ∧ b + rest.length = T.size := by
  have hok := part_ok hck
  have hv := hok.2.2.2.2.2.1 rfl
  rw [pp_S rfl, List.append_assoc] at hh hs
  obtain ⟨b0, q0, k0, s0⟩ := n_at (m := 8) hh hs (by omega) (by omega) (by decide)
  have q2 := rS_put d.st hR.st k0 s0 d.st.length (Nat.le_refl _)
  rw [List.take_of_length_le (Nat.le_refl _)] at q2
  obtain ⟨_, k1⟩ := has_app k0
  have s1 : b0 + (d.st.flatMap putL).length + rest.length = T.size := by rw [List.length_append] at s0; omega
  exact ⟨b0 + (d.st.flatMap putL).length, (rd_83 (x := 0) (a' := ((b0 + (d.st.flatMap putL).length : Nat) : Int)) (rdS_at q0 q2 (by omega))).trans (by rw [setP_83]; rfl), k1, s1⟩
theorem pt_82 (hck : chkP d 82 = 0) (hR : MsgR d) (hh : has T a (putP d 82 ++ rest)) (hs : a + (putP d 82 ++ rest).length = T.size) : ∃ b : Nat, rdP T 82 x a = (setP x (nM d) 82, (b : Int), 0) ∧ has T b rest ∧ b + rest.length = T.size := by
  have hok := part_ok hck
  have hv := hok.2.2.2.2.2.2 rfl
  rw [pp_R rfl, List.append_assoc] at hh hs
  obtain ⟨b0, q0, k0, s0⟩ := n_at (m := 32) hh hs (by omega) (by omega) (by decide)
  have q2 := rR_put d.pr (pr_small (by rw [← cp_R (d := d) (p := 82) rfl]; exact hck)) k0 s0 d.pr.length (Nat.le_refl _)
  rw [List.take_of_length_le (Nat.le_refl _)] at q2
  obtain ⟨_, k1⟩ := has_app k0
  have s1 : b0 + (d.pr.flatMap putPr).length + rest.length = T.size := by rw [List.length_append] at s0; omega
  exact ⟨b0 + (d.pr.flatMap putPr).length, (rd_82 (x := 0) (a' := ((b0 + (d.pr.flatMap putPr).length : Nat) : Int)) (rdR_at q0 q2 (by omega))).trans (by rw [setP_82]; rfl), k1, s1⟩
theorem pt_any {p : Int} (hp : LetP p) (hck : chkP d p = 0) (hR : MsgR d) (hE : ∀ z ∈ d.en, 0 ≤ z.ts ∧ z.ts < 18446744073709551616) (hh : has T a (putP d p ++ rest)) (hs : a + (putP d p ++ rest).length = T.size) : ∃ b : Nat, rdP T p x a = (setP x (nM d) p, (b : Int), 0) ∧ has T b rest ∧ b + rest.length = T.size := by
  rcases hp with rfl | rfl | rfl | rfl | rfl | rfl | rfl | rfl | rfl | rfl | rfl | rfl | rfl | rfl | rfl | rfl | rfl
  · exact pt_101 hck hR hh hs
  · exact pt_115 hck hR hh hs
  · exact pt_113 hck hR hh hs
  · exact pt_110 hck hR hh hs
  · exact pt_109 hck hR hh hs
  · exact pt_112 hck hR hh hs
  · exact pt_120 hck hR hh hs
  · exact pt_97 hck hR hh hs
  · exact pt_108 hck hR hh hs
  · exact pt_102 hck hR hh hs
  · exact pt_107 hck hR hh hs
  · exact pt_116 hck hR hh hs
  · exact pt_67 hck hR hh hs
  · exact pt_66 hck hR hh hs
  · exact pt_76 hck hR hE hh hs
  · exact pt_83 hck hR hh hs
  · exact pt_82 hck hR hh hs
theorem rdL_put (hR : MsgR d) (hE : ∀ z ∈ d.en, 0 ≤ z.ts ∧ z.ts < 18446744073709551616) : ∀ (L : List UInt8) (x : MsgD) (a : Nat), (∀ c ∈ L, LetP (c.toNat : Int) ∧ chkP d (c.toNat : Int) = 0) → has T a (L.flatMap (qP d)) → a + (L.flatMap (qP d)).length = T.size → rdL T L x a = (ownM L (nM d) x, (T.size : Int), 0)
  | [], x, a, _, _, hs => by
    rw [ownM_nil]
    show (x, (a : Int), (0 : Int)) = _
    simp at hs; rw [hs]
  | c :: L, x, a, hc, hh, hs => by
    rw [List.flatMap_cons] at hh hs
    obtain ⟨h1, h2⟩ := hc c List.mem_cons_self
    obtain ⟨b, q1, k1, s1⟩ := pt_any (x := x) h1 h2 hR hE hh hs
    rw [rdL_ok q1 rfl (rdL_put hR hE L _ b (fun e he => hc e (List.mem_cons_of_mem _ he)) k1 s1), ownM_cons]
end
theorem ownM_nM (L : List UInt8) (d : MsgD) (k : Int) : ownM L (nM d) (zM k) = nM (ownM L d (zM k)) := by
  unfold ownM nM zM
  simp only [MsgD.mk.injEq, true_and, and_true]
  split
  · rfl
  · rfl
theorem cow_101 {L : List UInt8} {d x : MsgD} (h : (101 : UInt8) ∈ L) : chkP (ownM L d x) 101 = chkP d 101 := by have hep : (ownM L d x).ep = d.ep := if_pos h; rw [cp_n (by decide), cp_n (by decide), ← np_1 (d := ownM L d x) rfl, ← np_1 (d := d) rfl, hep]
theorem cow_115 {L : List UInt8} {d x : MsgD} (h : (115 : UInt8) ∈ L) : chkP (ownM L d x) 115 = chkP d 115 := by have hsr : (ownM L d x).sr = d.sr := if_pos h; rw [cp_n (by decide), cp_n (by decide), ← np_2 (d := ownM L d x) rfl, ← np_2 (d := d) rfl, hsr]
theorem cow_113 {L : List UInt8} {d x : MsgD} (h : (113 : UInt8) ∈ L) : chkP (ownM L d x) 113 = chkP d 113 := by have hrq : (ownM L d x).rq = d.rq := if_pos h; rw [cp_n (by decide), cp_n (by decide), ← np_3 (d := ownM L d x) rfl, ← np_3 (d := d) rfl, hrq]
theorem cow_110 {L : List UInt8} {d x : MsgD} (h : (110 : UInt8) ∈ L) : chkP (ownM L d x) 110 = chkP d 110 := by have hn : (ownM L d x).n = d.n := if_pos h; rw [cp_n (by decide), cp_n (by decide), ← np_4 (d := ownM L d x) rfl, ← np_4 (d := d) rfl, hn]
theorem cow_109 {L : List UInt8} {d x : MsgD} (h : (109 : UInt8) ∈ L) : chkP (ownM L d x) 109 = chkP d 109 := by have hm : (ownM L d x).m = d.m := if_pos h; rw [cp_n (by decide), cp_n (by decide), ← np_5 (d := ownM L d x) rfl, ← np_5 (d := d) rfl, hm]
theorem cow_112 {L : List UInt8} {d x : MsgD} (h : (112 : UInt8) ∈ L) : chkP (ownM L d x) 112 = chkP d 112 := by have hp : (ownM L d x).p = d.p := if_pos h; rw [cp_n (by decide), cp_n (by decide), ← np_6 (d := ownM L d x) rfl, ← np_6 (d := d) rfl, hp]
theorem cow_120 {L : List UInt8} {d x : MsgD} (h : (120 : UInt8) ∈ L) : chkP (ownM L d x) 120 = chkP d 120 := by have he : (ownM L d x).e = d.e := if_pos h; rw [cp_x rfl, cp_x rfl, he]
theorem cow_102 {L : List UInt8} {d x : MsgD} (h : (102 : UInt8) ∈ L) : chkP (ownM L d x) 102 = chkP d 102 := by rw [cp_0 (by decide), cp_0 (by decide)]
theorem cow_97 {L : List UInt8} {d x : MsgD} (h : (97 : UInt8) ∈ L) : chkP (ownM L d x) 97 = chkP d 97 := by rw [cp_0 (by decide), cp_0 (by decide)]
theorem cow_108 {L : List UInt8} {d x : MsgD} (h : (108 : UInt8) ∈ L) : chkP (ownM L d x) 108 = chkP d 108 := by rw [cp_0 (by decide), cp_0 (by decide)]
theorem cow_107 {L : List UInt8} {d x : MsgD} (h : (107 : UInt8) ∈ L) : chkP (ownM L d x) 107 = chkP d 107 := by have hkey : (ownM L d x).key = d.key := if_pos h; rw [cp_k rfl, cp_k rfl, hkey]
theorem cow_116 {L : List UInt8} {d x : MsgD} (h : (116 : UInt8) ∈ L) : chkP (ownM L d x) 116 = chkP d 116 := by have hto_ : (ownM L d x).to_ = d.to_ := if_pos h; rw [cp_t rfl, cp_t rfl, hto_]
theorem cow_67 {L : List UInt8} {d x : MsgD} (h : (67 : UInt8) ∈ L) : chkP (ownM L d x) 67 = chkP d 67 := by have hcep : (ownM L d x).cep = d.cep := if_pos h; have hcms : (ownM L d x).cms = d.cms := if_pos h; have hcfl : (ownM L d x).cfl = d.cfl := if_pos h; rw [cp_C rfl, cp_C rfl, hcep, hcms]
theorem cow_66 {L : List UInt8} {d x : MsgD} (h : (66 : UInt8) ∈ L) : chkP (ownM L d x) 66 = chkP d 66 := by have hbc : (ownM L d x).bc = d.bc := if_pos h; have hbr : (ownM L d x).br = d.br := if_pos h; have hbl : (ownM L d x).bl = d.bl := if_pos h; rw [cp_B rfl, cp_B rfl, hbc, hbr, hbl]
theorem cow_76 {L : List UInt8} {d x : MsgD} (h : (76 : UInt8) ∈ L) : chkP (ownM L d x) 76 = chkP d 76 := by have hen : (ownM L d x).en = d.en := if_pos h; rw [cp_L rfl, cp_L rfl, hen]
theorem cow_83 {L : List UInt8} {d x : MsgD} (h : (83 : UInt8) ∈ L) : chkP (ownM L d x) 83 = chkP d 83 := by have hst : (ownM L d x).st = d.st := if_pos h; rw [cp_S rfl, cp_S rfl, hst]
theorem cow_82 {L : List UInt8} {d x : MsgD} (h : (82 : UInt8) ∈ L) : chkP (ownM L d x) 82 = chkP d 82 := by have hpr : (ownM L d x).pr = d.pr := if_pos h; rw [cp_R rfl, cp_R rfl, hpr]
theorem cow_any {L : List UInt8} {d x : MsgD} {c : UInt8} (hp : LetP (c.toNat : Int)) (h : c ∈ L) : chkP (ownM L d x) (c.toNat : Int) = chkP d (c.toNat : Int) := by
  have hc : c = 101 ∨ c = 115 ∨ c = 113 ∨ c = 110 ∨ c = 109 ∨ c = 112 ∨ c = 120 ∨ c = 97 ∨ c = 108 ∨ c = 102 ∨ c = 107 ∨ c = 116 ∨ c = 67 ∨ c = 66 ∨ c = 76 ∨ c = 83 ∨ c = 82 := let_u8 hp
  rcases hc with rfl | rfl | rfl | rfl | rfl | rfl | rfl | rfl | rfl | rfl | rfl | rfl | rfl | rfl | rfl | rfl | rfl
  · exact cow_101 h
  · exact cow_115 h
  · exact cow_113 h
  · exact cow_110 h
  · exact cow_109 h
  · exact cow_112 h
  · exact cow_120 h
  · exact cow_97 h
  · exact cow_108 h
  · exact cow_102 h
  · exact cow_107 h
  · exact cow_116 h
  · exact cow_67 h
  · exact cow_66 h
  · exact cow_76 h
  · exact cow_83 h
  · exact cow_82 h
theorem chkF_own {L : List UInt8} {d x : MsgD} : ∀ (M : List UInt8), (∀ c ∈ M, LetP (c.toNat : Int) ∧ c ∈ L) → chkF (cP (ownM L d x)) M = chkF (cP d) M
  | [], _ => rfl
  | c :: M, h => by
    unfold chkF
    rw [show cP (ownM L d x) c = cP d c from cow_any (h c List.mem_cons_self).1 (h c List.mem_cons_self).2, chkF_own M (fun e he => h e (List.mem_cons_of_mem _ he))]
theorem chk_clean {d : MsgD} (h : chkMg d = 0) : chkMg (cleanM d) = 0 := by
  have hk := cMg_k h
  unfold cleanM; rw [if_pos hk]
  unfold chkMg at h ⊢
  rw [if_pos hk] at h
  rw [show (ownM (ptL d.k) d (zM d.k)).k = d.k from rfl, if_pos hk, chkF_own _ (fun c hc => ⟨ptL_let _ c hc, hc⟩)]; exact h
/-- What is put is read: a message's own parts. -/
theorem ofM_put {d : MsgD} (h : chkMg d = 0) (hR : MsgR d) (hE : ∀ z ∈ d.en, 0 ≤ z.ts ∧ z.ts < 18446744073709551616) : ofM (putM9 d) = (nM (cleanM d), 0) := by
  have hk := cMg_k h
  rw [putM9_ok h]
  have hself := has_self (putML d)
  have hsz : (⟨(putML d).toArray⟩ : ByteArray).size = (putML d).length := rfl
  generalize (⟨(putML d).toArray⟩ : ByteArray) = T at hself hsz ⊢
  unfold putML at hself hsz
  obtain ⟨b, q1, k1, s1⟩ := n_at (a := 0) (m := 15) hself (by omega) (by omega) hk.2 (by decide)
  have hL := rdL_put (T := T) (d := d) hR hE (ptL d.k) (zM d.k) b (fun c hc => ⟨ptL_let _ c hc, by
    obtain ⟨i, hi⟩ := List.getElem?_of_mem hc
    exact cMg_at h hi⟩) k1 s1
  rw [ownM_nM] at hL
  have hc := chk_clean h
  have hcl : cleanM d = ownM (ptL d.k) d (zM d.k) := by unfold cleanM; rw [if_pos hk]
  rw [hcl] at hc ⊢
  exact ofM_o (by simpa using q1) rfl (by omega) hL (by unfold endV; rw [if_pos rfl, if_neg (by simp)]) hc

end Go.Proofs.Ytcbagajjgbfgdaa

/- Mess, pure: what is read is put so. Conditions: none. -/
namespace Go.Proofs.Ytcbagajjgbfgdaa
open Go.RowKit Go.PlainAid
set_option linter.unusedVariables false
set_option linter.unusedSimpArgs false


theorem putEn_p (l : List EntT) : (l.map pE).flatMap putEn = l.flatMap putEn := by
  induction l with
  | nil => rfl
  | cons x r ih => rw [List.map_cons, List.flatMap_cons, List.flatMap_cons, ih]; rfl
theorem putP_p (d : MsgD) (p : Int) : putP (nM d) p = putP d p := by
  have h1 : (nM d).en.flatMap putEn = d.en.flatMap putEn := putEn_p d.en
  have h2 : (nM d).en.length = d.en.length := List.length_map _
  unfold putP; rw [h1, h2]; rfl
theorem putM9_p (d : MsgD) : putM9 (nM d) = putM9 d := by
  have h : qP (nM d) = qP d := funext fun c => putP_p d _
  unfold putM9 putML; rw [chkMg_p, h]; rfl
theorem pst_101 {x d : MsgD} {q : Int} (h : (101 : Int) ≠ q) : putP (setP x d q) 101 = putP x 101 := by have hep : (setP x d q).ep = x.ep := if_neg (fun e => h e.symm); rw [pp_n (.inl (by omega)), pp_n (.inl (by omega)), ← np_1 (d := setP x d q) rfl, ← np_1 (d := x) rfl, hep]
theorem pst_115 {x d : MsgD} {q : Int} (h : (115 : Int) ≠ q) : putP (setP x d q) 115 = putP x 115 := by have hsr : (setP x d q).sr = x.sr := if_neg (fun e => h e.symm); rw [pp_n (.inl (by omega)), pp_n (.inl (by omega)), ← np_2 (d := setP x d q) rfl, ← np_2 (d := x) rfl, hsr]
theorem pst_113 {x d : MsgD} {q : Int} (h : (113 : Int) ≠ q) : putP (setP x d q) 113 = putP x 113 := by have hrq : (setP x d q).rq = x.rq := if_neg (fun e => h e.symm); rw [pp_n (.inl (by omega)), pp_n (.inl (by omega)), ← np_3 (d := setP x d q) rfl, ← np_3 (d := x) rfl, hrq]
theorem pst_110 {x d : MsgD} {q : Int} (h : (110 : Int) ≠ q) : putP (setP x d q) 110 = putP x 110 := by have hn : (setP x d q).n = x.n := if_neg (fun e => h e.symm); rw [pp_n (.inl (by omega)), pp_n (.inl (by omega)), ← np_4 (d := setP x d q) rfl, ← np_4 (d := x) rfl, hn]
theorem pst_109 {x d : MsgD} {q : Int} (h : (109 : Int) ≠ q) : putP (setP x d q) 109 = putP x 109 := by have hm : (setP x d q).m = x.m := if_neg (fun e => h e.symm); rw [pp_n (.inl (by omega)), pp_n (.inl (by omega)), ← np_5 (d := setP x d q) rfl, ← np_5 (d := x) rfl, hm]
theorem pst_112 {x d : MsgD} {q : Int} (h : (112 : Int) ≠ q) : putP (setP x d q) 112 = putP x 112 := by have hp : (setP x d q).p = x.p := if_neg (fun e => h e.symm); rw [pp_n (.inl (by omega)), pp_n (.inl (by omega)), ← np_6 (d := setP x d q) rfl, ← np_6 (d := x) rfl, hp]
theorem pst_120 {x d : MsgD} {q : Int} (h : (120 : Int) ≠ q) : putP (setP x d q) 120 = putP x 120 := by have he : (setP x d q).e = x.e := if_neg (fun e => h e.symm); rw [pp_n (.inr rfl), pp_n (.inr rfl), ← np_7 (d := setP x d q) (p := 120) (by decide), ← np_7 (d := x) (p := 120) (by decide), he]
theorem pst_102 {x d : MsgD} {q : Int} (h : (102 : Int) ≠ q) : putP (setP x d q) 102 = putP x 102 := by have hfg : (setP x d q).fg = x.fg := if_neg (fun e => h e.symm); rw [pp_f rfl, pp_f rfl, hfg]
theorem pst_97 {x d : MsgD} {q : Int} (h : (97 : Int) ≠ q) : putP (setP x d q) 97 = putP x 97 := by have hat_ : (setP x d q).at_ = x.at_ := if_neg (fun e => h e.symm); rw [pp_a rfl, pp_a rfl, hat_]
theorem pst_108 {x d : MsgD} {q : Int} (h : (108 : Int) ≠ q) : putP (setP x d q) 108 = putP x 108 := by have hla : (setP x d q).la = x.la := if_neg (fun e => h e.symm); rw [pp_l rfl, pp_l rfl, hla]
theorem pst_107 {x d : MsgD} {q : Int} (h : (107 : Int) ≠ q) : putP (setP x d q) 107 = putP x 107 := by have hkey : (setP x d q).key = x.key := if_neg (fun e => h e.symm); rw [pp_k rfl, pp_k rfl, hkey]
theorem pst_116 {x d : MsgD} {q : Int} (h : (116 : Int) ≠ q) : putP (setP x d q) 116 = putP x 116 := by have hto_ : (setP x d q).to_ = x.to_ := if_neg (fun e => h e.symm); rw [pp_t rfl, pp_t rfl, hto_]
theorem pst_67 {x d : MsgD} {q : Int} (h : (67 : Int) ≠ q) : putP (setP x d q) 67 = putP x 67 := by have hcep : (setP x d q).cep = x.cep := if_neg (fun e => h e.symm); have hcms : (setP x d q).cms = x.cms := if_neg (fun e => h e.symm); have hcfl : (setP x d q).cfl = x.cfl := if_neg (fun e => h e.symm); rw [pp_C rfl, pp_C rfl, hcep, hcms, hcfl]
theorem pst_66 {x d : MsgD} {q : Int} (h : (66 : Int) ≠ q) : putP (setP x d q) 66 = putP x 66 := by have hbc : (setP x d q).bc = x.bc := if_neg (fun e => h e.symm); have hbr : (setP x d q).br = x.br := if_neg (fun e => h e.symm); have hbl : (setP x d q).bl = x.bl := if_neg (fun e => h e.symm); rw [pp_B rfl, pp_B rfl, hbc, hbr, hbl]
theorem pst_76 {x d : MsgD} {q : Int} (h : (76 : Int) ≠ q) : putP (setP x d q) 76 = putP x 76 := by have hen : (setP x d q).en = x.en := if_neg (fun e => h e.symm); rw [pp_L rfl, pp_L rfl, hen]
theorem pst_83 {x d : MsgD} {q : Int} (h : (83 : Int) ≠ q) : putP (setP x d q) 83 = putP x 83 := by have hst : (setP x d q).st = x.st := if_neg (fun e => h e.symm); rw [pp_S rfl, pp_S rfl, hst]
theorem pst_82 {x d : MsgD} {q : Int} (h : (82 : Int) ≠ q) : putP (setP x d q) 82 = putP x 82 := by have hpr : (setP x d q).pr = x.pr := if_neg (fun e => h e.symm); rw [pp_R rfl, pp_R rfl, hpr]
theorem pst_any {x d : MsgD} {c q : Int} (hc : LetP c) (h : c ≠ q) : putP (setP x d q) c = putP x c := by
  rcases hc with rfl | rfl | rfl | rfl | rfl | rfl | rfl | rfl | rfl | rfl | rfl | rfl | rfl | rfl | rfl | rfl | rfl
  · exact pst_101 h
  · exact pst_115 h
  · exact pst_113 h
  · exact pst_110 h
  · exact pst_109 h
  · exact pst_112 h
  · exact pst_120 h
  · exact pst_97 h
  · exact pst_108 h
  · exact pst_102 h
  · exact pst_107 h
  · exact pst_116 h
  · exact pst_67 h
  · exact pst_66 h
  · exact pst_76 h
  · exact pst_83 h
  · exact pst_82 h
section
variable {s : ByteArray} {x : MsgD} {a : Nat}
theorem rS_back : ∀ (i : Nat) (l : List Int) (p e e0 : Int), rS s i ([], (a : Int), e0) = (l, p, e) → e = 0 → a ≤ s.size → e0 = 0 ∧ l.length = i ∧ ∃ b : Nat, p = b ∧ eats s a (l.flatMap putL) b
  | 0, l, p, e, e0, h, he, ha => by
    cases h
    exact ⟨he, rfl, a, rfl, eats.nil ha⟩
  | i + 1, l, p, e, e0, h, he, ha => by
    rcases hq : rS s i ([], (a : Int), e0) with ⟨g1, p1, e1⟩
    rcases hn : bigR s p1 e1 with ⟨n, a2, e2⟩
    rw [rS_step hq hn] at h
    cases h
    have h1 : e1 = 0 := Decidable.byContradiction fun hx => by have := bigR_st (s := s) (a := p1) hx; rw [hn] at this; simp only at this; omega
    obtain ⟨hx, hl, b, hb, hE⟩ := rS_back i g1 p1 e1 e0 hq h1 ha
    subst hb he
    have h2 := bigR_eats (s := s) (a := b) (x := e1) (by rw [hn])
    rw [hn] at h2
    obtain ⟨_, b2, hb2, g2⟩ := h2
    refine ⟨hx, by simp [hl], b2, hb2, ?_⟩
    rw [List.flatMap_append, List.flatMap_cons, List.flatMap_nil, List.append_nil]
    exact hE.app g2
theorem rR_back : ∀ (i : Nat) (l : List PrT) (p e e0 : Int), rR s i ([], (a : Int), e0) = (l, p, e) → e = 0 → a ≤ s.size → e0 = 0 ∧ l.length = i ∧ ∃ b : Nat, p = b ∧ eats s a (l.flatMap putPr) b
  | 0, l, p, e, e0, h, he, ha => by
    cases h
    exact ⟨he, rfl, a, rfl, eats.nil ha⟩
  | i + 1, l, p, e, e0, h, he, ha => by
    rcases hq : rR s i ([], (a : Int), e0) with ⟨g1, p1, e1⟩
    rcases hn : textR s p1 e1 8 with ⟨t, a2, e2⟩
    rcases hm : textR s a2 e2 8 with ⟨u, a3, e3⟩
    rw [rR_step hq hn hm] at h
    cases h
    have h2 : e2 = 0 := Decidable.byContradiction fun hx => by have := textR_st (s := s) (a := a2) (m := 8) hx; rw [hm] at this; simp only at this; omega
    have h1 : e1 = 0 := Decidable.byContradiction fun hx => by have := textR_st (s := s) (a := p1) (m := 8) hx; rw [hn] at this; simp only at this; omega
    obtain ⟨hx, hl, b, hb, hE⟩ := rR_back i g1 p1 e1 e0 hq h1 ha
    subst hb
    have g2 := textR_eats (s := s) (a := b) (x := e1) (m := 8) (by rw [hn]; exact h2)
    rw [hn] at g2
    obtain ⟨_, b2, hb2, g2⟩ := g2
    simp only at hb2
    subst hb2
    have g3 := textR_eats (s := s) (a := b2) (x := e2) (m := 8) (by rw [hm]; exact he)
    rw [hm] at g3
    obtain ⟨_, b3, hb3, g3⟩ := g3
    refine ⟨hx, by simp [hl], b3, hb3, ?_⟩
    rw [List.flatMap_append, List.flatMap_cons, List.flatMap_nil, List.append_nil]
    exact hE.app (g2.app g3)
theorem rE_back : ∀ (i : Nat) (l : List EntT) (p e y e0 : Int), rE s i ([], (a : Int), e0, 0) = (l, p, e, y) → e = 0 → y = 0 → a ≤ s.size → e0 = 0 ∧ l.length = i ∧ ∃ b : Nat, p = b ∧ eats s a (l.flatMap putEn) b
  | 0, l, p, e, y, e0, h, he, hy, ha => by
    cases h
    exact ⟨he, rfl, a, rfl, eats.nil ha⟩
  | i + 1, l, p, e, y, e0, h, he, hy, ha => by
    rcases hq : rE s i ([], (a : Int), e0, 0) with ⟨g1, p1, e1, y1⟩
    have hbad : ¬ (e1 ≠ 0 ∨ y1 ≠ 0) := fun hx => by
      have := rE_st hq hx 1
      rw [this] at h; cases h; omega
    have h1 : e1 = 0 := by omega
    have h2 : y1 = 0 := by omega
    obtain ⟨hx, hl, b, hb, hE⟩ := rE_back i g1 p1 e1 y1 e0 hq h1 h2 ha
    subst h1; subst h2; subst hb
    rcases hn : textR s b 0 65536 with ⟨t, a2, e2⟩
    by_cases h3 : e2 = 0
    · subst h3
      rcases ho : ofE t with ⟨⟨c, r, ol, ts⟩, z⟩
      rw [rE_step hq hn ho] at h
      cases h
      have g2 := textR_eats (s := s) (a := b) (x := 0) (m := 65536) (by rw [hn])
      rw [hn] at g2
      obtain ⟨_, b2, hb2, g2⟩ := g2
      have hp := (backE (s := t) (by rw [ho]; exact hy)).1
      rw [ho] at hp
      refine ⟨hx, by simp [hl], b2, hb2, ?_⟩
      rw [List.flatMap_append, List.flatMap_cons, List.flatMap_nil, List.append_nil]
      have e9 : putEn (mkE (c, r, ol, ts)) = putL ((t.size : Nat) : Int) ++ t.data.toList := by
        show txM (putE c r ol ts) = _
        rw [show putE c r ol ts = t from hp]; rfl
      rw [e9]; exact hE.app g2
    · rw [rE_bad hq hn h3] at h; cases h; exact absurd he h3
end
section
variable {s : ByteArray} {x : MsgD} {a : Nat}
theorem et_101 (h : (rdP s 101 x a).2.2 = 0) (ha : a ≤ s.size) : ∃ b : Nat, (rdP s 101 x a).2.1 = b ∧ eats s a (putP (rdP s 101 x a).1 101) b ∧ (rdP s 101 x a).1 = setP x (rdP s 101 x a).1 101 := by
  rcases hq : numR s (a : Int) 0 1073741824 with ⟨v, a', r⟩
  rw [rd_101 hq] at h ⊢
  have hE := numR_eats (s := s) (a := a) (x := 0) (m := 1073741824) (by rw [hq]; exact h)
  rw [hq] at hE
  obtain ⟨_, b, hb, hE⟩ := hE
  exact ⟨b, hb, by rw [pp_n (.inl (by omega)), ← np_1 rfl]; exact hE, by rw [setP_101]⟩
theorem et_115 (h : (rdP s 115 x a).2.2 = 0) (ha : a ≤ s.size) : ∃ b : Nat, (rdP s 115 x a).2.1 = b ∧ eats s a (putP (rdP s 115 x a).1 115) b ∧ (rdP s 115 x a).1 = setP x (rdP s 115 x a).1 115 := by
  rcases hq : numR s (a : Int) 0 1073741824 with ⟨v, a', r⟩
  rw [rd_115 hq] at h ⊢
  have hE := numR_eats (s := s) (a := a) (x := 0) (m := 1073741824) (by rw [hq]; exact h)
  rw [hq] at hE
  obtain ⟨_, b, hb, hE⟩ := hE
  exact ⟨b, hb, by rw [pp_n (.inl (by omega)), ← np_2 rfl]; exact hE, by rw [setP_115]⟩
theorem et_113 (h : (rdP s 113 x a).2.2 = 0) (ha : a ≤ s.size) : ∃ b : Nat, (rdP s 113 x a).2.1 = b ∧ eats s a (putP (rdP s 113 x a).1 113) b ∧ (rdP s 113 x a).1 = setP x (rdP s 113 x a).1 113 := by
  rcases hq : numR s (a : Int) 0 1073741824 with ⟨v, a', r⟩
  rw [rd_113 hq] at h ⊢
  have hE := numR_eats (s := s) (a := a) (x := 0) (m := 1073741824) (by rw [hq]; exact h)
  rw [hq] at hE
  obtain ⟨_, b, hb, hE⟩ := hE
  exact ⟨b, hb, by rw [pp_n (.inl (by omega)), ← np_3 rfl]; exact hE, by rw [setP_113]⟩
theorem et_110 (h : (rdP s 110 x a).2.2 = 0) (ha : a ≤ s.size) : ∃ b : Nat, (rdP s 110 x a).2.1 = b ∧ eats s a (putP (rdP s 110 x a).1 110) b ∧ (rdP s 110 x a).1 = setP x (rdP s 110 x a).1 110 := by
  rcases hq : numR s (a : Int) 0 1073741824 with ⟨v, a', r⟩
  rw [rd_110 hq] at h ⊢
  have hE := numR_eats (s := s) (a := a) (x := 0) (m := 1073741824) (by rw [hq]; exact h)
  rw [hq] at hE
  obtain ⟨_, b, hb, hE⟩ := hE
  exact ⟨b, hb, by rw [pp_n (.inl (by omega)), ← np_4 rfl]; exact hE, by rw [setP_110]⟩
theorem et_109 (h : (rdP s 109 x a).2.2 = 0) (ha : a ≤ s.size) : ∃ b : Nat, (rdP s 109 x a).2.1 = b ∧ eats s a (putP (rdP s 109 x a).1 109) b ∧ (rdP s 109 x a).1 = setP x (rdP s 109 x a).1 109 := by
  rcases hq : numR s (a : Int) 0 1073741824 with ⟨v, a', r⟩
  rw [rd_109 hq] at h ⊢
  have hE := numR_eats (s := s) (a := a) (x := 0) (m := 1073741824) (by rw [hq]; exact h)
  rw [hq] at hE
  obtain ⟨_, b, hb, hE⟩ := hE
  exact ⟨b, hb, by rw [pp_n (.inl (by omega)), ← np_5 rfl]; exact hE, by rw [setP_109]⟩
theorem et_112 (h : (rdP s 112 x a).2.2 = 0) (ha : a ≤ s.size) : ∃ b : Nat, (rdP s 112 x a).2.1 = b ∧ eats s a (putP (rdP s 112 x a).1 112) b ∧ (rdP s 112 x a).1 = setP x (rdP s 112 x a).1 112 := by
  rcases hq : numR s (a : Int) 0 1073741824 with ⟨v, a', r⟩
  rw [rd_112 hq] at h ⊢
  have hE := numR_eats (s := s) (a := a) (x := 0) (m := 1073741824) (by rw [hq]; exact h)
  rw [hq] at hE
  obtain ⟨_, b, hb, hE⟩ := hE
  exact ⟨b, hb, by rw [pp_n (.inl (by omega)), ← np_6 rfl]; exact hE, by rw [setP_112]⟩
theorem et_120 (h : (rdP s 120 x a).2.2 = 0) (ha : a ≤ s.size) : ∃ b : Nat, (rdP s 120 x a).2.1 = b ∧ eats s a (putP (rdP s 120 x a).1 120) b ∧ (rdP s 120 x a).1 = setP x (rdP s 120 x a).1 120 := by
  rcases hq : numR s (a : Int) 0 21 with ⟨v, a', r⟩
  rw [rd_120 hq] at h ⊢
  have hE := numR_eats (s := s) (a := a) (x := 0) (m := 21) (by rw [hq]; exact h)
  rw [hq] at hE
  obtain ⟨_, b, hb, hE⟩ := hE
  exact ⟨b, hb, by rw [pp_n (.inr rfl), ← np_7 (p := 120) (by decide)]; exact hE, by rw [setP_120]⟩
theorem et_102 (h : (rdP s 102 x a).2.2 = 0) (ha : a ≤ s.size) : ∃ b : Nat, (rdP s 102 x a).2.1 = b ∧ eats s a (putP (rdP s 102 x a).1 102) b ∧ (rdP s 102 x a).1 = setP x (rdP s 102 x a).1 102 := by
  rcases hq : flagR s ((a : Nat) : Int).toNat 0 with ⟨v, a', r⟩
  rw [rd_102 hq] at h ⊢
  rw [Int.toNat_natCast] at hq
  have hE := flagR_eats (s := s) (a := a) (x := 0) (fun _ => ha) (by rw [hq]; exact h)
  rw [hq] at hE
  obtain ⟨_, b, hb, hE⟩ := hE
  exact ⟨b, hb, by rw [pp_f rfl]; exact hE, by rw [setP_102]⟩
theorem et_97 (h : (rdP s 97 x a).2.2 = 0) (ha : a ≤ s.size) : ∃ b : Nat, (rdP s 97 x a).2.1 = b ∧ eats s a (putP (rdP s 97 x a).1 97) b ∧ (rdP s 97 x a).1 = setP x (rdP s 97 x a).1 97 := by
  rcases hq : bigR s (a : Int) 0 with ⟨v, a', r⟩
  rw [rd_97 hq] at h ⊢
  have hE := bigR_eats (s := s) (a := a) (x := 0) (by rw [hq]; exact h)
  rw [hq] at hE
  obtain ⟨_, b, hb, hE⟩ := hE
  exact ⟨b, hb, by rw [pp_a rfl]; exact hE, by rw [setP_97]⟩
theorem et_108 (h : (rdP s 108 x a).2.2 = 0) (ha : a ≤ s.size) : ∃ b : Nat, (rdP s 108 x a).2.1 = b ∧ eats s a (putP (rdP s 108 x a).1 108) b ∧ (rdP s 108 x a).1 = setP x (rdP s 108 x a).1 108 := by
  rcases hq : bigR s (a : Int) 0 with ⟨v, a', r⟩
  rw [rd_108 hq] at h ⊢
  have hE := bigR_eats (s := s) (a := a) (x := 0) (by rw [hq]; exact h)
  rw [hq] at hE
  obtain ⟨_, b, hb, hE⟩ := hE
  exact ⟨b, hb, by rw [pp_l rfl]; exact hE, by rw [setP_108]⟩
theorem et_107 (h : (rdP s 107 x a).2.2 = 0) (ha : a ≤ s.size) : ∃ b : Nat, (rdP s 107 x a).2.1 = b ∧ eats s a (putP (rdP s 107 x a).1 107) b ∧ (rdP s 107 x a).1 = setP x (rdP s 107 x a).1 107 := by
  rcases hq : textR s (a : Int) 0 8 with ⟨v, a', r⟩
  rw [rd_107 hq] at h ⊢
  have hE := textR_eats (s := s) (a := a) (x := 0) (m := 8) (by rw [hq]; exact h)
  rw [hq] at hE
  obtain ⟨_, b, hb, hE⟩ := hE
  exact ⟨b, hb, by rw [pp_k rfl]; exact hE, by rw [setP_107]⟩
theorem et_116 (h : (rdP s 116 x a).2.2 = 0) (ha : a ≤ s.size) : ∃ b : Nat, (rdP s 116 x a).2.1 = b ∧ eats s a (putP (rdP s 116 x a).1 116) b ∧ (rdP s 116 x a).1 = setP x (rdP s 116 x a).1 116 := by
  rcases hq : textR s (a : Int) 0 8 with ⟨v, a', r⟩
  rw [rd_116 hq] at h ⊢
  have hE := textR_eats (s := s) (a := a) (x := 0) (m := 8) (by rw [hq]; exact h)
  rw [hq] at hE
  obtain ⟨_, b, hb, hE⟩ := hE
  exact ⟨b, hb, by rw [pp_t rfl]; exact hE, by rw [setP_116]⟩
theorem et_67 (h : (rdP s 67 x a).2.2 = 0) (ha : a ≤ s.size) : ∃ b : Nat, (rdP s 67 x a).2.1 = b ∧ eats s a (putP (rdP s 67 x a).1 67) b ∧ (rdP s 67 x a).1 = setP x (rdP s 67 x a).1 67 := by
  rcases hq : textR s a 0 65536 with ⟨t, a', e'⟩
  rcases ho : ofC t with ⟨⟨ep, ms, fl⟩, z⟩
  rw [rd_67 (rdC_at hq ho)] at h ⊢
  have he : e' = 0 := Decidable.byContradiction fun hx => by simp only at h; rw [if_pos hx] at h; exact hx h
  simp only at h; rw [if_neg (by omega)] at h
  have hE := textR_eats (s := s) (a := a) (x := 0) (m := 65536) (by rw [hq]; exact he)
  rw [hq] at hE
  obtain ⟨_, b, hb, hE⟩ := hE
  have hp := ofC_back9 (t := t) (by rw [ho]; exact h)
  rw [ho] at hp
  refine ⟨b, hb, ?_, by rw [setP_67]⟩
  rw [pp_C rfl]
  show eats s a (txM (putCf ep ms fl)) b
  rw [show putCf ep ms fl = t from hp]; exact hE
theorem et_66 (h : (rdP s 66 x a).2.2 = 0) (ha : a ≤ s.size) : ∃ b : Nat, (rdP s 66 x a).2.1 = b ∧ eats s a (putP (rdP s 66 x a).1 66) b ∧ (rdP s 66 x a).1 = setP x (rdP s 66 x a).1 66 := by
  rcases hq : textR s a 0 65536 with ⟨t, a', e'⟩
  rcases ho : ofB t with ⟨⟨c, q, l⟩, z⟩
  rw [rd_66 (rdB_at hq ho)] at h ⊢
  have he : e' = 0 := Decidable.byContradiction fun hx => by simp only at h; rw [if_pos hx] at h; exact hx h
  simp only at h; rw [if_neg (by omega)] at h
  have hE := textR_eats (s := s) (a := a) (x := 0) (m := 65536) (by rw [hq]; exact he)
  rw [hq] at hE
  obtain ⟨_, b, hb, hE⟩ := hE
  subst h
  have hp := of_back ho
  refine ⟨b, hb, ?_, by rw [setP_66]⟩
  rw [pp_B rfl]
  show eats s a (txM (putB c q l)) b
  rw [show putB c q l = t from hp]; exact hE
theorem et_76 (h : (rdP s 76 x a).2.2 = 0) (ha : a ≤ s.size) : ∃ b : Nat, (rdP s 76 x a).2.1 = b ∧ eats s a (putP (rdP s 76 x a).1 76) b ∧ (rdP s 76 x a).1 = setP x (rdP s 76 x a).1 76 := by
  rcases hq : numR s a 0 4 with ⟨n, a1, e1⟩
  rcases ho : rE s n.toNat ([], a1, e1, 0) with ⟨l, a2, e2, y⟩
  have hz := rdE_of hq ho (Nat.le_refl _) (.inl rfl)
  rw [rd_76 hz] at h ⊢
  have he : e2 = 0 := Decidable.byContradiction fun hx => by simp only at h; rw [if_pos hx] at h; exact hx h
  simp only at h; rw [if_neg (by omega)] at h
  have h1 : e1 = 0 := Decidable.byContradiction fun hx => by have h9 : ∀ i, rE s i ([], a1, e1, 0) = ([], a1, e1, 0) := fun i => (by have := rE_st (s := s) (i := 0) (q0 := ([], a1, e1, 0)) (q := ([], a1, e1, 0)) rfl (.inl hx) i; rwa [Nat.zero_add] at this); rw [h9] at ho; cases ho; exact hx he
  have hN := numR_eats (s := s) (a := a) (x := 0) (m := 4) (by rw [hq]; exact h1)
  have hle := numR_le (s := s) (a := a) (x := 0) (m := 4) (by decide)
  rw [hq] at hN hle
  obtain ⟨_, b1, hb1, hN⟩ := hN
  simp only at hb1 hle
  subst hb1
  obtain ⟨_, hl, b, hb, hE⟩ := rE_back n.toNat l a2 e2 y e1 ho he h hN.2.1
  refine ⟨b, hb, ?_, by rw [setP_76]⟩
  rw [pp_L rfl]
  show eats s a (putL ((l.length : Nat) : Int) ++ l.flatMap putEn) b
  rw [show ((l.length : Nat) : Int) = n by omega]; exact hN.app hE
theorem et_83 (h : (rdP s 83 x a).2.2 = 0) (ha : a ≤ s.size) : ∃ b : Nat, (rdP s 83 x a).2.1 = b ∧ eats s a (putP (rdP s 83 x a).1 83) b ∧ (rdP s 83 x a).1 = setP x (rdP s 83 x a).1 83 := by
  rcases hq : numR s a 0 8 with ⟨n, a1, e1⟩
  rcases ho : rS s n.toNat ([], a1, e1) with ⟨l, a2, e2⟩
  have hz := rdS_at hq ho rfl
  rw [rd_83 hz] at h ⊢
  have he : e2 = 0 := h
  have h1 : e1 = 0 := Decidable.byContradiction fun hx => by have := rS_st (s := s) (i := 0) (q0 := ([], a1, e1)) rfl hx n.toNat; rw [Nat.zero_add, ho] at this; exact hx (this.symm.trans he)
  have hN := numR_eats (s := s) (a := a) (x := 0) (m := 8) (by rw [hq]; exact h1)
  have hle := numR_le (s := s) (a := a) (x := 0) (m := 8) (by decide)
  rw [hq] at hN hle
  obtain ⟨_, b1, hb1, hN⟩ := hN
  simp only at hb1 hle
  subst hb1
  obtain ⟨_, hl, b, hb, hE⟩ := rS_back n.toNat l a2 e2 e1 ho he  hN.2.1
  refine ⟨b, hb, ?_, by rw [setP_83]⟩
  rw [pp_S rfl]
  show eats s a (putL ((l.length : Nat) : Int) ++ l.flatMap putL) b
  rw [show ((l.length : Nat) : Int) = n by omega]; exact hN.app hE
theorem et_82 (h : (rdP s 82 x a).2.2 = 0) (ha : a ≤ s.size) : ∃ b : Nat, (rdP s 82 x a).2.1 = b ∧ eats s a (putP (rdP s 82 x a).1 82) b ∧ (rdP s 82 x a).1 = setP x (rdP s 82 x a).1 82 := by
  rcases hq : numR s a 0 32 with ⟨n, a1, e1⟩
  rcases ho : rR s n.toNat ([], a1, e1) with ⟨l, a2, e2⟩
  have hz := rdR_at hq ho rfl
  rw [rd_82 hz] at h ⊢
  have he : e2 = 0 := h
  have h1 : e1 = 0 := Decidable.byContradiction fun hx => by have := rR_st (s := s) (i := 0) (q0 := ([], a1, e1)) rfl hx n.toNat; rw [Nat.zero_add, ho] at this; exact hx (this.symm.trans he)
  have hN := numR_eats (s := s) (a := a) (x := 0) (m := 32) (by rw [hq]; exact h1)
  have hle := numR_le (s := s) (a := a) (x := 0) (m := 32) (by decide)
  rw [hq] at hN hle
  obtain ⟨_, b1, hb1, hN⟩ := hN
  simp only at hb1 hle
  subst hb1
  obtain ⟨_, hl, b, hb, hE⟩ := rR_back n.toNat l a2 e2 e1 ho he  hN.2.1
  refine ⟨b, hb, ?_, by rw [setP_82]⟩
  rw [pp_R rfl]
  show eats s a (putL ((l.length : Nat) : Int) ++ l.flatMap putPr) b
  rw [show ((l.length : Nat) : Int) = n by omega]; exact hN.app hE
theorem et_any {p : Int} (hp : LetP p) (h : (rdP s p x a).2.2 = 0) (ha : a ≤ s.size) : ∃ b : Nat, (rdP s p x a).2.1 = b ∧ eats s a (putP (rdP s p x a).1 p) b ∧ (rdP s p x a).1 = setP x (rdP s p x a).1 p := by
  rcases hp with rfl | rfl | rfl | rfl | rfl | rfl | rfl | rfl | rfl | rfl | rfl | rfl | rfl | rfl | rfl | rfl | rfl
  · exact et_101 h ha
  · exact et_115 h ha
  · exact et_113 h ha
  · exact et_110 h ha
  · exact et_109 h ha
  · exact et_112 h ha
  · exact et_120 h ha
  · exact et_97 h ha
  · exact et_108 h ha
  · exact et_102 h ha
  · exact et_107 h ha
  · exact et_116 h ha
  · exact et_67 h ha
  · exact et_66 h ha
  · exact et_76 h ha
  · exact et_83 h ha
  · exact et_82 h ha
theorem rdL_back : ∀ (L : List UInt8) (x : MsgD) (a : Nat) (y : MsgD) (p e : Int), rdL s L x a = (y, p, e) → e = 0 → L.Nodup → (∀ c ∈ L, LetP (c.toNat : Int)) → a ≤ s.size → (∃ b : Nat, p = b ∧ eats s a (L.flatMap (qP y)) b) ∧ (∀ c : UInt8, LetP (c.toNat : Int) → c ∉ L → qP y c = qP x c) ∧ y.k = x.k
  | [], x, a, y, p, e, h, he, _, _, ha => by
    cases h
    exact ⟨⟨a, rfl, eats.nil ha⟩, fun _ _ _ => rfl, rfl⟩
  | c :: L, x, a, y, p, e, h, he, hn, hL, ha => by
    rcases hq : rdP s (c.toNat : Int) x a with ⟨y1, p1, e1⟩
    by_cases h1 : e1 = 0
    · rw [rdL_ok hq h1 rfl] at h
      obtain ⟨b1, hb1, hE, hS⟩ := et_any (hL c List.mem_cons_self) (by rw [hq]; exact h1) ha
      rw [hq] at hb1 hE hS
      simp only at hb1 hE hS
      subst hb1
      obtain ⟨hc, hn'⟩ := List.nodup_cons.1 hn
      obtain ⟨⟨b, hb, hE2⟩, hK, hk⟩ := rdL_back L y1 b1 y p e h he hn' (fun e he => hL e (List.mem_cons_of_mem _ he)) hE.2.1
      have hkk : y1.k = x.k := by rw [hS]; rfl
      refine ⟨⟨b, hb, ?_⟩, fun e he hne => ?_, by rw [hk, hkk]⟩
      · rw [List.flatMap_cons, hK c (hL c List.mem_cons_self) hc]; exact hE.app hE2
      · have h3 := hK e he (fun hm => hne (List.mem_cons_of_mem _ hm))
        rw [h3]
        show putP y1 _ = putP x _
        rw [hS]; exact pst_any he (fun h4 => hne (by rw [(u8i e c).1 h4]; exact List.mem_cons_self))
    · rw [rdL_er hq h1] at h; cases h; exact absurd he h1
/-- What is read is put so. -/
theorem ofM_back (h : (ofM s).2 = 0) : putM9 (ofM s).1 = s ∧ chkMg (ofM s).1 = 0 := by
  rcases q : numR s 0 0 15 with ⟨k, p0, e0⟩
  by_cases he : e0 = 0
  · by_cases hk : k = 0
    · rw [ofM_k9 q he hk] at h; simp at h
    · rcases hq : rdL s (ptL k) (zM k) p0 with ⟨y, p1, e1⟩
      subst he
      have hM := ofM_q q hk hq
      by_cases h1 : e1 ≠ 0
      · rw [hM, if_pos h1] at h; exact absurd h h1
      rw [if_neg h1] at hM
      by_cases h2 : endV s p1.toNat 0 ≠ 0
      · rw [hM, if_pos h2] at h; exact absurd h h2
      rw [if_neg h2] at hM
      by_cases h3 : chkMg y ≠ 0
      · rw [hM, if_pos h3] at h; exact absurd h h3
      rw [if_neg h3] at hM
      rw [hM]
      have hc : chkMg y = 0 := by omega
      refine ⟨?_, hc⟩
      have hN := numR_eats (s := s) (a := 0) (x := 0) (m := 15) (by show (numR s 0 0 15).2.2 = 0; rw [q])
      rw [show numR s ((0 : Nat) : Int) 0 15 = (k, p0, 0) from q] at hN
      obtain ⟨_, b0, hb0, hN⟩ := hN
      simp only at hb0
      subst hb0
      obtain ⟨⟨b, hb, hE⟩, _, hkk⟩ := rdL_back (ptL k) (zM k) b0 y p1 e1 hq (by omega) (ptL_nodup k) (ptL_let k) hN.2.1
      subst hb
      have hsz := (endV_eats (s := s) (a := b) (x := 0) (fun _ => hE.2.1) (by rw [Int.toNat_natCast] at h2; omega)).2
      rw [putM9_ok hc]
      unfold putML
      rw [hkk]
      rw [hsz] at hE
      exact eats.whole (hN.app hE)
  · rw [ofM_e q he] at h; exact absurd h he
theorem ofM_zero (h : (ofM s).2 ≠ 0) : (ofM s).1 = zM 0 := by
  rcases q : numR s 0 0 15 with ⟨k, p0, e0⟩
  by_cases he : e0 = 0
  · by_cases hk : k = 0
    · rw [ofM_k9 q he hk]
    · rcases hq : rdL s (ptL k) (zM k) p0 with ⟨y, p1, e1⟩
      subst he
      have hM := ofM_q q hk hq
      by_cases h1 : e1 ≠ 0
      · rw [hM, if_pos h1]
      rw [if_neg h1] at hM
      by_cases h2 : endV s p1.toNat 0 ≠ 0
      · rw [hM, if_pos h2]
      rw [if_neg h2] at hM
      by_cases h3 : chkMg y ≠ 0
      · rw [hM, if_pos h3]
      rw [if_neg h3] at hM
      rw [hM] at h; exact absurd rfl h
  · rw [ofM_e q he]
end
theorem putEn_le (y : EntT) : (putEn y).length ≤ 230 := by
  have := putE_small (c := y.client) (r := y.req) (l := y.opl) (ts := y.ts)
  have h2 := putL_le ((putE y.client y.req y.opl y.ts).size : Int)
  unfold putEn txM; simp only [List.length_append, Array.length_toList, ByteArray.size_data]; omega
theorem flat_le {α : Type} {f : α → List UInt8} {m : Nat} (h : ∀ x, (f x).length ≤ m) : ∀ l : List α, (l.flatMap f).length ≤ m * l.length
  | [] => by simp
  | x :: r => by
    have := h x; have := flat_le h r
    rw [List.flatMap_cons, List.length_append, List.length_cons, Nat.mul_succ]; omega
theorem flat_le' {α : Type} {f : α → List UInt8} {m : Nat} : ∀ l : List α, (∀ x ∈ l, (f x).length ≤ m) → (l.flatMap f).length ≤ m * l.length
  | [], _ => by simp
  | x :: r, h => by
    have := h x List.mem_cons_self; have := flat_le' r (fun y hy => h y (List.mem_cons_of_mem _ hy))
    rw [List.flatMap_cons, List.length_append, List.length_cons, Nat.mul_succ]; omega
theorem txM_le (t : ByteArray) : (txM t).length ≤ 9 + t.size := by
  have := putL_le (t.size : Int); unfold txM; simp only [List.length_append, Array.length_toList, ByteArray.size_data]; omega
theorem qP_le {d : MsgD} {p : Int} (h : chkP d p = 0) : (putP d p).length ≤ 4000 := by
  have hok := part_ok h
  have hp := fun n : Int => putL_le n
  unfold putP
  split
  · simp
  split
  · have := hp d.at_; omega
  split
  · have := hp d.la; omega
  split
  · rename_i e; have := hok.2.2.1 e; have := txM_le d.key; omega
  split
  · rename_i e; have := hok.2.2.2.1 e; have := txM_le d.to_; omega
  split
  · have := putCf_small (ep := d.cep) (ms := d.cms) (fl := d.cfl); have := txM_le (putCf d.cep d.cms d.cfl); omega
  split
  · have := putB_small (c := d.bc) (r := d.br) (l := d.bl); have := txM_le (putB d.bc d.br d.bl); omega
  split
  · rename_i e; have := hok.2.2.2.2.1 e; have := flat_le putEn_le d.en; have := hp ((d.en.length : Nat) : Int); rw [List.length_append]; omega
  split
  · rename_i e; have := hok.2.2.2.2.2.1 e; have := flat_le (f := putL) putL_le d.st; have := hp ((d.st.length : Nat) : Int); rw [List.length_append]; omega
  split
  · rename_i e; have h9 := hok.2.2.2.2.2.2 e
    have hs := pr_small (d := d) (by rw [← cp_R (d := d) (p := p) e]; exact h)
    have := flat_le' (f := putPr) (m := 34) d.pr (fun y hy => by have := hs y hy; have := txM_le y.1; have := txM_le y.2; unfold putPr; rw [List.length_append]; omega)
    have := hp ((d.pr.length : Nat) : Int); rw [List.length_append]; omega
  · have := hp (numP d p); omega
theorem putM9_sz9 {d : MsgD} : (putM9 d).size ≤ 9223372036854775807 := by
  by_cases h : chkMg d = 0
  · rw [putM9_ok h]
    show (putML d).length ≤ _
    have := flat_le' (f := qP d) (m := 4000) (ptL d.k) (fun c hc => by
      obtain ⟨i, hi⟩ := List.getElem?_of_mem hc
      exact qP_le (cMg_at h hi))
    have := ptL_small d.k; have := putL_le d.k
    unfold putML; rw [List.length_append]; omega
  · rw [putM9_err h]; decide

end Go.Proofs.Ytcbagajjgbfgdaa

/- The document's own messages: read, where a part is a number, a flag, a text. Conditions: none. -/
namespace Go.Proofs.Ytcbagajjgbfgdaa
open Go.RowKit Go.PlainAid
set_option linter.unusedVariables false
set_option linter.unusedSimpArgs false


/-- Values of one cell. -/
def One5 (a b c d e : Value) : Prop := a.oneCell' = true ∧ b.oneCell' = true ∧ c.oneCell' = true ∧ d.oneCell' = true ∧ e.oneCell' = true
end Go.Proofs.Ytcbagajjgbfgdaa

/- The document's own messages: read, whatever letter it is given. Conditions: none. -/
namespace Go.Proofs.Ytcbagajjgbfgdaa
open Go.RowKit Go.PlainAid
set_option linter.unusedVariables false
set_option linter.unusedSimpArgs false


theorem Mv.one {B : Nat} {w : World} {d : MsgD} {mv bv ev sv pv : Value} (h : Mv B w d mv bv ev sv pv) : One5 mv bv ev sv pv := ⟨row_one h.mem, row_one h.ops, row_one h.ent, row_one h.st, row_one h.pr⟩
end Go.Proofs.Ytcbagajjgbfgdaa

/- The document's own messages: Of. Conditions: none. -/
namespace Go.Proofs.Ytcbagajjgbfgdaa
open Go.RowKit Go.PlainAid
set_option linter.unusedVariables false
set_option linter.unusedSimpArgs false


structure RxInv (s : ByteArray) (n a0 : Int) (i : Nat) (d : MsgD) (a : Int) (sv pv ev : Value) : Prop where
  toR : RdInv s n a0 i d a sv pv
  ev : 76 ∈ (ptL n).drop i → ev = .slice none 0 0
/-- Where the parts' loop stands: a reader's error may have come up. -/
structure RxSt (s : ByteArray) (n a0 e0 : Int) (i : Nat) (d : MsgD) (a er : Int) (sv pv ev : Value) : Prop where
  ok : er = 0 → e0 = 0 ∧ RxInv s n a0 i d a sv pv ev
  bad : er ≠ 0 → e0 = er ∨ e0 = 0 ∧ (rdL s (ptL n) (zM n) a0).2.2 = er
section
variable {s : ByteArray} {n a0 e0 : Int} {i : Nat} {d d' : MsgD} {a a' r er : Int} {sv pv ev sv' pv' ev' : Value} {c : UInt8}
theorem RxSt.start : RxSt s n a0 e0 0 (zM n) a0 e0 (.slice none 0 0) (.slice none 0 0) (.slice none 0 0) := ⟨fun h => ⟨h, RdInv.start, fun _ => rfl⟩, fun _ => .inl rfl⟩
theorem RxSt.step (h : RxInv s n a0 i d a sv pv ev) (he0 : e0 = 0) (hc : (ptL n)[i]? = some c) (hr : er = 0 → rdP s (c.toNat : Int) (nM d) a = (nM d', a', 0)) (hb : er ≠ 0 → (rdP s (c.toNat : Int) (nM d) a).2.2 = er) (h1 : ((c.toNat : Nat) : Int) ≠ 83 → sv' = sv) (h2 : ((c.toNat : Nat) : Int) ≠ 82 → pv' = pv) (h3 : ((c.toNat : Nat) : Int) ≠ 76 → ev' = ev) : RxSt s n a0 e0 (i + 1) d' a' er sv' pv' ev' := by
  refine ⟨fun he => ⟨he0, h.toR.step hc (hr he) h1 h2, fun hm => ?_⟩, fun he => .inr ⟨he0, h.toR.err hc (hb he) he⟩⟩
  have hd := dropM hc
  have hnd : ((ptL n).drop i).Nodup := (ptL_nodup n).sublist (List.drop_sublist _ _)
  rw [hd] at hnd
  have hno := (List.nodup_cons.1 hnd).1
  rw [h3 (fun e => hno (by rw [show c = 76 from UInt8.toNat.inj (by simp; omega)]; exact hm))]; exact h.ev (by rw [hd]; exact List.mem_cons_of_mem _ hm)
theorem RxSt.of (h : RxSt s n a0 e0 i d a er sv pv ev) (hq : numR s 0 0 15 = (n, a0, e0)) (hn : e0 = 0 → n ≠ 0) (he : er ≠ 0) : ofM s = (zM 0, er) := by
  rcases h.bad he with h1 | ⟨h1, h2⟩
  · subst h1; exact ofM_e hq he
  · exact ofM_r9 hq h1 (hn h1) h2 he
end

end Go.Proofs.Ytcbagajjgbfgdaa
