/- Put together: JdgCMc, JdgDMc. Conditions: as each says. -/
import Derived.Test.YtdgboikkgeioeaaMd1
import Derived.Scope
/- catenalaw38: awake. Conditions: none. -/
namespace Go.Proofs.Ytdgboikkgeioeaa
open Go.RowKit Go.PlainAid
set_option linter.unusedVariables false
set_option linter.unusedSimpArgs false


section
variable {Q : Exit → Act → World → Prop} {a : Act} {w : World}
theorem co_scopeR (h : Q .ret a w) : Exit.noGoto Q .ret a w := h
end
theorem awL20 (a b : Nat) : ∀ z ∈ awL a b, z.opl.length ≤ 100 := fun z hz => by
  simp [awL] at hz
  rcases hz with rfl | rfl <;> simp
theorem awS_len (t : Int) (a b : Nat) : (stOJ t (awL a b)).length ≤ 999 := by
  have h := sum_stJ t (awL a b) 0
  have e : (awL a b).foldl (fun n e => n + (e.opl.length : Int)) 0 = 2 := rfl
  rw [e] at h; omega
theorem awState_any {a b : Nat} (v : Value) (L : List EntT) (hL : L = awL a b) (w : World) (hs : SliceOf entE 4 w v L) (hok : ∀ z ∈ L, EntOk w z) : Calls Try.prog 10 #[v, .int .u64 5] w fun e w' => ∃ u : Value, e = .returned u ∧ w'.ownsRow w.heap.size 38 2 u ([(⟨#[97]⟩, ⟨#[49]⟩)] : List ValT).length (([(⟨#[97]⟩, ⟨#[49]⟩)] : List ValT).flatMap valE) ∧ Below w.heap.size w w' := by
  refine (jState_any v L 5 w hs hok (by rw [hL]; exact awL20 a b) (by omega) (by rw [hL]; exact awS_len _ _ _)).mono ?_
  rintro e x ⟨ys, u, rfl, h1, h2, h3, h4⟩
  rw [hL] at h2
  rw [aw5 h2] at h1
  exact ⟨u, rfl, h1, h4⟩
theorem aw_one {y : ValT} {j : Nat} (h : ([(⟨#[97]⟩, ⟨#[49]⟩)] : List ValT)[j]? = some y) : y = (⟨#[97]⟩, ⟨#[49]⟩) := by
  cases j with
  | zero => simpa using h.symm
  | succ j => simp at h

set_option maxRecDepth 100000 in
theorem jReads_a  (w : World)  :
    Calls Try.prog 49 #[.agg #[.int .i64 0, .int .i64 0, .int .i64 1, .int .i64 0, .string (⟨#[97]⟩), .string (⟨#[]⟩), .int .u64 0, .int .i64 0, .slice none 0 0, .int .i64 0, .int .i64 1, .int .i64 0, .int .i64 0, .int .u64 7, .int .i64 0, .slice none 0 0]] w fun e w' => e = .returned (.bool true) ∧ Below w.heap.size w w' := by
 have hB0 := Below.refl w.heap.size w
 refine co_enter (n := 19) Try.func49 rfl rfl rfl [(0, .agg #[.int .i64 0, .int .i64 0, .int .i64 1, .int .i64 0, .string (⟨#[97]⟩), .string (⟨#[]⟩), .int .u64 0, .int .i64 0, .slice none 0 0, .int .i64 0, .int .i64 1, .int .i64 0, .int .i64 0, .int .u64 7, .int .i64 0, .slice none 0 0])] rfl (fun a h0 => ?_)
 refine co_seq ?_
 refine co_reg ?_
 refine pw h0 rfl (op_new (v := fun N => pt N 0) (T := 72) (cs := #[.int .i64 0, .int .i64 0, .int .i64 1, .int .i64 0, .string (⟨#[97]⟩), .string (⟨#[]⟩), .int .u64 0, .int .i64 0, .slice none 0 0, .int .i64 0, .int .i64 1, .int .i64 0, .int .i64 0, .int .u64 7, .int .i64 0, .slice none 0 0]) (by kernel_rfl) (by kernel_rfl) (by kernel_rfl)) ?_; clear h0
 rintro _ w2 a1 ⟨N3, rfl, hN6, hz7, hk5, hg4⟩ h1
 have hz8 := hg4.size
 try dsimp only at h1
 refine pk0 (v := .bool false) h1 rfl fun a9 h9 => ?_; clear h1
 refine pl_nil ?_
 refine co_then ?_
 refine co_seq ?_
 refine co_reg ?_
 refine pk0 (v := pt N3 2) h9 rfl fun a10 h10 => ?_; clear h9
 refine pk0 (v := pt N3 2) h10 rfl fun a11 h11 => ?_; clear h10
 refine pk (v := .int .i64 1) h11 rfl (rn_load1 rfl rfl Try.isAgg3 (hk5.cell rfl)) fun a12 h12 => ?_; clear h11
 refine pk0 (v := .bool ((1 : Int) == 1)) h12 rfl fun a13 h13 => ?_; clear h12
 refine pk0 (v := .bool ((1 : Int) == 1)) h13 rfl fun a14 h14 => ?_; clear h13
 have hc15 : ((1 : Int) == 1) = true := by first | (simp; done) | (simp; omega) | exact beq_false_of_ne (by omega) | exact beq_iff_eq.2 (by omega)
 rw [hc15] at h14; clear hc15
 refine psk h14 rfl fun a16 h16 => ?_; clear h14
 refine psk h16 rfl fun a17 h17 => ?_; clear h16
 refine psk h17 rfl fun a18 h18 => ?_; clear h17
 refine psk h18 rfl fun a19 h19 => ?_; clear h18
 refine pk0 (v := .bool true) h19 rfl fun a20 h20 => ?_; clear h19
 refine pk0 (v := .bool true) h20 rfl fun a21 h21 => ?_; clear h20
 refine psk h21 rfl fun a22 h22 => ?_; clear h21
 refine psk h22 rfl fun a23 h23 => ?_; clear h22
 refine psk h23 rfl fun a24 h24 => ?_; clear h23
 refine psk h24 rfl fun a25 h25 => ?_; clear h24
 refine pk0 (v := .bool true) h25 rfl fun a26 h26 => ?_; clear h25
 refine pk0 (v := .bool true) h26 rfl fun a27 h27 => ?_; clear h26
 refine pl_nil ?_
 refine co_then ?_
 refine wp_ret ?_
 refine co_ret1 h27 rfl rfl ?_
 have hB28 := hb_new hB0 hg4
 exact ⟨rfl, hB28⟩
set_option maxRecDepth 100000 in
theorem jEqualN (v : Value) (l : List (ByteArray × ByteArray)) (w : World) (hs : SliceOf valE 2 w v l) (hl : l.length = 1) :
    Calls Try.prog 50 #[.slice none 0 0, v] w fun e w' => e = .returned (.bool false) ∧ Below w.heap.size w w' := by
 have hB0 := Below.refl w.heap.size w
 have hl_hs := sl_len hs
 refine co_enter (n := 26) Try.func50 rfl rfl rfl [(0, .slice none 0 0), (1, v)] rfl (fun a h0 => ?_)
 refine co_seq ?_
 refine co_reg ?_
 refine pk0 (v := .bool false) h0 rfl fun a1 h1 => ?_; clear h0
 refine pl_nil ?_
 refine co_then ?_
 refine co_seq ?_
 refine co_seq ?_
 refine co_reg ?_
 refine pk0 (v := .slice none 0 0) h1 rfl fun a2 h2 => ?_; clear h1
 refine pk0 (v := .int .i64 0) h2 rfl fun a3 h3 => ?_; clear h2
 refine pk0 (v := v) h3 rfl fun a4 h4 => ?_; clear h3
 refine pk (v := .int .i64 ((l.length : Nat) : Int)) h4 rfl (rn_len rfl rfl Try.underlying31 hs) fun a5 h5 => ?_; clear h4
 refine pk0 (v := .bool ((0 : Int) != ((l.length : Nat) : Int))) h5 rfl fun a6 h6 => ?_; clear h5
 refine pl_nil ?_
 refine co_then ?_
 have hc7 : ((0 : Int) != ((l.length : Nat) : Int)) = true := by first | (simp; done) | (simp; omega) | exact beq_false_of_ne (by omega) | exact beq_iff_eq.2 (by omega)
 rw [hc7] at h6; clear hc7
 refine co_true h6 rfl ?_
 refine co_seq ?_
 refine co_reg ?_
 refine pk0 (v := .bool false) h6 rfl fun a8 h8 => ?_; clear h6
 refine pl_nil ?_
 refine co_then ?_
 refine wp_ret ?_
 refine co_thenR ?_
 refine co_ret1 h8 rfl rfl ?_
 exact ⟨rfl, hB0⟩
set_option maxRecDepth 100000 in
set_option maxHeartbeats 1600000 in
theorem jWrong_a (v : Value) (l : List EntT) (na : Nat) (nb : Nat) (B : Nat) (w : World) (hs : SliceOf entE 4 w v l) (hok : ∀ z ∈ l, EntOk w z) (hl20 : ∀ z ∈ l, z.opl.length ≤ 100) (hl : l = awL na nb) (hB : Blk w B 22 #[v]) :
    Calls Try.prog 48 #[.agg #[.int .i64 0, .int .i64 0, .int .i64 1, .int .i64 0, .string (⟨#[97]⟩), .string (⟨#[]⟩), .int .u64 0, .int .i64 0, .slice none 0 0, .int .i64 0, .int .i64 1, .int .i64 0, .int .i64 0, .int .u64 7, .int .i64 0, .slice none 0 0], pt B 0] w fun e w' => e = .returned (.int .i64 18) ∧ Below w.heap.size w w' := by
 have hB0 := Below.refl w.heap.size w
 have hl_hs := sl_len hs
 have hl_hB := hB.lt
 refine co_enter (n := 28) Try.func48 rfl rfl rfl [(0, .agg #[.int .i64 0, .int .i64 0, .int .i64 1, .int .i64 0, .string (⟨#[97]⟩), .string (⟨#[]⟩), .int .u64 0, .int .i64 0, .slice none 0 0, .int .i64 0, .int .i64 1, .int .i64 0, .int .i64 0, .int .u64 7, .int .i64 0, .slice none 0 0]), (1, pt B 0)] rfl (fun a h0 => ?_)
 refine co_seq ?_
 refine co_reg ?_
 refine pw h0 rfl (op_new (v := fun N => pt N 0) (T := 72) (cs := #[.int .i64 0, .int .i64 0, .int .i64 1, .int .i64 0, .string (⟨#[97]⟩), .string (⟨#[]⟩), .int .u64 0, .int .i64 0, .slice none 0 0, .int .i64 0, .int .i64 1, .int .i64 0, .int .i64 0, .int .u64 7, .int .i64 0, .slice none 0 0]) (by kernel_rfl) (by kernel_rfl) (by kernel_rfl)) ?_; clear h0
 rintro _ w2 a1 ⟨N3, rfl, hN6, hz7, hk5, hg4⟩ h1
 have hz8 := hg4.size
 try dsimp only at h1
 refine pk0 (v := .int .i64 0) h1 rfl fun a9 h9 => ?_; clear h1
 refine pl_nil ?_
 refine co_then ?_
 refine co_seq ?_
 refine co_reg ?_
 refine pk0 (v := pt N3 11) h9 rfl fun a10 h10 => ?_; clear h9
 refine pk (v := .agg #[.int .i64 0, .int .i64 0, .int .u64 7, .int .i64 0, .slice none 0 0]) h10 rfl (rn_loadN rfl rfl Try.underlying70 rfl (by kernel_rfl) (blk_part hk5 11 (by rfl))) fun a11 h11 => ?_; clear h10
 refine pw h11 rfl (op_new (v := fun N => pt N 0) (T := 70) (cs := #[.int .i64 0, .int .i64 0, .int .u64 0, .int .i64 0, .slice none 0 0]) (by kernel_rfl) (by kernel_rfl) (by kernel_rfl)) ?_; clear h11
 rintro _ w13 a12 ⟨N14, rfl, hN17, hz18, hk16, hg15⟩ h12
 have hz19 := hg15.size
 try dsimp only at h12
 refine pwD h12 rfl (op_storeN rfl rfl rfl (all_cons rfl (all_cons rfl (all_cons rfl (all_cons rfl (all_cons rfl all_nil))))) (by kernel_rfl) hk16 rfl) ?_; clear h12
 rintro _ w21 a20 ⟨hk22, hz23, hg24⟩ h20
 have hk22' : Blk w21 N14 70 #[.int .i64 0, .int .i64 0, .int .u64 7, .int .i64 0, .slice none 0 0] := hk22; clear hk22
 have hz25 := hg24.size
 refine pl_nil ?_
 refine co_then ?_
 refine co_seq ?_
 refine co_seq ?_
 refine co_reg ?_
 refine pk0 (v := pt N14 1) h20 rfl fun a26 h26 => ?_; clear h20
 refine pk (v := .int .i64 0) h26 rfl (rn_load1 rfl rfl Try.isAgg44 (hk22'.cell rfl)) fun a27 h27 => ?_; clear h26
 refine pk0 (v := .bool ((0 : Int) != 0)) h27 rfl fun a28 h28 => ?_; clear h27
 refine pl_nil ?_
 refine co_then ?_
 have hc29 : ((0 : Int) != 0) = false := by first | (simp; done) | (simp; omega) | exact beq_false_of_ne (by omega) | exact beq_iff_eq.2 (by omega)
 rw [hc29] at h28; clear hc29
 refine co_false h28 rfl ?_
 refine wp_skip ?_
 refine co_then ?_
 refine co_seq ?_
 refine co_seq ?_
 refine dr_gen (fun x => Below w.heap.size w x ∧ Blk x B 22 #[v] ∧ Blk x N3 72 #[.int .i64 0, .int .i64 0, .int .i64 1, .int .i64 0, .string (⟨#[97]⟩), .string (⟨#[]⟩), .int .u64 0, .int .i64 0, .slice none 0 0, .int .i64 0, .int .i64 1, .int .i64 0, .int .i64 0, .int .u64 7, .int .i64 0, .slice none 0 0] ∧ Blk x N14 70 #[.int .i64 0, .int .i64 0, .int .u64 7, .int .i64 0, .slice none 0 0]) (by kernel_rfl) (fun w30 hg31 => ?_) (fun w30 hg31 => ?_)
 ·
  have hz32 := hg31.size
  have hB33 := hb_new hB0 hg4
  have hB34 := hb_new hB33 hg15
  have hB35 := hb_at hB34 hg24 (by omega)
  have hB36 := hb_new hB35 hg31
  have hk37 := hB.kept hg4 (by simp)
  have hk38 := hk37.kept hg15 (by simp)
  have hk39 := hk38.kept hg24 (by simp; omega)
  have hk40 := hk39.kept hg31 (by simp)
  have hk41 := hk5.kept hg15 (by simp)
  have hk42 := hk41.kept hg24 (by simp; omega)
  have hk43 := hk42.kept hg31 (by simp)
  have hk44 := hk22'.kept hg31 (by simp)
  exact ⟨hB36, hk40, hk43, hk44⟩
 have hz45 := hg31.size
 have hB46 := hb_new hB0 hg4
 have hB47 := hb_new hB46 hg15
 have hB48 := hb_at hB47 hg24 (by omega)
 have hB49 := hb_new hB48 hg31
 have hk50 := hB.kept hg4 (by simp)
 have hk51 := hk50.kept hg15 (by simp)
 have hk52 := hk51.kept hg24 (by simp; omega)
 have hk53 := hk52.kept hg31 (by simp)
 have hk54 := hk5.kept hg15 (by simp)
 have hk55 := hk54.kept hg24 (by simp; omega)
 have hk56 := hk55.kept hg31 (by simp)
 have hk57 := hk22'.kept hg31 (by simp)
 refine dk 0 (v := .agg #[.int .i64 0, .int .i64 0, .int .i64 1, .int .i64 0, .string (⟨#[97]⟩), .string (⟨#[]⟩), .int .u64 0, .int .i64 0, .slice none 0 0, .int .i64 0, .int .i64 1, .int .i64 0, .int .i64 0, .int .u64 7, .int .i64 0, .slice none 0 0]) h28 rfl rfl ⟨hB49, hk53, hk56, hk57⟩ (fun x hx => (rn_loadN rfl rfl Try.underlying72 rfl (by kernel_rfl) hx.2.2.1.all)) fun a58 h58 => ?_; clear h28
 refine d1 1 h58 rfl rfl (op_call (args := #[.agg #[.int .i64 0, .int .i64 0, .int .i64 1, .int .i64 0, .string (⟨#[97]⟩), .string (⟨#[]⟩), .int .u64 0, .int .i64 0, .slice none 0 0, .int .i64 0, .int .i64 1, .int .i64 0, .int .i64 0, .int .u64 7, .int .i64 0, .slice none 0 0]]) (R := fun res xw => res = .bool true ∧ Below w30.heap.size w30 xw) rfl rfl rfl (by kernel_rfl) (by kernel_rfl) (Try.call49 _ _) (jReads_a  w30 ) (by rintro e x ⟨rfl, hb61⟩; exact ⟨_, rfl, ⟨rfl, hb61⟩⟩)) ?_ ?_; clear h58
 ·
  rintro _ w60 ⟨rfl, hb61⟩
  have hz62 := hb61.size
  have hB63 := hb_call hB49 hb61
  have hk64 := hk53.below hb61
  have hk65 := hk56.below hb61
  have hk66 := hk57.below hb61
  exact ⟨hB63, hk64, hk65, hk66⟩
 rintro _ w60 a59 ⟨rfl, hb61⟩ h59
 have hz62 := hb61.size
 have hB63 := hb_call hB49 hb61
 have hk64 := hk53.below hb61
 have hk65 := hk56.below hb61
 have hk66 := hk57.below hb61
 refine dk0 2 (v := .bool true) h59 rfl rfl ⟨hB63, hk64, hk65, hk66⟩ fun a67 h67 => ?_; clear h59
 refine dk0 3 (v := pt N14 4) h67 rfl rfl ⟨hB63, hk64, hk65, hk66⟩ fun a68 h68 => ?_; clear h67
 refine dk 4 (v := .slice none 0 0) h68 rfl rfl ⟨hB63, hk64, hk65, hk66⟩ (fun x hx => (rn_load1 rfl rfl Try.isAgg31 (hx.2.2.2.cell rfl))) fun a69 h69 => ?_; clear h68
 refine dk 5 (v := v) h69 rfl rfl ⟨hB63, hk64, hk65, hk66⟩ (fun x hx => (rn_load1 rfl rfl Try.isAgg22 (hx.2.1.cell rfl))) fun a70 h70 => ?_; clear h69
 refine dk0 6 (v := pt N3 2) h70 rfl rfl ⟨hB63, hk64, hk65, hk66⟩ fun a71 h71 => ?_; clear h70
 refine dk 7 (v := .agg #[.int .i64 1, .int .i64 0, .string (⟨#[97]⟩), .string (⟨#[]⟩), .int .u64 0, .int .i64 0, .slice none 0 0]) h71 rfl rfl ⟨hB63, hk64, hk65, hk66⟩ (fun x hx => (rn_loadN rfl rfl Try.underlying35 rfl (by kernel_rfl) (blk_part hx.2.2.1 2 (by rfl)))) fun a72 h72 => ?_; clear h71
 refine dk0 8 (v := pt N14 2) h72 rfl rfl ⟨hB63, hk64, hk65, hk66⟩ fun a73 h73 => ?_; clear h72
 refine dk 9 (v := .int .u64 7) h73 rfl rfl ⟨hB63, hk64, hk65, hk66⟩ (fun x hx => (rn_load1 rfl rfl Try.isAgg23 (hx.2.2.2.cell rfl))) fun a74 h74 => ?_; clear h73
 refine d1 10 h74 rfl rfl (op_call (args := #[v, .agg #[.int .i64 1, .int .i64 0, .string (⟨#[97]⟩), .string (⟨#[]⟩), .int .u64 0, .int .i64 0, .slice none 0 0], .int .u64 7]) (R := fun res xw => ∃ ys : List ValT, ∃ u : Value, res = u ∧ xw.ownsRow w60.heap.size 38 2 u (fstK (⟨#[97]⟩) ys).length ((fstK (⟨#[97]⟩) ys).flatMap valE) ∧ SetG (fun y : ValT => y.1) (ovG [] (stOJ 7 l)) ys ∧ Below w60.heap.size w60 xw) rfl rfl rfl (by kernel_rfl) (by kernel_rfl) (Try.call11 _ _) (jRowsG v l 7 (⟨#[97]⟩) w60 (hs.below hB63) (fun z hz => (hok z hz).below hB63) hl20 (by omega) (by rw [hl]; exact awS_len _ _ _)) (by rintro e x ⟨ys, u, rfl, hq79, hq80, hb81⟩; exact ⟨_, rfl, ⟨ys, u, rfl, hq79, hq80, hb81⟩⟩)) ?_ ?_; clear h74
 ·
  rintro u78 w76 ⟨ys77, _, rfl, hq79, hq80, hb81⟩
  have hz82 := hb81.size
  have hl83 := sl_len (row_sl hq79 valE_len)
  have hf7 : (fstK ⟨#[97]⟩ ys77).length = 1 := fstK_a7 (by rw [← hl]; exact hq80)
  have hB84 := hb_call hB63 hb81
  have hk85 := hk64.below hb81
  have hk86 := hk65.below hb81
  have hk87 := hk66.below hb81
  exact ⟨hB84, hk85, hk86, hk87⟩
 rintro u78 w76 a75 ⟨ys77, _, rfl, hq79, hq80, hb81⟩ h75
 have hz82 := hb81.size
 have hl83 := sl_len (row_sl hq79 valE_len)
 have hf7 : (fstK ⟨#[97]⟩ ys77).length = 1 := fstK_a7 (by rw [← hl]; exact hq80)
 have hB84 := hb_call hB63 hb81
 have hk85 := hk64.below hb81
 have hk86 := hk65.below hb81
 have hk87 := hk66.below hb81
 refine d1 11 h75 rfl rfl (op_call (args := #[.slice none 0 0, u78]) (R := fun res xw => res = .bool false ∧ Below w76.heap.size w76 xw) rfl rfl rfl (by kernel_rfl) (by kernel_rfl) (Try.call50 _ _) (jEqualN u78 (fstK (⟨#[97]⟩) ys77) w76 (row_sl hq79 valE_len) hf7) (by rintro e x ⟨rfl, hb90⟩; exact ⟨_, rfl, ⟨rfl, hb90⟩⟩)) ?_ ?_; clear h75
 ·
  rintro _ w89 ⟨rfl, hb90⟩
  have hz91 := hb90.size
  have hB92 := hb_call hB84 hb90
  have hk93 := hk85.below hb90
  have hk94 := hk86.below hb90
  have hk95 := hk87.below hb90
  exact ⟨hB92, hk93, hk94, hk95⟩
 rintro _ w89 a88 ⟨rfl, hb90⟩ h88
 have hz91 := hb90.size
 have hB92 := hb_call hB84 hb90
 have hk93 := hk85.below hb90
 have hk94 := hk86.below hb90
 have hk95 := hk87.below hb90
 refine dk0 12 (v := .bool true) h88 rfl rfl ⟨hB92, hk93, hk94, hk95⟩ fun a96 h96 => ?_; clear h88
 refine dk0 13 (v := .bool true) h96 rfl rfl ⟨hB92, hk93, hk94, hk95⟩ fun a97 h97 => ?_; clear h96
 refine dr_done (by kernel_rfl) ?_
 refine co_then ?_
 refine co_true h97 rfl ?_
 refine co_seq ?_
 refine co_reg ?_
 refine pk0 (v := .int .i64 18) h97 rfl fun a98 h98 => ?_; clear h97
 refine pl_nil ?_
 refine co_then ?_
 refine wp_ret ?_
 refine co_thenR ?_
 refine co_ret1 h98 rfl rfl ?_
 exact ⟨rfl, hB92⟩
set_option maxRecDepth 100000 in
set_option maxHeartbeats 1600000 in
theorem jFirst_a (v : Value) (l : List EntT) (na : Nat) (nb : Nat) (B : Nat) (N : Nat) (w : World) (hs : SliceOf entE 4 w v l) (hok : ∀ z ∈ l, EntOk w z) (hl20 : ∀ z ∈ l, z.opl.length ≤ 100) (hl : l = awL na nb) (hB : Blk w B 22 #[v]) (hN : Blk w N 72 #[.int .i64 0, .int .i64 0, .int .i64 1, .int .i64 0, .string (⟨#[97]⟩), .string (⟨#[]⟩), .int .u64 0, .int .i64 0, .slice none 0 0, .int .i64 0, .int .i64 1, .int .i64 0, .int .i64 0, .int .u64 7, .int .i64 0, .slice none 0 0]) :
    Calls Try.prog 47 #[.slice (some ⟨N, 0, none⟩) 1 1, .func (.func 48) #[] #[pt B 0]] w fun e w' => e = .returned (.tuple #[.int .i64 0, .int .i64 18]) ∧ Below w.heap.size w w' := by
 have hB0 := Below.refl w.heap.size w
 have hl_hs := sl_len hs
 have hl_hB := hB.lt
 have hl_hN := hN.lt
 refine co_enter (n := 29) Try.func47 rfl rfl rfl [(0, .slice (some ⟨N, 0, none⟩) 1 1), (1, .func (.func 48) #[] #[pt B 0])] rfl (fun a h0 => ?_)
 refine co_seq ?_
 refine co_reg ?_
 refine pk0 (v := .int .i64 0) h0 rfl fun a1 h1 => ?_; clear h0
 refine pk0 (v := .int .i64 0) h1 rfl fun a2 h2 => ?_; clear h1
 refine pl_nil ?_
 refine co_then ?_
 refine wp_scope_straight ?_
 refine co_seq ?_
 refine co_reg ?_
 refine pk0 (v := .int .i64 (-1)) h2 rfl fun a3 h3 => ?_; clear h2
 refine pk0 (v := .int .i64 0) h3 rfl fun a4 h4 => ?_; clear h3
 refine pl_nil ?_
 refine co_then ?_
 refine co_seq ?_
 refine wp_label ?_
 refine co_then ?_
 refine co_seq ?_
 refine co_seq ?_
 refine co_reg ?_
 refine pk0 (v := .slice (some ⟨N, 0, none⟩) 1 1) h4 rfl fun a5 h5 => ?_; clear h4
 refine pk0 (v := .int .i64 1) h5 rfl fun a6 h6 => ?_; clear h5
 refine pk0 (v := .int .i64 0) h6 rfl fun a7 h7 => ?_; clear h6
 refine pl_nil ?_
 refine co_then ?_
 refine wp_block ?_
 refine wp_loop_rounds 2 ?_
 refine co_unroll (n := 1) ?_
 refine co_seq ?_
 refine co_reg ?_
 refine pk0 (v := .bool (decide (0 < 1))) h7 rfl fun a8 h8 => ?_; clear h7
 refine pl_nil ?_
 refine co_then ?_
 refine co_seq ?_
 have hc9 : (decide (0 < 1)) = true := decide_eq_true (by omega)
 rw [hc9] at h8; clear hc9
 refine co_true h8 rfl ?_
 refine wp_skip ?_
 refine co_then ?_
 refine co_seq ?_
 refine wp_block ?_
 refine co_seq ?_
 refine co_reg ?_
 refine pk0 (v := .int .i64 0) h8 rfl fun a10 h10 => ?_; clear h8
 refine pk0 (v := pt N 0) h10 rfl fun a11 h11 => ?_; clear h10
 refine pk (v := .agg #[.int .i64 0, .int .i64 0, .int .i64 1, .int .i64 0, .string (⟨#[97]⟩), .string (⟨#[]⟩), .int .u64 0, .int .i64 0, .slice none 0 0, .int .i64 0, .int .i64 1, .int .i64 0, .int .i64 0, .int .u64 7, .int .i64 0, .slice none 0 0]) h11 rfl (rn_loadN rfl rfl Try.underlying72 rfl (by kernel_rfl) hN.all) fun a12 h12 => ?_; clear h11
 refine pw h12 rfl (op_new (v := fun N => pt N 0) (T := 72) (cs := #[.int .i64 0, .int .i64 0, .int .i64 0, .int .i64 0, .string (⟨#[]⟩), .string (⟨#[]⟩), .int .u64 0, .int .i64 0, .slice none 0 0, .int .i64 0, .int .i64 0, .int .i64 0, .int .i64 0, .int .u64 0, .int .i64 0, .slice none 0 0]) (by kernel_rfl) (by kernel_rfl) (by kernel_rfl)) ?_; clear h12
 rintro _ w14 a13 ⟨N15, rfl, hN18, hz19, hk17, hg16⟩ h13
 have hz20 := hg16.size
 try dsimp only at h13
 refine pk0 (v := .int .i64 0) h13 rfl fun a21 h21 => ?_; clear h13
 refine pwD h21 rfl (op_storeN rfl rfl rfl (all_cons rfl (all_cons rfl (all_cons rfl (all_cons rfl (all_cons rfl (all_cons rfl (all_cons rfl (all_cons rfl (all_cons rfl (all_cons rfl (all_cons rfl (all_cons rfl (all_cons rfl (all_cons rfl (all_cons rfl (all_cons rfl all_nil)))))))))))))))) (by kernel_rfl) hk17 rfl) ?_; clear h21
 rintro _ w23 a22 ⟨hk24, hz25, hg26⟩ h22
 have hk24' : Blk w23 N15 72 #[.int .i64 0, .int .i64 0, .int .i64 1, .int .i64 0, .string (⟨#[97]⟩), .string (⟨#[]⟩), .int .u64 0, .int .i64 0, .slice none 0 0, .int .i64 0, .int .i64 1, .int .i64 0, .int .i64 0, .int .u64 7, .int .i64 0, .slice none 0 0] := hk24; clear hk24
 have hz27 := hg26.size
 refine pl_nil ?_
 refine co_then ?_
 refine co_seq ?_
 refine co_seq ?_
 refine co_reg ?_
 refine pk0 (v := pt N15 10) h22 rfl fun a28 h28 => ?_; clear h22
 refine pk (v := .int .i64 1) h28 rfl (rn_load1 rfl rfl Try.isAgg3 (hk24'.cell rfl)) fun a29 h29 => ?_; clear h28
 refine pk0 (v := .bool (decide (1 ≤ 0))) h29 rfl fun a30 h30 => ?_; clear h29
 refine pl_nil ?_
 refine co_then ?_
 have hc31 : (decide (1 ≤ 0)) = false := decide_eq_false (by omega)
 rw [hc31] at h30; clear hc31
 refine co_false h30 rfl ?_
 refine wp_skip ?_
 refine co_then ?_
 refine co_seq ?_
 refine co_reg ?_
 refine pk0 (v := .func (.func 48) #[] #[pt B 0]) h30 rfl fun a32 h32 => ?_; clear h30
 refine pk (v := .agg #[.int .i64 0, .int .i64 0, .int .i64 1, .int .i64 0, .string (⟨#[97]⟩), .string (⟨#[]⟩), .int .u64 0, .int .i64 0, .slice none 0 0, .int .i64 0, .int .i64 1, .int .i64 0, .int .i64 0, .int .u64 7, .int .i64 0, .slice none 0 0]) h32 rfl (rn_loadN rfl rfl Try.underlying72 rfl (by kernel_rfl) hk24'.all) fun a33 h33 => ?_; clear h32
 have hB36 := hb_new hB0 hg16
 have hB37 := hb_at hB36 hg26 (by omega)
 have hk38 := hB.kept hg16 (by simp)
 have hk39 := hk38.kept hg26 (by simp; omega)
 refine pw h33 rfl (op_callV (args := #[.agg #[.int .i64 0, .int .i64 0, .int .i64 1, .int .i64 0, .string (⟨#[97]⟩), .string (⟨#[]⟩), .int .u64 0, .int .i64 0, .slice none 0 0, .int .i64 0, .int .i64 1, .int .i64 0, .int .i64 0, .int .u64 7, .int .i64 0, .slice none 0 0], pt B 0]) (R := fun res xw => res = .int .i64 18 ∧ Below w23.heap.size w23 xw) rfl rfl rfl (by kernel_rfl) (by kernel_rfl) (Try.call48 _ _) (jWrong_a v l na nb B w23 (hs.below hB37) (fun z hz => (hok z hz).below hB37) hl20 hl hk39) (by rintro e x ⟨rfl, hb40⟩; exact ⟨_, rfl, ⟨rfl, hb40⟩⟩)) ?_; clear h33
 rintro _ w35 a34 ⟨rfl, hb40⟩ h34
 have hz41 := hb40.size
 refine pk0 (v := .int .i64 18) h34 rfl fun a42 h42 => ?_; clear h34
 refine pl_nil ?_
 refine co_then ?_
 refine co_seq ?_
 refine co_reg ?_
 refine pk0 (v := .int .i64 18) h42 rfl fun a43 h43 => ?_; clear h42
 refine pk0 (v := .bool ((18 : Int) != 0)) h43 rfl fun a44 h44 => ?_; clear h43
 refine pl_nil ?_
 refine co_then ?_
 have hc45 : ((18 : Int) != 0) = true := by first | (simp; done) | (simp; omega) | exact beq_false_of_ne (by omega) | exact beq_iff_eq.2 (by omega)
 rw [hc45] at h44; clear hc45
 refine co_true h44 rfl ?_
 refine co_seq ?_
 refine co_reg ?_
 refine pk0 (v := .int .i64 0) h44 rfl fun a46 h46 => ?_; clear h44
 refine pk0 (v := .int .i64 0) h46 rfl fun a47 h47 => ?_; clear h46
 refine pl_nil ?_
 refine co_then ?_
 refine wp_exit ?_
 refine co_blockY (by decide) ?_
 refine co_thenX ?_
 refine co_thenX ?_
 refine co_blockX ?_
 refine co_then ?_
 refine co_seq ?_
 refine co_reg ?_
 refine pk0 (v := .int .i64 0) h47 rfl fun a48 h48 => ?_; clear h47
 refine pk0 (v := .int .i64 18) h48 rfl fun a49 h49 => ?_; clear h48
 refine pk0 (v := .int .i64 0) h49 rfl fun a50 h50 => ?_; clear h49
 refine pk0 (v := .int .i64 18) h50 rfl fun a51 h51 => ?_; clear h50
 refine pl_nil ?_
 refine co_then ?_
 refine wp_ret ?_
 refine co_scopeR ?_
 refine co_ret2 h51 rfl rfl rfl ?_
 have hB52 := hb_call hB37 hb40
 exact ⟨rfl, hB52⟩
set_option maxRecDepth 100000 in
set_option maxHeartbeats 1600000 in
theorem jReads_any (v : Value) (l : List EntT) (na : Nat) (nb : Nat) (N : Nat) (w : World) (hs : SliceOf entE 4 w v l) (hok : ∀ z ∈ l, EntOk w z) (hl20 : ∀ z ∈ l, z.opl.length ≤ 100) (hl : l = awL na nb) (hN : Blk w N 72 #[.int .i64 0, .int .i64 0, .int .i64 1, .int .i64 0, .string (⟨#[97]⟩), .string (⟨#[]⟩), .int .u64 0, .int .i64 0, .slice none 0 0, .int .i64 0, .int .i64 1, .int .i64 0, .int .i64 0, .int .u64 7, .int .i64 0, .slice none 0 0]) :
    Calls Try.prog 25 #[v, .slice (some ⟨N, 0, none⟩) 1 1] w fun e w' => e = .returned (.tuple #[.int .i64 0, .int .i64 18]) ∧ Below w.heap.size w w' := by
 have hB0 := Below.refl w.heap.size w
 have hl_hs := sl_len hs
 have hl_hN := hN.lt
 refine co_enter (n := 11) Try.func25 rfl rfl rfl [(0, v), (1, .slice (some ⟨N, 0, none⟩) 1 1)] rfl (fun a h0 => ?_)
 refine co_seq ?_
 refine co_reg ?_
 refine pw h0 rfl (op_new (v := fun N => pt N 0) (T := 22) (cs := #[v]) (by kernel_rfl) (by kernel_rfl) (box_run rfl rfl (sl_one hs))) ?_; clear h0
 rintro _ w2 a1 ⟨N3, rfl, hN6, hz7, hk5, hg4⟩ h1
 have hz8 := hg4.size
 try dsimp only at h1
 refine pk0 (v := .int .i64 0) h1 rfl fun a9 h9 => ?_; clear h1
 refine pk0 (v := .int .i64 0) h9 rfl fun a10 h10 => ?_; clear h9
 refine pl_nil ?_
 refine co_then ?_
 refine co_seq ?_
 refine co_reg ?_
 refine pk0 (v := .slice (some ⟨N, 0, none⟩) 1 1) h10 rfl fun a11 h11 => ?_; clear h10
 refine pk0 (v := .func (.func 48) #[] #[pt N3 0]) h11 rfl fun a12 h12 => ?_; clear h11
 have hB15 := hb_new hB0 hg4
 have hk16 := hN.kept hg4 (by simp)
 refine pw h12 rfl (op_call (args := #[.slice (some ⟨N, 0, none⟩) 1 1, .func (.func 48) #[] #[pt N3 0]]) (R := fun res xw => res = .tuple #[.int .i64 0, .int .i64 18] ∧ Below w2.heap.size w2 xw) rfl rfl rfl (by kernel_rfl) (by kernel_rfl) (Try.call47 _ _) (jFirst_a v l na nb N3 N w2 (hs.below hB15) (fun z hz => (hok z hz).below hB15) hl20 hl hk5 hk16) (by rintro e x ⟨rfl, hb17⟩; exact ⟨_, rfl, ⟨rfl, hb17⟩⟩)) ?_; clear h12
 rintro _ w14 a13 ⟨rfl, hb17⟩ h13
 have hz18 := hb17.size
 refine pk0 (v := .int .i64 0) h13 rfl fun a19 h19 => ?_; clear h13
 refine pk0 (v := .int .i64 18) h19 rfl fun a20 h20 => ?_; clear h19
 refine pk0 (v := .int .i64 0) h20 rfl fun a21 h21 => ?_; clear h20
 refine pk0 (v := .int .i64 18) h21 rfl fun a22 h22 => ?_; clear h21
 refine pl_nil ?_
 refine co_then ?_
 refine wp_ret ?_
 refine co_ret2 h22 rfl rfl rfl ?_
 have hB23 := hb_call hB15 hb17
 exact ⟨rfl, hB23⟩
set_option maxRecDepth 100000 in
set_option maxHeartbeats 1600000 in
theorem awake38  (w : World)  :
    Calls Try.prog 9 #[] w fun e w' => e = .returned (.bool true) ∧ Below w.heap.size w w' := by
 have hB0 := Below.refl w.heap.size w
 refine co_enter (n := 39) Try.func9 rfl rfl rfl [] rfl (fun a h0 => ?_)
 refine co_seq ?_
 refine co_reg ?_
 refine pk0 (v := .bool false) h0 rfl fun a1 h1 => ?_; clear h0
 refine pl_nil ?_
 refine co_then ?_
 refine co_seq ?_
 refine co_reg ?_
 refine pk0 (v := .agg #[.string (⟨#[97]⟩), .string (⟨#[49]⟩), .bool false]) h1 rfl fun a2 h2 => ?_; clear h1
 refine pw h2 rfl (op_new (v := fun N => .slice (some ⟨N, 0, none⟩) 1 1) (T := 66) (cs := #[.string (⟨#[97]⟩), .string (⟨#[49]⟩), .bool false]) (by kernel_rfl) (by kernel_rfl) (by kernel_rfl)) ?_; clear h2
 rintro _ w4 a3 ⟨N5, rfl, hN8, hz9, hk7, hg6⟩ h3
 have hz10 := hg6.size
 try dsimp only at h3
 refine pk0 (v := .agg #[.int .i64 0, .int .i64 1, .slice (some ⟨N5, 0, none⟩) 1 1]) h3 rfl fun a11 h11 => ?_; clear h3
 refine pk0 (v := .agg #[.int .i64 0, .int .i64 1, .slice (some ⟨N5, 0, none⟩) 1 1, .int .u64 3]) h11 rfl fun a12 h12 => ?_; clear h11
 refine pk0 (v := .agg #[.string (⟨#[97]⟩), .string (⟨#[50]⟩), .bool false]) h12 rfl fun a13 h13 => ?_; clear h12
 refine pw h13 rfl (op_new (v := fun N => .slice (some ⟨N, 0, none⟩) 1 1) (T := 66) (cs := #[.string (⟨#[97]⟩), .string (⟨#[50]⟩), .bool false]) (by kernel_rfl) (by kernel_rfl) (by kernel_rfl)) ?_; clear h13
 rintro _ w15 a14 ⟨N16, rfl, hN19, hz20, hk18, hg17⟩ h14
 have hz21 := hg17.size
 try dsimp only at h14
 refine pk0 (v := .agg #[.int .i64 0, .int .i64 2, .slice (some ⟨N16, 0, none⟩) 1 1]) h14 rfl fun a22 h22 => ?_; clear h14
 refine pk0 (v := .agg #[.int .i64 0, .int .i64 2, .slice (some ⟨N16, 0, none⟩) 1 1, .int .u64 7]) h22 rfl fun a23 h23 => ?_; clear h22
 refine pw h23 rfl (op_new (v := fun N => .slice (some ⟨N, 0, none⟩) 2 2) (T := 28) (cs := #[.int .i64 0, .int .i64 1, .slice (some ⟨N5, 0, none⟩) 1 1, .int .u64 3, .int .i64 0, .int .i64 2, .slice (some ⟨N16, 0, none⟩) 1 1, .int .u64 7]) (by kernel_rfl) (by kernel_rfl) (by kernel_rfl)) ?_; clear h23
 rintro _ w25 a24 ⟨N26, rfl, hN29, hz30, hk28, hg27⟩ h24
 have hz31 := hg27.size
 try dsimp only at h24
 refine pk0 (v := .slice (some ⟨N26, 0, none⟩) 2 2) h24 rfl fun a32 h32 => ?_; clear h24
 refine pl_nil ?_
 refine co_then ?_
 refine co_seq ?_
 refine co_reg ?_
 refine pk0 (v := .slice (some ⟨N26, 0, none⟩) 2 2) h32 rfl fun a33 h33 => ?_; clear h32
 have hB36 := hb_new hB0 hg6
 have hB37 := hb_new hB36 hg17
 have hB38 := hb_new hB37 hg27
 have hk39 := hk7.kept hg17 (by simp)
 have hk40 := hk39.kept hg27 (by simp)
 obtain ⟨A2, hA2⟩ : ∃ L : List EntT, L = awL N5 N16 := ⟨_, rfl⟩
 have hr41 : w25.ownsRow N26 28 4 (.slice (some ⟨N26, 0, none⟩) 2 2) A2.length (A2.flatMap entE) := by rw [hA2]; exact row_of_cells (enc := entE) (sz := 4) (awL N5 N16) hk28 (Nat.le_refl _) rfl rfl (by unfold maxLen; simp [awL])
 have hk45 := hk18.kept hg27 (by simp)
 refine pw h33 rfl (op_call (args := #[.slice (some ⟨N26, 0, none⟩) 2 2, .int .u64 5]) (R := fun res xw => ∃ u : Value, res = u ∧ xw.ownsRow w25.heap.size 38 2 u ([(⟨#[97]⟩, ⟨#[49]⟩)] : List ValT).length (([(⟨#[97]⟩, ⟨#[49]⟩)] : List ValT).flatMap valE) ∧ Below w25.heap.size w25 xw) rfl rfl rfl (by kernel_rfl) (by kernel_rfl) (Try.call10 _ _) (awState_any (.slice (some ⟨N26, 0, none⟩) 2 2) A2 hA2 w25 (row_sl hr41 entE_len) (by rw [hA2]; exact awOk hk40 hk45)) (by rintro e x ⟨u, h0, h⟩; exact ⟨_, h0, u, rfl, h⟩)) ?_; clear h33
 rintro u42 w35 a34 ⟨_, rfl, hr43, hb44⟩ h34
 have hz46 := hb44.size
 refine pk0 (v := u42) h34 rfl fun a47 h47 => ?_; clear h34
 refine pl_nil ?_
 refine co_then ?_
 refine co_seq ?_
 refine co_reg ?_
 refine pk0 (v := .slice (some ⟨N26, 0, none⟩) 2 2) h47 rfl fun a48 h48 => ?_; clear h47
 refine pk0 (v := .agg #[.int .i64 1, .int .i64 0, .string (⟨#[97]⟩), .string (⟨#[]⟩), .int .u64 0, .int .i64 0, .slice none 0 0]) h48 rfl fun a49 h49 => ?_; clear h48
 refine pk0 (v := .agg #[.int .i64 0, .int .i64 0, .int .u64 7, .int .i64 0, .slice none 0 0]) h49 rfl fun a50 h50 => ?_; clear h49
 refine pk0 (v := .agg #[.int .i64 0, .int .i64 0, .int .i64 1, .int .i64 0, .string (⟨#[97]⟩), .string (⟨#[]⟩), .int .u64 0, .int .i64 0, .slice none 0 0, .int .i64 0, .int .i64 1, .int .i64 0, .int .i64 0, .int .u64 7, .int .i64 0, .slice none 0 0]) h50 rfl fun a51 h51 => ?_; clear h50
 refine pw h51 rfl (op_new (v := fun N => .slice (some ⟨N, 0, none⟩) 1 1) (T := 72) (cs := #[.int .i64 0, .int .i64 0, .int .i64 1, .int .i64 0, .string (⟨#[97]⟩), .string (⟨#[]⟩), .int .u64 0, .int .i64 0, .slice none 0 0, .int .i64 0, .int .i64 1, .int .i64 0, .int .i64 0, .int .u64 7, .int .i64 0, .slice none 0 0]) (by kernel_rfl) (by kernel_rfl) (by kernel_rfl)) ?_; clear h51
 rintro _ w53 a52 ⟨N54, rfl, hN57, hz58, hk56, hg55⟩ h52
 have hr60 := row_kept_new hr41 (below_grown hb44)
 have ha59 := row_fresh hr60 hN57
 have ha61 := row_fresh hr43 hN57
 have hz62 := hg55.size
 try dsimp only at h52
 have hB65 := hb_call hB38 hb44
 have hB66 := hb_new hB65 hg55
 have hk67 := hk40.below hb44
 have hk68 := hk67.kept hg55 (by simp)
 have hk69 := hk45.below hb44
 have hk70 := hk69.kept hg55 (by simp)
 have hr71 := row_kept_new hr60 hg55
 refine pw h52 rfl (op_call (args := #[.slice (some ⟨N26, 0, none⟩) 2 2, .slice (some ⟨N54, 0, none⟩) 1 1]) (R := fun res xw => res = .tuple #[.int .i64 0, .int .i64 18] ∧ Below w53.heap.size w53 xw) rfl rfl rfl (by kernel_rfl) (by kernel_rfl) (Try.call25 _ _) (jReads_any (.slice (some ⟨N26, 0, none⟩) 2 2) A2 N5 N16 N54 w53 (row_sl hr71 entE_len) (by rw [hA2]; exact awOk hk68 hk70) (by rw [hA2]; exact awL20 _ _) hA2 hk56) (by rintro e x ⟨rfl, h⟩; exact ⟨_, rfl, rfl, h⟩)) ?_; clear h52
 rintro _ w64 a63 ⟨rfl, hb72⟩ h63
 have hz73 := hb72.size
 refine pk0 (v := .tuple #[.int .i64 0, .int .i64 18]) h63 rfl fun a74 h74 => ?_; clear h63
 refine pk0 (v := .int .i64 0) h74 rfl fun a75 h75 => ?_; clear h74
 refine pk0 (v := .int .i64 18) h75 rfl fun a76 h76 => ?_; clear h75
 refine pk0 (v := .int .i64 0) h76 rfl fun a77 h77 => ?_; clear h76
 refine pk0 (v := .int .i64 18) h77 rfl fun a78 h78 => ?_; clear h77
 refine pl_nil ?_
 refine co_then ?_
 refine co_seq ?_
 refine co_reg ?_
 refine pk0 (v := u42) h78 rfl fun a79 h79 => ?_; clear h78
 have hr80 := row_kept_new hr43 hg55
 have hr81 := row_kept_new hr80 (below_grown hb72)
 refine pk (v := .int .i64 ((([(⟨#[97]⟩, ⟨#[49]⟩)] : List ValT).length : Nat) : Int)) h79 rfl (rn_lenOwn rfl rfl Try.underlying31 hr81) fun a82 h82 => ?_; clear h79
 refine pk0 (v := .bool (((([(⟨#[97]⟩, ⟨#[49]⟩)] : List ValT).length : Nat) : Int) == 1)) h82 rfl fun a83 h83 => ?_; clear h82
 refine pk0 (v := .bool (((([(⟨#[97]⟩, ⟨#[49]⟩)] : List ValT).length : Nat) : Int) == 1)) h83 rfl fun a84 h84 => ?_; clear h83
 have hc85 : (((([(⟨#[97]⟩, ⟨#[49]⟩)] : List ValT).length : Nat) : Int) == 1) = true := by rfl
 rw [hc85] at h84; clear hc85
 refine pk0 (v := u42) h84 rfl fun a86 h86 => ?_; clear h84
 obtain ⟨y87, hy87⟩ : ∃ z, ([(⟨#[97]⟩, ⟨#[49]⟩)] : List ValT)[0]? = some z := ⟨_, List.getElem?_eq_getElem (by first | omega | (simp; done) | (simp; omega))⟩
 refine pk (v := pt (blkOf u42) (offOf u42 + 0 * 2)) h86 rfl (rn_index rfl rfl rfl Try.underlying31 Try.sizeOf38 (row_sl hr81 valE_len) (by omega) (by first | omega | (simp; done) | (simp; omega))) fun a88 h88 => ?_; clear h86
 refine pk0 (v := pt (blkOf u42) (offOf u42 + 0 * 2 + 1)) h88 rfl fun a89 h89 => ?_; clear h88
 refine pk (v := .string y87.2) h89 rfl (rn_load1 rfl rfl Try.isAgg9 ((sl_at (row_sl hr81 valE_len) hy87) 1 _ rfl)) fun a90 h90 => ?_; clear h89
 refine pk0 (v := .bool (y87.2.toList == (⟨#[49]⟩ : ByteArray).toList)) h90 rfl fun a91 h91 => ?_; clear h90
 refine pk0 (v := .bool (y87.2.toList == (⟨#[49]⟩ : ByteArray).toList)) h91 rfl fun a92 h92 => ?_; clear h91
 refine pk0 (v := .bool (y87.2.toList == (⟨#[49]⟩ : ByteArray).toList)) h92 rfl fun a93 h93 => ?_; clear h92
 have hc94 : (y87.2.toList == (⟨#[49]⟩ : ByteArray).toList) = true := by rw [aw_one hy87]; simp
 rw [hc94] at h93; clear hc94
 refine pk0 (v := .int .i64 18) h93 rfl fun a95 h95 => ?_; clear h93
 refine pk0 (v := .bool ((18 : Int) == 18)) h95 rfl fun a96 h96 => ?_; clear h95
 refine pk0 (v := .bool ((18 : Int) == 18)) h96 rfl fun a97 h97 => ?_; clear h96
 refine pk0 (v := .bool ((18 : Int) == 18)) h97 rfl fun a98 h98 => ?_; clear h97
 refine pl_nil ?_
 refine co_then ?_
 refine wp_ret ?_
 refine co_ret1 h98 rfl rfl ?_
 have hB99 := hb_call hB66 hb72
 exact ⟨rfl, hB99⟩
end Go.Proofs.Ytdgboikkgeioeaa

/- catenalaw38: JudgeState. Conditions: none. -/
namespace Go.Proofs.Ytdgboikkgeioeaa
open Go.RowKit Go.PlainAid
set_option linter.unusedVariables false
set_option linter.unusedSimpArgs false

theorem eq_prJ (a b d e : ByteArray) (w : World) : (binOp .eql 38 (.agg #[.string a, .string b]) (.agg #[.string d, .string e])).run Try.prog w = .ok (.bool (a.toList == d.toList && b.toList == e.toList)) w := by
  have u := Try.underlying9
  have hS : Try.prog.underlying 38 = some (.struct (Try.prog.fieldsOf 38)) := by kernel_rfl
  have hp : Try.prog.stoodInHeld 38 = false := by kernel_rfl
  have hf : (Try.prog.fieldsOf 38).toList.map (fun f => (f.offset, f.type)) = [(0, 9), (1, 9)] := by kernel_rfl
  rw [run_eql_struct, show (10000 : Nat) = 9999 + 1 from rfl, run_equalIn_agg w 9999 38 _ _ hS hp]
  simp only [Program.fieldsOf, Try.underlying38]
  go_simp
  by_cases h1 : a.toList = d.toList <;> by_cases h2 : b.toList = e.toList <;> simp [h1, h2]

theorem one_at {y z : ValT} {Z : List ValT} {j : Nat} (e : Z = [y]) (h : Z[j]? = some z) : z = y := by
  subst e
  cases j with
  | zero => simpa using h.symm
  | succ j => simp at h
theorem entE_oneJ {w : World} {y : EntT} (h : EntOk w y) : ∀ u ∈ entE y, u.oneCell' = true := by
  obtain ⟨ao, cap, e, _⟩ := h.ops
  intro u hu
  simp only [entE, List.mem_cons, List.not_mem_nil, or_false] at hu
  rcases hu with rfl | rfl | rfl | rfl
  · rfl
  · rfl
  · rw [e]; rfl
  · rfl
theorem ops20J {w : World} {l : List EntT} {m : EntT} (h : ¬ muchN l > 100) (hm : m.opl.length ≤ 20) : ∀ z ∈ l ++ [m], z.opl.length ≤ 100 := fun z hz => by
  rcases List.mem_append.1 hz with hz | hz
  · exact much_opsJ h z hz
  · simp at hz; subst hz; omega

set_option maxRecDepth 100000 in
theorem jSame_any (v : Value) (l : List ValT) (v2 : Value) (w : World) (hs : SliceOf valE 2 w v l) (hs2 : SliceOf valE 2 w v2 l) :
    Calls Try.prog 12 #[v, v2] w fun e w' => e = .returned (.bool true) ∧ Below w.heap.size w w' := by
 have hB0 := Below.refl w.heap.size w
 have hl_hs := sl_len hs
 have hl_hs2 := sl_len hs2
 refine co_enter (n := 32) Try.func12 rfl rfl rfl [(0, v), (1, v2)] rfl (fun a h0 => ?_)
 refine co_seq ?_
 refine co_reg ?_
 refine pk0 (v := .bool false) h0 rfl fun a1 h1 => ?_; clear h0
 refine pl_nil ?_
 refine co_then ?_
 refine co_seq ?_
 refine co_seq ?_
 refine co_reg ?_
 refine pk0 (v := v) h1 rfl fun a2 h2 => ?_; clear h1
 refine pk (v := .int .i64 ((l.length : Nat) : Int)) h2 rfl (rn_len rfl rfl Try.underlying31 hs) fun a3 h3 => ?_; clear h2
 refine pk0 (v := v2) h3 rfl fun a4 h4 => ?_; clear h3
 refine pk (v := .int .i64 ((l.length : Nat) : Int)) h4 rfl (rn_len rfl rfl Try.underlying31 hs2) fun a5 h5 => ?_; clear h4
 refine pk0 (v := .bool (((l.length : Nat) : Int) != ((l.length : Nat) : Int))) h5 rfl fun a6 h6 => ?_; clear h5
 refine pl_nil ?_
 refine co_then ?_
 have hc7 : (((l.length : Nat) : Int) != ((l.length : Nat) : Int)) = false := by first | (simp; done) | (simp; omega) | exact beq_false_of_ne (by omega) | exact beq_iff_eq.2 (by omega)
 rw [hc7] at h6; clear hc7
 refine co_false h6 rfl ?_
 refine wp_skip ?_
 refine co_then ?_
 refine co_seq ?_
 refine co_seq ?_
 refine co_reg ?_
 refine pk0 (v := .int .i64 0) h6 rfl fun a8 h8 => ?_; clear h6
 refine pl_nil ?_
 refine co_then ?_
 refine wp_block ?_
 have h9 : Slots 32 [(0, v), (1, v2), (5, .int .i64 0)] _ := h8.sub ⟨rfl, rfl, rfl, trivial⟩; clear h8
 refine co_loop (fun mm a x => ∃ (i : Nat), Slots 32 [(0, v), (1, v2), (5, .int .i64 ((i : Nat) : Int))] a ∧ mm = l.length - i ∧ (i ≤ l.length) ∧ Below w.heap.size w x) (l.length - 0) ?_ ?_
 · exact ⟨0, h9.sub ⟨rfl, rfl, (slot_eq rfl (congrArg (Value.int .i64) (by first | rfl | omega))), trivial⟩, rfl, by omega, hB0⟩
 · rintro k10 a11 w12 ⟨i, h11, rfl, hi13, hB14⟩
   have hz15 := hB14.size
   refine co_seq ?_
   refine co_seq ?_
   refine co_reg ?_
   refine pk0 (v := .int .i64 ((i : Nat) : Int)) h11 rfl fun a16 h16 => ?_; clear h11
   refine pk0 (v := v) h16 rfl fun a17 h17 => ?_; clear h16
   refine pk (v := .int .i64 ((l.length : Nat) : Int)) h17 rfl (rn_len rfl rfl Try.underlying31 (hs.below hB14)) fun a18 h18 => ?_; clear h17
   refine pk0 (v := .bool (decide (((i : Nat) : Int) < ((l.length : Nat) : Int)))) h18 rfl fun a19 h19 => ?_; clear h18
   refine pk0 (v := .bool (decide (((i : Nat) : Int) < ((l.length : Nat) : Int)))) h19 rfl fun a20 h20 => ?_; clear h19
   cases hc21 : (decide (((i : Nat) : Int) < ((l.length : Nat) : Int)))
   ·
    rw [hc21] at h20
    have hp22 : ¬ (((i : Nat) : Int) < ((l.length : Nat) : Int)) := of_decide_eq_false hc21
    clear hc21
    refine psk h20 rfl fun a23 h23 => ?_; clear h20
    refine psk h23 rfl fun a24 h24 => ?_; clear h23
    refine psk h24 rfl fun a25 h25 => ?_; clear h24
    refine psk h25 rfl fun a26 h26 => ?_; clear h25
    refine pk0 (v := .bool false) h26 rfl fun a27 h27 => ?_; clear h26
    refine pl_nil ?_
    refine co_then ?_
    refine co_false h27 rfl ?_
    refine wp_exit ?_
    refine co_thenX ?_
    refine co_thenX ?_
    refine co_blockX ?_
    refine co_then ?_
    refine co_seq ?_
    refine co_reg ?_
    refine pk0 (v := .bool true) h27 rfl fun a28 h28 => ?_; clear h27
    refine pl_nil ?_
    refine co_then ?_
    refine wp_ret ?_
    refine co_ret1 h28 rfl rfl ?_
    exact ⟨rfl, hB14⟩
   ·
    rw [hc21] at h20
    have hp29 : ((i : Nat) : Int) < ((l.length : Nat) : Int) := of_decide_eq_true hc21
    clear hc21
    refine pk0 (v := .int .i64 ((i : Nat) : Int)) h20 rfl fun a30 h30 => ?_; clear h20
    refine pk0 (v := v2) h30 rfl fun a31 h31 => ?_; clear h30
    refine pk (v := .int .i64 ((l.length : Nat) : Int)) h31 rfl (rn_len rfl rfl Try.underlying31 (hs2.below hB14)) fun a32 h32 => ?_; clear h31
    refine pk0 (v := .bool (decide (((i : Nat) : Int) < ((l.length : Nat) : Int)))) h32 rfl fun a33 h33 => ?_; clear h32
    refine pk0 (v := .bool (decide (((i : Nat) : Int) < ((l.length : Nat) : Int)))) h33 rfl fun a34 h34 => ?_; clear h33
    refine pl_nil ?_
    refine co_then ?_
    have hc35 : (decide (((i : Nat) : Int) < ((l.length : Nat) : Int))) = true := decide_eq_true (by omega)
    rw [hc35] at h34; clear hc35
    refine co_true h34 rfl ?_
    refine wp_skip ?_
    refine co_then ?_
    refine co_seq ?_
    refine wp_block ?_
    refine co_seq ?_
    refine dr_eq (by kernel_rfl) (fun w36 hg37 => ?_)
    have hz38 := hg37.size
    refine dk0 0 (v := v) h34 rfl rfl rfl fun a39 h39 => ?_; clear h34
    refine dk0 1 (v := .int .i64 ((i : Nat) : Int)) h39 rfl rfl rfl fun a40 h40 => ?_; clear h39
    have hB42 := hb_new hB14 hg37
    obtain ⟨y41, hy41⟩ : ∃ z, l[i]? = some z := ⟨_, List.getElem?_eq_getElem (by first | omega | (simp; done) | (simp; omega))⟩
    refine dk 2 (v := pt (blkOf v) (offOf v + i * 2)) h40 rfl rfl rfl (fun x hx => by subst hx; exact (rn_index rfl rfl rfl Try.underlying31 Try.sizeOf38 (hs.below hB42) (by omega) (by first | omega | (simp; done) | (simp; omega)))) fun a43 h43 => ?_; clear h40
    refine dk 3 (v := .agg #[.string y41.1, .string y41.2]) h43 rfl rfl rfl (fun x hx => by subst hx; exact (rn_loadN rfl rfl Try.underlying38 rfl (by kernel_rfl) (sl_at (hs.below hB42) hy41))) fun a44 h44 => ?_; clear h43
    refine dk0 4 (v := v2) h44 rfl rfl rfl fun a45 h45 => ?_; clear h44
    refine dk0 5 (v := .int .i64 ((i : Nat) : Int)) h45 rfl rfl rfl fun a46 h46 => ?_; clear h45
    refine dk 6 (v := pt (blkOf v2) (offOf v2 + i * 2)) h46 rfl rfl rfl (fun x hx => by subst hx; exact (rn_index rfl rfl rfl Try.underlying31 Try.sizeOf38 (hs2.below hB42) (by omega) (by first | omega | (simp; done) | (simp; omega)))) fun a47 h47 => ?_; clear h46
    refine dk 7 (v := .agg #[.string y41.1, .string y41.2]) h47 rfl rfl rfl (fun x hx => by subst hx; exact (rn_loadN rfl rfl Try.underlying38 rfl (by kernel_rfl) (sl_at (hs2.below hB42) hy41))) fun a48 h48 => ?_; clear h47
    refine dk 8 (v := .bool (!(y41.1.toList == y41.1.toList && y41.2.toList == y41.2.toList))) h48 rfl rfl rfl (fun x hx => by subst hx; exact (rn_neS rfl rfl rfl Try.eqGuardType38 (eq_prJ _ _ _ _ _))) fun a49 h49 => ?_; clear h48
    refine dr_done (by kernel_rfl) ?_
    refine co_then ?_
    have hc50 : (!(y41.1.toList == y41.1.toList && y41.2.toList == y41.2.toList)) = false := by simp
    rw [hc50] at h49; clear hc50
    refine co_false h49 rfl ?_
    refine wp_skip ?_
    refine co_blockN ?_
    refine co_then ?_
    refine co_reg ?_
    refine pk0 (v := .int .i64 ((i : Nat) : Int)) h49 rfl fun a51 h51 => ?_; clear h49
    refine pk (v := .int .i64 ((i + 1 : Nat) : Int)) h51 rfl (rn_arith' rfl rfl rfl rfl rfl rfl (IntWalk.i64_in _ (by omega)) (by omega)) fun a52 h52 => ?_; clear h51
    refine pk0 (v := .int .i64 ((i + 1 : Nat) : Int)) h52 rfl fun a53 h53 => ?_; clear h52
    refine pl_nil ?_
    refine co_then ?_
    refine ⟨(l.length - (i + 1)), by omega, ?_⟩
    exact ⟨i + 1, h53.sub ⟨rfl, rfl, rfl, trivial⟩, rfl, by omega, hB42⟩
set_option maxRecDepth 100000 in
set_option maxHeartbeats 3200000 in
theorem judgeState_any (v : Value) (l : List EntT) (tm : Int) (m : EntT) (w : World) (hs : SliceOf entE 4 w v l) (hok : ∀ z ∈ l, EntOkS w z) (hlA : l.length ≤ 2932031007403) (ht : 0 ≤ tm ∧ tm < 18446744073709551616) (hms : SliceOf opE 3 w m.ops m.opl) (hm : EntOk w m) :
    Calls Try.prog 3 #[v, .int .u64 tm, .agg #[.int .i64 m.client, .int .i64 m.req, m.ops, .int .u64 m.ts]] w fun e w' => e = .returned (.bool true) ∧ Below w.heap.size w w' := by
 have hts0 := hm.ts0; have hts1 := hm.ts1
 have hB0 := Below.refl w.heap.size w
 have hl_hs := sl_len hs
 have hl_hms := sl_len hms
 refine co_enter (n := 80) Try.func3 rfl rfl rfl [(0, v), (1, .int .u64 tm), (2, .agg #[.int .i64 m.client, .int .i64 m.req, m.ops, .int .u64 m.ts])] rfl (fun a h0 => ?_)
 refine co_seq ?_
 refine co_reg ?_
 refine pw h0 rfl (op_new (v := fun N => pt N 0) (T := 28) (cs := #[.int .i64 m.client, .int .i64 m.req, m.ops, .int .u64 m.ts]) (by kernel_rfl) (by kernel_rfl) (by kernel_rfl)) ?_; clear h0
 rintro _ w2 a1 ⟨N3, rfl, hN6, hz7, hk5, hg4⟩ h1
 have hz8 := hg4.size
 try dsimp only at h1
 refine pk0 (v := .bool false) h1 rfl fun a9 h9 => ?_; clear h1
 refine pl_nil ?_
 refine co_then ?_
 refine co_seq ?_
 refine co_seq ?_
 refine co_reg ?_
 refine pk0 (v := v) h9 rfl fun a10 h10 => ?_; clear h9
 have hB13 := hb_new hB0 hg4
 refine pw h10 rfl (op_call (args := #[v]) (R := fun res xw => res = .int .i64 (muchN l) ∧ Below w2.heap.size w2 xw) rfl rfl rfl (by kernel_rfl) (by kernel_rfl) (Try.call8 _ _) (much_any v l w2 (hs.below hB13) (fun z hz => ⟨(hok z hz).1.below hB13, (hok z hz).2⟩) hlA) (by rintro e x ⟨rfl, h⟩; exact ⟨_, rfl, rfl, h⟩)) ?_; clear h10
 rintro _ w12 a11 ⟨rfl, hb14⟩ h11
 have hz15 := hb14.size
 refine pk0 (v := .bool (decide (muchN l > 100))) h11 rfl fun a16 h16 => ?_; clear h11
 refine pk0 (v := .bool (decide (muchN l > 100))) h16 rfl fun a17 h17 => ?_; clear h16
 have hB19 := hb_call hB13 hb14
 cases hc18 : (decide (muchN l > 100))
 ·
  rw [hc18] at h17
  have hp20 : ¬ (muchN l > 100) := of_decide_eq_false hc18
  clear hc18
  refine pk0 (v := pt N3 0) h17 rfl fun a21 h21 => ?_; clear h17
  refine pk0 (v := pt N3 2) h21 rfl fun a22 h22 => ?_; clear h21
  have hk23 := hk5.below hb14
  refine pk (v := m.ops) h22 rfl (rn_load1 rfl rfl Try.isAgg24 (hk23.cell rfl)) fun a24 h24 => ?_; clear h22
  refine pk (v := .int .i64 ((m.opl.length : Nat) : Int)) h24 rfl (rn_len rfl rfl Try.underlying24 (hms.below hB19)) fun a25 h25 => ?_; clear h24
  refine pk0 (v := .bool (decide (((m.opl.length : Nat) : Int) > 20))) h25 rfl fun a26 h26 => ?_; clear h25
  refine pk0 (v := .bool (decide (((m.opl.length : Nat) : Int) > 20))) h26 rfl fun a27 h27 => ?_; clear h26
  refine pl_nil ?_
  refine co_then ?_
  cases hc28 : (decide (((m.opl.length : Nat) : Int) > 20))
  ·
   rw [hc28] at h27
   have hp29 : ¬ (((m.opl.length : Nat) : Int) > 20) := of_decide_eq_false hc28
   clear hc28
   refine co_false h27 rfl ?_
   refine wp_skip ?_
   refine co_then ?_
   refine co_seq ?_
   refine co_reg ?_
   refine pk0 (v := v) h27 rfl fun a30 h30 => ?_; clear h27
   refine pk0 (v := .int .u64 tm) h30 rfl fun a31 h31 => ?_; clear h30
   have hmu : ¬ muchN l > 100 := by omega
   have hl100 := much_100J hmu; have hst := much_stJ tm hmu
   refine pw h31 rfl (op_call (args := #[v, .int .u64 tm]) (R := fun res xw => ∃ (ys : List ValT) (u : Value), res = u ∧ xw.ownsRow w12.heap.size 38 2 u ys.length (ys.flatMap valE) ∧ SetG (fun y : ValT => y.1) (ovG [] (stOJ tm l)) ys ∧ ys.length ≤ 999 ∧ Below w12.heap.size w12 xw) rfl rfl rfl (by kernel_rfl) (by kernel_rfl) (Try.call10 _ _) (jState_any v l tm w12 (hs.below hB19) (fun z hz => (hok z hz).1.below hB19) (much_opsJ hmu) ht (by omega)) (by rintro e x ⟨ys, u, h0, h⟩; exact ⟨_, h0, ys, u, rfl, h⟩)) ?_; clear h31
   rintro u34 w33 a32 ⟨Y37, _, rfl, hr35, hG, hY9, hb36⟩ h32
   have hz38 := hb36.size
   refine pk0 (v := u34) h32 rfl fun a39 h39 => ?_; clear h32
   refine pl_nil ?_
   refine co_then ?_
   refine co_seq ?_
   refine co_reg ?_
   refine pk0 (v := v) h39 rfl fun a40 h40 => ?_; clear h39
   refine pk0 (v := .agg #[.int .i64 2, .int .i64 0, .string (⟨#[]⟩), .string (⟨#[]⟩), .int .u64 0, .int .i64 1000, .slice none 0 0]) h40 rfl fun a41 h41 => ?_; clear h40
   refine pk0 (v := .int .u64 tm) h41 rfl fun a42 h42 => ?_; clear h41
   have hB45 := hb_call hB19 hb36
   refine pw h42 rfl (op_call (args := #[v, .agg #[.int .i64 2, .int .i64 0, .string (⟨#[]⟩), .string (⟨#[]⟩), .int .u64 0, .int .i64 1000, .slice none 0 0], .int .u64 tm]) (R := fun res xw => ∃ (u : Value), res = u ∧ xw.ownsRow w33.heap.size 38 2 u Y37.length (Y37.flatMap valE) ∧ Below w33.heap.size w33 xw) rfl rfl rfl (by kernel_rfl) (by kernel_rfl) (Try.call11 _ _) (jRowsS v l tm w33 (hs.below hB45) (fun z hz => (hok z hz).1.below hB45) (much_opsJ hmu) ht (by omega)) (by rintro e x ⟨ys, u, h0, h1, h2, h4⟩; rw [SetG.uniq h2 hG] at h1; exact ⟨_, h0, u, rfl, h1, h4⟩)) ?_; clear h42
   rintro u46 w44 a43 ⟨_, rfl, hr47, hb48⟩ h43
   have hz49 := hb48.size
   refine pk0 (v := u46) h43 rfl fun a50 h50 => ?_; clear h43
   refine pl_nil ?_
   refine co_then ?_
   refine co_seq ?_
   refine co_seq ?_
   refine co_reg ?_
   refine pk0 (v := pt N3 3) h50 rfl fun a51 h51 => ?_; clear h50
   have hk52 := hk23.below hb36
   have hk53 := hk52.below hb48
   refine pk (v := .int .u64 m.ts) h51 rfl (rn_load1 rfl rfl Try.isAgg23 (hk53.cell rfl)) fun a54 h54 => ?_; clear h51
   refine pk0 (v := .int .u64 tm) h54 rfl fun a55 h55 => ?_; clear h54
   refine pk0 (v := .bool (decide (m.ts > tm))) h55 rfl fun a56 h56 => ?_; clear h55
   refine pl_nil ?_
   refine co_then ?_
   have hB58 := hb_call hB45 hb48
   cases hc57 : (decide (m.ts > tm))
   ·
    rw [hc57] at h56
    have hp59 : ¬ (m.ts > tm) := of_decide_eq_false hc57
    clear hc57
    refine co_false h56 rfl ?_
    refine wp_skip ?_
    refine co_then ?_
    refine co_seq ?_
    refine co_seq ?_
    refine co_reg ?_
    refine pk0 (v := .int .i64 0) h56 rfl fun a60 h60 => ?_; clear h56
    refine pl_nil ?_
    refine co_then ?_
    refine wp_block ?_
    have h61 : Slots 80 [(0, v), (1, .int .u64 tm), (7, u34), (8, u46), (10, .int .i64 0)] _ := h60.sub ⟨rfl, rfl, rfl, rfl, rfl, trivial⟩; clear h60
    refine co_loop (fun mm a x => ∃ (i : Nat), Slots 80 [(0, v), (1, .int .u64 tm), (7, u34), (8, u46), (10, .int .i64 ((i : Nat) : Int))] a ∧ mm = Y37.length - i ∧ (i ≤ Y37.length) ∧ x.ownsRow w12.heap.size 38 2 u34 Y37.length (Y37.flatMap valE) ∧ x.ownsRow w33.heap.size 38 2 u46 Y37.length (Y37.flatMap valE) ∧ Below w.heap.size w x) (Y37.length - 0) ?_ ?_
    have hr62 := row_kept_new hr35 (below_grown hb48)
    · exact ⟨0, h61.sub ⟨rfl, rfl, rfl, rfl, (slot_eq rfl (congrArg (Value.int .i64) (by first | rfl | omega))), trivial⟩, rfl, by omega, hr62, hr47, hB58⟩
    · rintro k63 a64 w65 ⟨i, h64, rfl, hi66, hf67, hf68, hB69⟩
      have hz70 := hB69.size
      refine co_seq ?_
      refine co_seq ?_
      refine co_reg ?_
      refine pk0 (v := .int .i64 ((i : Nat) : Int)) h64 rfl fun a71 h71 => ?_; clear h64
      refine pk0 (v := u34) h71 rfl fun a72 h72 => ?_; clear h71
      refine pk (v := .int .i64 ((Y37.length : Nat) : Int)) h72 rfl (rn_lenOwn rfl rfl Try.underlying31 hf67) fun a73 h73 => ?_; clear h72
      refine pk0 (v := .bool (decide (((i : Nat) : Int) < ((Y37.length : Nat) : Int)))) h73 rfl fun a74 h74 => ?_; clear h73
      refine pl_nil ?_
      refine co_then ?_
      cases hc75 : (decide (((i : Nat) : Int) < ((Y37.length : Nat) : Int)))
      ·
       rw [hc75] at h74
       have hp76 : ¬ (((i : Nat) : Int) < ((Y37.length : Nat) : Int)) := of_decide_eq_false hc75
       clear hc75
       refine co_false h74 rfl ?_
       refine wp_exit ?_
       refine co_thenX ?_
       refine co_thenX ?_
       refine co_blockX ?_
       refine co_then ?_
       refine co_seq ?_
       refine co_reg ?_
       refine pk0 (v := u34) h74 rfl fun a77 h77 => ?_; clear h74
       refine pk0 (v := u46) h77 rfl fun a78 h78 => ?_; clear h77
       refine pw h78 rfl (op_call (args := #[u34, u46]) (R := fun res xw => res = .bool true ∧ Below w65.heap.size w65 xw) rfl rfl rfl (by kernel_rfl) (by kernel_rfl) (Try.call12 _ _) (jSame_any u34 Y37 u46 w65 (row_sl hf67 valE_len) (row_sl hf68 valE_len)) (by rintro e x ⟨rfl, hb81⟩; exact ⟨_, rfl, ⟨rfl, hb81⟩⟩)) ?_; clear h78
       rintro _ w80 a79 ⟨rfl, hb81⟩ h79
       have hz82 := hb81.size
       refine pk0 (v := .bool true) h79 rfl fun a83 h83 => ?_; clear h79
       have hB86 := hb_call hB69 hb81
       refine pw h83 rfl (op_call (args := #[]) (R := fun res xw => res = .bool true ∧ Below w80.heap.size w80 xw) rfl rfl rfl (by kernel_rfl) (by kernel_rfl) (Try.call9 _ _) (awake38 w80) (by rintro e x ⟨rfl, h⟩; exact ⟨_, rfl, rfl, h⟩)) ?_; clear h83
       rintro _ w85 a84 ⟨rfl, hb87⟩ h84
       have hz88 := hb87.size
       refine pk0 (v := .bool true) h84 rfl fun a89 h89 => ?_; clear h84
       refine pk0 (v := .bool true) h89 rfl fun a90 h90 => ?_; clear h89
       refine pl_nil ?_
       refine co_then ?_
       refine wp_ret ?_
       refine co_ret1 h90 rfl rfl ?_
       have hB91 := hb_call hB86 hb87
       exact ⟨rfl, hB91⟩
      ·
       rw [hc75] at h74
       have hp92 : ((i : Nat) : Int) < ((Y37.length : Nat) : Int) := of_decide_eq_true hc75
       clear hc75
       refine co_true h74 rfl ?_
       refine wp_skip ?_
       refine co_then ?_
       refine co_seq ?_
       refine wp_block ?_
       refine co_seq ?_
       refine co_reg ?_
       refine pk0 (v := v) h74 rfl fun a93 h93 => ?_; clear h74
       refine pk0 (v := u34) h93 rfl fun a94 h94 => ?_; clear h93
       refine pk0 (v := .int .i64 ((i : Nat) : Int)) h94 rfl fun a95 h95 => ?_; clear h94
       obtain ⟨y96, hy96⟩ : ∃ z, Y37[i]? = some z := ⟨_, List.getElem?_eq_getElem (by first | omega | (simp; done) | (simp; omega))⟩
       refine pk (v := pt (blkOf u34) (offOf u34 + i * 2)) h95 rfl (rn_index rfl rfl rfl Try.underlying31 Try.sizeOf38 (row_sl hf67 valE_len) (by omega) (by first | omega | (simp; done) | (simp; omega))) fun a97 h97 => ?_; clear h95
       refine pk0 (v := pt (blkOf u34) (offOf u34 + i * 2)) h97 rfl fun a98 h98 => ?_; clear h97
       refine pk (v := .string y96.1) h98 rfl (rn_load1 rfl rfl Try.isAgg9 ((sl_at (row_sl hf67 valE_len) hy96) 0 _ rfl)) fun a99 h99 => ?_; clear h98
       refine pk0 (v := .agg #[.int .i64 1, .int .i64 0, .string y96.1, .string (⟨#[]⟩), .int .u64 0, .int .i64 0, .slice none 0 0]) h99 rfl fun a100 h100 => ?_; clear h99
       refine pk0 (v := .int .u64 tm) h100 rfl fun a101 h101 => ?_; clear h100
       obtain ⟨Z9, hZ9⟩ : ∃ Z : List ValT, Z = [y96] := ⟨_, rfl⟩
       have hZl : Z9.length = 1 := by rw [hZ9]; rfl
       refine pw h101 rfl (op_call (args := #[v, .agg #[.int .i64 1, .int .i64 0, .string y96.1, .string (⟨#[]⟩), .int .u64 0, .int .i64 0, .slice none 0 0], .int .u64 tm]) (R := fun res xw => ∃ (u : Value), res = u ∧ xw.ownsRow w65.heap.size 38 2 u Z9.length (Z9.flatMap valE) ∧ Below w65.heap.size w65 xw) rfl rfl rfl (by kernel_rfl) (by kernel_rfl) (Try.call11 _ _) (jRowsG v l tm y96.1 w65 (hs.below hB69) (fun z hz => (hok z hz).1.below hB69) (much_opsJ hmu) ht (by omega)) (by rintro e x ⟨ys, u, h0, h1, h2, h4⟩; rw [SetG.uniq h2 hG, fstK_one hG.1 hy96, ← hZ9] at h1; exact ⟨_, h0, u, rfl, h1, h4⟩)) ?_; clear h101
       rintro u104 w103 a102 ⟨_, rfl, hr105, hb106⟩ h102
       have hz107 := hb106.size
       refine pk0 (v := u104) h102 rfl fun a108 h108 => ?_; clear h102
       refine pl_nil ?_
       refine co_then ?_
       refine co_seq ?_
       refine dr_eq (by kernel_rfl) (fun w109 hg110 => ?_)
       have hz111 := hg110.size
       refine dk0 0 (v := u104) h108 rfl rfl rfl fun a112 h112 => ?_; clear h108
       have hr113 := row_kept_new hr105 hg110
       refine dk 1 (v := .int .i64 ((Z9.length : Nat) : Int)) h112 rfl rfl rfl (fun x hx => by subst hx; exact (rn_lenOwn rfl rfl Try.underlying31 hr113)) fun a114 h114 => ?_; clear h112
       refine dk0 2 (v := .bool (((Z9.length : Nat) : Int) != 1)) h114 rfl rfl rfl fun a115 h115 => ?_; clear h114
       refine dk0 3 (v := .bool (((Z9.length : Nat) : Int) != 1)) h115 rfl rfl rfl fun a116 h116 => ?_; clear h115
       have hc117 : (((Z9.length : Nat) : Int) != 1) = false := by first | (simp; done) | (simp; omega) | exact beq_false_of_ne (by omega) | exact beq_iff_eq.2 (by omega)
       rw [hc117] at h116; clear hc117
       refine dk0 4 (v := u104) h116 rfl rfl rfl fun a118 h118 => ?_; clear h116
       obtain ⟨y119, hy119⟩ : ∃ z, Z9[0]? = some z := ⟨_, List.getElem?_eq_getElem (by first | omega | (simp; done) | (simp; omega))⟩
       refine dk 5 (v := pt (blkOf u104) (offOf u104 + 0 * 2)) h118 rfl rfl rfl (fun x hx => by subst hx; exact (rn_index rfl rfl rfl Try.underlying31 Try.sizeOf38 (row_sl hr113 valE_len) (by omega) (by first | omega | (simp; done) | (simp; omega)))) fun a120 h120 => ?_; clear h118
       refine dk 6 (v := .agg #[.string y119.1, .string y119.2]) h120 rfl rfl rfl (fun x hx => by subst hx; exact (rn_loadN rfl rfl Try.underlying38 rfl (by kernel_rfl) (sl_at (row_sl hr113 valE_len) hy119))) fun a121 h121 => ?_; clear h120
       refine dk0 7 (v := u34) h121 rfl rfl rfl fun a122 h122 => ?_; clear h121
       refine dk0 8 (v := .int .i64 ((i : Nat) : Int)) h122 rfl rfl rfl fun a123 h123 => ?_; clear h122
       have hr124 := row_kept_new hf67 (below_grown hb106)
       have hr125 := row_kept_new hr124 hg110
       refine dk 9 (v := pt (blkOf u34) (offOf u34 + i * 2)) h123 rfl rfl rfl (fun x hx => by subst hx; exact (rn_index rfl rfl rfl Try.underlying31 Try.sizeOf38 (row_sl hr125 valE_len) (by omega) (by first | omega | (simp; done) | (simp; omega)))) fun a126 h126 => ?_; clear h123
       refine dk 10 (v := .agg #[.string y96.1, .string y96.2]) h126 rfl rfl rfl (fun x hx => by subst hx; exact (rn_loadN rfl rfl Try.underlying38 rfl (by kernel_rfl) (sl_at (row_sl hr125 valE_len) hy96))) fun a127 h127 => ?_; clear h126
       refine dk 11 (v := .bool (!(y119.1.toList == y96.1.toList && y119.2.toList == y96.2.toList))) h127 rfl rfl rfl (fun x hx => by subst hx; exact (rn_neS rfl rfl rfl Try.eqGuardType38 (eq_prJ _ _ _ _ _))) fun a128 h128 => ?_; clear h127
       refine dk0 12 (v := .bool (!(y119.1.toList == y96.1.toList && y119.2.toList == y96.2.toList))) h128 rfl rfl rfl fun a129 h129 => ?_; clear h128
       refine dr_done (by kernel_rfl) ?_
       refine co_then ?_
       have hc130 : (!(y119.1.toList == y96.1.toList && y119.2.toList == y96.2.toList)) = false := by rw [one_at hZ9 hy119]; simp
       rw [hc130] at h129; clear hc130
       refine co_false h129 rfl ?_
       refine wp_skip ?_
       refine co_blockN ?_
       refine co_then ?_
       refine co_reg ?_
       refine pk0 (v := .int .i64 ((i : Nat) : Int)) h129 rfl fun a131 h131 => ?_; clear h129
       refine pk (v := .int .i64 ((i + 1 : Nat) : Int)) h131 rfl (rn_arith' rfl rfl rfl rfl rfl rfl (IntWalk.i64_in _ (by omega)) (by omega)) fun a132 h132 => ?_; clear h131
       refine pk0 (v := .int .i64 ((i + 1 : Nat) : Int)) h132 rfl fun a133 h133 => ?_; clear h132
       refine pl_nil ?_
       refine co_then ?_
       refine ⟨(Y37.length - (i + 1)), by omega, ?_⟩
       have hr134 := row_kept_new hf68 (below_grown hb106)
       have hr135 := row_kept_new hr134 hg110
       have hB136 := hb_call hB69 hb106
       have hB137 := hb_new hB136 hg110
       exact ⟨i + 1, h133.sub ⟨rfl, rfl, rfl, rfl, rfl, trivial⟩, rfl, by omega, hr125, hr135, hB137⟩
   ·
    rw [hc57] at h56
    have hp138 : m.ts > tm := of_decide_eq_true hc57
    clear hc57
    refine co_true h56 rfl ?_
    refine co_seq ?_
    refine dr_gen (fun x => Below w.heap.size w x ∧ Blk x N3 28 #[.int .i64 m.client, .int .i64 m.req, m.ops, .int .u64 m.ts]) (by kernel_rfl) (fun w139 hg140 => ?_) (fun w139 hg140 => ?_)
    ·
     have hz141 := hg140.size
     have hB142 := hb_new hB58 hg140
     have hk143 := hk53.kept hg140 (by simp)
     exact ⟨hB142, hk143⟩
    have hz144 := hg140.size
    have hB145 := hb_new hB58 hg140
    have hk146 := hk53.kept hg140 (by simp)
    refine dk0 1 (v := v) h56 rfl rfl ⟨hB145, hk146⟩ fun a147 h147 => ?_; clear h56
    refine dk 3 (v := .agg #[.int .i64 m.client, .int .i64 m.req, m.ops, .int .u64 m.ts]) h147 rfl rfl ⟨hB145, hk146⟩ (fun x hx => (rn_loadN rfl rfl Try.underlying28 rfl (by kernel_rfl) hx.2.all)) fun a148 h148 => ?_; clear h147
    refine dk0 6 (v := .int .u64 tm) h148 rfl rfl ⟨hB145, hk146⟩ fun a149 h149 => ?_; clear h148
    refine dr_many [0, 4] (by kernel_rfl) (by simp) ⟨?_, ?_, trivial⟩
    ·
     refine dr_op (i := 0) h149 rfl rfl rfl rfl (op_new (v := fun N => .slice (some ⟨N, 0, none⟩) 0 0) (T := 28) (cs := #[]) (by kernel_rfl) (by kernel_rfl) (by kernel_rfl)) ?_ ?_; clear h149
     ·
      rintro _ w151 ⟨N152, rfl, hN155, hz156, hk154, hg153⟩
      have hr158 := row_kept_new hr35 (below_grown hb48)
      have hr159 := row_kept_new hr158 hg140
      have ha157 := row_fresh hr159 hN155
      have hr161 := row_kept_new hr47 hg140
      have ha160 := row_fresh hr161 hN155
      have hz162 := hg153.size
      have hB163 := hb_new hB145 hg153
      have hk164 := hk146.kept hg153 (by simp)
      exact ⟨hB163, hk164⟩
     rintro _ w151 a150 ⟨N152, rfl, hN155, hz156, hk154, hg153⟩ h150
     have hr158 := row_kept_new hr35 (below_grown hb48)
     have hr159 := row_kept_new hr158 hg140
     have ha157 := row_fresh hr159 hN155
     have hr161 := row_kept_new hr47 hg140
     have ha160 := row_fresh hr161 hN155
     have hz162 := hg153.size
     try dsimp only at h150
     have hB163 := hb_new hB145 hg153
     have hk164 := hk146.kept hg153 (by simp)
     refine dr_many [2, 4] (by kernel_rfl) (by simp) ⟨?_, ?_, trivial⟩
     ·
      have hr167 := row_of_blkL hk154 (Nat.le_refl _) 4 entE
      refine dr_op (i := 2) h150 rfl rfl rfl rfl (op_appendSrc rfl N152 28 (z := .agg #[.int .i64 0, .int .i64 0, .slice none 0 0, .int .u64 0]) (size := 4) (bytes := 48) Try.underlying22 (by kernel_rfl) rfl rfl rfl hr167 rfl (hs.below hB163) (fun y hy => ⟨entE_len y, entE_oneJ (hok y hy).1⟩) (by first | omega | (simp only [List.length_nil, List.length_append, List.length_cons, List.length_take, List.length_drop]; omega)) (by first | omega | (simp only [List.length_nil, List.length_append, List.length_cons, List.length_take, List.length_drop]; omega)) (by omega)) ?_ ?_; clear h150
      ·
       rintro v168 w166 ⟨hr169, hg170⟩
       have hr169' : w166.ownsRow N152 28 4 v168 l.length (l.flatMap entE) := row_app (l := []) hr169; clear hr169
       have hz172 := hg170.size
       have hB173 := hb_row hB163 hr167 (by omega) hg170
       have hk174 := hk164.kept hg170 (by simp [Value.ownBlock]; omega)
       exact ⟨hB173, hk174⟩
      rintro v168 w166 a165 ⟨hr169, hg170⟩ h165
      have hr169' : w166.ownsRow N152 28 4 v168 l.length (l.flatMap entE) := row_app (l := []) hr169; clear hr169
      have hz172 := hg170.size
      have hB173 := hb_row hB163 hr167 (by omega) hg170
      have hk174 := hk164.kept hg170 (by simp [Value.ownBlock]; omega)
      refine d1 4 h165 rfl rfl (op_new (v := fun N => .slice (some ⟨N, 0, none⟩) 1 1) (T := 28) (cs := #[.int .i64 m.client, .int .i64 m.req, m.ops, .int .u64 m.ts]) (by kernel_rfl) (by kernel_rfl) (by kernel_rfl)) ?_ ?_; clear h165
      ·
       rintro _ w176 ⟨N177, rfl, hN180, hz181, hk179, hg178⟩
       have hr183 := row_kept_new hr159 hg153
       have hr184 := row_kept_row hr183 hr167 hg170 (by decide)
       have ha182 := row_fresh hr184 hN180
       have hr186 := row_kept_new hr161 hg153
       have hr187 := row_kept_row hr186 hr167 hg170 (by decide)
       have ha185 := row_fresh hr187 hN180
       have ha188 := row_fresh hr169' hN180
       have hz189 := hg178.size
       have hB190 := hb_new hB173 hg178
       have hk191 := hk174.kept hg178 (by simp)
       exact ⟨hB190, hk191⟩
      rintro _ w176 a175 ⟨N177, rfl, hN180, hz181, hk179, hg178⟩ h175
      have hr183 := row_kept_new hr159 hg153
      have hr184 := row_kept_row hr183 hr167 hg170 (by decide)
      have ha182 := row_fresh hr184 hN180
      have hr186 := row_kept_new hr161 hg153
      have hr187 := row_kept_row hr186 hr167 hg170 (by decide)
      have ha185 := row_fresh hr187 hN180
      have ha188 := row_fresh hr169' hN180
      have hz189 := hg178.size
      try dsimp only at h175
      have hB190 := hb_new hB173 hg178
      have hk191 := hk174.kept hg178 (by simp)
      have hr198 := row_kept_new hr169' hg178
      refine d1 5 h175 rfl rfl (op_append rfl N152 28 (z := .agg #[.int .i64 0, .int .i64 0, .slice none 0 0, .int .u64 0]) (size := 4) (bytes := 48) Try.underlying22 (by kernel_rfl) rfl rfl rfl hr198 rfl hk179 rfl (all_cons rfl (all_cons rfl (all_cons (sl_one (hms.below hB190)) (all_cons rfl all_nil)))) (by first | omega | (simp only [List.length_nil, List.length_append, List.length_cons, List.length_take, List.length_drop]; omega)) (by first | omega | (simp only [List.length_nil, List.length_append, List.length_cons, List.length_take, List.length_drop]; omega)) (by omega)) ?_ ?_; clear h175
      ·
       rintro v194 w193 ⟨hr195, hg196⟩
       have hr195' : w193.ownsRow N152 28 4 v194 ((l ++ [(EntT.mk m.client m.req (m.ops) m.opl m.ts)]).length) ((l ++ [(EntT.mk m.client m.req (m.ops) m.opl m.ts)]).flatMap entE) := row_push (y := (EntT.mk m.client m.req (m.ops) m.opl m.ts)) hr195 rfl rfl; clear hr195
       have hz199 := hg196.size
       have hB200 := hb_row hB190 hr198 (by omega) hg196
       have hk201 := hk191.kept hg196 (row_ne_lt hr198 (by omega))
       exact ⟨hB200, hk201⟩
      rintro v194 w193 a192 ⟨hr195, hg196⟩ h192
      have hr195' : w193.ownsRow N152 28 4 v194 ((l ++ [(EntT.mk m.client m.req (m.ops) m.opl m.ts)]).length) ((l ++ [(EntT.mk m.client m.req (m.ops) m.opl m.ts)]).flatMap entE) := row_push (y := (EntT.mk m.client m.req (m.ops) m.opl m.ts)) hr195 rfl rfl; clear hr195
      have hz199 := hg196.size
      have hB200 := hb_row hB190 hr198 (by omega) hg196
      have hk201 := hk191.kept hg196 (row_ne_lt hr198 (by omega))
      have hr204 := row_kept_new hr184 hg178
      have hr205 := row_kept_row hr204 hr198 hg196 (by decide)
      have hr206 := row_kept_new hr187 hg178
      have hr207 := row_kept_row hr206 hr198 hg196 (by decide)
      have hmo : stOJ tm (l ++ [(EntT.mk m.client m.req (m.ops) m.opl m.ts)]) = stOJ tm l := stOJ_more (m := (EntT.mk m.client m.req m.ops m.opl m.ts)) (by show tm < m.ts; omega)
      refine d1 7 h192 rfl rfl (op_call (args := #[v194, .int .u64 tm]) (R := fun res xw => ∃ (u : Value), res = u ∧ xw.ownsRow w193.heap.size 38 2 u Y37.length (Y37.flatMap valE) ∧ Below w193.heap.size w193 xw) rfl rfl rfl (by kernel_rfl) (by kernel_rfl) (Try.call10 _ _) (jState_any v194 (l ++ [(EntT.mk m.client m.req (m.ops) m.opl m.ts)]) tm w193 (row_sl hr195' entE_len) (fun z hz => by rcases List.mem_append.1 hz with hz | hz; exact (hok z hz).1.below hB200; simp at hz; subst hz; exact hm.below hB200) (ops20J (w := w) (m := (EntT.mk m.client m.req m.ops m.opl m.ts)) hmu (by show m.opl.length ≤ 20; omega)) ht (by rw [hmo]; omega)) (by rintro e x ⟨ys, u, h0, h1, h2, h3, h4⟩; rw [hmo] at h2; rw [SetG.uniq h2 hG] at h1; exact ⟨_, h0, u, rfl, h1, h4⟩)) ?_ ?_; clear h192
      ·
       rintro u208 w203 ⟨_, rfl, hr209, hb210⟩
       have hz211 := hb210.size
       have hB212 := hb_call hB200 hb210
       have hk213 := hk201.below hb210
       exact ⟨hB212, hk213⟩
      rintro u208 w203 a202 ⟨_, rfl, hr209, hb210⟩ h202
      have hz211 := hb210.size
      have hB212 := hb_call hB200 hb210
      have hk213 := hk201.below hb210
      refine dk0 8 (v := u208) h202 rfl rfl ⟨hB212, hk213⟩ fun a214 h214 => ?_; clear h202
      refine dr_done (by kernel_rfl) ?_
      refine co_then ?_
      refine co_seq ?_
      refine co_reg ?_
      refine pk0 (v := u34) h214 rfl fun a215 h215 => ?_; clear h214
      refine pk0 (v := u208) h215 rfl fun a216 h216 => ?_; clear h215
      have hr219 := row_kept_new hr205 (below_grown hb210)
      refine pw h216 rfl (op_call (args := #[u34, u208]) (R := fun res xw => res = .bool true ∧ Below w203.heap.size w203 xw) rfl rfl rfl (by kernel_rfl) (by kernel_rfl) (Try.call12 _ _) (jSame_any u34 Y37 u208 w203 (row_sl hr219 valE_len) (row_sl hr209 valE_len)) (by rintro e x ⟨rfl, hb220⟩; exact ⟨_, rfl, ⟨rfl, hb220⟩⟩)) ?_; clear h216
      rintro _ w218 a217 ⟨rfl, hb220⟩ h217
      have hz221 := hb220.size
      refine pk0 (v := .bool false) h217 rfl fun a222 h222 => ?_; clear h217
      refine pl_nil ?_
      refine co_then ?_
      refine co_false h222 rfl ?_
      refine wp_skip ?_
      refine co_then ?_
      refine co_seq ?_
      refine co_seq ?_
      refine co_reg ?_
      refine pk0 (v := .int .i64 0) h222 rfl fun a223 h223 => ?_; clear h222
      refine pl_nil ?_
      refine co_then ?_
      refine wp_block ?_
      have h224 : Slots 80 [(0, v), (1, .int .u64 tm), (7, u34), (8, u46), (10, .int .i64 0)] _ := h223.sub ⟨rfl, rfl, rfl, rfl, rfl, trivial⟩; clear h223
      refine co_loop (fun mm a x => ∃ (i : Nat), Slots 80 [(0, v), (1, .int .u64 tm), (7, u34), (8, u46), (10, .int .i64 ((i : Nat) : Int))] a ∧ mm = Y37.length - i ∧ (i ≤ Y37.length) ∧ x.ownsRow w12.heap.size 38 2 u34 Y37.length (Y37.flatMap valE) ∧ x.ownsRow w33.heap.size 38 2 u46 Y37.length (Y37.flatMap valE) ∧ Below w.heap.size w x) (Y37.length - 0) ?_ ?_
      have hr225 := row_kept_new hr219 (below_grown hb220)
      have hr226 := row_kept_new hr207 (below_grown hb210)
      have hr227 := row_kept_new hr226 (below_grown hb220)
      have hB228 := hb_call hB212 hb220
      · exact ⟨0, h224.sub ⟨rfl, rfl, rfl, rfl, (slot_eq rfl (congrArg (Value.int .i64) (by first | rfl | omega))), trivial⟩, rfl, by omega, hr225, hr227, hB228⟩
      · rintro k229 a230 w231 ⟨i, h230, rfl, hi232, hf233, hf234, hB235⟩
        have hz236 := hB235.size
        refine co_seq ?_
        refine co_seq ?_
        refine co_reg ?_
        refine pk0 (v := .int .i64 ((i : Nat) : Int)) h230 rfl fun a237 h237 => ?_; clear h230
        refine pk0 (v := u34) h237 rfl fun a238 h238 => ?_; clear h237
        refine pk (v := .int .i64 ((Y37.length : Nat) : Int)) h238 rfl (rn_lenOwn rfl rfl Try.underlying31 hf233) fun a239 h239 => ?_; clear h238
        refine pk0 (v := .bool (decide (((i : Nat) : Int) < ((Y37.length : Nat) : Int)))) h239 rfl fun a240 h240 => ?_; clear h239
        refine pl_nil ?_
        refine co_then ?_
        cases hc241 : (decide (((i : Nat) : Int) < ((Y37.length : Nat) : Int)))
        ·
         rw [hc241] at h240
         have hp242 : ¬ (((i : Nat) : Int) < ((Y37.length : Nat) : Int)) := of_decide_eq_false hc241
         clear hc241
         refine co_false h240 rfl ?_
         refine wp_exit ?_
         refine co_thenX ?_
         refine co_thenX ?_
         refine co_blockX ?_
         refine co_then ?_
         refine co_seq ?_
         refine co_reg ?_
         refine pk0 (v := u34) h240 rfl fun a243 h243 => ?_; clear h240
         refine pk0 (v := u46) h243 rfl fun a244 h244 => ?_; clear h243
         refine pw h244 rfl (op_call (args := #[u34, u46]) (R := fun res xw => res = .bool true ∧ Below w231.heap.size w231 xw) rfl rfl rfl (by kernel_rfl) (by kernel_rfl) (Try.call12 _ _) (jSame_any u34 Y37 u46 w231 (row_sl hf233 valE_len) (row_sl hf234 valE_len)) (by rintro e x ⟨rfl, hb247⟩; exact ⟨_, rfl, ⟨rfl, hb247⟩⟩)) ?_; clear h244
         rintro _ w246 a245 ⟨rfl, hb247⟩ h245
         have hz248 := hb247.size
         refine pk0 (v := .bool true) h245 rfl fun a249 h249 => ?_; clear h245
         have hB252 := hb_call hB235 hb247
         refine pw h249 rfl (op_call (args := #[]) (R := fun res xw => res = .bool true ∧ Below w246.heap.size w246 xw) rfl rfl rfl (by kernel_rfl) (by kernel_rfl) (Try.call9 _ _) (awake38 w246) (by rintro e x ⟨rfl, h⟩; exact ⟨_, rfl, rfl, h⟩)) ?_; clear h249
         rintro _ w251 a250 ⟨rfl, hb253⟩ h250
         have hz254 := hb253.size
         refine pk0 (v := .bool true) h250 rfl fun a255 h255 => ?_; clear h250
         refine pk0 (v := .bool true) h255 rfl fun a256 h256 => ?_; clear h255
         refine pl_nil ?_
         refine co_then ?_
         refine wp_ret ?_
         refine co_ret1 h256 rfl rfl ?_
         have hB257 := hb_call hB252 hb253
         exact ⟨rfl, hB257⟩
        ·
         rw [hc241] at h240
         have hp258 : ((i : Nat) : Int) < ((Y37.length : Nat) : Int) := of_decide_eq_true hc241
         clear hc241
         refine co_true h240 rfl ?_
         refine wp_skip ?_
         refine co_then ?_
         refine co_seq ?_
         refine wp_block ?_
         refine co_seq ?_
         refine co_reg ?_
         refine pk0 (v := v) h240 rfl fun a259 h259 => ?_; clear h240
         refine pk0 (v := u34) h259 rfl fun a260 h260 => ?_; clear h259
         refine pk0 (v := .int .i64 ((i : Nat) : Int)) h260 rfl fun a261 h261 => ?_; clear h260
         obtain ⟨y262, hy262⟩ : ∃ z, Y37[i]? = some z := ⟨_, List.getElem?_eq_getElem (by first | omega | (simp; done) | (simp; omega))⟩
         refine pk (v := pt (blkOf u34) (offOf u34 + i * 2)) h261 rfl (rn_index rfl rfl rfl Try.underlying31 Try.sizeOf38 (row_sl hf233 valE_len) (by omega) (by first | omega | (simp; done) | (simp; omega))) fun a263 h263 => ?_; clear h261
         refine pk0 (v := pt (blkOf u34) (offOf u34 + i * 2)) h263 rfl fun a264 h264 => ?_; clear h263
         refine pk (v := .string y262.1) h264 rfl (rn_load1 rfl rfl Try.isAgg9 ((sl_at (row_sl hf233 valE_len) hy262) 0 _ rfl)) fun a265 h265 => ?_; clear h264
         refine pk0 (v := .agg #[.int .i64 1, .int .i64 0, .string y262.1, .string (⟨#[]⟩), .int .u64 0, .int .i64 0, .slice none 0 0]) h265 rfl fun a266 h266 => ?_; clear h265
         refine pk0 (v := .int .u64 tm) h266 rfl fun a267 h267 => ?_; clear h266
         obtain ⟨Z9, hZ9⟩ : ∃ Z : List ValT, Z = [y262] := ⟨_, rfl⟩
         have hZl : Z9.length = 1 := by rw [hZ9]; rfl
         refine pw h267 rfl (op_call (args := #[v, .agg #[.int .i64 1, .int .i64 0, .string y262.1, .string (⟨#[]⟩), .int .u64 0, .int .i64 0, .slice none 0 0], .int .u64 tm]) (R := fun res xw => ∃ (u : Value), res = u ∧ xw.ownsRow w231.heap.size 38 2 u Z9.length (Z9.flatMap valE) ∧ Below w231.heap.size w231 xw) rfl rfl rfl (by kernel_rfl) (by kernel_rfl) (Try.call11 _ _) (jRowsG v l tm y262.1 w231 (hs.below hB235) (fun z hz => (hok z hz).1.below hB235) (much_opsJ hmu) ht (by omega)) (by rintro e x ⟨ys, u, h0, h1, h2, h4⟩; rw [SetG.uniq h2 hG, fstK_one hG.1 hy262, ← hZ9] at h1; exact ⟨_, h0, u, rfl, h1, h4⟩)) ?_; clear h267
         rintro u270 w269 a268 ⟨_, rfl, hr271, hb272⟩ h268
         have hz273 := hb272.size
         refine pk0 (v := u270) h268 rfl fun a274 h274 => ?_; clear h268
         refine pl_nil ?_
         refine co_then ?_
         refine co_seq ?_
         refine dr_eq (by kernel_rfl) (fun w275 hg276 => ?_)
         have hz277 := hg276.size
         refine dk0 0 (v := u270) h274 rfl rfl rfl fun a278 h278 => ?_; clear h274
         have hr279 := row_kept_new hr271 hg276
         refine dk 1 (v := .int .i64 ((Z9.length : Nat) : Int)) h278 rfl rfl rfl (fun x hx => by subst hx; exact (rn_lenOwn rfl rfl Try.underlying31 hr279)) fun a280 h280 => ?_; clear h278
         refine dk0 2 (v := .bool (((Z9.length : Nat) : Int) != 1)) h280 rfl rfl rfl fun a281 h281 => ?_; clear h280
         refine dk0 3 (v := .bool (((Z9.length : Nat) : Int) != 1)) h281 rfl rfl rfl fun a282 h282 => ?_; clear h281
         have hc283 : (((Z9.length : Nat) : Int) != 1) = false := by first | (simp; done) | (simp; omega) | exact beq_false_of_ne (by omega) | exact beq_iff_eq.2 (by omega)
         rw [hc283] at h282; clear hc283
         refine dk0 4 (v := u270) h282 rfl rfl rfl fun a284 h284 => ?_; clear h282
         obtain ⟨y285, hy285⟩ : ∃ z, Z9[0]? = some z := ⟨_, List.getElem?_eq_getElem (by first | omega | (simp; done) | (simp; omega))⟩
         refine dk 5 (v := pt (blkOf u270) (offOf u270 + 0 * 2)) h284 rfl rfl rfl (fun x hx => by subst hx; exact (rn_index rfl rfl rfl Try.underlying31 Try.sizeOf38 (row_sl hr279 valE_len) (by omega) (by first | omega | (simp; done) | (simp; omega)))) fun a286 h286 => ?_; clear h284
         refine dk 6 (v := .agg #[.string y285.1, .string y285.2]) h286 rfl rfl rfl (fun x hx => by subst hx; exact (rn_loadN rfl rfl Try.underlying38 rfl (by kernel_rfl) (sl_at (row_sl hr279 valE_len) hy285))) fun a287 h287 => ?_; clear h286
         refine dk0 7 (v := u34) h287 rfl rfl rfl fun a288 h288 => ?_; clear h287
         refine dk0 8 (v := .int .i64 ((i : Nat) : Int)) h288 rfl rfl rfl fun a289 h289 => ?_; clear h288
         have hr290 := row_kept_new hf233 (below_grown hb272)
         have hr291 := row_kept_new hr290 hg276
         refine dk 9 (v := pt (blkOf u34) (offOf u34 + i * 2)) h289 rfl rfl rfl (fun x hx => by subst hx; exact (rn_index rfl rfl rfl Try.underlying31 Try.sizeOf38 (row_sl hr291 valE_len) (by omega) (by first | omega | (simp; done) | (simp; omega)))) fun a292 h292 => ?_; clear h289
         refine dk 10 (v := .agg #[.string y262.1, .string y262.2]) h292 rfl rfl rfl (fun x hx => by subst hx; exact (rn_loadN rfl rfl Try.underlying38 rfl (by kernel_rfl) (sl_at (row_sl hr291 valE_len) hy262))) fun a293 h293 => ?_; clear h292
         refine dk 11 (v := .bool (!(y285.1.toList == y262.1.toList && y285.2.toList == y262.2.toList))) h293 rfl rfl rfl (fun x hx => by subst hx; exact (rn_neS rfl rfl rfl Try.eqGuardType38 (eq_prJ _ _ _ _ _))) fun a294 h294 => ?_; clear h293
         refine dk0 12 (v := .bool (!(y285.1.toList == y262.1.toList && y285.2.toList == y262.2.toList))) h294 rfl rfl rfl fun a295 h295 => ?_; clear h294
         refine dr_done (by kernel_rfl) ?_
         refine co_then ?_
         have hc296 : (!(y285.1.toList == y262.1.toList && y285.2.toList == y262.2.toList)) = false := by rw [one_at hZ9 hy285]; simp
         rw [hc296] at h295; clear hc296
         refine co_false h295 rfl ?_
         refine wp_skip ?_
         refine co_blockN ?_
         refine co_then ?_
         refine co_reg ?_
         refine pk0 (v := .int .i64 ((i : Nat) : Int)) h295 rfl fun a297 h297 => ?_; clear h295
         refine pk (v := .int .i64 ((i + 1 : Nat) : Int)) h297 rfl (rn_arith' rfl rfl rfl rfl rfl rfl (IntWalk.i64_in _ (by omega)) (by omega)) fun a298 h298 => ?_; clear h297
         refine pk0 (v := .int .i64 ((i + 1 : Nat) : Int)) h298 rfl fun a299 h299 => ?_; clear h298
         refine pl_nil ?_
         refine co_then ?_
         refine ⟨(Y37.length - (i + 1)), by omega, ?_⟩
         have hr300 := row_kept_new hf234 (below_grown hb272)
         have hr301 := row_kept_new hr300 hg276
         have hB302 := hb_call hB235 hb272
         have hB303 := hb_new hB302 hg276
         exact ⟨i + 1, h299.sub ⟨rfl, rfl, rfl, rfl, rfl, trivial⟩, rfl, by omega, hr291, hr301, hB303⟩
     ·
      refine dr_op (i := 4) h150 rfl rfl rfl rfl (op_new (v := fun N => .slice (some ⟨N, 0, none⟩) 1 1) (T := 28) (cs := #[.int .i64 m.client, .int .i64 m.req, m.ops, .int .u64 m.ts]) (by kernel_rfl) (by kernel_rfl) (by kernel_rfl)) ?_ ?_; clear h150
      ·
       rintro _ w305 ⟨N306, rfl, hN309, hz310, hk308, hg307⟩
       have hr312 := row_kept_new hr159 hg153
       have ha311 := row_fresh hr312 hN309
       have hr314 := row_kept_new hr161 hg153
       have ha313 := row_fresh hr314 hN309
       have hz315 := hg307.size
       have hB316 := hb_new hB163 hg307
       have hk317 := hk164.kept hg307 (by simp)
       exact ⟨hB316, hk317⟩
      rintro _ w305 a304 ⟨N306, rfl, hN309, hz310, hk308, hg307⟩ h304
      have hr312 := row_kept_new hr159 hg153
      have ha311 := row_fresh hr312 hN309
      have hr314 := row_kept_new hr161 hg153
      have ha313 := row_fresh hr314 hN309
      have hz315 := hg307.size
      try dsimp only at h304
      have hB316 := hb_new hB163 hg307
      have hk317 := hk164.kept hg307 (by simp)
      have hk321 := hk154.kept hg307 (by simp)
      have hr320 := row_of_blkL hk321 (Nat.le_refl _) 4 entE
      refine d1 2 h304 rfl rfl (op_appendSrc rfl N152 28 (z := .agg #[.int .i64 0, .int .i64 0, .slice none 0 0, .int .u64 0]) (size := 4) (bytes := 48) Try.underlying22 (by kernel_rfl) rfl rfl rfl hr320 rfl (hs.below hB316) (fun y hy => ⟨entE_len y, entE_oneJ (hok y hy).1⟩) (by first | omega | (simp only [List.length_nil, List.length_append, List.length_cons, List.length_take, List.length_drop]; omega)) (by first | omega | (simp only [List.length_nil, List.length_append, List.length_cons, List.length_take, List.length_drop]; omega)) (by omega)) ?_ ?_; clear h304
      ·
       rintro v322 w319 ⟨hr323, hg324⟩
       have hr323' : w319.ownsRow N152 28 4 v322 l.length (l.flatMap entE) := row_app (l := []) hr323; clear hr323
       have hz326 := hg324.size
       have hB327 := hb_row hB316 hr320 (by omega) hg324
       have hk328 := hk317.kept hg324 (by simp [Value.ownBlock]; omega)
       exact ⟨hB327, hk328⟩
      rintro v322 w319 a318 ⟨hr323, hg324⟩ h318
      have hr323' : w319.ownsRow N152 28 4 v322 l.length (l.flatMap entE) := row_app (l := []) hr323; clear hr323
      have hz326 := hg324.size
      have hB327 := hb_row hB316 hr320 (by omega) hg324
      have hk328 := hk317.kept hg324 (by simp [Value.ownBlock]; omega)
      have hk335 := hk308.kept hg324 (by simp [Value.ownBlock]; omega)
      refine d1 5 h318 rfl rfl (op_append rfl N152 28 (z := .agg #[.int .i64 0, .int .i64 0, .slice none 0 0, .int .u64 0]) (size := 4) (bytes := 48) Try.underlying22 (by kernel_rfl) rfl rfl rfl hr323' rfl hk335 rfl (all_cons rfl (all_cons rfl (all_cons (sl_one (hms.below hB327)) (all_cons rfl all_nil)))) (by first | omega | (simp only [List.length_nil, List.length_append, List.length_cons, List.length_take, List.length_drop]; omega)) (by first | omega | (simp only [List.length_nil, List.length_append, List.length_cons, List.length_take, List.length_drop]; omega)) (by omega)) ?_ ?_; clear h318
      ·
       rintro v331 w330 ⟨hr332, hg333⟩
       have hr332' : w330.ownsRow N152 28 4 v331 ((l ++ [(EntT.mk m.client m.req (m.ops) m.opl m.ts)]).length) ((l ++ [(EntT.mk m.client m.req (m.ops) m.opl m.ts)]).flatMap entE) := row_push (y := (EntT.mk m.client m.req (m.ops) m.opl m.ts)) hr332 rfl rfl; clear hr332
       have hz336 := hg333.size
       have hB337 := hb_row hB327 hr323' (by omega) hg333
       have hk338 := hk328.kept hg333 (row_ne_lt hr323' (by omega))
       exact ⟨hB337, hk338⟩
      rintro v331 w330 a329 ⟨hr332, hg333⟩ h329
      have hr332' : w330.ownsRow N152 28 4 v331 ((l ++ [(EntT.mk m.client m.req (m.ops) m.opl m.ts)]).length) ((l ++ [(EntT.mk m.client m.req (m.ops) m.opl m.ts)]).flatMap entE) := row_push (y := (EntT.mk m.client m.req (m.ops) m.opl m.ts)) hr332 rfl rfl; clear hr332
      have hz336 := hg333.size
      have hB337 := hb_row hB327 hr323' (by omega) hg333
      have hk338 := hk328.kept hg333 (row_ne_lt hr323' (by omega))
      have hr341 := row_kept_new hr312 hg307
      have hr342 := row_kept_row hr341 hr320 hg324 (by decide)
      have hr343 := row_kept_row hr342 hr323' hg333 (by decide)
      have hr344 := row_kept_new hr314 hg307
      have hr345 := row_kept_row hr344 hr320 hg324 (by decide)
      have hr346 := row_kept_row hr345 hr323' hg333 (by decide)
      have hmo : stOJ tm (l ++ [(EntT.mk m.client m.req (m.ops) m.opl m.ts)]) = stOJ tm l := stOJ_more (m := (EntT.mk m.client m.req m.ops m.opl m.ts)) (by show tm < m.ts; omega)
      refine d1 7 h329 rfl rfl (op_call (args := #[v331, .int .u64 tm]) (R := fun res xw => ∃ (u : Value), res = u ∧ xw.ownsRow w330.heap.size 38 2 u Y37.length (Y37.flatMap valE) ∧ Below w330.heap.size w330 xw) rfl rfl rfl (by kernel_rfl) (by kernel_rfl) (Try.call10 _ _) (jState_any v331 (l ++ [(EntT.mk m.client m.req (m.ops) m.opl m.ts)]) tm w330 (row_sl hr332' entE_len) (fun z hz => by rcases List.mem_append.1 hz with hz | hz; exact (hok z hz).1.below hB337; simp at hz; subst hz; exact hm.below hB337) (ops20J (w := w) (m := (EntT.mk m.client m.req m.ops m.opl m.ts)) hmu (by show m.opl.length ≤ 20; omega)) ht (by rw [hmo]; omega)) (by rintro e x ⟨ys, u, h0, h1, h2, h3, h4⟩; rw [hmo] at h2; rw [SetG.uniq h2 hG] at h1; exact ⟨_, h0, u, rfl, h1, h4⟩)) ?_ ?_; clear h329
      ·
       rintro u347 w340 ⟨_, rfl, hr348, hb349⟩
       have hz350 := hb349.size
       have hB351 := hb_call hB337 hb349
       have hk352 := hk338.below hb349
       exact ⟨hB351, hk352⟩
      rintro u347 w340 a339 ⟨_, rfl, hr348, hb349⟩ h339
      have hz350 := hb349.size
      have hB351 := hb_call hB337 hb349
      have hk352 := hk338.below hb349
      refine dk0 8 (v := u347) h339 rfl rfl ⟨hB351, hk352⟩ fun a353 h353 => ?_; clear h339
      refine dr_done (by kernel_rfl) ?_
      refine co_then ?_
      refine co_seq ?_
      refine co_reg ?_
      refine pk0 (v := u34) h353 rfl fun a354 h354 => ?_; clear h353
      refine pk0 (v := u347) h354 rfl fun a355 h355 => ?_; clear h354
      have hr358 := row_kept_new hr343 (below_grown hb349)
      refine pw h355 rfl (op_call (args := #[u34, u347]) (R := fun res xw => res = .bool true ∧ Below w340.heap.size w340 xw) rfl rfl rfl (by kernel_rfl) (by kernel_rfl) (Try.call12 _ _) (jSame_any u34 Y37 u347 w340 (row_sl hr358 valE_len) (row_sl hr348 valE_len)) (by rintro e x ⟨rfl, hb359⟩; exact ⟨_, rfl, ⟨rfl, hb359⟩⟩)) ?_; clear h355
      rintro _ w357 a356 ⟨rfl, hb359⟩ h356
      have hz360 := hb359.size
      refine pk0 (v := .bool false) h356 rfl fun a361 h361 => ?_; clear h356
      refine pl_nil ?_
      refine co_then ?_
      refine co_false h361 rfl ?_
      refine wp_skip ?_
      refine co_then ?_
      refine co_seq ?_
      refine co_seq ?_
      refine co_reg ?_
      refine pk0 (v := .int .i64 0) h361 rfl fun a362 h362 => ?_; clear h361
      refine pl_nil ?_
      refine co_then ?_
      refine wp_block ?_
      have h363 : Slots 80 [(0, v), (1, .int .u64 tm), (7, u34), (8, u46), (10, .int .i64 0)] _ := h362.sub ⟨rfl, rfl, rfl, rfl, rfl, trivial⟩; clear h362
      refine co_loop (fun mm a x => ∃ (i : Nat), Slots 80 [(0, v), (1, .int .u64 tm), (7, u34), (8, u46), (10, .int .i64 ((i : Nat) : Int))] a ∧ mm = Y37.length - i ∧ (i ≤ Y37.length) ∧ x.ownsRow w12.heap.size 38 2 u34 Y37.length (Y37.flatMap valE) ∧ x.ownsRow w33.heap.size 38 2 u46 Y37.length (Y37.flatMap valE) ∧ Below w.heap.size w x) (Y37.length - 0) ?_ ?_
      have hr364 := row_kept_new hr358 (below_grown hb359)
      have hr365 := row_kept_new hr346 (below_grown hb349)
      have hr366 := row_kept_new hr365 (below_grown hb359)
      have hB367 := hb_call hB351 hb359
      · exact ⟨0, h363.sub ⟨rfl, rfl, rfl, rfl, (slot_eq rfl (congrArg (Value.int .i64) (by first | rfl | omega))), trivial⟩, rfl, by omega, hr364, hr366, hB367⟩
      · rintro k368 a369 w370 ⟨i, h369, rfl, hi371, hf372, hf373, hB374⟩
        have hz375 := hB374.size
        refine co_seq ?_
        refine co_seq ?_
        refine co_reg ?_
        refine pk0 (v := .int .i64 ((i : Nat) : Int)) h369 rfl fun a376 h376 => ?_; clear h369
        refine pk0 (v := u34) h376 rfl fun a377 h377 => ?_; clear h376
        refine pk (v := .int .i64 ((Y37.length : Nat) : Int)) h377 rfl (rn_lenOwn rfl rfl Try.underlying31 hf372) fun a378 h378 => ?_; clear h377
        refine pk0 (v := .bool (decide (((i : Nat) : Int) < ((Y37.length : Nat) : Int)))) h378 rfl fun a379 h379 => ?_; clear h378
        refine pl_nil ?_
        refine co_then ?_
        cases hc380 : (decide (((i : Nat) : Int) < ((Y37.length : Nat) : Int)))
        ·
         rw [hc380] at h379
         have hp381 : ¬ (((i : Nat) : Int) < ((Y37.length : Nat) : Int)) := of_decide_eq_false hc380
         clear hc380
         refine co_false h379 rfl ?_
         refine wp_exit ?_
         refine co_thenX ?_
         refine co_thenX ?_
         refine co_blockX ?_
         refine co_then ?_
         refine co_seq ?_
         refine co_reg ?_
         refine pk0 (v := u34) h379 rfl fun a382 h382 => ?_; clear h379
         refine pk0 (v := u46) h382 rfl fun a383 h383 => ?_; clear h382
         refine pw h383 rfl (op_call (args := #[u34, u46]) (R := fun res xw => res = .bool true ∧ Below w370.heap.size w370 xw) rfl rfl rfl (by kernel_rfl) (by kernel_rfl) (Try.call12 _ _) (jSame_any u34 Y37 u46 w370 (row_sl hf372 valE_len) (row_sl hf373 valE_len)) (by rintro e x ⟨rfl, hb386⟩; exact ⟨_, rfl, ⟨rfl, hb386⟩⟩)) ?_; clear h383
         rintro _ w385 a384 ⟨rfl, hb386⟩ h384
         have hz387 := hb386.size
         refine pk0 (v := .bool true) h384 rfl fun a388 h388 => ?_; clear h384
         have hB391 := hb_call hB374 hb386
         refine pw h388 rfl (op_call (args := #[]) (R := fun res xw => res = .bool true ∧ Below w385.heap.size w385 xw) rfl rfl rfl (by kernel_rfl) (by kernel_rfl) (Try.call9 _ _) (awake38 w385) (by rintro e x ⟨rfl, h⟩; exact ⟨_, rfl, rfl, h⟩)) ?_; clear h388
         rintro _ w390 a389 ⟨rfl, hb392⟩ h389
         have hz393 := hb392.size
         refine pk0 (v := .bool true) h389 rfl fun a394 h394 => ?_; clear h389
         refine pk0 (v := .bool true) h394 rfl fun a395 h395 => ?_; clear h394
         refine pl_nil ?_
         refine co_then ?_
         refine wp_ret ?_
         refine co_ret1 h395 rfl rfl ?_
         have hB396 := hb_call hB391 hb392
         exact ⟨rfl, hB396⟩
        ·
         rw [hc380] at h379
         have hp397 : ((i : Nat) : Int) < ((Y37.length : Nat) : Int) := of_decide_eq_true hc380
         clear hc380
         refine co_true h379 rfl ?_
         refine wp_skip ?_
         refine co_then ?_
         refine co_seq ?_
         refine wp_block ?_
         refine co_seq ?_
         refine co_reg ?_
         refine pk0 (v := v) h379 rfl fun a398 h398 => ?_; clear h379
         refine pk0 (v := u34) h398 rfl fun a399 h399 => ?_; clear h398
         refine pk0 (v := .int .i64 ((i : Nat) : Int)) h399 rfl fun a400 h400 => ?_; clear h399
         obtain ⟨y401, hy401⟩ : ∃ z, Y37[i]? = some z := ⟨_, List.getElem?_eq_getElem (by first | omega | (simp; done) | (simp; omega))⟩
         refine pk (v := pt (blkOf u34) (offOf u34 + i * 2)) h400 rfl (rn_index rfl rfl rfl Try.underlying31 Try.sizeOf38 (row_sl hf372 valE_len) (by omega) (by first | omega | (simp; done) | (simp; omega))) fun a402 h402 => ?_; clear h400
         refine pk0 (v := pt (blkOf u34) (offOf u34 + i * 2)) h402 rfl fun a403 h403 => ?_; clear h402
         refine pk (v := .string y401.1) h403 rfl (rn_load1 rfl rfl Try.isAgg9 ((sl_at (row_sl hf372 valE_len) hy401) 0 _ rfl)) fun a404 h404 => ?_; clear h403
         refine pk0 (v := .agg #[.int .i64 1, .int .i64 0, .string y401.1, .string (⟨#[]⟩), .int .u64 0, .int .i64 0, .slice none 0 0]) h404 rfl fun a405 h405 => ?_; clear h404
         refine pk0 (v := .int .u64 tm) h405 rfl fun a406 h406 => ?_; clear h405
         obtain ⟨Z9, hZ9⟩ : ∃ Z : List ValT, Z = [y401] := ⟨_, rfl⟩
         have hZl : Z9.length = 1 := by rw [hZ9]; rfl
         refine pw h406 rfl (op_call (args := #[v, .agg #[.int .i64 1, .int .i64 0, .string y401.1, .string (⟨#[]⟩), .int .u64 0, .int .i64 0, .slice none 0 0], .int .u64 tm]) (R := fun res xw => ∃ (u : Value), res = u ∧ xw.ownsRow w370.heap.size 38 2 u Z9.length (Z9.flatMap valE) ∧ Below w370.heap.size w370 xw) rfl rfl rfl (by kernel_rfl) (by kernel_rfl) (Try.call11 _ _) (jRowsG v l tm y401.1 w370 (hs.below hB374) (fun z hz => (hok z hz).1.below hB374) (much_opsJ hmu) ht (by omega)) (by rintro e x ⟨ys, u, h0, h1, h2, h4⟩; rw [SetG.uniq h2 hG, fstK_one hG.1 hy401, ← hZ9] at h1; exact ⟨_, h0, u, rfl, h1, h4⟩)) ?_; clear h406
         rintro u409 w408 a407 ⟨_, rfl, hr410, hb411⟩ h407
         have hz412 := hb411.size
         refine pk0 (v := u409) h407 rfl fun a413 h413 => ?_; clear h407
         refine pl_nil ?_
         refine co_then ?_
         refine co_seq ?_
         refine dr_eq (by kernel_rfl) (fun w414 hg415 => ?_)
         have hz416 := hg415.size
         refine dk0 0 (v := u409) h413 rfl rfl rfl fun a417 h417 => ?_; clear h413
         have hr418 := row_kept_new hr410 hg415
         refine dk 1 (v := .int .i64 ((Z9.length : Nat) : Int)) h417 rfl rfl rfl (fun x hx => by subst hx; exact (rn_lenOwn rfl rfl Try.underlying31 hr418)) fun a419 h419 => ?_; clear h417
         refine dk0 2 (v := .bool (((Z9.length : Nat) : Int) != 1)) h419 rfl rfl rfl fun a420 h420 => ?_; clear h419
         refine dk0 3 (v := .bool (((Z9.length : Nat) : Int) != 1)) h420 rfl rfl rfl fun a421 h421 => ?_; clear h420
         have hc422 : (((Z9.length : Nat) : Int) != 1) = false := by first | (simp; done) | (simp; omega) | exact beq_false_of_ne (by omega) | exact beq_iff_eq.2 (by omega)
         rw [hc422] at h421; clear hc422
         refine dk0 4 (v := u409) h421 rfl rfl rfl fun a423 h423 => ?_; clear h421
         obtain ⟨y424, hy424⟩ : ∃ z, Z9[0]? = some z := ⟨_, List.getElem?_eq_getElem (by first | omega | (simp; done) | (simp; omega))⟩
         refine dk 5 (v := pt (blkOf u409) (offOf u409 + 0 * 2)) h423 rfl rfl rfl (fun x hx => by subst hx; exact (rn_index rfl rfl rfl Try.underlying31 Try.sizeOf38 (row_sl hr418 valE_len) (by omega) (by first | omega | (simp; done) | (simp; omega)))) fun a425 h425 => ?_; clear h423
         refine dk 6 (v := .agg #[.string y424.1, .string y424.2]) h425 rfl rfl rfl (fun x hx => by subst hx; exact (rn_loadN rfl rfl Try.underlying38 rfl (by kernel_rfl) (sl_at (row_sl hr418 valE_len) hy424))) fun a426 h426 => ?_; clear h425
         refine dk0 7 (v := u34) h426 rfl rfl rfl fun a427 h427 => ?_; clear h426
         refine dk0 8 (v := .int .i64 ((i : Nat) : Int)) h427 rfl rfl rfl fun a428 h428 => ?_; clear h427
         have hr429 := row_kept_new hf372 (below_grown hb411)
         have hr430 := row_kept_new hr429 hg415
         refine dk 9 (v := pt (blkOf u34) (offOf u34 + i * 2)) h428 rfl rfl rfl (fun x hx => by subst hx; exact (rn_index rfl rfl rfl Try.underlying31 Try.sizeOf38 (row_sl hr430 valE_len) (by omega) (by first | omega | (simp; done) | (simp; omega)))) fun a431 h431 => ?_; clear h428
         refine dk 10 (v := .agg #[.string y401.1, .string y401.2]) h431 rfl rfl rfl (fun x hx => by subst hx; exact (rn_loadN rfl rfl Try.underlying38 rfl (by kernel_rfl) (sl_at (row_sl hr430 valE_len) hy401))) fun a432 h432 => ?_; clear h431
         refine dk 11 (v := .bool (!(y424.1.toList == y401.1.toList && y424.2.toList == y401.2.toList))) h432 rfl rfl rfl (fun x hx => by subst hx; exact (rn_neS rfl rfl rfl Try.eqGuardType38 (eq_prJ _ _ _ _ _))) fun a433 h433 => ?_; clear h432
         refine dk0 12 (v := .bool (!(y424.1.toList == y401.1.toList && y424.2.toList == y401.2.toList))) h433 rfl rfl rfl fun a434 h434 => ?_; clear h433
         refine dr_done (by kernel_rfl) ?_
         refine co_then ?_
         have hc435 : (!(y424.1.toList == y401.1.toList && y424.2.toList == y401.2.toList)) = false := by rw [one_at hZ9 hy424]; simp
         rw [hc435] at h434; clear hc435
         refine co_false h434 rfl ?_
         refine wp_skip ?_
         refine co_blockN ?_
         refine co_then ?_
         refine co_reg ?_
         refine pk0 (v := .int .i64 ((i : Nat) : Int)) h434 rfl fun a436 h436 => ?_; clear h434
         refine pk (v := .int .i64 ((i + 1 : Nat) : Int)) h436 rfl (rn_arith' rfl rfl rfl rfl rfl rfl (IntWalk.i64_in _ (by omega)) (by omega)) fun a437 h437 => ?_; clear h436
         refine pk0 (v := .int .i64 ((i + 1 : Nat) : Int)) h437 rfl fun a438 h438 => ?_; clear h437
         refine pl_nil ?_
         refine co_then ?_
         refine ⟨(Y37.length - (i + 1)), by omega, ?_⟩
         have hr439 := row_kept_new hf373 (below_grown hb411)
         have hr440 := row_kept_new hr439 hg415
         have hB441 := hb_call hB374 hb411
         have hB442 := hb_new hB441 hg415
         exact ⟨i + 1, h438.sub ⟨rfl, rfl, rfl, rfl, rfl, trivial⟩, rfl, by omega, hr430, hr440, hB442⟩
    ·
     refine dr_op (i := 4) h149 rfl rfl rfl rfl (op_new (v := fun N => .slice (some ⟨N, 0, none⟩) 1 1) (T := 28) (cs := #[.int .i64 m.client, .int .i64 m.req, m.ops, .int .u64 m.ts]) (by kernel_rfl) (by kernel_rfl) (by kernel_rfl)) ?_ ?_; clear h149
     ·
      rintro _ w444 ⟨N445, rfl, hN448, hz449, hk447, hg446⟩
      have hr451 := row_kept_new hr35 (below_grown hb48)
      have hr452 := row_kept_new hr451 hg140
      have ha450 := row_fresh hr452 hN448
      have hr454 := row_kept_new hr47 hg140
      have ha453 := row_fresh hr454 hN448
      have hz455 := hg446.size
      have hB456 := hb_new hB145 hg446
      have hk457 := hk146.kept hg446 (by simp)
      exact ⟨hB456, hk457⟩
     rintro _ w444 a443 ⟨N445, rfl, hN448, hz449, hk447, hg446⟩ h443
     have hr451 := row_kept_new hr35 (below_grown hb48)
     have hr452 := row_kept_new hr451 hg140
     have ha450 := row_fresh hr452 hN448
     have hr454 := row_kept_new hr47 hg140
     have ha453 := row_fresh hr454 hN448
     have hz455 := hg446.size
     try dsimp only at h443
     have hB456 := hb_new hB145 hg446
     have hk457 := hk146.kept hg446 (by simp)
     refine d1 0 h443 rfl rfl (op_new (v := fun N => .slice (some ⟨N, 0, none⟩) 0 0) (T := 28) (cs := #[]) (by kernel_rfl) (by kernel_rfl) (by kernel_rfl)) ?_ ?_; clear h443
     ·
      rintro _ w459 ⟨N460, rfl, hN463, hz464, hk462, hg461⟩
      have hr466 := row_kept_new hr452 hg446
      have ha465 := row_fresh hr466 hN463
      have hr468 := row_kept_new hr454 hg446
      have ha467 := row_fresh hr468 hN463
      have hz469 := hg461.size
      have hB470 := hb_new hB456 hg461
      have hk471 := hk457.kept hg461 (by simp)
      exact ⟨hB470, hk471⟩
     rintro _ w459 a458 ⟨N460, rfl, hN463, hz464, hk462, hg461⟩ h458
     have hr466 := row_kept_new hr452 hg446
     have ha465 := row_fresh hr466 hN463
     have hr468 := row_kept_new hr454 hg446
     have ha467 := row_fresh hr468 hN463
     have hz469 := hg461.size
     try dsimp only at h458
     have hB470 := hb_new hB456 hg461
     have hk471 := hk457.kept hg461 (by simp)
     have hr474 := row_of_blkL hk462 (Nat.le_refl _) 4 entE
     refine d1 2 h458 rfl rfl (op_appendSrc rfl N460 28 (z := .agg #[.int .i64 0, .int .i64 0, .slice none 0 0, .int .u64 0]) (size := 4) (bytes := 48) Try.underlying22 (by kernel_rfl) rfl rfl rfl hr474 rfl (hs.below hB470) (fun y hy => ⟨entE_len y, entE_oneJ (hok y hy).1⟩) (by first | omega | (simp only [List.length_nil, List.length_append, List.length_cons, List.length_take, List.length_drop]; omega)) (by first | omega | (simp only [List.length_nil, List.length_append, List.length_cons, List.length_take, List.length_drop]; omega)) (by omega)) ?_ ?_; clear h458
     ·
      rintro v475 w473 ⟨hr476, hg477⟩
      have hr476' : w473.ownsRow N460 28 4 v475 l.length (l.flatMap entE) := row_app (l := []) hr476; clear hr476
      have hz479 := hg477.size
      have hB480 := hb_row hB470 hr474 (by omega) hg477
      have hk481 := hk471.kept hg477 (by simp [Value.ownBlock]; omega)
      exact ⟨hB480, hk481⟩
     rintro v475 w473 a472 ⟨hr476, hg477⟩ h472
     have hr476' : w473.ownsRow N460 28 4 v475 l.length (l.flatMap entE) := row_app (l := []) hr476; clear hr476
     have hz479 := hg477.size
     have hB480 := hb_row hB470 hr474 (by omega) hg477
     have hk481 := hk471.kept hg477 (by simp [Value.ownBlock]; omega)
     have hk488 := hk447.kept hg461 (by simp)
     have hk489 := hk488.kept hg477 (by simp [Value.ownBlock]; omega)
     refine d1 5 h472 rfl rfl (op_append rfl N460 28 (z := .agg #[.int .i64 0, .int .i64 0, .slice none 0 0, .int .u64 0]) (size := 4) (bytes := 48) Try.underlying22 (by kernel_rfl) rfl rfl rfl hr476' rfl hk489 rfl (all_cons rfl (all_cons rfl (all_cons (sl_one (hms.below hB480)) (all_cons rfl all_nil)))) (by first | omega | (simp only [List.length_nil, List.length_append, List.length_cons, List.length_take, List.length_drop]; omega)) (by first | omega | (simp only [List.length_nil, List.length_append, List.length_cons, List.length_take, List.length_drop]; omega)) (by omega)) ?_ ?_; clear h472
     ·
      rintro v484 w483 ⟨hr485, hg486⟩
      have hr485' : w483.ownsRow N460 28 4 v484 ((l ++ [(EntT.mk m.client m.req (m.ops) m.opl m.ts)]).length) ((l ++ [(EntT.mk m.client m.req (m.ops) m.opl m.ts)]).flatMap entE) := row_push (y := (EntT.mk m.client m.req (m.ops) m.opl m.ts)) hr485 rfl rfl; clear hr485
      have hz490 := hg486.size
      have hB491 := hb_row hB480 hr476' (by omega) hg486
      have hk492 := hk481.kept hg486 (row_ne_lt hr476' (by omega))
      exact ⟨hB491, hk492⟩
     rintro v484 w483 a482 ⟨hr485, hg486⟩ h482
     have hr485' : w483.ownsRow N460 28 4 v484 ((l ++ [(EntT.mk m.client m.req (m.ops) m.opl m.ts)]).length) ((l ++ [(EntT.mk m.client m.req (m.ops) m.opl m.ts)]).flatMap entE) := row_push (y := (EntT.mk m.client m.req (m.ops) m.opl m.ts)) hr485 rfl rfl; clear hr485
     have hz490 := hg486.size
     have hB491 := hb_row hB480 hr476' (by omega) hg486
     have hk492 := hk481.kept hg486 (row_ne_lt hr476' (by omega))
     have hr495 := row_kept_new hr466 hg461
     have hr496 := row_kept_row hr495 hr474 hg477 (by decide)
     have hr497 := row_kept_row hr496 hr476' hg486 (by decide)
     have hr498 := row_kept_new hr468 hg461
     have hr499 := row_kept_row hr498 hr474 hg477 (by decide)
     have hr500 := row_kept_row hr499 hr476' hg486 (by decide)
     have hmo : stOJ tm (l ++ [(EntT.mk m.client m.req (m.ops) m.opl m.ts)]) = stOJ tm l := stOJ_more (m := (EntT.mk m.client m.req m.ops m.opl m.ts)) (by show tm < m.ts; omega)
     refine d1 7 h482 rfl rfl (op_call (args := #[v484, .int .u64 tm]) (R := fun res xw => ∃ (u : Value), res = u ∧ xw.ownsRow w483.heap.size 38 2 u Y37.length (Y37.flatMap valE) ∧ Below w483.heap.size w483 xw) rfl rfl rfl (by kernel_rfl) (by kernel_rfl) (Try.call10 _ _) (jState_any v484 (l ++ [(EntT.mk m.client m.req (m.ops) m.opl m.ts)]) tm w483 (row_sl hr485' entE_len) (fun z hz => by rcases List.mem_append.1 hz with hz | hz; exact (hok z hz).1.below hB491; simp at hz; subst hz; exact hm.below hB491) (ops20J (w := w) (m := (EntT.mk m.client m.req m.ops m.opl m.ts)) hmu (by show m.opl.length ≤ 20; omega)) ht (by rw [hmo]; omega)) (by rintro e x ⟨ys, u, h0, h1, h2, h3, h4⟩; rw [hmo] at h2; rw [SetG.uniq h2 hG] at h1; exact ⟨_, h0, u, rfl, h1, h4⟩)) ?_ ?_; clear h482
     ·
      rintro u501 w494 ⟨_, rfl, hr502, hb503⟩
      have hz504 := hb503.size
      have hB505 := hb_call hB491 hb503
      have hk506 := hk492.below hb503
      exact ⟨hB505, hk506⟩
     rintro u501 w494 a493 ⟨_, rfl, hr502, hb503⟩ h493
     have hz504 := hb503.size
     have hB505 := hb_call hB491 hb503
     have hk506 := hk492.below hb503
     refine dk0 8 (v := u501) h493 rfl rfl ⟨hB505, hk506⟩ fun a507 h507 => ?_; clear h493
     refine dr_done (by kernel_rfl) ?_
     refine co_then ?_
     refine co_seq ?_
     refine co_reg ?_
     refine pk0 (v := u34) h507 rfl fun a508 h508 => ?_; clear h507
     refine pk0 (v := u501) h508 rfl fun a509 h509 => ?_; clear h508
     have hr512 := row_kept_new hr497 (below_grown hb503)
     refine pw h509 rfl (op_call (args := #[u34, u501]) (R := fun res xw => res = .bool true ∧ Below w494.heap.size w494 xw) rfl rfl rfl (by kernel_rfl) (by kernel_rfl) (Try.call12 _ _) (jSame_any u34 Y37 u501 w494 (row_sl hr512 valE_len) (row_sl hr502 valE_len)) (by rintro e x ⟨rfl, hb513⟩; exact ⟨_, rfl, ⟨rfl, hb513⟩⟩)) ?_; clear h509
     rintro _ w511 a510 ⟨rfl, hb513⟩ h510
     have hz514 := hb513.size
     refine pk0 (v := .bool false) h510 rfl fun a515 h515 => ?_; clear h510
     refine pl_nil ?_
     refine co_then ?_
     refine co_false h515 rfl ?_
     refine wp_skip ?_
     refine co_then ?_
     refine co_seq ?_
     refine co_seq ?_
     refine co_reg ?_
     refine pk0 (v := .int .i64 0) h515 rfl fun a516 h516 => ?_; clear h515
     refine pl_nil ?_
     refine co_then ?_
     refine wp_block ?_
     have h517 : Slots 80 [(0, v), (1, .int .u64 tm), (7, u34), (8, u46), (10, .int .i64 0)] _ := h516.sub ⟨rfl, rfl, rfl, rfl, rfl, trivial⟩; clear h516
     refine co_loop (fun mm a x => ∃ (i : Nat), Slots 80 [(0, v), (1, .int .u64 tm), (7, u34), (8, u46), (10, .int .i64 ((i : Nat) : Int))] a ∧ mm = Y37.length - i ∧ (i ≤ Y37.length) ∧ x.ownsRow w12.heap.size 38 2 u34 Y37.length (Y37.flatMap valE) ∧ x.ownsRow w33.heap.size 38 2 u46 Y37.length (Y37.flatMap valE) ∧ Below w.heap.size w x) (Y37.length - 0) ?_ ?_
     have hr518 := row_kept_new hr512 (below_grown hb513)
     have hr519 := row_kept_new hr500 (below_grown hb503)
     have hr520 := row_kept_new hr519 (below_grown hb513)
     have hB521 := hb_call hB505 hb513
     · exact ⟨0, h517.sub ⟨rfl, rfl, rfl, rfl, (slot_eq rfl (congrArg (Value.int .i64) (by first | rfl | omega))), trivial⟩, rfl, by omega, hr518, hr520, hB521⟩
     · rintro k522 a523 w524 ⟨i, h523, rfl, hi525, hf526, hf527, hB528⟩
       have hz529 := hB528.size
       refine co_seq ?_
       refine co_seq ?_
       refine co_reg ?_
       refine pk0 (v := .int .i64 ((i : Nat) : Int)) h523 rfl fun a530 h530 => ?_; clear h523
       refine pk0 (v := u34) h530 rfl fun a531 h531 => ?_; clear h530
       refine pk (v := .int .i64 ((Y37.length : Nat) : Int)) h531 rfl (rn_lenOwn rfl rfl Try.underlying31 hf526) fun a532 h532 => ?_; clear h531
       refine pk0 (v := .bool (decide (((i : Nat) : Int) < ((Y37.length : Nat) : Int)))) h532 rfl fun a533 h533 => ?_; clear h532
       refine pl_nil ?_
       refine co_then ?_
       cases hc534 : (decide (((i : Nat) : Int) < ((Y37.length : Nat) : Int)))
       ·
        rw [hc534] at h533
        have hp535 : ¬ (((i : Nat) : Int) < ((Y37.length : Nat) : Int)) := of_decide_eq_false hc534
        clear hc534
        refine co_false h533 rfl ?_
        refine wp_exit ?_
        refine co_thenX ?_
        refine co_thenX ?_
        refine co_blockX ?_
        refine co_then ?_
        refine co_seq ?_
        refine co_reg ?_
        refine pk0 (v := u34) h533 rfl fun a536 h536 => ?_; clear h533
        refine pk0 (v := u46) h536 rfl fun a537 h537 => ?_; clear h536
        refine pw h537 rfl (op_call (args := #[u34, u46]) (R := fun res xw => res = .bool true ∧ Below w524.heap.size w524 xw) rfl rfl rfl (by kernel_rfl) (by kernel_rfl) (Try.call12 _ _) (jSame_any u34 Y37 u46 w524 (row_sl hf526 valE_len) (row_sl hf527 valE_len)) (by rintro e x ⟨rfl, hb540⟩; exact ⟨_, rfl, ⟨rfl, hb540⟩⟩)) ?_; clear h537
        rintro _ w539 a538 ⟨rfl, hb540⟩ h538
        have hz541 := hb540.size
        refine pk0 (v := .bool true) h538 rfl fun a542 h542 => ?_; clear h538
        have hB545 := hb_call hB528 hb540
        refine pw h542 rfl (op_call (args := #[]) (R := fun res xw => res = .bool true ∧ Below w539.heap.size w539 xw) rfl rfl rfl (by kernel_rfl) (by kernel_rfl) (Try.call9 _ _) (awake38 w539) (by rintro e x ⟨rfl, h⟩; exact ⟨_, rfl, rfl, h⟩)) ?_; clear h542
        rintro _ w544 a543 ⟨rfl, hb546⟩ h543
        have hz547 := hb546.size
        refine pk0 (v := .bool true) h543 rfl fun a548 h548 => ?_; clear h543
        refine pk0 (v := .bool true) h548 rfl fun a549 h549 => ?_; clear h548
        refine pl_nil ?_
        refine co_then ?_
        refine wp_ret ?_
        refine co_ret1 h549 rfl rfl ?_
        have hB550 := hb_call hB545 hb546
        exact ⟨rfl, hB550⟩
       ·
        rw [hc534] at h533
        have hp551 : ((i : Nat) : Int) < ((Y37.length : Nat) : Int) := of_decide_eq_true hc534
        clear hc534
        refine co_true h533 rfl ?_
        refine wp_skip ?_
        refine co_then ?_
        refine co_seq ?_
        refine wp_block ?_
        refine co_seq ?_
        refine co_reg ?_
        refine pk0 (v := v) h533 rfl fun a552 h552 => ?_; clear h533
        refine pk0 (v := u34) h552 rfl fun a553 h553 => ?_; clear h552
        refine pk0 (v := .int .i64 ((i : Nat) : Int)) h553 rfl fun a554 h554 => ?_; clear h553
        obtain ⟨y555, hy555⟩ : ∃ z, Y37[i]? = some z := ⟨_, List.getElem?_eq_getElem (by first | omega | (simp; done) | (simp; omega))⟩
        refine pk (v := pt (blkOf u34) (offOf u34 + i * 2)) h554 rfl (rn_index rfl rfl rfl Try.underlying31 Try.sizeOf38 (row_sl hf526 valE_len) (by omega) (by first | omega | (simp; done) | (simp; omega))) fun a556 h556 => ?_; clear h554
        refine pk0 (v := pt (blkOf u34) (offOf u34 + i * 2)) h556 rfl fun a557 h557 => ?_; clear h556
        refine pk (v := .string y555.1) h557 rfl (rn_load1 rfl rfl Try.isAgg9 ((sl_at (row_sl hf526 valE_len) hy555) 0 _ rfl)) fun a558 h558 => ?_; clear h557
        refine pk0 (v := .agg #[.int .i64 1, .int .i64 0, .string y555.1, .string (⟨#[]⟩), .int .u64 0, .int .i64 0, .slice none 0 0]) h558 rfl fun a559 h559 => ?_; clear h558
        refine pk0 (v := .int .u64 tm) h559 rfl fun a560 h560 => ?_; clear h559
        obtain ⟨Z9, hZ9⟩ : ∃ Z : List ValT, Z = [y555] := ⟨_, rfl⟩
        have hZl : Z9.length = 1 := by rw [hZ9]; rfl
        refine pw h560 rfl (op_call (args := #[v, .agg #[.int .i64 1, .int .i64 0, .string y555.1, .string (⟨#[]⟩), .int .u64 0, .int .i64 0, .slice none 0 0], .int .u64 tm]) (R := fun res xw => ∃ (u : Value), res = u ∧ xw.ownsRow w524.heap.size 38 2 u Z9.length (Z9.flatMap valE) ∧ Below w524.heap.size w524 xw) rfl rfl rfl (by kernel_rfl) (by kernel_rfl) (Try.call11 _ _) (jRowsG v l tm y555.1 w524 (hs.below hB528) (fun z hz => (hok z hz).1.below hB528) (much_opsJ hmu) ht (by omega)) (by rintro e x ⟨ys, u, h0, h1, h2, h4⟩; rw [SetG.uniq h2 hG, fstK_one hG.1 hy555, ← hZ9] at h1; exact ⟨_, h0, u, rfl, h1, h4⟩)) ?_; clear h560
        rintro u563 w562 a561 ⟨_, rfl, hr564, hb565⟩ h561
        have hz566 := hb565.size
        refine pk0 (v := u563) h561 rfl fun a567 h567 => ?_; clear h561
        refine pl_nil ?_
        refine co_then ?_
        refine co_seq ?_
        refine dr_eq (by kernel_rfl) (fun w568 hg569 => ?_)
        have hz570 := hg569.size
        refine dk0 0 (v := u563) h567 rfl rfl rfl fun a571 h571 => ?_; clear h567
        have hr572 := row_kept_new hr564 hg569
        refine dk 1 (v := .int .i64 ((Z9.length : Nat) : Int)) h571 rfl rfl rfl (fun x hx => by subst hx; exact (rn_lenOwn rfl rfl Try.underlying31 hr572)) fun a573 h573 => ?_; clear h571
        refine dk0 2 (v := .bool (((Z9.length : Nat) : Int) != 1)) h573 rfl rfl rfl fun a574 h574 => ?_; clear h573
        refine dk0 3 (v := .bool (((Z9.length : Nat) : Int) != 1)) h574 rfl rfl rfl fun a575 h575 => ?_; clear h574
        have hc576 : (((Z9.length : Nat) : Int) != 1) = false := by first | (simp; done) | (simp; omega) | exact beq_false_of_ne (by omega) | exact beq_iff_eq.2 (by omega)
        rw [hc576] at h575; clear hc576
        refine dk0 4 (v := u563) h575 rfl rfl rfl fun a577 h577 => ?_; clear h575
        obtain ⟨y578, hy578⟩ : ∃ z, Z9[0]? = some z := ⟨_, List.getElem?_eq_getElem (by first | omega | (simp; done) | (simp; omega))⟩
        refine dk 5 (v := pt (blkOf u563) (offOf u563 + 0 * 2)) h577 rfl rfl rfl (fun x hx => by subst hx; exact (rn_index rfl rfl rfl Try.underlying31 Try.sizeOf38 (row_sl hr572 valE_len) (by omega) (by first | omega | (simp; done) | (simp; omega)))) fun a579 h579 => ?_; clear h577
        refine dk 6 (v := .agg #[.string y578.1, .string y578.2]) h579 rfl rfl rfl (fun x hx => by subst hx; exact (rn_loadN rfl rfl Try.underlying38 rfl (by kernel_rfl) (sl_at (row_sl hr572 valE_len) hy578))) fun a580 h580 => ?_; clear h579
        refine dk0 7 (v := u34) h580 rfl rfl rfl fun a581 h581 => ?_; clear h580
        refine dk0 8 (v := .int .i64 ((i : Nat) : Int)) h581 rfl rfl rfl fun a582 h582 => ?_; clear h581
        have hr583 := row_kept_new hf526 (below_grown hb565)
        have hr584 := row_kept_new hr583 hg569
        refine dk 9 (v := pt (blkOf u34) (offOf u34 + i * 2)) h582 rfl rfl rfl (fun x hx => by subst hx; exact (rn_index rfl rfl rfl Try.underlying31 Try.sizeOf38 (row_sl hr584 valE_len) (by omega) (by first | omega | (simp; done) | (simp; omega)))) fun a585 h585 => ?_; clear h582
        refine dk 10 (v := .agg #[.string y555.1, .string y555.2]) h585 rfl rfl rfl (fun x hx => by subst hx; exact (rn_loadN rfl rfl Try.underlying38 rfl (by kernel_rfl) (sl_at (row_sl hr584 valE_len) hy555))) fun a586 h586 => ?_; clear h585
        refine dk 11 (v := .bool (!(y578.1.toList == y555.1.toList && y578.2.toList == y555.2.toList))) h586 rfl rfl rfl (fun x hx => by subst hx; exact (rn_neS rfl rfl rfl Try.eqGuardType38 (eq_prJ _ _ _ _ _))) fun a587 h587 => ?_; clear h586
        refine dk0 12 (v := .bool (!(y578.1.toList == y555.1.toList && y578.2.toList == y555.2.toList))) h587 rfl rfl rfl fun a588 h588 => ?_; clear h587
        refine dr_done (by kernel_rfl) ?_
        refine co_then ?_
        have hc589 : (!(y578.1.toList == y555.1.toList && y578.2.toList == y555.2.toList)) = false := by rw [one_at hZ9 hy578]; simp
        rw [hc589] at h588; clear hc589
        refine co_false h588 rfl ?_
        refine wp_skip ?_
        refine co_blockN ?_
        refine co_then ?_
        refine co_reg ?_
        refine pk0 (v := .int .i64 ((i : Nat) : Int)) h588 rfl fun a590 h590 => ?_; clear h588
        refine pk (v := .int .i64 ((i + 1 : Nat) : Int)) h590 rfl (rn_arith' rfl rfl rfl rfl rfl rfl (IntWalk.i64_in _ (by omega)) (by omega)) fun a591 h591 => ?_; clear h590
        refine pk0 (v := .int .i64 ((i + 1 : Nat) : Int)) h591 rfl fun a592 h592 => ?_; clear h591
        refine pl_nil ?_
        refine co_then ?_
        refine ⟨(Y37.length - (i + 1)), by omega, ?_⟩
        have hr593 := row_kept_new hf527 (below_grown hb565)
        have hr594 := row_kept_new hr593 hg569
        have hB595 := hb_call hB528 hb565
        have hB596 := hb_new hB595 hg569
        exact ⟨i + 1, h592.sub ⟨rfl, rfl, rfl, rfl, rfl, trivial⟩, rfl, by omega, hr584, hr594, hB596⟩
  ·
   rw [hc28] at h27
   have hp597 : ((m.opl.length : Nat) : Int) > 20 := of_decide_eq_true hc28
   clear hc28
   refine co_true h27 rfl ?_
   refine co_seq ?_
   refine co_reg ?_
   refine pw h27 rfl (op_call (args := #[]) (R := fun res xw => res = .bool true ∧ Below w12.heap.size w12 xw) rfl rfl rfl (by kernel_rfl) (by kernel_rfl) (Try.call9 _ _) (awake38 w12) (by rintro e x ⟨rfl, h⟩; exact ⟨_, rfl, rfl, h⟩)) ?_; clear h27
   rintro _ w599 a598 ⟨rfl, hb600⟩ h598
   have hz601 := hb600.size
   refine pk0 (v := .bool true) h598 rfl fun a602 h602 => ?_; clear h598
   refine pl_nil ?_
   refine co_then ?_
   refine wp_ret ?_
   refine co_thenR ?_
   refine co_ret1 h602 rfl rfl ?_
   have hB603 := hb_call hB19 hb600
   exact ⟨rfl, hB603⟩
 ·
  rw [hc18] at h17
  have hp604 : muchN l > 100 := of_decide_eq_true hc18
  clear hc18
  refine psk h17 rfl fun a605 h605 => ?_; clear h17
  refine psk h605 rfl fun a606 h606 => ?_; clear h605
  refine psk h606 rfl fun a607 h607 => ?_; clear h606
  refine psk h607 rfl fun a608 h608 => ?_; clear h607
  refine psk h608 rfl fun a609 h609 => ?_; clear h608
  refine pk0 (v := .bool true) h609 rfl fun a610 h610 => ?_; clear h609
  refine pl_nil ?_
  refine co_then ?_
  refine co_true h610 rfl ?_
  refine co_seq ?_
  refine co_reg ?_
  refine pw h610 rfl (op_call (args := #[]) (R := fun res xw => res = .bool true ∧ Below w12.heap.size w12 xw) rfl rfl rfl (by kernel_rfl) (by kernel_rfl) (Try.call9 _ _) (awake38 w12) (by rintro e x ⟨rfl, h⟩; exact ⟨_, rfl, rfl, h⟩)) ?_; clear h610
  rintro _ w612 a611 ⟨rfl, hb613⟩ h611
  have hz614 := hb613.size
  refine pk0 (v := .bool true) h611 rfl fun a615 h615 => ?_; clear h611
  refine pl_nil ?_
  refine co_then ?_
  refine wp_ret ?_
  refine co_thenR ?_
  refine co_ret1 h615 rfl rfl ?_
  have hB616 := hb_call hB19 hb613
  exact ⟨rfl, hB616⟩

def entVJ (e : EntT) : Value := .agg #[.int .i64 e.client, .int .i64 e.req, e.ops, .int .u64 e.ts]
set_option maxRecDepth 100000 in
open Go.ChangeShapes Go.WideShapes Go.Deep in
theorem open_entJ {H : Type} {enc : TypeId × Value → H} {w W0 : World} {base b0 : Nat} {spare : Nat → Bool} {held : Bool} {r : Reach} {v : Value} {n : Nat} {x : DataW H × List MemPlace}
    (hv : Value.okWide Try.prog w r b0 28 v) (h : DataW.trod enc Try.prog W0 base spare held n 28 v.cells.toList = some x) :
    ∃ e : EntT, v = entVJ e ∧ EntOk W0 e := by
  obtain ⟨cs, rfl, hsz⟩ := okWide_struct Try.underlying28 hv
  obtain ⟨e, he, hok⟩ := elem_ent _ _ _ h
  refine ⟨e, ?_, hok⟩
  obtain ⟨cl⟩ := cs
  have he' : cl = entE e := he
  subst he'; rfl
theorem judgeState_l (v : Value) (l : List EntT) (tm : Int) (m : EntT) (w : World) (hs : SliceOf entE 4 w v l) (g : (∀ z ∈ l, EntOkS w z) ∧ l.length ≤ 2932031007403) (h : (Lit.int .u64 tm).wf = true) (hm : EntOk w m) :
    Calls Try.prog 3 #[v, .int .u64 tm, .agg #[.int .i64 m.client, .int .i64 m.req, m.ops, .int .u64 m.ts]] w fun e w' => e = .returned (.bool true) ∧ Below w.heap.size w w' := judgeState_any v l tm m w hs g.1 g.2 (wf_u64 h) hm.ops hm

end Go.Proofs.Ytdgboikkgeioeaa
