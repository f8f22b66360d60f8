/- Package tree: how a tree lies; deep, measure. Conditions: depths of at most 1000000. -/
import Derived.Test.YtfjhlckklgeokaaGo
import Derived.Test.YtfjhlckklgeokaaPexV
namespace Go.Proofs.Ytfjhlckklgeokaa
open Go.RowKit Go.PlainAid
set_option linter.unusedVariables false
set_option linter.unusedSimpArgs false


/-- A slice as a value. -/
structure SlT where
  a : Option Addr
  n : Nat
  c : Nat
deriving Inhabited
/-- A tree as it lies: each node with its block. -/
inductive Tm where
  | nil
  | nd (b : Nat) (l : Tm) (k : ByteArray) (v : SlT) (d : Int) (r : Tm)
deriving Inhabited
def ptT : Tm → Value
  | .nil => .pointer none
  | .nd b _ _ _ _ _ => pt b 0
def bk : Tm → List Nat
  | .nil => []
  | .nd b l _ _ _ r => b :: (bk l ++ bk r)
def dp : Tm → Int
  | .nil => 0
  | .nd _ _ _ _ d _ => d
def ndV (k : ByteArray) (v : SlT) (d : Int) (l r : Tm) : Array Value := #[.string k, .slice v.a v.n v.c, .int .i64 d, ptT l, ptT r]
def TreeAt (w : World) : Tm → Prop
  | .nil => True
  | .nd b l k v d r => Blk w b 89 (ndV k v d l r) ∧ TreeAt w l ∧ TreeAt w r
def mx (a b : Int) : Int := if a < b then b else a
theorem ptT_one (t : Tm) : (ptT t).oneCell' = true := by cases t <;> rfl
theorem ndV_one (k : ByteArray) (v : SlT) (d : Int) (l r : Tm) : (ndV k v d l r).all (·.oneCell') = true := by simp [ndV, ptT_one]; exact ⟨rfl, rfl, rfl⟩
section
variable {w x : World} {t l r : Tm} {b k0 : Nat} {k : ByteArray} {v : SlT} {d : Int} {S : Nat → Prop}
theorem TreeAt.lt : ∀ {t : Tm}, TreeAt w t → ∀ q ∈ bk t, q < w.heap.size
  | .nil, _, q, hq => by simp [bk] at hq
  | .nd b l k v d r, h, q, hq => by
    simp only [bk, List.mem_cons, List.mem_append] at hq
    rcases hq with rfl | hq | hq
    · exact h.1.lt
    · exact TreeAt.lt h.2.1 q hq
    · exact TreeAt.lt h.2.2 q hq
theorem TreeAt.keep : ∀ {t : Tm}, TreeAt w t → (∀ q ∈ bk t, x.heap[q]? = w.heap[q]?) → TreeAt x t
  | .nil, _, _ => trivial
  | .nd b l k v d r, h, hk => by
    simp only [bk, List.mem_cons, List.mem_append] at hk
    refine ⟨?_, TreeAt.keep h.2.1 (fun q hq => hk q (.inr (.inl hq))), TreeAt.keep h.2.2 (fun q hq => hk q (.inr (.inr hq)))⟩
    have h1 := h.1
    unfold Blk at h1 ⊢
    rw [hk b (.inl rfl)]; exact h1
theorem TreeAt.gr {row : Option Nat} (h : TreeAt w t) (hg : w.grownBy x row) (hr : ∀ q, row = some q → q ∉ bk t) : TreeAt x t :=
  h.keep fun q hq => hg.block q (h.lt q hq) (fun e => hr q e.symm hq)
theorem TreeAt.but (h : TreeAt w t) (hb : But S w x) (hs : ∀ q ∈ bk t, ¬ S q) : TreeAt x t := h.keep fun q hq => hb.block q (h.lt q hq) (hs q hq)
end
theorem But.of_grown {w x : World} {N : Nat} (h : w.grownBy x (some N)) : But (fun q => q = N) w x := ⟨h.os, h.tape, h.output, h.size, fun k hk hn => h.block k hk (fun e => hn (by cases e; rfl))⟩
theorem But.of_grown0 {w x : World} (h : w.grownBy x none) (S : Nat → Prop) : But S w x := ⟨h.os, h.tape, h.output, h.size, fun k hk _ => h.block k hk (by simp)⟩
/-- No depth is too great to be counted. -/
def DOk (t : Tm) : Prop := 0 ≤ dp t ∧ dp t ≤ 1000000
theorem mx_eq1 {a b : Int} (h : a < b) : mx a b = b := if_pos h
theorem mx_eq2 {a b : Int} (h : ¬ a < b) : mx a b = a := if_neg h
theorem mx_bd3 {a b : Int} : a ≤ mx a b ∧ b ≤ mx a b ∧ (mx a b = a ∨ mx a b = b) := by unfold mx; split <;> omega
theorem mx_bd {a b : Int} (ha : 0 ≤ a ∧ a ≤ 1000000) (hb : 0 ≤ b ∧ b ≤ 1000000) : 0 ≤ mx a b ∧ mx a b ≤ 1000000 := by unfold mx; split <;> omega

set_option maxRecDepth 100000 in
theorem deep_nil  (w : World)  :
    Calls Try.prog 59 #[.pointer none] w fun e w' => e = .returned (.int .i64 0) ∧ w = w' := by
 have hB0 := Below.refl w.heap.size w
 refine co_enter (n := 9) Try.func59 rfl rfl rfl [(0, .pointer none)] rfl (fun a h0 => ?_)
 refine co_seq ?_
 refine co_reg ?_
 refine pk0 (v := .int .i64 0) h0 rfl fun a1 h1 => ?_; clear h0
 refine pl_nil ?_
 refine co_then ?_
 refine co_seq ?_
 refine co_seq ?_
 refine co_reg ?_
 refine pk0 (v := .pointer none) h1 rfl fun a2 h2 => ?_; clear h1
 refine pk0 (v := .bool true) h2 rfl fun a3 h3 => ?_; clear h2
 refine pl_nil ?_
 refine co_then ?_
 refine co_true h3 rfl ?_
 refine co_seq ?_
 refine co_reg ?_
 refine pk0 (v := .int .i64 0) h3 rfl fun a4 h4 => ?_; clear h3
 refine pl_nil ?_
 refine co_then ?_
 refine wp_ret ?_
 refine co_thenR ?_
 refine co_ret1 h4 rfl rfl ?_
 exact ⟨rfl, rfl⟩
set_option maxRecDepth 100000 in
theorem deep_blk0 (b : Nat) (k : ByteArray) (v : SlT) (d : Int) (p : Value) (q : Value) (w : World) (hB : Blk w b 89 #[.string k, .slice v.a v.n v.c, .int .i64 d, p, q]) :
    Calls Try.prog 59 #[pt b 0] w fun e w' => e = .returned (.int .i64 d) ∧ w = w' := by
 have hB0 := Below.refl w.heap.size w
 have hl_hB := hB.lt
 refine co_enter (n := 9) Try.func59 rfl rfl rfl [(0, pt b 0)] rfl (fun a h0 => ?_)
 refine co_seq ?_
 refine co_reg ?_
 refine pk0 (v := .int .i64 0) h0 rfl fun a1 h1 => ?_; clear h0
 refine pl_nil ?_
 refine co_then ?_
 refine co_seq ?_
 refine co_seq ?_
 refine co_reg ?_
 refine pk0 (v := pt b 0) h1 rfl fun a2 h2 => ?_; clear h1
 refine pk0 (v := .bool false) h2 rfl fun a3 h3 => ?_; clear h2
 refine pl_nil ?_
 refine co_then ?_
 refine co_false h3 rfl ?_
 refine wp_skip ?_
 refine co_then ?_
 refine co_seq ?_
 refine co_reg ?_
 refine pk0 (v := pt b 0) h3 rfl fun a4 h4 => ?_; clear h3
 refine pk0 (v := pt b 0) h4 rfl fun a5 h5 => ?_; clear h4
 refine pk0 (v := pt b 2) h5 rfl fun a6 h6 => ?_; clear h5
 refine pk (v := .int .i64 d) h6 rfl (rn_load1 rfl rfl Try.isAgg3 (hB.cell rfl)) fun a7 h7 => ?_; clear h6
 refine pk0 (v := .int .i64 d) h7 rfl fun a8 h8 => ?_; clear h7
 refine pl_nil ?_
 refine co_then ?_
 refine wp_ret ?_
 refine co_ret1 h8 rfl rfl ?_
 exact ⟨rfl, rfl⟩

theorem deep_blk {b : Nat} {k : ByteArray} {v : SlT} {d : Int} {p q : Value} (w : World) (hB : Blk w b 89 #[.string k, .slice v.a v.n v.c, .int .i64 d, p, q]) : Calls Try.prog 59 #[pt b 0] w fun e w' => e = .returned (.int .i64 d) ∧ w = w' := deep_blk0 b k v d p q w hB
theorem deep_any (t : Tm) (w : World) (h : TreeAt w t) : Calls Try.prog 59 #[ptT t] w fun e w' => e = .returned (.int .i64 (dp t)) ∧ w = w' := by
  cases t with
  | nil => exact deep_nil w
  | nd b l k v d r => exact deep_blk w h.1

set_option maxRecDepth 100000 in
theorem measure_any (b : Nat) (l : Tm) (k : ByteArray) (v : SlT) (d : Int) (r : Tm) (w : World) (hB : Blk w b 89 #[.string k, .slice v.a v.n v.c, .int .i64 d, (ptT l), (ptT r)]) (hl : TreeAt w l) (hr : TreeAt w r) (hbl : b ∉ bk l) (hbr : b ∉ bk r) (hdl : 0 ≤ dp l ∧ dp l ≤ 1000000) (hdr : 0 ≤ dp r ∧ dp r ≤ 1000000) :
    Calls Try.prog 62 #[pt b 0] w fun e w' => e = .returned (.tuple #[]) ∧ Blk w' b 89 (ndV k v (1 + mx (dp l) (dp r)) l r) ∧ But (fun q => q = b) w w' := by
 have hB0 := But.refl (fun q => q = b) w
 have hl_hB := hB.lt
 have hSb : (fun q => q = b) b ∨ w.heap.size ≤ b := .inl rfl
 refine co_enter (n := 17) Try.func62 rfl rfl rfl [(0, pt b 0)] rfl (fun a h0 => ?_)
 refine dr_gen (fun x => But (fun q => q = b) w x) (by kernel_rfl) (fun w1 hg2 => ?_) (fun w1 hg2 => ?_)
 ·
  have hz3 := hg2.size
  have hB4 := fbU_new hB0 hg2
  exact hB4
 have hz5 := hg2.size
 have hB6 := fbU_new hB0 hg2
 refine dk0 0 (v := pt b 0) h0 rfl rfl hB6 fun a7 h7 => ?_; clear h0
 refine dk0 1 (v := pt b 0) h7 rfl rfl hB6 fun a8 h8 => ?_; clear h7
 refine dk0 2 (v := pt b 0) h8 rfl rfl hB6 fun a9 h9 => ?_; clear h8
 refine dk0 3 (v := pt b 3) h9 rfl rfl hB6 fun a10 h10 => ?_; clear h9
 refine dk0 6 (v := pt b 0) h10 rfl rfl hB6 fun a11 h11 => ?_; clear h10
 refine dk0 7 (v := pt b 0) h11 rfl rfl hB6 fun a12 h12 => ?_; clear h11
 refine dk0 8 (v := pt b 4) h12 rfl rfl hB6 fun a13 h13 => ?_; clear h12
 refine dr_many [4, 9] (by kernel_rfl) (by simp) ⟨?_, ?_, trivial⟩
 ·
  have hk14 := hB.kept hg2 (by simp)
  refine dr_opVal (i := 4) (v := (ptT l)) h13 rfl rfl rfl rfl (by kernel_rfl) rfl (rn_load1 rfl rfl Try.isAgg84 (hk14.cell rfl)) hB6 (fun a15 h15 => ?_); clear h13
  refine dr_many [5, 9] (by kernel_rfl) (by simp) ⟨?_, ?_, trivial⟩
  ·
   have hT18 := hl.gr hg2 (fun q e => by cases e)
   refine dr_op (i := 5) h15 rfl rfl rfl rfl (op_call (args := #[(ptT l)]) (R := fun res xw => res = .int .i64 (dp l) ∧ w1 = xw) rfl rfl rfl (by kernel_rfl) (by kernel_rfl) (Try.call59 _ _) (deep_any l w1 hT18) (by rintro e x ⟨rfl, rfl⟩; exact ⟨_, rfl, rfl, rfl⟩)) ?_ ?_; clear h15
   ·
    rintro _ _ ⟨rfl, rfl⟩
    exact hB6
   rintro _ _ a16 ⟨rfl, rfl⟩ h16
   refine dr_many [9] (by kernel_rfl) (by simp) ⟨?_, trivial⟩
   ·
    refine dr_opVal (i := 9) (v := (ptT r)) h16 rfl rfl rfl rfl (by kernel_rfl) rfl (rn_load1 rfl rfl Try.isAgg84 (hk14.cell rfl)) hB6 (fun a19 h19 => ?_); clear h16
    have hT22 := hr.gr hg2 (fun q e => by cases e)
    refine d1 10 h19 rfl rfl (op_call (args := #[(ptT r)]) (R := fun res xw => res = .int .i64 (dp r) ∧ w1 = xw) rfl rfl rfl (by kernel_rfl) (by kernel_rfl) (Try.call59 _ _) (deep_any r w1 hT22) (by rintro e x ⟨rfl, rfl⟩; exact ⟨_, rfl, rfl, rfl⟩)) ?_ ?_; clear h19
    ·
     rintro _ _ ⟨rfl, rfl⟩
     exact hB6
    rintro _ _ a20 ⟨rfl, rfl⟩ h20
    by_cases hs23 : dp l < dp r
    ·
     refine dk 11 (v := .int .i64 (dp r)) h20 rfl rfl hB6 (fun x hx => (rn_max2 rfl rfl rfl rfl (by omega))) fun a24 h24 => ?_; clear h20
     refine dk 12 (v := .int .i64 (1 + (dp r))) h24 rfl rfl hB6 (fun x hx => (rn_arith rfl rfl rfl rfl rfl rfl (IntWalk.i64_in _ (by omega)))) fun a25 h25 => ?_; clear h24
     refine dk0 13 (v := pt b 0) h25 rfl rfl hB6 fun a26 h26 => ?_; clear h25
     refine dk0 14 (v := pt b 2) h26 rfl rfl hB6 fun a27 h27 => ?_; clear h26
     refine d1D 15 h27 rfl rfl (op_store1 rfl rfl rfl rfl Try.sizeOf3 hk14 rfl) ?_ ?_; clear h27
     ·
      rintro _ w29 ⟨hk30, hz31, hg32⟩
      have hk30' : Blk w29 b 89 #[.string k, .slice v.a v.n v.c, .int .i64 (1 + (dp r)), (ptT l), (ptT r)] := hk30; clear hk30
      have hz33 := hg32.size
      have hB34 := fbU_at hB6 hg32 (fun hlt => by rcases hSb with hq | hq; exact hq; omega)
      exact hB34
     rintro _ w29 a28 ⟨hk30, hz31, hg32⟩ h28
     have hk30' : Blk w29 b 89 #[.string k, .slice v.a v.n v.c, .int .i64 (1 + (dp r)), (ptT l), (ptT r)] := hk30; clear hk30
     have hz33 := hg32.size
     refine dr_done (by kernel_rfl) ?_
     refine co_ret0n h28 rfl ?_
     have hB34 := fbU_at hB6 hg32 (fun hlt => by rcases hSb with hq | hq; exact hq; omega)
     exact ⟨rfl, by rw [show 1 + mx (dp l) (dp r) = 1 + (dp r) from by first | (rw [mx_eq1 (by omega)]) | (rw [mx_eq2 (by omega)])]; exact hk30', hB34⟩
    ·
     refine dk 11 (v := .int .i64 (dp l)) h20 rfl rfl hB6 (fun x hx => (rn_max1 rfl rfl rfl rfl (by omega))) fun a35 h35 => ?_; clear h20
     refine dk 12 (v := .int .i64 (1 + (dp l))) h35 rfl rfl hB6 (fun x hx => (rn_arith rfl rfl rfl rfl rfl rfl (IntWalk.i64_in _ (by omega)))) fun a36 h36 => ?_; clear h35
     refine dk0 13 (v := pt b 0) h36 rfl rfl hB6 fun a37 h37 => ?_; clear h36
     refine dk0 14 (v := pt b 2) h37 rfl rfl hB6 fun a38 h38 => ?_; clear h37
     refine d1D 15 h38 rfl rfl (op_store1 rfl rfl rfl rfl Try.sizeOf3 hk14 rfl) ?_ ?_; clear h38
     ·
      rintro _ w40 ⟨hk41, hz42, hg43⟩
      have hk41' : Blk w40 b 89 #[.string k, .slice v.a v.n v.c, .int .i64 (1 + (dp l)), (ptT l), (ptT r)] := hk41; clear hk41
      have hz44 := hg43.size
      have hB45 := fbU_at hB6 hg43 (fun hlt => by rcases hSb with hq | hq; exact hq; omega)
      exact hB45
     rintro _ w40 a39 ⟨hk41, hz42, hg43⟩ h39
     have hk41' : Blk w40 b 89 #[.string k, .slice v.a v.n v.c, .int .i64 (1 + (dp l)), (ptT l), (ptT r)] := hk41; clear hk41
     have hz44 := hg43.size
     refine dr_done (by kernel_rfl) ?_
     refine co_ret0n h39 rfl ?_
     have hB45 := fbU_at hB6 hg43 (fun hlt => by rcases hSb with hq | hq; exact hq; omega)
     exact ⟨rfl, by rw [show 1 + mx (dp l) (dp r) = 1 + (dp l) from by first | (rw [mx_eq1 (by omega)]) | (rw [mx_eq2 (by omega)])]; exact hk41', hB45⟩
  ·
   refine dr_opVal (i := 9) (v := (ptT r)) h15 rfl rfl rfl rfl (by kernel_rfl) rfl (rn_load1 rfl rfl Try.isAgg84 (hk14.cell rfl)) hB6 (fun a46 h46 => ?_); clear h15
   have hT49 := hl.gr hg2 (fun q e => by cases e)
   refine d1 5 h46 rfl rfl (op_call (args := #[(ptT l)]) (R := fun res xw => res = .int .i64 (dp l) ∧ w1 = xw) rfl rfl rfl (by kernel_rfl) (by kernel_rfl) (Try.call59 _ _) (deep_any l w1 hT49) (by rintro e x ⟨rfl, rfl⟩; exact ⟨_, rfl, rfl, rfl⟩)) ?_ ?_; clear h46
   ·
    rintro _ _ ⟨rfl, rfl⟩
    exact hB6
   rintro _ _ a47 ⟨rfl, rfl⟩ h47
   have hT52 := hr.gr hg2 (fun q e => by cases e)
   refine d1 10 h47 rfl rfl (op_call (args := #[(ptT r)]) (R := fun res xw => res = .int .i64 (dp r) ∧ w1 = xw) rfl rfl rfl (by kernel_rfl) (by kernel_rfl) (Try.call59 _ _) (deep_any r w1 hT52) (by rintro e x ⟨rfl, rfl⟩; exact ⟨_, rfl, rfl, rfl⟩)) ?_ ?_; clear h47
   ·
    rintro _ _ ⟨rfl, rfl⟩
    exact hB6
   rintro _ _ a50 ⟨rfl, rfl⟩ h50
   by_cases hs53 : dp l < dp r
   ·
    refine dk 11 (v := .int .i64 (dp r)) h50 rfl rfl hB6 (fun x hx => (rn_max2 rfl rfl rfl rfl (by omega))) fun a54 h54 => ?_; clear h50
    refine dk 12 (v := .int .i64 (1 + (dp r))) h54 rfl rfl hB6 (fun x hx => (rn_arith rfl rfl rfl rfl rfl rfl (IntWalk.i64_in _ (by omega)))) fun a55 h55 => ?_; clear h54
    refine dk0 13 (v := pt b 0) h55 rfl rfl hB6 fun a56 h56 => ?_; clear h55
    refine dk0 14 (v := pt b 2) h56 rfl rfl hB6 fun a57 h57 => ?_; clear h56
    refine d1D 15 h57 rfl rfl (op_store1 rfl rfl rfl rfl Try.sizeOf3 hk14 rfl) ?_ ?_; clear h57
    ·
     rintro _ w59 ⟨hk60, hz61, hg62⟩
     have hk60' : Blk w59 b 89 #[.string k, .slice v.a v.n v.c, .int .i64 (1 + (dp r)), (ptT l), (ptT r)] := hk60; clear hk60
     have hz63 := hg62.size
     have hB64 := fbU_at hB6 hg62 (fun hlt => by rcases hSb with hq | hq; exact hq; omega)
     exact hB64
    rintro _ w59 a58 ⟨hk60, hz61, hg62⟩ h58
    have hk60' : Blk w59 b 89 #[.string k, .slice v.a v.n v.c, .int .i64 (1 + (dp r)), (ptT l), (ptT r)] := hk60; clear hk60
    have hz63 := hg62.size
    refine dr_done (by kernel_rfl) ?_
    refine co_ret0n h58 rfl ?_
    have hB64 := fbU_at hB6 hg62 (fun hlt => by rcases hSb with hq | hq; exact hq; omega)
    exact ⟨rfl, by rw [show 1 + mx (dp l) (dp r) = 1 + (dp r) from by first | (rw [mx_eq1 (by omega)]) | (rw [mx_eq2 (by omega)])]; exact hk60', hB64⟩
   ·
    refine dk 11 (v := .int .i64 (dp l)) h50 rfl rfl hB6 (fun x hx => (rn_max1 rfl rfl rfl rfl (by omega))) fun a65 h65 => ?_; clear h50
    refine dk 12 (v := .int .i64 (1 + (dp l))) h65 rfl rfl hB6 (fun x hx => (rn_arith rfl rfl rfl rfl rfl rfl (IntWalk.i64_in _ (by omega)))) fun a66 h66 => ?_; clear h65
    refine dk0 13 (v := pt b 0) h66 rfl rfl hB6 fun a67 h67 => ?_; clear h66
    refine dk0 14 (v := pt b 2) h67 rfl rfl hB6 fun a68 h68 => ?_; clear h67
    refine d1D 15 h68 rfl rfl (op_store1 rfl rfl rfl rfl Try.sizeOf3 hk14 rfl) ?_ ?_; clear h68
    ·
     rintro _ w70 ⟨hk71, hz72, hg73⟩
     have hk71' : Blk w70 b 89 #[.string k, .slice v.a v.n v.c, .int .i64 (1 + (dp l)), (ptT l), (ptT r)] := hk71; clear hk71
     have hz74 := hg73.size
     have hB75 := fbU_at hB6 hg73 (fun hlt => by rcases hSb with hq | hq; exact hq; omega)
     exact hB75
    rintro _ w70 a69 ⟨hk71, hz72, hg73⟩ h69
    have hk71' : Blk w70 b 89 #[.string k, .slice v.a v.n v.c, .int .i64 (1 + (dp l)), (ptT l), (ptT r)] := hk71; clear hk71
    have hz74 := hg73.size
    refine dr_done (by kernel_rfl) ?_
    refine co_ret0n h69 rfl ?_
    have hB75 := fbU_at hB6 hg73 (fun hlt => by rcases hSb with hq | hq; exact hq; omega)
    exact ⟨rfl, by rw [show 1 + mx (dp l) (dp r) = 1 + (dp l) from by first | (rw [mx_eq1 (by omega)]) | (rw [mx_eq2 (by omega)])]; exact hk71', hB75⟩
 ·
  have hk76 := hB.kept hg2 (by simp)
  refine dr_opVal (i := 9) (v := (ptT r)) h13 rfl rfl rfl rfl (by kernel_rfl) rfl (rn_load1 rfl rfl Try.isAgg84 (hk76.cell rfl)) hB6 (fun a77 h77 => ?_); clear h13
  refine dr_many [4] (by kernel_rfl) (by simp) ⟨?_, trivial⟩
  ·
   refine dr_opVal (i := 4) (v := (ptT l)) h77 rfl rfl rfl rfl (by kernel_rfl) rfl (rn_load1 rfl rfl Try.isAgg84 (hk76.cell rfl)) hB6 (fun a78 h78 => ?_); clear h77
   have hT81 := hl.gr hg2 (fun q e => by cases e)
   refine d1 5 h78 rfl rfl (op_call (args := #[(ptT l)]) (R := fun res xw => res = .int .i64 (dp l) ∧ w1 = xw) rfl rfl rfl (by kernel_rfl) (by kernel_rfl) (Try.call59 _ _) (deep_any l w1 hT81) (by rintro e x ⟨rfl, rfl⟩; exact ⟨_, rfl, rfl, rfl⟩)) ?_ ?_; clear h78
   ·
    rintro _ _ ⟨rfl, rfl⟩
    exact hB6
   rintro _ _ a79 ⟨rfl, rfl⟩ h79
   have hT84 := hr.gr hg2 (fun q e => by cases e)
   refine d1 10 h79 rfl rfl (op_call (args := #[(ptT r)]) (R := fun res xw => res = .int .i64 (dp r) ∧ w1 = xw) rfl rfl rfl (by kernel_rfl) (by kernel_rfl) (Try.call59 _ _) (deep_any r w1 hT84) (by rintro e x ⟨rfl, rfl⟩; exact ⟨_, rfl, rfl, rfl⟩)) ?_ ?_; clear h79
   ·
    rintro _ _ ⟨rfl, rfl⟩
    exact hB6
   rintro _ _ a82 ⟨rfl, rfl⟩ h82
   by_cases hs85 : dp l < dp r
   ·
    refine dk 11 (v := .int .i64 (dp r)) h82 rfl rfl hB6 (fun x hx => (rn_max2 rfl rfl rfl rfl (by omega))) fun a86 h86 => ?_; clear h82
    refine dk 12 (v := .int .i64 (1 + (dp r))) h86 rfl rfl hB6 (fun x hx => (rn_arith rfl rfl rfl rfl rfl rfl (IntWalk.i64_in _ (by omega)))) fun a87 h87 => ?_; clear h86
    refine dk0 13 (v := pt b 0) h87 rfl rfl hB6 fun a88 h88 => ?_; clear h87
    refine dk0 14 (v := pt b 2) h88 rfl rfl hB6 fun a89 h89 => ?_; clear h88
    refine d1D 15 h89 rfl rfl (op_store1 rfl rfl rfl rfl Try.sizeOf3 hk76 rfl) ?_ ?_; clear h89
    ·
     rintro _ w91 ⟨hk92, hz93, hg94⟩
     have hk92' : Blk w91 b 89 #[.string k, .slice v.a v.n v.c, .int .i64 (1 + (dp r)), (ptT l), (ptT r)] := hk92; clear hk92
     have hz95 := hg94.size
     have hB96 := fbU_at hB6 hg94 (fun hlt => by rcases hSb with hq | hq; exact hq; omega)
     exact hB96
    rintro _ w91 a90 ⟨hk92, hz93, hg94⟩ h90
    have hk92' : Blk w91 b 89 #[.string k, .slice v.a v.n v.c, .int .i64 (1 + (dp r)), (ptT l), (ptT r)] := hk92; clear hk92
    have hz95 := hg94.size
    refine dr_done (by kernel_rfl) ?_
    refine co_ret0n h90 rfl ?_
    have hB96 := fbU_at hB6 hg94 (fun hlt => by rcases hSb with hq | hq; exact hq; omega)
    exact ⟨rfl, by rw [show 1 + mx (dp l) (dp r) = 1 + (dp r) from by first | (rw [mx_eq1 (by omega)]) | (rw [mx_eq2 (by omega)])]; exact hk92', hB96⟩
   ·
    refine dk 11 (v := .int .i64 (dp l)) h82 rfl rfl hB6 (fun x hx => (rn_max1 rfl rfl rfl rfl (by omega))) fun a97 h97 => ?_; clear h82
    refine dk 12 (v := .int .i64 (1 + (dp l))) h97 rfl rfl hB6 (fun x hx => (rn_arith rfl rfl rfl rfl rfl rfl (IntWalk.i64_in _ (by omega)))) fun a98 h98 => ?_; clear h97
    refine dk0 13 (v := pt b 0) h98 rfl rfl hB6 fun a99 h99 => ?_; clear h98
    refine dk0 14 (v := pt b 2) h99 rfl rfl hB6 fun a100 h100 => ?_; clear h99
    refine d1D 15 h100 rfl rfl (op_store1 rfl rfl rfl rfl Try.sizeOf3 hk76 rfl) ?_ ?_; clear h100
    ·
     rintro _ w102 ⟨hk103, hz104, hg105⟩
     have hk103' : Blk w102 b 89 #[.string k, .slice v.a v.n v.c, .int .i64 (1 + (dp l)), (ptT l), (ptT r)] := hk103; clear hk103
     have hz106 := hg105.size
     have hB107 := fbU_at hB6 hg105 (fun hlt => by rcases hSb with hq | hq; exact hq; omega)
     exact hB107
    rintro _ w102 a101 ⟨hk103, hz104, hg105⟩ h101
    have hk103' : Blk w102 b 89 #[.string k, .slice v.a v.n v.c, .int .i64 (1 + (dp l)), (ptT l), (ptT r)] := hk103; clear hk103
    have hz106 := hg105.size
    refine dr_done (by kernel_rfl) ?_
    refine co_ret0n h101 rfl ?_
    have hB107 := fbU_at hB6 hg105 (fun hlt => by rcases hSb with hq | hq; exact hq; omega)
    exact ⟨rfl, by rw [show 1 + mx (dp l) (dp r) = 1 + (dp l) from by first | (rw [mx_eq1 (by omega)]) | (rw [mx_eq2 (by omega)])]; exact hk103', hB107⟩
end Go.Proofs.Ytfjhlckklgeokaa
