/- catenalaw15: TreePlays. Conditions: none. -/
import Derived.Test.YthmljllgfigebaaTreeY
import Derived.Test.YthmljllgfigebaaPexV
import Derived.Test.YthmljllgfigebaaGo
namespace Go.Proofs.Ythmljllgfigebaa
open Go.RowKit Go.PlainAid
set_option linter.unusedVariables false


theorem insL_leT {L : List Kv} {k : ByteArray} {v : Int} : (insL L k v).length ≤ L.length + 1 := by rw [insL_len]; split <;> omega
theorem delL_leT {L : List Kv} {k : ByteArray} : (delL L k).length ≤ L.length := by have := delL_len (k := k) L; split at this <;> omega
theorem strE_lenT (s : ByteArray) : (strE s).length = 1 := rfl
theorem kvE_lenT (a : Kv) : (kvE a).length = 2 := rfl
theorem tactE_lenT (a : TActT) : (tactE a).length = 4 := rfl
theorem same_rows {u v : Value} {l : List ByteArray} (w : World) {B B2 : Nat} (h1 : w.ownsRow B 9 1 u l.length (l.flatMap strE)) (h2 : w.ownsRow B2 9 1 v l.length (l.flatMap strE)) :
    Calls Try.prog 24 #[u, v] w fun e w' => e = .returned (.bool true) ∧ Below w.heap.size w w' := same_any u v l w (SliceOf.own h1 (fun _ _ => rfl)) (SliceOf.own h2 (fun _ _ => rfl))

/-- A tree that was just made. -/
def TrN (S : Nat → Prop) (w : World) (tb : Nat) : Prop := TrO S w tb [] 0
theorem TrN.ofS {S : Nat → Prop} {w : World} {tb : Nat} (h : TrN S w tb) : ∀ q, S q → q < w.heap.size := TrO.ofS h
theorem TrN.gr {S : Nat → Prop} {w x : World} {tb : Nat} {row : Option Nat} (h : TrN S w tb) (hg : w.grownBy x row) (hr : ∀ k, row = some k → ¬ S k) : TrN S x tb := TrO.gr h hg hr
theorem TrN.but {S C : Nat → Prop} {w x : World} {tb : Nat} (h : TrN S w tb) (hb : But C w x) (ha : ∀ q, C q → S q → False) : TrN S x tb := TrO.but h hb ha

set_option maxRecDepth 100000 in
set_option maxHeartbeats 6400000 in
theorem treePlays_law (v : Value) (l : List TActT) (w : World) (hs : SliceOf tactE 4 w v l) (hok : ∀ z ∈ l, TActOk z) :
    Calls Try.prog 3 #[v] w fun e w' => e = .returned (.bool true) ∧ Below w.heap.size w w' := by
 have hB0 := Below.refl w.heap.size w
 have hl_hs := sl_len hs
 refine co_enter (n := 143) Try.func3 rfl rfl rfl [(0, v)] rfl (fun a h0 => ?_)
 refine co_seq ?_
 refine co_reg ?_
 refine pk0 (v := .bool false) h0 rfl fun a1 h1 => ?_; clear h0
 refine pl_nil ?_
 refine co_then ?_
 refine co_seq ?_
 refine co_reg ?_
 refine pw h1 rfl (op_call (args := #[]) (R := fun res xw => ∃ N S, res = pt N 0 ∧ TrN S xw N ∧ (∀ q, S q → w.heap.size ≤ q) ∧ Below w.heap.size w xw) rfl rfl rfl (by kernel_rfl) (by kernel_rfl) (Try.call15 _ _) (tnew_any w) (by rintro e x ⟨S, rfl, h⟩; exact ⟨_, rfl, _, S, rfl, h⟩)) ?_; clear h1
 rintro _ w3 a2 ⟨N4, S5, rfl, hO6, hlo7, hb8⟩ h2
 have hz9 := hb8.size
 have hlo10 : ∀ q, S5 q → w.heap.size ≤ q := fun q hq => by have := hlo7 q hq; omega
 refine pk0 (v := pt N4 0) h2 rfl fun a11 h11 => ?_; clear h2
 refine pl_nil ?_
 refine co_then ?_
 refine co_seq ?_
 refine co_reg ?_
 refine pk0 (v := .agg #[.slice none 0 0]) h11 rfl fun a12 h12 => ?_; clear h11
 refine pw h12 rfl (op_new (v := fun N => pt N 0) (T := 28) (cs := #[.slice none 0 0]) (by kernel_rfl) (by kernel_rfl) (by kernel_rfl)) ?_; clear h12
 rintro _ w14 a13 ⟨N15, rfl, hN18, hz19, hk17, hg16⟩ h13
 have hz20 := hg16.size
 have ho21 := off_new (TrN.ofS hO6) hN18
 try dsimp only at h13
 refine pk0 (v := pt N15 0) h13 rfl fun a22 h22 => ?_; clear h13
 refine pl_nil ?_
 refine co_then ?_
 refine co_seq ?_
 refine co_seq ?_
 refine co_reg ?_
 refine pk0 (v := .int .i64 0) h22 rfl fun a23 h23 => ?_; clear h22
 refine pl_nil ?_
 refine co_then ?_
 refine wp_block ?_
 have hlo' : ∀ q, (fun q => S5 q ∨ q = N15) q → w.heap.size ≤ q := fun q hq => by rcases hq with k | k; exact hlo10 q k; omega
 have h24 : Slots 143 [(0, v), (3, pt N4 0), (4, pt N15 0), (5, .int .i64 0)] _ := h23.sub ⟨rfl, rfl, rfl, rfl, trivial⟩; clear h23
 refine co_loop (fun mm a x => ∃ (i : Nat) (S : Nat → Prop) (u : Value) (L : List Kv), Slots 143 [(0, v), (3, pt N4 0), (4, pt N15 0), (5, .int .i64 ((i : Nat) : Int))] a ∧ mm = l.length - i ∧ (i ≤ l.length) ∧ (i ≤ 60) ∧ (∀ q, S q → w.heap.size ≤ q) ∧ (L.length ≤ i) ∧ TwT S x N4 N15 u L L ∧ Below w.heap.size w x) (l.length - 0) ?_ ?_
 have hO25 := TrN.gr hO6 hg16 (fun k e => by cases e)
 have hB26 := hb_call hB0 hb8
 have hB27 := hb_new hB26 hg16
 · exact ⟨0, (fun q => S5 q ∨ q = N15), (.slice none 0 0), [], h24.sub ⟨rfl, rfl, rfl, (slot_eq rfl (congrArg (Value.int .i64) (by first | rfl | omega))), trivial⟩, rfl, by omega, by omega, by exact hlo', by first | (simp; done) | omega | exact Nat.le_trans insL_leT (by omega) | exact Nat.le_trans delL_leT (by omega), (TwT.mk0 hO25 hk17 ho21), hB27⟩
 · rintro k28 a29 w30 ⟨i, S, u, L, h29, rfl, hi31, hi32, hi33, hi34, hf35, hB36⟩
   have hz37 := hB36.size
   have hlo38 : ∀ q, S q → w.heap.size ≤ q := by assumption
   refine co_seq ?_
   refine co_seq ?_
   refine co_reg ?_
   refine pk0 (v := .int .i64 ((i : Nat) : Int)) h29 rfl fun a39 h39 => ?_; clear h29
   refine pk0 (v := v) h39 rfl fun a40 h40 => ?_; clear h39
   refine pk (v := .int .i64 ((l.length : Nat) : Int)) h40 rfl (rn_len rfl rfl Try.underlying22 (hs.below hB36)) fun a41 h41 => ?_; clear h40
   refine pk0 (v := .bool (decide (((i : Nat) : Int) < ((l.length : Nat) : Int)))) h41 rfl fun a42 h42 => ?_; clear h41
   refine pk0 (v := .bool (decide (((i : Nat) : Int) < ((l.length : Nat) : Int)))) h42 rfl fun a43 h43 => ?_; clear h42
   cases hc44 : (decide (((i : Nat) : Int) < ((l.length : Nat) : Int)))
   ·
    rw [hc44] at h43
    have hp45 : ¬ (((i : Nat) : Int) < ((l.length : Nat) : Int)) := of_decide_eq_false hc44
    clear hc44
    refine psk h43 rfl fun a46 h46 => ?_; clear h43
    refine psk h46 rfl fun a47 h47 => ?_; clear h46
    refine pk0 (v := .bool false) h47 rfl fun a48 h48 => ?_; clear h47
    refine pl_nil ?_
    refine co_then ?_
    refine co_false h48 rfl ?_
    refine wp_exit ?_
    refine co_thenX ?_
    refine co_thenX ?_
    refine co_blockX ?_
    refine co_then ?_
    refine co_seq ?_
    refine co_reg ?_
    refine pk0 (v := pt N4 0) h48 rfl fun a49 h49 => ?_; clear h48
    refine pw h49 rfl (op_call (args := #[pt N4 0, .string (⟨#[]⟩), .string (⟨#[]⟩)]) (R := fun res xw => ∃ u2 : Value, ∃ S' : Nat → Prop, res = u2 ∧ TwT S' xw N4 N15 u L L ∧ (xw.ownsRow w30.heap.size 9 1 u2 (inL (⟨#[]⟩ : ByteArray) (⟨#[]⟩ : ByteArray) L).length ((inL (⟨#[]⟩ : ByteArray) (⟨#[]⟩ : ByteArray) L).flatMap strE)) ∧ (∀ q, S' q → q < w30.heap.size) ∧ Grew S S' w30 xw) rfl rfl rfl (by kernel_rfl) (by kernel_rfl) (Try.call25 _ _) (pKeys w30 (⟨#[]⟩ : ByteArray) (⟨#[]⟩ : ByteArray) hf35 (by omega)) (by rintro e x ⟨u2, S', h0, h⟩; exact ⟨_, h0, u2, S', rfl, h⟩)) ?_; clear h49
    rintro u252 w51 a50 ⟨_, S53, rfl, hO54, hq56, hq57, hx55⟩ h50
    have hlo59 : ∀ q, S53 q → w.heap.size ≤ q := hx55.lo hlo38 (by omega)
    have hB58 := hbL hB36 hlo38 hx55.but
    have hz60 := hB58.size
    have hz61 := hx55.but.size
    refine pk0 (v := pt N15 0) h50 rfl fun a62 h62 => ?_; clear h50
    refine pw h62 rfl (op_call (args := #[pt N15 0, .string (⟨#[]⟩), .string (⟨#[]⟩)]) (R := fun res xw => ∃ u2 : Value, ∃ S' : Nat → Prop, res = u2 ∧ TwT S' xw N4 N15 u L L ∧ (xw.ownsRow w51.heap.size 9 1 u2 (inL (⟨#[]⟩ : ByteArray) (⟨#[]⟩ : ByteArray) L).length ((inL (⟨#[]⟩ : ByteArray) (⟨#[]⟩ : ByteArray) L).flatMap strE)) ∧ (∀ q, S' q → q < w51.heap.size) ∧ Grew S53 S' w51 xw) rfl rfl rfl (by kernel_rfl) (by kernel_rfl) (Try.call26 _ _) (qKeys w51 (⟨#[]⟩ : ByteArray) (⟨#[]⟩ : ByteArray) hO54 (by omega)) (by rintro e x ⟨u2, S', h0, h⟩; exact ⟨_, h0, u2, S', rfl, h⟩)) ?_; clear h62
    rintro u265 w64 a63 ⟨_, S66, rfl, hO67, hq69, hq70, hx68⟩ h63
    have hlo72 : ∀ q, S66 q → w.heap.size ≤ q := hx68.lo hlo59 (by omega)
    have hB71 := hbL hB58 hlo59 hx68.but
    have hz73 := hB71.size
    have hz74 := hx68.but.size
    have hr78 := own_butS hq56 hx68.but (offR_row hq57 hq56 (Nat.le_refl _))
    refine pw h63 rfl (op_call (args := #[u252, u265]) (R := fun res xw => res = .bool true ∧ Below w64.heap.size w64 xw) rfl rfl rfl (by kernel_rfl) (by kernel_rfl) (Try.call24 _ _) (same_rows w64 hr78 hq69) (by rintro e x ⟨rfl, h⟩; exact ⟨_, rfl, rfl, h⟩)) ?_; clear h63
    rintro _ w76 a75 ⟨rfl, hb77⟩ h75
    have hz79 := hb77.size
    have ho80 := TwT.ofS hO67
    refine pk0 (v := .bool true) h75 rfl fun a81 h81 => ?_; clear h75
    have hB84 := hb_call hB71 hb77
    refine pw h81 rfl (op_call (args := #[]) (R := fun res xw => res = .bool true ∧ Below w76.heap.size w76 xw) rfl rfl rfl (by kernel_rfl) (by kernel_rfl) (Try.call28 _ _) (awake15 w76) (by rintro e x ⟨rfl, h⟩; exact ⟨_, rfl, rfl, h⟩)) ?_; clear h81
    rintro _ w83 a82 ⟨rfl, hb85⟩ h82
    have hz86 := hb85.size
    have hO88 := TwT.gr hO67 (below_grown hb77) (fun k e => by cases e)
    have ho87 := TwT.ofS hO88
    refine pk0 (v := .bool true) h82 rfl fun a89 h89 => ?_; clear h82
    refine pk0 (v := .bool true) h89 rfl fun a90 h90 => ?_; clear h89
    refine pl_nil ?_
    refine co_then ?_
    refine wp_ret ?_
    refine co_ret1 h90 rfl rfl ?_
    have hB91 := hb_call hB84 hb85
    exact ⟨rfl, hB91⟩
   ·
    rw [hc44] at h43
    have hp92 : ((i : Nat) : Int) < ((l.length : Nat) : Int) := of_decide_eq_true hc44
    clear hc44
    refine pk0 (v := .int .i64 ((i : Nat) : Int)) h43 rfl fun a93 h93 => ?_; clear h43
    refine pk0 (v := .bool (decide (((i : Nat) : Int) < 60))) h93 rfl fun a94 h94 => ?_; clear h93
    refine pk0 (v := .bool (decide (((i : Nat) : Int) < 60))) h94 rfl fun a95 h95 => ?_; clear h94
    refine pl_nil ?_
    refine co_then ?_
    cases hc96 : (decide (((i : Nat) : Int) < 60))
    ·
     rw [hc96] at h95
     have hp97 : ¬ (((i : Nat) : Int) < 60) := of_decide_eq_false hc96
     clear hc96
     refine co_false h95 rfl ?_
     refine wp_exit ?_
     refine co_thenX ?_
     refine co_thenX ?_
     refine co_blockX ?_
     refine co_then ?_
     refine co_seq ?_
     refine co_reg ?_
     refine pk0 (v := pt N4 0) h95 rfl fun a98 h98 => ?_; clear h95
     refine pw h98 rfl (op_call (args := #[pt N4 0, .string (⟨#[]⟩), .string (⟨#[]⟩)]) (R := fun res xw => ∃ u2 : Value, ∃ S' : Nat → Prop, res = u2 ∧ TwT S' xw N4 N15 u L L ∧ (xw.ownsRow w30.heap.size 9 1 u2 (inL (⟨#[]⟩ : ByteArray) (⟨#[]⟩ : ByteArray) L).length ((inL (⟨#[]⟩ : ByteArray) (⟨#[]⟩ : ByteArray) L).flatMap strE)) ∧ (∀ q, S' q → q < w30.heap.size) ∧ Grew S S' w30 xw) rfl rfl rfl (by kernel_rfl) (by kernel_rfl) (Try.call25 _ _) (pKeys w30 (⟨#[]⟩ : ByteArray) (⟨#[]⟩ : ByteArray) hf35 (by omega)) (by rintro e x ⟨u2, S', h0, h⟩; exact ⟨_, h0, u2, S', rfl, h⟩)) ?_; clear h98
     rintro u2101 w100 a99 ⟨_, S102, rfl, hO103, hq105, hq106, hx104⟩ h99
     have hlo108 : ∀ q, S102 q → w.heap.size ≤ q := hx104.lo hlo38 (by omega)
     have hB107 := hbL hB36 hlo38 hx104.but
     have hz109 := hB107.size
     have hz110 := hx104.but.size
     refine pk0 (v := pt N15 0) h99 rfl fun a111 h111 => ?_; clear h99
     refine pw h111 rfl (op_call (args := #[pt N15 0, .string (⟨#[]⟩), .string (⟨#[]⟩)]) (R := fun res xw => ∃ u2 : Value, ∃ S' : Nat → Prop, res = u2 ∧ TwT S' xw N4 N15 u L L ∧ (xw.ownsRow w100.heap.size 9 1 u2 (inL (⟨#[]⟩ : ByteArray) (⟨#[]⟩ : ByteArray) L).length ((inL (⟨#[]⟩ : ByteArray) (⟨#[]⟩ : ByteArray) L).flatMap strE)) ∧ (∀ q, S' q → q < w100.heap.size) ∧ Grew S102 S' w100 xw) rfl rfl rfl (by kernel_rfl) (by kernel_rfl) (Try.call26 _ _) (qKeys w100 (⟨#[]⟩ : ByteArray) (⟨#[]⟩ : ByteArray) hO103 (by omega)) (by rintro e x ⟨u2, S', h0, h⟩; exact ⟨_, h0, u2, S', rfl, h⟩)) ?_; clear h111
     rintro u2114 w113 a112 ⟨_, S115, rfl, hO116, hq118, hq119, hx117⟩ h112
     have hlo121 : ∀ q, S115 q → w.heap.size ≤ q := hx117.lo hlo108 (by omega)
     have hB120 := hbL hB107 hlo108 hx117.but
     have hz122 := hB120.size
     have hz123 := hx117.but.size
     have hr127 := own_butS hq105 hx117.but (offR_row hq106 hq105 (Nat.le_refl _))
     refine pw h112 rfl (op_call (args := #[u2101, u2114]) (R := fun res xw => res = .bool true ∧ Below w113.heap.size w113 xw) rfl rfl rfl (by kernel_rfl) (by kernel_rfl) (Try.call24 _ _) (same_rows w113 hr127 hq118) (by rintro e x ⟨rfl, h⟩; exact ⟨_, rfl, rfl, h⟩)) ?_; clear h112
     rintro _ w125 a124 ⟨rfl, hb126⟩ h124
     have hz128 := hb126.size
     have ho129 := TwT.ofS hO116
     refine pk0 (v := .bool true) h124 rfl fun a130 h130 => ?_; clear h124
     have hB133 := hb_call hB120 hb126
     refine pw h130 rfl (op_call (args := #[]) (R := fun res xw => res = .bool true ∧ Below w125.heap.size w125 xw) rfl rfl rfl (by kernel_rfl) (by kernel_rfl) (Try.call28 _ _) (awake15 w125) (by rintro e x ⟨rfl, h⟩; exact ⟨_, rfl, rfl, h⟩)) ?_; clear h130
     rintro _ w132 a131 ⟨rfl, hb134⟩ h131
     have hz135 := hb134.size
     have hO137 := TwT.gr hO116 (below_grown hb126) (fun k e => by cases e)
     have ho136 := TwT.ofS hO137
     refine pk0 (v := .bool true) h131 rfl fun a138 h138 => ?_; clear h131
     refine pk0 (v := .bool true) h138 rfl fun a139 h139 => ?_; clear h138
     refine pl_nil ?_
     refine co_then ?_
     refine wp_ret ?_
     refine co_ret1 h139 rfl rfl ?_
     have hB140 := hb_call hB133 hb134
     exact ⟨rfl, hB140⟩
    ·
     rw [hc96] at h95
     have hp141 : ((i : Nat) : Int) < 60 := of_decide_eq_true hc96
     clear hc96
     refine co_true h95 rfl ?_
     refine wp_skip ?_
     refine co_then ?_
     refine co_seq ?_
     refine wp_block ?_
     refine co_seq ?_
     refine co_reg ?_
     refine pk0 (v := v) h95 rfl fun a142 h142 => ?_; clear h95
     refine pk0 (v := .int .i64 ((i : Nat) : Int)) h142 rfl fun a143 h143 => ?_; clear h142
     obtain ⟨y144, hy144⟩ : ∃ z, l[i]? = some z := ⟨_, List.getElem?_eq_getElem (by first | omega | (simp; done) | (simp; omega))⟩
     have oky144 := hok _ (List.mem_of_getElem? hy144)
     refine pk (v := pt (blkOf v) (offOf v + i * 4)) h143 rfl (rn_index rfl rfl rfl Try.underlying22 Try.sizeOf30 (hs.below hB36) (by omega) (by first | omega | (simp; done) | (simp; omega))) fun a145 h145 => ?_; clear h143
     refine pk (v := .agg #[.int .i64 y144.c, .string y144.k, .string y144.t, .int .i64 y144.v]) h145 rfl (rn_loadN rfl rfl Try.underlying30 rfl (by kernel_rfl) (sl_at (hs.below hB36) hy144)) fun a146 h146 => ?_; clear h145
     refine pw h146 rfl (op_new (v := fun N => pt N 0) (T := 30) (cs := #[.int .i64 0, .string (⟨#[]⟩), .string (⟨#[]⟩), .int .i64 0]) (by kernel_rfl) (by kernel_rfl) (by kernel_rfl)) ?_; clear h146
     rintro _ w148 a147 ⟨N149, rfl, hN152, hz153, hk151, hg150⟩ h147
     have hz154 := hg150.size
     have ho155 := off_new (TwT.ofS hf35) hN152
     try dsimp only at h147
     refine pwD h147 rfl (op_storeN rfl rfl rfl (by kernel_rfl) (by kernel_rfl) hk151 rfl) ?_; clear h147
     rintro _ w157 a156 ⟨hk158, hz159, hg160⟩ h156
     have hk158' : Blk w157 N149 30 #[.int .i64 y144.c, .string y144.k, .string y144.t, .int .i64 y144.v] := hk158; clear hk158
     have hz161 := hg160.size
     refine pl_nil ?_
     refine co_then ?_
     refine co_seq ?_
     refine co_reg ?_
     refine pk0 (v := .bool true) h156 rfl fun a162 h162 => ?_; clear h156
     refine pl_nil ?_
     refine co_then ?_
     refine co_seq ?_
     refine co_seq ?_
     refine co_reg ?_
     refine pk0 (v := pt N149 0) h162 rfl fun a163 h163 => ?_; clear h162
     refine pk (v := .int .i64 y144.c) h163 rfl (rn_load1 rfl rfl Try.isAgg3 (hk158'.cell rfl)) fun a164 h164 => ?_; clear h163
     refine pl_nil ?_
     refine co_then ?_
     refine wp_block ?_
     refine co_seq ?_
     refine co_seq ?_
     refine co_reg ?_
     refine pk0 (v := .bool (y144.c == 0)) h164 rfl fun a165 h165 => ?_; clear h164
     refine pk0 (v := .bool (y144.c == 0)) h165 rfl fun a166 h166 => ?_; clear h165
     refine pl_nil ?_
     refine co_then ?_
     have hB168 := hb_new hB36 hg150
     have hB169 := hb_at hB168 hg160 (by omega)
     have hO170 := TwT.gr hf35 hg150 (fun k e => by cases e)
     have hO171 := TwT.gr hO170 hg160 (fun k e => by cases e; exact ho155)
     cases hc167 : (y144.c == 0)
     ·
      rw [hc167] at h166
      have hp172 : ¬ (y144.c = 0) := by first | simpa using hc167 | simpa [and_assoc] using hc167
      clear hc167
      refine co_false h166 rfl ?_
      refine co_reg ?_
      refine pk0 (v := .bool (y144.c == 1)) h166 rfl fun a173 h173 => ?_; clear h166
      refine pk0 (v := .bool (y144.c == 1)) h173 rfl fun a174 h174 => ?_; clear h173
      refine pl_nil ?_
      refine co_then ?_
      cases hc175 : (y144.c == 1)
      ·
       rw [hc175] at h174
       have hp176 : ¬ (y144.c = 1) := by first | simpa using hc175 | simpa [and_assoc] using hc175
       clear hc175
       refine co_false h174 rfl ?_
       refine co_seq ?_
       refine co_reg ?_
       refine pk0 (v := .bool (y144.c == 2)) h174 rfl fun a177 h177 => ?_; clear h174
       refine pk0 (v := .bool (y144.c == 2)) h177 rfl fun a178 h178 => ?_; clear h177
       refine pl_nil ?_
       refine co_then ?_
       cases hc179 : (y144.c == 2)
       ·
        rw [hc179] at h178
        have hp180 : ¬ (y144.c = 2) := by first | simpa using hc179 | simpa [and_assoc] using hc179
        clear hc179
        refine co_false h178 rfl ?_
        refine co_seq ?_
        refine co_reg ?_
        refine pk0 (v := .bool (y144.c == 3)) h178 rfl fun a181 h181 => ?_; clear h178
        refine pk0 (v := .bool (y144.c == 3)) h181 rfl fun a182 h182 => ?_; clear h181
        refine pl_nil ?_
        refine co_then ?_
        cases hc183 : (y144.c == 3)
        ·
         rw [hc183] at h182
         have hp184 : ¬ (y144.c = 3) := by first | simpa using hc183 | simpa [and_assoc] using hc183
         clear hc183
         refine co_false h182 rfl ?_
         refine co_seq ?_
         refine co_reg ?_
         refine pk0 (v := pt N4 0) h182 rfl fun a185 h185 => ?_; clear h182
         refine pk0 (v := pt N149 1) h185 rfl fun a186 h186 => ?_; clear h185
         refine pk (v := .string y144.k) h186 rfl (rn_load1 rfl rfl Try.isAgg9 (hk158'.cell rfl)) fun a187 h187 => ?_; clear h186
         refine pw h187 rfl (op_call (args := #[pt N4 0, .string y144.k]) (R := fun res xw => ∃ S' : Nat → Prop, res = .tuple #[.string ((hdK (wkL y144.k L)).1), .bool ((hdK (wkL y144.k L)).2)] ∧ TwT S' xw N4 N15 u L L ∧ Grew S S' w157 xw) rfl rfl rfl (by kernel_rfl) (by kernel_rfl) (Try.call22 _ _) (pSeek w157 y144.k hO171) (by rintro e x ⟨S', h0, h⟩; exact ⟨_, h0, S', rfl, h⟩)) ?_; clear h187
         rintro _ w189 a188 ⟨S190, rfl, hO191, hx192⟩ h188
         have hlo194 : ∀ q, S190 q → w.heap.size ≤ q := hx192.lo hlo38 (by omega)
         have hB193 := hbL hB169 hlo38 hx192.but
         have hz195 := hB193.size
         have hz196 := hx192.but.size
         refine pk0 (v := .tuple #[.string ((hdK (wkL y144.k L)).1), .bool ((hdK (wkL y144.k L)).2)]) h188 rfl fun a197 h197 => ?_; clear h188
         refine pk0 (v := .string ((hdK (wkL y144.k L)).1)) h197 rfl fun a198 h198 => ?_; clear h197
         refine pk0 (v := .bool ((hdK (wkL y144.k L)).2)) h198 rfl fun a199 h199 => ?_; clear h198
         refine pk0 (v := .string ((hdK (wkL y144.k L)).1)) h199 rfl fun a200 h200 => ?_; clear h199
         refine pk0 (v := .bool ((hdK (wkL y144.k L)).2)) h200 rfl fun a201 h201 => ?_; clear h200
         refine pl_nil ?_
         refine co_then ?_
         refine co_seq ?_
         refine co_reg ?_
         refine pk0 (v := pt N15 0) h201 rfl fun a202 h202 => ?_; clear h201
         refine pk0 (v := pt N149 1) h202 rfl fun a203 h203 => ?_; clear h202
         have hk204 := Blk.butS hk158' hx192.but ho155
         refine pk (v := .string y144.k) h203 rfl (rn_load1 rfl rfl Try.isAgg9 (hk204.cell rfl)) fun a205 h205 => ?_; clear h203
         refine pw h205 rfl (op_call (args := #[pt N15 0, .string y144.k]) (R := fun res xw => ∃ S' : Nat → Prop, res = .tuple #[.string ((hdK (wkL y144.k L)).1), .bool ((hdK (wkL y144.k L)).2)] ∧ TwT S' xw N4 N15 u L L ∧ Grew S190 S' w189 xw) rfl rfl rfl (by kernel_rfl) (by kernel_rfl) (Try.call23 _ _) (qSeek w189 y144.k hO191) (by rintro e x ⟨S', h0, h⟩; exact ⟨_, h0, S', rfl, h⟩)) ?_; clear h205
         rintro _ w207 a206 ⟨S208, rfl, hO209, hx210⟩ h206
         have hlo212 : ∀ q, S208 q → w.heap.size ≤ q := hx210.lo hlo194 (by omega)
         have hB211 := hbL hB193 hlo194 hx210.but
         have hz213 := hB211.size
         have hz214 := hx210.but.size
         refine pk0 (v := .tuple #[.string ((hdK (wkL y144.k L)).1), .bool ((hdK (wkL y144.k L)).2)]) h206 rfl fun a215 h215 => ?_; clear h206
         refine pk0 (v := .string ((hdK (wkL y144.k L)).1)) h215 rfl fun a216 h216 => ?_; clear h215
         refine pk0 (v := .bool ((hdK (wkL y144.k L)).2)) h216 rfl fun a217 h217 => ?_; clear h216
         refine pk0 (v := .string ((hdK (wkL y144.k L)).1)) h217 rfl fun a218 h218 => ?_; clear h217
         refine pk0 (v := .bool ((hdK (wkL y144.k L)).2)) h218 rfl fun a219 h219 => ?_; clear h218
         refine pl_nil ?_
         refine co_then ?_
         refine dr_gen (fun x => Below w.heap.size w x ∧ Blk x N149 30 #[.int .i64 y144.c, .string y144.k, .string y144.t, .int .i64 y144.v]) (by kernel_rfl) (fun w220 hg221 => ?_) (fun w220 hg221 => ?_)
         ·
          have hz222 := hg221.size
          have hB223 := hb_new hB211 hg221
          have hk224 := Blk.butS hk204 hx210.but (Grew.off hx192 ho155 hk158'.lt)
          have hk225 := hk224.kept hg221 (by simp)
          exact ⟨hB223, hk225⟩
         have hz226 := hg221.size
         have hB227 := hb_new hB211 hg221
         have hk228 := Blk.butS hk204 hx210.but (Grew.off hx192 ho155 hk158'.lt)
         have hk229 := hk228.kept hg221 (by simp)
         refine dk0 0 (v := .string ((hdK (wkL y144.k L)).1)) h219 rfl rfl ⟨hB227, hk229⟩ fun a230 h230 => ?_; clear h219
         refine dk0 1 (v := .string ((hdK (wkL y144.k L)).1)) h230 rfl rfl ⟨hB227, hk229⟩ fun a231 h231 => ?_; clear h230
         refine dk0 2 (v := .bool (((hdK (wkL y144.k L)).1 : ByteArray).toList == ((hdK (wkL y144.k L)).1 : ByteArray).toList)) h231 rfl rfl ⟨hB227, hk229⟩ fun a232 h232 => ?_; clear h231
         refine dk0 3 (v := .bool (((hdK (wkL y144.k L)).1 : ByteArray).toList == ((hdK (wkL y144.k L)).1 : ByteArray).toList)) h232 rfl rfl ⟨hB227, hk229⟩ fun a233 h233 => ?_; clear h232
         have hc234 : (((hdK (wkL y144.k L)).1 : ByteArray).toList == ((hdK (wkL y144.k L)).1 : ByteArray).toList) = true := by first | exact beq_self_eq_true _ | exact bne_self_eq_false _ | (simp; done)
         rw [hc234] at h233; clear hc234
         refine dk0 4 (v := .bool ((hdK (wkL y144.k L)).2)) h233 rfl rfl ⟨hB227, hk229⟩ fun a235 h235 => ?_; clear h233
         refine dk0 5 (v := .bool ((hdK (wkL y144.k L)).2)) h235 rfl rfl ⟨hB227, hk229⟩ fun a236 h236 => ?_; clear h235
         refine dk0 6 (v := .bool (((hdK (wkL y144.k L)).2) == ((hdK (wkL y144.k L)).2))) h236 rfl rfl ⟨hB227, hk229⟩ fun a237 h237 => ?_; clear h236
         refine dk0 7 (v := .bool (((hdK (wkL y144.k L)).2) == ((hdK (wkL y144.k L)).2))) h237 rfl rfl ⟨hB227, hk229⟩ fun a238 h238 => ?_; clear h237
         refine dk0 8 (v := .bool (((hdK (wkL y144.k L)).2) == ((hdK (wkL y144.k L)).2))) h238 rfl rfl ⟨hB227, hk229⟩ fun a239 h239 => ?_; clear h238
         have hc240 : (((hdK (wkL y144.k L)).2) == ((hdK (wkL y144.k L)).2)) = true := by first | exact beq_self_eq_true _ | exact bne_self_eq_false _ | (simp; done)
         rw [hc240] at h239; clear hc240
         refine dk0 9 (v := pt N4 0) h239 rfl rfl ⟨hB227, hk229⟩ fun a241 h241 => ?_; clear h239
         refine dk0 10 (v := pt N149 1) h241 rfl rfl ⟨hB227, hk229⟩ fun a242 h242 => ?_; clear h241
         refine dk 11 (v := .string y144.k) h242 rfl rfl ⟨hB227, hk229⟩ (fun x hx => (rn_load1 rfl rfl Try.isAgg9 (hx.2.cell rfl))) fun a243 h243 => ?_; clear h242
         refine dk0 12 (v := pt N149 2) h243 rfl rfl ⟨hB227, hk229⟩ fun a244 h244 => ?_; clear h243
         refine dk 13 (v := .string y144.t) h244 rfl rfl ⟨hB227, hk229⟩ (fun x hx => (rn_load1 rfl rfl Try.isAgg9 (hx.2.cell rfl))) fun a245 h245 => ?_; clear h244
         refine dk0 15 (v := pt N15 0) h245 rfl rfl ⟨hB227, hk229⟩ fun a246 h246 => ?_; clear h245
         refine dk0 16 (v := pt N149 1) h246 rfl rfl ⟨hB227, hk229⟩ fun a247 h247 => ?_; clear h246
         refine dk 17 (v := .string y144.k) h247 rfl rfl ⟨hB227, hk229⟩ (fun x hx => (rn_load1 rfl rfl Try.isAgg9 (hx.2.cell rfl))) fun a248 h248 => ?_; clear h247
         refine dk0 18 (v := pt N149 2) h248 rfl rfl ⟨hB227, hk229⟩ fun a249 h249 => ?_; clear h248
         refine dk 19 (v := .string y144.t) h249 rfl rfl ⟨hB227, hk229⟩ (fun x hx => (rn_load1 rfl rfl Try.isAgg9 (hx.2.cell rfl))) fun a250 h250 => ?_; clear h249
         have hO253 := TwT.gr hO209 hg221 (fun k e => by cases e)
         refine d1 14 h250 rfl rfl (op_call (args := #[pt N4 0, .string y144.k, .string y144.t]) (R := fun res xw => ∃ u2 : Value, ∃ S' : Nat → Prop, res = u2 ∧ TwT S' xw N4 N15 u L L ∧ (xw.ownsRow w220.heap.size 9 1 u2 (inL y144.k y144.t L).length ((inL y144.k y144.t L).flatMap strE)) ∧ (∀ q, S' q → q < w220.heap.size) ∧ Grew S208 S' w220 xw) rfl rfl rfl (by kernel_rfl) (by kernel_rfl) (Try.call25 _ _) (pKeys w220 y144.k y144.t hO253 (by omega)) (by rintro e x ⟨u2, S', h0, h⟩; exact ⟨_, h0, u2, S', rfl, h⟩)) ?_ ?_; clear h250
         ·
          rintro u2254 w252 ⟨_, S255, rfl, hO256, hq258, hq259, hx257⟩
          have hlo261 : ∀ q, S255 q → w.heap.size ≤ q := hx257.lo hlo212 (by omega)
          have hB260 := hbL hB227 hlo212 hx257.but
          have hz262 := hB260.size
          have hz263 := hx257.but.size
          have hk264 := Blk.butS hk229 hx257.but (Grew.off hx210 (Grew.off hx192 ho155 hk158'.lt) hk204.lt)
          exact ⟨hB260, hk264⟩
         rintro u2254 w252 a251 ⟨_, S255, rfl, hO256, hq258, hq259, hx257⟩ h251
         have hlo261 : ∀ q, S255 q → w.heap.size ≤ q := hx257.lo hlo212 (by omega)
         have hB260 := hbL hB227 hlo212 hx257.but
         have hz262 := hB260.size
         have hz263 := hx257.but.size
         have hk264 := Blk.butS hk229 hx257.but (Grew.off hx210 (Grew.off hx192 ho155 hk158'.lt) hk204.lt)
         refine d1 20 h251 rfl rfl (op_call (args := #[pt N15 0, .string y144.k, .string y144.t]) (R := fun res xw => ∃ u2 : Value, ∃ S' : Nat → Prop, res = u2 ∧ TwT S' xw N4 N15 u L L ∧ (xw.ownsRow w252.heap.size 9 1 u2 (inL y144.k y144.t L).length ((inL y144.k y144.t L).flatMap strE)) ∧ (∀ q, S' q → q < w252.heap.size) ∧ Grew S255 S' w252 xw) rfl rfl rfl (by kernel_rfl) (by kernel_rfl) (Try.call26 _ _) (qKeys w252 y144.k y144.t hO256 (by omega)) (by rintro e x ⟨u2, S', h0, h⟩; exact ⟨_, h0, u2, S', rfl, h⟩)) ?_ ?_; clear h251
         ·
          rintro u2267 w266 ⟨_, S268, rfl, hO269, hq271, hq272, hx270⟩
          have hlo274 : ∀ q, S268 q → w.heap.size ≤ q := hx270.lo hlo261 (by omega)
          have hB273 := hbL hB260 hlo261 hx270.but
          have hz275 := hB273.size
          have hz276 := hx270.but.size
          have hk277 := Blk.butS hk264 hx270.but (Grew.off hx257 (Grew.off hx210 (Grew.off hx192 ho155 hk158'.lt) hk204.lt) hk229.lt)
          exact ⟨hB273, hk277⟩
         rintro u2267 w266 a265 ⟨_, S268, rfl, hO269, hq271, hq272, hx270⟩ h265
         have hlo274 : ∀ q, S268 q → w.heap.size ≤ q := hx270.lo hlo261 (by omega)
         have hB273 := hbL hB260 hlo261 hx270.but
         have hz275 := hB273.size
         have hz276 := hx270.but.size
         have hk277 := Blk.butS hk264 hx270.but (Grew.off hx257 (Grew.off hx210 (Grew.off hx192 ho155 hk158'.lt) hk204.lt) hk229.lt)
         have hr281 := own_butS hq258 hx270.but (offR_row hq259 hq258 (Nat.le_refl _))
         refine d1 21 h265 rfl rfl (op_call (args := #[u2254, u2267]) (R := fun res xw => res = .bool true ∧ Below w266.heap.size w266 xw) rfl rfl rfl (by kernel_rfl) (by kernel_rfl) (Try.call24 _ _) (same_rows w266 hr281 hq271) (by rintro e x ⟨rfl, h⟩; exact ⟨_, rfl, rfl, h⟩)) ?_ ?_; clear h265
         ·
          rintro _ w279 ⟨rfl, hb280⟩
          have hz282 := hb280.size
          have ho283 := TwT.ofS hO269
          have hB284 := hb_call hB273 hb280
          have hk285 := hk277.below hb280
          exact ⟨hB284, hk285⟩
         rintro _ w279 a278 ⟨rfl, hb280⟩ h278
         have hz282 := hb280.size
         have ho283 := TwT.ofS hO269
         have hB284 := hb_call hB273 hb280
         have hk285 := hk277.below hb280
         refine dk0 22 (v := .bool true) h278 rfl rfl ⟨hB284, hk285⟩ fun a286 h286 => ?_; clear h278
         refine dk0 23 (v := .bool true) h286 rfl rfl ⟨hB284, hk285⟩ fun a287 h287 => ?_; clear h286
         refine dr_done (by kernel_rfl) ?_
         refine co_blockN ?_
         refine co_then ?_
         refine co_cut (fun a x => ∃ (S9 : Nat → Prop) (u9 : Value) (L9 : List Kv), Slots 143 [(0, v), (3, pt N4 0), (4, pt N15 0), (5, .int .i64 ((i : Nat) : Int)), (6, pt N149 0), (134, .bool false)] a ∧ (∀ q, S9 q → w.heap.size ≤ q) ∧ (¬ S9 N149) ∧ (L9.length ≤ i + 1) ∧ TwT S9 x N4 N15 u9 L9 L9 ∧ Blk x N149 30 #[.int .i64 y144.c, .string y144.k, .string y144.t, .int .i64 y144.v] ∧ Below w.heap.size w x) ?_ ?_
         ·
          refine dr_gen (fun x => Below w.heap.size w x) (by kernel_rfl) (fun w288 hg289 => ?_) (fun w288 hg289 => ?_)
          ·
           have hz290 := hg289.size
           have hB291 := hb_new hB284 hg289
           exact hB291
          have hz292 := hg289.size
          have hB293 := hb_new hB284 hg289
          refine dk0 0 (v := .bool true) h287 rfl rfl hB293 fun a294 h294 => ?_; clear h287
          refine dk0 1 (v := .bool false) h294 rfl rfl hB293 fun a295 h295 => ?_; clear h294
          refine dk0 2 (v := .bool false) h295 rfl rfl hB293 fun a296 h296 => ?_; clear h295
          refine dk0 3 (v := pt N4 0) h296 rfl rfl hB293 fun a297 h297 => ?_; clear h296
          refine dk0 5 (v := pt N15 0) h297 rfl rfl hB293 fun a298 h298 => ?_; clear h297
          refine dk0 6 (v := pt N15 0) h298 rfl rfl hB293 fun a299 h299 => ?_; clear h298
          refine dk0 7 (v := pt N15 0) h299 rfl rfl hB293 fun a300 h300 => ?_; clear h299
          refine dr_many [4, 8] (by kernel_rfl) (by simp) ⟨?_, ?_, trivial⟩
          ·
           have hO303 := TwT.gr hO269 (below_grown hb280) (fun k e => by cases e)
           have hO304 := TwT.gr hO303 hg289 (fun k e => by cases e)
           have hr305 := row_kept_new hr281 (below_grown hb280)
           have hr306 := row_kept_new hr305 hg289
           have hr307 := row_kept_new hq271 (below_grown hb280)
           have hr308 := row_kept_new hr307 hg289
           refine dr_op (i := 4) h300 rfl rfl rfl rfl (op_call (args := #[pt N4 0]) (R := fun res xw => ∃ S' : Nat → Prop, res = .int .i64 ((L.length : Nat) : Int) ∧ TwT S' xw N4 N15 u L L ∧ Grew S268 S' w288 xw) rfl rfl rfl (by kernel_rfl) (by kernel_rfl) (Try.call27 _ _) (pLen w288 hO304) (by rintro e x ⟨S', h0, h⟩; exact ⟨_, h0, S', rfl, h⟩)) ?_ ?_; clear h300
           ·
            rintro _ w302 ⟨S309, rfl, hO310, hx311⟩
            have hk312 := hk285.kept hg289 (by simp)
            have hlo314 : ∀ q, S309 q → w.heap.size ≤ q := hx311.lo hlo274 (by omega)
            have hB313 := hbL hB293 hlo274 hx311.but
            have hz315 := hB313.size
            have hz316 := hx311.but.size
            exact hB313
           rintro _ w302 a301 ⟨S309, rfl, hO310, hx311⟩ h301
           have hk312 := hk285.kept hg289 (by simp)
           have hlo314 : ∀ q, S309 q → w.heap.size ≤ q := hx311.lo hlo274 (by omega)
           have hB313 := hbL hB293 hlo274 hx311.but
           have hz315 := hB313.size
           have hz316 := hx311.but.size
           refine dr_many [8] (by kernel_rfl) (by simp) ⟨?_, trivial⟩
           ·
            refine dr_opVal (i := 8) (v := u) h301 rfl rfl rfl rfl (by kernel_rfl) rfl (rn_load1 rfl rfl Try.isAgg26 ((TwT.blk hO310).cell rfl)) hB313 (fun a317 h317 => ?_); clear h301
            refine dr_many [9] (by kernel_rfl) (by simp) ⟨?_, trivial⟩
            ·
             refine dr_opVal (i := 9) (v := .int .i64 ((L.length : Nat) : Int)) h317 rfl rfl rfl rfl (by kernel_rfl) rfl (rn_len rfl rfl Try.underlying26 (TwT.sl hO310)) hB313 (fun a318 h318 => ?_); clear h317
             refine dk0 10 (v := .bool (((L.length : Nat) : Int) != ((L.length : Nat) : Int))) h318 rfl rfl hB313 fun a319 h319 => ?_; clear h318
             refine dk0 11 (v := .bool (((L.length : Nat) : Int) != ((L.length : Nat) : Int))) h319 rfl rfl hB313 fun a320 h320 => ?_; clear h319
             refine dr_done (by kernel_rfl) ?_
             refine co_then ?_
             have hc321 : (((L.length : Nat) : Int) != ((L.length : Nat) : Int)) = false := by first | exact beq_self_eq_true _ | exact bne_self_eq_false _ | (simp; done)
             rw [hc321] at h320; clear hc321
             have hk322 := Blk.butS hk312 hx311.but (Grew.off hx270 (Grew.off hx257 (Grew.off hx210 (Grew.off hx192 ho155 hk158'.lt) hk204.lt) hk229.lt) hk264.lt)
             exact ⟨S309, u, L, h320.sub ⟨rfl, rfl, rfl, rfl, rfl, rfl, trivial⟩, by exact hlo314, by exact (Grew.off hx311 (Grew.off hx270 (Grew.off hx257 (Grew.off hx210 (Grew.off hx192 ho155 hk158'.lt) hk204.lt) hk229.lt) hk264.lt) hk312.lt), by first | omega | exact Nat.le_trans insL_leT (by omega) | exact Nat.le_trans delL_leT (by omega), hO310, hk322, hB313⟩
          ·
           have hO323 := TwT.gr hO269 (below_grown hb280) (fun k e => by cases e)
           have hO324 := TwT.gr hO323 hg289 (fun k e => by cases e)
           refine dr_opVal (i := 8) (v := u) h300 rfl rfl rfl rfl (by kernel_rfl) rfl (rn_load1 rfl rfl Try.isAgg26 ((TwT.blk hO324).cell rfl)) hB293 (fun a325 h325 => ?_); clear h300
           refine dr_many [4, 9] (by kernel_rfl) (by simp) ⟨?_, ?_, trivial⟩
           ·
            have hr328 := row_kept_new hr281 (below_grown hb280)
            have hr329 := row_kept_new hr328 hg289
            have hr330 := row_kept_new hq271 (below_grown hb280)
            have hr331 := row_kept_new hr330 hg289
            refine dr_op (i := 4) h325 rfl rfl rfl rfl (op_call (args := #[pt N4 0]) (R := fun res xw => ∃ S' : Nat → Prop, res = .int .i64 ((L.length : Nat) : Int) ∧ TwT S' xw N4 N15 u L L ∧ Grew S268 S' w288 xw) rfl rfl rfl (by kernel_rfl) (by kernel_rfl) (Try.call27 _ _) (pLen w288 hO324) (by rintro e x ⟨S', h0, h⟩; exact ⟨_, h0, S', rfl, h⟩)) ?_ ?_; clear h325
            ·
             rintro _ w327 ⟨S332, rfl, hO333, hx334⟩
             have hk335 := hk285.kept hg289 (by simp)
             have hlo337 : ∀ q, S332 q → w.heap.size ≤ q := hx334.lo hlo274 (by omega)
             have hB336 := hbL hB293 hlo274 hx334.but
             have hz338 := hB336.size
             have hz339 := hx334.but.size
             exact hB336
            rintro _ w327 a326 ⟨S332, rfl, hO333, hx334⟩ h326
            have hk335 := hk285.kept hg289 (by simp)
            have hlo337 : ∀ q, S332 q → w.heap.size ≤ q := hx334.lo hlo274 (by omega)
            have hB336 := hbL hB293 hlo274 hx334.but
            have hz338 := hB336.size
            have hz339 := hx334.but.size
            refine dr_many [9] (by kernel_rfl) (by simp) ⟨?_, trivial⟩
            ·
             refine dr_opVal (i := 9) (v := .int .i64 ((L.length : Nat) : Int)) h326 rfl rfl rfl rfl (by kernel_rfl) rfl (rn_len rfl rfl Try.underlying26 (TwT.sl hO333)) hB336 (fun a340 h340 => ?_); clear h326
             refine dk0 10 (v := .bool (((L.length : Nat) : Int) != ((L.length : Nat) : Int))) h340 rfl rfl hB336 fun a341 h341 => ?_; clear h340
             refine dk0 11 (v := .bool (((L.length : Nat) : Int) != ((L.length : Nat) : Int))) h341 rfl rfl hB336 fun a342 h342 => ?_; clear h341
             refine dr_done (by kernel_rfl) ?_
             refine co_then ?_
             have hc343 : (((L.length : Nat) : Int) != ((L.length : Nat) : Int)) = false := by first | exact beq_self_eq_true _ | exact bne_self_eq_false _ | (simp; done)
             rw [hc343] at h342; clear hc343
             have hk344 := Blk.butS hk335 hx334.but (Grew.off hx270 (Grew.off hx257 (Grew.off hx210 (Grew.off hx192 ho155 hk158'.lt) hk204.lt) hk229.lt) hk264.lt)
             exact ⟨S332, u, L, h342.sub ⟨rfl, rfl, rfl, rfl, rfl, rfl, trivial⟩, by exact hlo337, by exact (Grew.off hx334 (Grew.off hx270 (Grew.off hx257 (Grew.off hx210 (Grew.off hx192 ho155 hk158'.lt) hk204.lt) hk229.lt) hk264.lt) hk335.lt), by first | omega | exact Nat.le_trans insL_leT (by omega) | exact Nat.le_trans delL_leT (by omega), hO333, hk344, hB336⟩
           ·
            refine dr_opVal (i := 9) (v := .int .i64 ((L.length : Nat) : Int)) h325 rfl rfl rfl rfl (by kernel_rfl) rfl (rn_len rfl rfl Try.underlying26 (TwT.sl hO324)) hB293 (fun a345 h345 => ?_); clear h325
            have hr348 := row_kept_new hr281 (below_grown hb280)
            have hr349 := row_kept_new hr348 hg289
            have hr350 := row_kept_new hq271 (below_grown hb280)
            have hr351 := row_kept_new hr350 hg289
            refine d1 4 h345 rfl rfl (op_call (args := #[pt N4 0]) (R := fun res xw => ∃ S' : Nat → Prop, res = .int .i64 ((L.length : Nat) : Int) ∧ TwT S' xw N4 N15 u L L ∧ Grew S268 S' w288 xw) rfl rfl rfl (by kernel_rfl) (by kernel_rfl) (Try.call27 _ _) (pLen w288 hO324) (by rintro e x ⟨S', h0, h⟩; exact ⟨_, h0, S', rfl, h⟩)) ?_ ?_; clear h345
            ·
             rintro _ w347 ⟨S352, rfl, hO353, hx354⟩
             have hk355 := hk285.kept hg289 (by simp)
             have hlo357 : ∀ q, S352 q → w.heap.size ≤ q := hx354.lo hlo274 (by omega)
             have hB356 := hbL hB293 hlo274 hx354.but
             have hz358 := hB356.size
             have hz359 := hx354.but.size
             exact hB356
            rintro _ w347 a346 ⟨S352, rfl, hO353, hx354⟩ h346
            have hk355 := hk285.kept hg289 (by simp)
            have hlo357 : ∀ q, S352 q → w.heap.size ≤ q := hx354.lo hlo274 (by omega)
            have hB356 := hbL hB293 hlo274 hx354.but
            have hz358 := hB356.size
            have hz359 := hx354.but.size
            refine dk0 10 (v := .bool (((L.length : Nat) : Int) != ((L.length : Nat) : Int))) h346 rfl rfl hB356 fun a360 h360 => ?_; clear h346
            refine dk0 11 (v := .bool (((L.length : Nat) : Int) != ((L.length : Nat) : Int))) h360 rfl rfl hB356 fun a361 h361 => ?_; clear h360
            refine dr_done (by kernel_rfl) ?_
            refine co_then ?_
            have hc362 : (((L.length : Nat) : Int) != ((L.length : Nat) : Int)) = false := by first | exact beq_self_eq_true _ | exact bne_self_eq_false _ | (simp; done)
            rw [hc362] at h361; clear hc362
            have hk363 := Blk.butS hk355 hx354.but (Grew.off hx270 (Grew.off hx257 (Grew.off hx210 (Grew.off hx192 ho155 hk158'.lt) hk204.lt) hk229.lt) hk264.lt)
            exact ⟨S352, u, L, h361.sub ⟨rfl, rfl, rfl, rfl, rfl, rfl, trivial⟩, by exact hlo357, by exact (Grew.off hx354 (Grew.off hx270 (Grew.off hx257 (Grew.off hx210 (Grew.off hx192 ho155 hk158'.lt) hk204.lt) hk229.lt) hk264.lt) hk355.lt), by first | omega | exact Nat.le_trans insL_leT (by omega) | exact Nat.le_trans delL_leT (by omega), hO353, hk363, hB356⟩
         rintro a364 w365 ⟨S9, u9, L9, h364, hi366, hi367, hi368, hf369, hf370, hB371⟩
         have hz372 := hB371.size
         have hl373 := hf370.lt
         refine co_false h364 rfl ?_
         refine wp_skip ?_
         refine co_blockN ?_
         refine co_then ?_
         refine co_reg ?_
         refine pk0 (v := .int .i64 ((i : Nat) : Int)) h364 rfl fun a374 h374 => ?_; clear h364
         refine pk (v := .int .i64 ((i + 1 : Nat) : Int)) h374 rfl (rn_arith' rfl rfl rfl rfl rfl rfl (IntWalk.i64_in _ (by omega)) (by omega)) fun a375 h375 => ?_; clear h374
         refine pk0 (v := .int .i64 ((i + 1 : Nat) : Int)) h375 rfl fun a376 h376 => ?_; clear h375
         refine pl_nil ?_
         refine co_then ?_
         refine ⟨(l.length - (i + 1)), by omega, ?_⟩
         have hlo' := hi366
         exact ⟨i + 1, S9, u9, L9, h376.sub ⟨rfl, rfl, rfl, rfl, trivial⟩, rfl, by omega, by omega, by exact hlo', by first | (simp; done) | omega | exact Nat.le_trans insL_leT (by omega) | exact Nat.le_trans delL_leT (by omega), hf369, hB371⟩
        ·
         rw [hc183] at h182
         have hp377 : y144.c = 3 := by first | simpa using hc183 | simpa [and_assoc] using hc183
         clear hc183
         refine co_true h182 rfl ?_
         refine co_seq ?_
         refine co_reg ?_
         refine pk0 (v := pt N4 0) h182 rfl fun a378 h378 => ?_; clear h182
         refine pk0 (v := pt N149 1) h378 rfl fun a379 h379 => ?_; clear h378
         refine pk (v := .string y144.k) h379 rfl (rn_load1 rfl rfl Try.isAgg9 (hk158'.cell rfl)) fun a380 h380 => ?_; clear h379
         refine pw h380 rfl (op_call (args := #[pt N4 0, .string y144.k]) (R := fun res xw => ∃ S' : Nat → Prop, res = .tuple #[.int .i64 (getL L y144.k), .bool (hasL L y144.k)] ∧ TwT S' xw N4 N15 u L L ∧ Grew S S' w157 xw) rfl rfl rfl (by kernel_rfl) (by kernel_rfl) (Try.call20 _ _) (pGet w157 y144.k hO171) (by rintro e x ⟨S', h0, h⟩; exact ⟨_, h0, S', rfl, h⟩)) ?_; clear h380
         rintro _ w382 a381 ⟨S383, rfl, hO384, hx385⟩ h381
         have hlo387 : ∀ q, S383 q → w.heap.size ≤ q := hx385.lo hlo38 (by omega)
         have hB386 := hbL hB169 hlo38 hx385.but
         have hz388 := hB386.size
         have hz389 := hx385.but.size
         refine pk0 (v := .tuple #[.int .i64 (getL L y144.k), .bool (hasL L y144.k)]) h381 rfl fun a390 h390 => ?_; clear h381
         refine pk0 (v := .int .i64 (getL L y144.k)) h390 rfl fun a391 h391 => ?_; clear h390
         refine pk0 (v := .bool (hasL L y144.k)) h391 rfl fun a392 h392 => ?_; clear h391
         refine pk0 (v := .int .i64 (getL L y144.k)) h392 rfl fun a393 h393 => ?_; clear h392
         refine pk0 (v := .bool (hasL L y144.k)) h393 rfl fun a394 h394 => ?_; clear h393
         refine pl_nil ?_
         refine co_then ?_
         refine co_seq ?_
         refine co_reg ?_
         refine pk0 (v := pt N15 0) h394 rfl fun a395 h395 => ?_; clear h394
         refine pk0 (v := pt N149 1) h395 rfl fun a396 h396 => ?_; clear h395
         have hk397 := Blk.butS hk158' hx385.but ho155
         refine pk (v := .string y144.k) h396 rfl (rn_load1 rfl rfl Try.isAgg9 (hk397.cell rfl)) fun a398 h398 => ?_; clear h396
         refine pw h398 rfl (op_call (args := #[pt N15 0, .string y144.k]) (R := fun res xw => ∃ S' : Nat → Prop, res = .tuple #[.int .i64 (getL L y144.k), .bool (hasL L y144.k)] ∧ TwT S' xw N4 N15 u L L ∧ Grew S383 S' w382 xw) rfl rfl rfl (by kernel_rfl) (by kernel_rfl) (Try.call21 _ _) (qGet w382 y144.k hO384) (by rintro e x ⟨S', h0, h⟩; exact ⟨_, h0, S', rfl, h⟩)) ?_; clear h398
         rintro _ w400 a399 ⟨S401, rfl, hO402, hx403⟩ h399
         have hlo405 : ∀ q, S401 q → w.heap.size ≤ q := hx403.lo hlo387 (by omega)
         have hB404 := hbL hB386 hlo387 hx403.but
         have hz406 := hB404.size
         have hz407 := hx403.but.size
         refine pk0 (v := .tuple #[.int .i64 (getL L y144.k), .bool (hasL L y144.k)]) h399 rfl fun a408 h408 => ?_; clear h399
         refine pk0 (v := .int .i64 (getL L y144.k)) h408 rfl fun a409 h409 => ?_; clear h408
         refine pk0 (v := .bool (hasL L y144.k)) h409 rfl fun a410 h410 => ?_; clear h409
         refine pk0 (v := .int .i64 (getL L y144.k)) h410 rfl fun a411 h411 => ?_; clear h410
         refine pk0 (v := .bool (hasL L y144.k)) h411 rfl fun a412 h412 => ?_; clear h411
         refine pl_nil ?_
         refine co_then ?_
         refine co_reg ?_
         refine pk0 (v := .int .i64 (getL L y144.k)) h412 rfl fun a413 h413 => ?_; clear h412
         refine pk0 (v := .int .i64 (getL L y144.k)) h413 rfl fun a414 h414 => ?_; clear h413
         refine pk0 (v := .bool (getL L y144.k == getL L y144.k)) h414 rfl fun a415 h415 => ?_; clear h414
         refine pk0 (v := .bool (getL L y144.k == getL L y144.k)) h415 rfl fun a416 h416 => ?_; clear h415
         have hc417 : (getL L y144.k == getL L y144.k) = true := by first | exact beq_self_eq_true _ | exact bne_self_eq_false _ | (simp; done)
         rw [hc417] at h416; clear hc417
         refine pk0 (v := .bool (hasL L y144.k)) h416 rfl fun a418 h418 => ?_; clear h416
         refine pk0 (v := .bool (hasL L y144.k)) h418 rfl fun a419 h419 => ?_; clear h418
         refine pk0 (v := .bool ((hasL L y144.k) == (hasL L y144.k))) h419 rfl fun a420 h420 => ?_; clear h419
         refine pk0 (v := .bool ((hasL L y144.k) == (hasL L y144.k))) h420 rfl fun a421 h421 => ?_; clear h420
         refine pk0 (v := .bool ((hasL L y144.k) == (hasL L y144.k))) h421 rfl fun a422 h422 => ?_; clear h421
         refine pl_nil ?_
         refine co_blockN ?_
         refine co_then ?_
         refine co_cut (fun a x => ∃ (S9 : Nat → Prop) (u9 : Value) (L9 : List Kv), Slots 143 [(0, v), (3, pt N4 0), (4, pt N15 0), (5, .int .i64 ((i : Nat) : Int)), (6, pt N149 0), (134, .bool false)] a ∧ (∀ q, S9 q → w.heap.size ≤ q) ∧ (¬ S9 N149) ∧ (L9.length ≤ i + 1) ∧ TwT S9 x N4 N15 u9 L9 L9 ∧ Blk x N149 30 #[.int .i64 y144.c, .string y144.k, .string y144.t, .int .i64 y144.v] ∧ Below w.heap.size w x) ?_ ?_
         ·
          refine dr_gen (fun x => Below w.heap.size w x) (by kernel_rfl) (fun w423 hg424 => ?_) (fun w423 hg424 => ?_)
          ·
           have hz425 := hg424.size
           have hB426 := hb_new hB404 hg424
           exact hB426
          have hz427 := hg424.size
          have hB428 := hb_new hB404 hg424
          refine dk0 0 (v := .bool ((hasL L y144.k) == (hasL L y144.k))) h422 rfl rfl hB428 fun a429 h429 => ?_; clear h422
          have hc430 : ((hasL L y144.k) == (hasL L y144.k)) = true := by first | exact beq_self_eq_true _ | exact bne_self_eq_false _ | (simp; done)
          rw [hc430] at h429; clear hc430
          refine dk0 1 (v := .bool false) h429 rfl rfl hB428 fun a431 h431 => ?_; clear h429
          refine dk0 2 (v := .bool false) h431 rfl rfl hB428 fun a432 h432 => ?_; clear h431
          refine dk0 3 (v := pt N4 0) h432 rfl rfl hB428 fun a433 h433 => ?_; clear h432
          refine dk0 5 (v := pt N15 0) h433 rfl rfl hB428 fun a434 h434 => ?_; clear h433
          refine dk0 6 (v := pt N15 0) h434 rfl rfl hB428 fun a435 h435 => ?_; clear h434
          refine dk0 7 (v := pt N15 0) h435 rfl rfl hB428 fun a436 h436 => ?_; clear h435
          refine dr_many [4, 8] (by kernel_rfl) (by simp) ⟨?_, ?_, trivial⟩
          ·
           have hO439 := TwT.gr hO402 hg424 (fun k e => by cases e)
           have hk440 := Blk.butS hk397 hx403.but (Grew.off hx385 ho155 hk158'.lt)
           have hk441 := hk440.kept hg424 (by simp)
           refine dr_op (i := 4) h436 rfl rfl rfl rfl (op_call (args := #[pt N4 0]) (R := fun res xw => ∃ S' : Nat → Prop, res = .int .i64 ((L.length : Nat) : Int) ∧ TwT S' xw N4 N15 u L L ∧ Grew S401 S' w423 xw) rfl rfl rfl (by kernel_rfl) (by kernel_rfl) (Try.call27 _ _) (pLen w423 hO439) (by rintro e x ⟨S', h0, h⟩; exact ⟨_, h0, S', rfl, h⟩)) ?_ ?_; clear h436
           ·
            rintro _ w438 ⟨S442, rfl, hO443, hx444⟩
            have hlo446 : ∀ q, S442 q → w.heap.size ≤ q := hx444.lo hlo405 (by omega)
            have hB445 := hbL hB428 hlo405 hx444.but
            have hz447 := hB445.size
            have hz448 := hx444.but.size
            exact hB445
           rintro _ w438 a437 ⟨S442, rfl, hO443, hx444⟩ h437
           have hlo446 : ∀ q, S442 q → w.heap.size ≤ q := hx444.lo hlo405 (by omega)
           have hB445 := hbL hB428 hlo405 hx444.but
           have hz447 := hB445.size
           have hz448 := hx444.but.size
           refine dr_many [8] (by kernel_rfl) (by simp) ⟨?_, trivial⟩
           ·
            refine dr_opVal (i := 8) (v := u) h437 rfl rfl rfl rfl (by kernel_rfl) rfl (rn_load1 rfl rfl Try.isAgg26 ((TwT.blk hO443).cell rfl)) hB445 (fun a449 h449 => ?_); clear h437
            refine dr_many [9] (by kernel_rfl) (by simp) ⟨?_, trivial⟩
            ·
             refine dr_opVal (i := 9) (v := .int .i64 ((L.length : Nat) : Int)) h449 rfl rfl rfl rfl (by kernel_rfl) rfl (rn_len rfl rfl Try.underlying26 (TwT.sl hO443)) hB445 (fun a450 h450 => ?_); clear h449
             refine dk0 10 (v := .bool (((L.length : Nat) : Int) != ((L.length : Nat) : Int))) h450 rfl rfl hB445 fun a451 h451 => ?_; clear h450
             refine dk0 11 (v := .bool (((L.length : Nat) : Int) != ((L.length : Nat) : Int))) h451 rfl rfl hB445 fun a452 h452 => ?_; clear h451
             refine dr_done (by kernel_rfl) ?_
             refine co_then ?_
             have hc453 : (((L.length : Nat) : Int) != ((L.length : Nat) : Int)) = false := by first | exact beq_self_eq_true _ | exact bne_self_eq_false _ | (simp; done)
             rw [hc453] at h452; clear hc453
             have hk454 := Blk.butS hk441 hx444.but (Grew.off hx403 (Grew.off hx385 ho155 hk158'.lt) hk397.lt)
             exact ⟨S442, u, L, h452.sub ⟨rfl, rfl, rfl, rfl, rfl, rfl, trivial⟩, by exact hlo446, by exact (Grew.off hx444 (Grew.off hx403 (Grew.off hx385 ho155 hk158'.lt) hk397.lt) hk441.lt), by first | omega | exact Nat.le_trans insL_leT (by omega) | exact Nat.le_trans delL_leT (by omega), hO443, hk454, hB445⟩
          ·
           have hO455 := TwT.gr hO402 hg424 (fun k e => by cases e)
           refine dr_opVal (i := 8) (v := u) h436 rfl rfl rfl rfl (by kernel_rfl) rfl (rn_load1 rfl rfl Try.isAgg26 ((TwT.blk hO455).cell rfl)) hB428 (fun a456 h456 => ?_); clear h436
           refine dr_many [4, 9] (by kernel_rfl) (by simp) ⟨?_, ?_, trivial⟩
           ·
            have hk459 := Blk.butS hk397 hx403.but (Grew.off hx385 ho155 hk158'.lt)
            have hk460 := hk459.kept hg424 (by simp)
            refine dr_op (i := 4) h456 rfl rfl rfl rfl (op_call (args := #[pt N4 0]) (R := fun res xw => ∃ S' : Nat → Prop, res = .int .i64 ((L.length : Nat) : Int) ∧ TwT S' xw N4 N15 u L L ∧ Grew S401 S' w423 xw) rfl rfl rfl (by kernel_rfl) (by kernel_rfl) (Try.call27 _ _) (pLen w423 hO455) (by rintro e x ⟨S', h0, h⟩; exact ⟨_, h0, S', rfl, h⟩)) ?_ ?_; clear h456
            ·
             rintro _ w458 ⟨S461, rfl, hO462, hx463⟩
             have hlo465 : ∀ q, S461 q → w.heap.size ≤ q := hx463.lo hlo405 (by omega)
             have hB464 := hbL hB428 hlo405 hx463.but
             have hz466 := hB464.size
             have hz467 := hx463.but.size
             exact hB464
            rintro _ w458 a457 ⟨S461, rfl, hO462, hx463⟩ h457
            have hlo465 : ∀ q, S461 q → w.heap.size ≤ q := hx463.lo hlo405 (by omega)
            have hB464 := hbL hB428 hlo405 hx463.but
            have hz466 := hB464.size
            have hz467 := hx463.but.size
            refine dr_many [9] (by kernel_rfl) (by simp) ⟨?_, trivial⟩
            ·
             refine dr_opVal (i := 9) (v := .int .i64 ((L.length : Nat) : Int)) h457 rfl rfl rfl rfl (by kernel_rfl) rfl (rn_len rfl rfl Try.underlying26 (TwT.sl hO462)) hB464 (fun a468 h468 => ?_); clear h457
             refine dk0 10 (v := .bool (((L.length : Nat) : Int) != ((L.length : Nat) : Int))) h468 rfl rfl hB464 fun a469 h469 => ?_; clear h468
             refine dk0 11 (v := .bool (((L.length : Nat) : Int) != ((L.length : Nat) : Int))) h469 rfl rfl hB464 fun a470 h470 => ?_; clear h469
             refine dr_done (by kernel_rfl) ?_
             refine co_then ?_
             have hc471 : (((L.length : Nat) : Int) != ((L.length : Nat) : Int)) = false := by first | exact beq_self_eq_true _ | exact bne_self_eq_false _ | (simp; done)
             rw [hc471] at h470; clear hc471
             have hk472 := Blk.butS hk460 hx463.but (Grew.off hx403 (Grew.off hx385 ho155 hk158'.lt) hk397.lt)
             exact ⟨S461, u, L, h470.sub ⟨rfl, rfl, rfl, rfl, rfl, rfl, trivial⟩, by exact hlo465, by exact (Grew.off hx463 (Grew.off hx403 (Grew.off hx385 ho155 hk158'.lt) hk397.lt) hk460.lt), by first | omega | exact Nat.le_trans insL_leT (by omega) | exact Nat.le_trans delL_leT (by omega), hO462, hk472, hB464⟩
           ·
            refine dr_opVal (i := 9) (v := .int .i64 ((L.length : Nat) : Int)) h456 rfl rfl rfl rfl (by kernel_rfl) rfl (rn_len rfl rfl Try.underlying26 (TwT.sl hO455)) hB428 (fun a473 h473 => ?_); clear h456
            have hk476 := Blk.butS hk397 hx403.but (Grew.off hx385 ho155 hk158'.lt)
            have hk477 := hk476.kept hg424 (by simp)
            refine d1 4 h473 rfl rfl (op_call (args := #[pt N4 0]) (R := fun res xw => ∃ S' : Nat → Prop, res = .int .i64 ((L.length : Nat) : Int) ∧ TwT S' xw N4 N15 u L L ∧ Grew S401 S' w423 xw) rfl rfl rfl (by kernel_rfl) (by kernel_rfl) (Try.call27 _ _) (pLen w423 hO455) (by rintro e x ⟨S', h0, h⟩; exact ⟨_, h0, S', rfl, h⟩)) ?_ ?_; clear h473
            ·
             rintro _ w475 ⟨S478, rfl, hO479, hx480⟩
             have hlo482 : ∀ q, S478 q → w.heap.size ≤ q := hx480.lo hlo405 (by omega)
             have hB481 := hbL hB428 hlo405 hx480.but
             have hz483 := hB481.size
             have hz484 := hx480.but.size
             exact hB481
            rintro _ w475 a474 ⟨S478, rfl, hO479, hx480⟩ h474
            have hlo482 : ∀ q, S478 q → w.heap.size ≤ q := hx480.lo hlo405 (by omega)
            have hB481 := hbL hB428 hlo405 hx480.but
            have hz483 := hB481.size
            have hz484 := hx480.but.size
            refine dk0 10 (v := .bool (((L.length : Nat) : Int) != ((L.length : Nat) : Int))) h474 rfl rfl hB481 fun a485 h485 => ?_; clear h474
            refine dk0 11 (v := .bool (((L.length : Nat) : Int) != ((L.length : Nat) : Int))) h485 rfl rfl hB481 fun a486 h486 => ?_; clear h485
            refine dr_done (by kernel_rfl) ?_
            refine co_then ?_
            have hc487 : (((L.length : Nat) : Int) != ((L.length : Nat) : Int)) = false := by first | exact beq_self_eq_true _ | exact bne_self_eq_false _ | (simp; done)
            rw [hc487] at h486; clear hc487
            have hk488 := Blk.butS hk477 hx480.but (Grew.off hx403 (Grew.off hx385 ho155 hk158'.lt) hk397.lt)
            exact ⟨S478, u, L, h486.sub ⟨rfl, rfl, rfl, rfl, rfl, rfl, trivial⟩, by exact hlo482, by exact (Grew.off hx480 (Grew.off hx403 (Grew.off hx385 ho155 hk158'.lt) hk397.lt) hk477.lt), by first | omega | exact Nat.le_trans insL_leT (by omega) | exact Nat.le_trans delL_leT (by omega), hO479, hk488, hB481⟩
         rintro a489 w490 ⟨S9, u9, L9, h489, hi491, hi492, hi493, hf494, hf495, hB496⟩
         have hz497 := hB496.size
         have hl498 := hf495.lt
         refine co_false h489 rfl ?_
         refine wp_skip ?_
         refine co_blockN ?_
         refine co_then ?_
         refine co_reg ?_
         refine pk0 (v := .int .i64 ((i : Nat) : Int)) h489 rfl fun a499 h499 => ?_; clear h489
         refine pk (v := .int .i64 ((i + 1 : Nat) : Int)) h499 rfl (rn_arith' rfl rfl rfl rfl rfl rfl (IntWalk.i64_in _ (by omega)) (by omega)) fun a500 h500 => ?_; clear h499
         refine pk0 (v := .int .i64 ((i + 1 : Nat) : Int)) h500 rfl fun a501 h501 => ?_; clear h500
         refine pl_nil ?_
         refine co_then ?_
         refine ⟨(l.length - (i + 1)), by omega, ?_⟩
         have hlo' := hi491
         exact ⟨i + 1, S9, u9, L9, h501.sub ⟨rfl, rfl, rfl, rfl, trivial⟩, rfl, by omega, by omega, by exact hlo', by first | (simp; done) | omega | exact Nat.le_trans insL_leT (by omega) | exact Nat.le_trans delL_leT (by omega), hf494, hB496⟩
       ·
        rw [hc179] at h178
        have hp502 : y144.c = 2 := by first | simpa using hc179 | simpa [and_assoc] using hc179
        clear hc179
        refine co_true h178 rfl ?_
        refine dr_gen (fun x => Below w.heap.size w x ∧ Blk x N149 30 #[.int .i64 y144.c, .string y144.k, .string y144.t, .int .i64 y144.v]) (by kernel_rfl) (fun w503 hg504 => ?_) (fun w503 hg504 => ?_)
        ·
         have hz505 := hg504.size
         have hB506 := hb_new hB169 hg504
         have hk507 := hk158'.kept hg504 (by simp)
         exact ⟨hB506, hk507⟩
        have hz508 := hg504.size
        have hB509 := hb_new hB169 hg504
        have hk510 := hk158'.kept hg504 (by simp)
        refine dk0 0 (v := pt N4 0) h178 rfl rfl ⟨hB509, hk510⟩ fun a511 h511 => ?_; clear h178
        refine dk0 1 (v := pt N149 1) h511 rfl rfl ⟨hB509, hk510⟩ fun a512 h512 => ?_; clear h511
        refine dk 2 (v := .string y144.k) h512 rfl rfl ⟨hB509, hk510⟩ (fun x hx => (rn_load1 rfl rfl Try.isAgg9 (hx.2.cell rfl))) fun a513 h513 => ?_; clear h512
        refine dk0 4 (v := pt N15 0) h513 rfl rfl ⟨hB509, hk510⟩ fun a514 h514 => ?_; clear h513
        refine dk0 5 (v := pt N149 1) h514 rfl rfl ⟨hB509, hk510⟩ fun a515 h515 => ?_; clear h514
        refine dk 6 (v := .string y144.k) h515 rfl rfl ⟨hB509, hk510⟩ (fun x hx => (rn_load1 rfl rfl Try.isAgg9 (hx.2.cell rfl))) fun a516 h516 => ?_; clear h515
        have hO519 := TwT.gr hO171 hg504 (fun k e => by cases e)
        refine d1 3 h516 rfl rfl (op_call (args := #[pt N4 0, .string y144.k]) (R := fun res xw => ∃ S' : Nat → Prop, res = .bool (hasL L y144.k) ∧ TwT S' xw N4 N15 u (delL L y144.k) L ∧ Grew S S' w503 xw) rfl rfl rfl (by kernel_rfl) (by kernel_rfl) (Try.call18 _ _) (pDel w503 y144.k hO519 (by omega)) (by rintro e x ⟨S', h0, h⟩; exact ⟨_, h0, S', rfl, h⟩)) ?_ ?_; clear h516
        ·
         rintro _ w518 ⟨S520, rfl, hO521, hx522⟩
         have hlo524 : ∀ q, S520 q → w.heap.size ≤ q := hx522.lo hlo38 (by omega)
         have hB523 := hbL hB509 hlo38 hx522.but
         have hz525 := hB523.size
         have hz526 := hx522.but.size
         have hk527 := Blk.butS hk510 hx522.but ho155
         exact ⟨hB523, hk527⟩
        rintro _ w518 a517 ⟨S520, rfl, hO521, hx522⟩ h517
        have hlo524 : ∀ q, S520 q → w.heap.size ≤ q := hx522.lo hlo38 (by omega)
        have hB523 := hbL hB509 hlo38 hx522.but
        have hz525 := hB523.size
        have hz526 := hx522.but.size
        have hk527 := Blk.butS hk510 hx522.but ho155
        refine d1 7 h517 rfl rfl (op_call (args := #[pt N15 0, .string y144.k]) (R := fun res xw => ∃ u' : Value, ∃ S' : Nat → Prop, res = .bool (hasL L y144.k) ∧ TwT S' xw N4 N15 u' (delL L y144.k) (delL L y144.k) ∧ Grew S520 S' w518 xw) rfl rfl rfl (by kernel_rfl) (by kernel_rfl) (Try.call19 _ _) (qDel w518 y144.k hO521 (by omega)) (by rintro e x ⟨u', S', h0, h⟩; exact ⟨_, h0, u', S', rfl, h⟩)) ?_ ?_; clear h517
        ·
         rintro _ w529 ⟨u'530, S531, rfl, hO532, hx533⟩
         have hlo535 : ∀ q, S531 q → w.heap.size ≤ q := hx533.lo hlo524 (by omega)
         have hB534 := hbL hB523 hlo524 hx533.but
         have hz536 := hB534.size
         have hz537 := hx533.but.size
         have hk538 := Blk.butS hk527 hx533.but (Grew.off hx522 ho155 hk510.lt)
         exact ⟨hB534, hk538⟩
        rintro _ w529 a528 ⟨u'530, S531, rfl, hO532, hx533⟩ h528
        have hlo535 : ∀ q, S531 q → w.heap.size ≤ q := hx533.lo hlo524 (by omega)
        have hB534 := hbL hB523 hlo524 hx533.but
        have hz536 := hB534.size
        have hz537 := hx533.but.size
        have hk538 := Blk.butS hk527 hx533.but (Grew.off hx522 ho155 hk510.lt)
        refine dk0 8 (v := .bool ((hasL L y144.k) == (hasL L y144.k))) h528 rfl rfl ⟨hB534, hk538⟩ fun a539 h539 => ?_; clear h528
        refine dk0 9 (v := .bool ((hasL L y144.k) == (hasL L y144.k))) h539 rfl rfl ⟨hB534, hk538⟩ fun a540 h540 => ?_; clear h539
        refine dr_done (by kernel_rfl) ?_
        refine co_blockN ?_
        refine co_then ?_
        refine co_cut (fun a x => ∃ (S9 : Nat → Prop) (u9 : Value) (L9 : List Kv), Slots 143 [(0, v), (3, pt N4 0), (4, pt N15 0), (5, .int .i64 ((i : Nat) : Int)), (6, pt N149 0), (134, .bool false)] a ∧ (∀ q, S9 q → w.heap.size ≤ q) ∧ (¬ S9 N149) ∧ (L9.length ≤ i + 1) ∧ TwT S9 x N4 N15 u9 L9 L9 ∧ Blk x N149 30 #[.int .i64 y144.c, .string y144.k, .string y144.t, .int .i64 y144.v] ∧ Below w.heap.size w x) ?_ ?_
        ·
         refine dr_gen (fun x => Below w.heap.size w x) (by kernel_rfl) (fun w541 hg542 => ?_) (fun w541 hg542 => ?_)
         ·
          have hz543 := hg542.size
          have hB544 := hb_new hB534 hg542
          exact hB544
         have hz545 := hg542.size
         have hB546 := hb_new hB534 hg542
         refine dk0 0 (v := .bool ((hasL L y144.k) == (hasL L y144.k))) h540 rfl rfl hB546 fun a547 h547 => ?_; clear h540
         have hc548 : ((hasL L y144.k) == (hasL L y144.k)) = true := by first | exact beq_self_eq_true _ | exact bne_self_eq_false _ | (simp; done)
         rw [hc548] at h547; clear hc548
         refine dk0 1 (v := .bool false) h547 rfl rfl hB546 fun a549 h549 => ?_; clear h547
         refine dk0 2 (v := .bool false) h549 rfl rfl hB546 fun a550 h550 => ?_; clear h549
         refine dk0 3 (v := pt N4 0) h550 rfl rfl hB546 fun a551 h551 => ?_; clear h550
         refine dk0 5 (v := pt N15 0) h551 rfl rfl hB546 fun a552 h552 => ?_; clear h551
         refine dk0 6 (v := pt N15 0) h552 rfl rfl hB546 fun a553 h553 => ?_; clear h552
         refine dk0 7 (v := pt N15 0) h553 rfl rfl hB546 fun a554 h554 => ?_; clear h553
         refine dr_many [4, 8] (by kernel_rfl) (by simp) ⟨?_, ?_, trivial⟩
         ·
          have hO557 := TwT.gr hO532 hg542 (fun k e => by cases e)
          refine dr_op (i := 4) h554 rfl rfl rfl rfl (op_call (args := #[pt N4 0]) (R := fun res xw => ∃ S' : Nat → Prop, res = .int .i64 (((delL L y144.k).length : Nat) : Int) ∧ TwT S' xw N4 N15 u'530 (delL L y144.k) (delL L y144.k) ∧ Grew S531 S' w541 xw) rfl rfl rfl (by kernel_rfl) (by kernel_rfl) (Try.call27 _ _) (pLen w541 hO557) (by rintro e x ⟨S', h0, h⟩; exact ⟨_, h0, S', rfl, h⟩)) ?_ ?_; clear h554
          ·
           rintro _ w556 ⟨S558, rfl, hO559, hx560⟩
           have hk561 := hk538.kept hg542 (by simp)
           have hlo563 : ∀ q, S558 q → w.heap.size ≤ q := hx560.lo hlo535 (by omega)
           have hB562 := hbL hB546 hlo535 hx560.but
           have hz564 := hB562.size
           have hz565 := hx560.but.size
           exact hB562
          rintro _ w556 a555 ⟨S558, rfl, hO559, hx560⟩ h555
          have hk561 := hk538.kept hg542 (by simp)
          have hlo563 : ∀ q, S558 q → w.heap.size ≤ q := hx560.lo hlo535 (by omega)
          have hB562 := hbL hB546 hlo535 hx560.but
          have hz564 := hB562.size
          have hz565 := hx560.but.size
          refine dr_many [8] (by kernel_rfl) (by simp) ⟨?_, trivial⟩
          ·
           refine dr_opVal (i := 8) (v := u'530) h555 rfl rfl rfl rfl (by kernel_rfl) rfl (rn_load1 rfl rfl Try.isAgg26 ((TwT.blk hO559).cell rfl)) hB562 (fun a566 h566 => ?_); clear h555
           refine dr_many [9] (by kernel_rfl) (by simp) ⟨?_, trivial⟩
           ·
            refine dr_opVal (i := 9) (v := .int .i64 (((delL L y144.k).length : Nat) : Int)) h566 rfl rfl rfl rfl (by kernel_rfl) rfl (rn_len rfl rfl Try.underlying26 (TwT.sl hO559)) hB562 (fun a567 h567 => ?_); clear h566
            refine dk0 10 (v := .bool ((((delL L y144.k).length : Nat) : Int) != (((delL L y144.k).length : Nat) : Int))) h567 rfl rfl hB562 fun a568 h568 => ?_; clear h567
            refine dk0 11 (v := .bool ((((delL L y144.k).length : Nat) : Int) != (((delL L y144.k).length : Nat) : Int))) h568 rfl rfl hB562 fun a569 h569 => ?_; clear h568
            refine dr_done (by kernel_rfl) ?_
            refine co_then ?_
            have hc570 : ((((delL L y144.k).length : Nat) : Int) != (((delL L y144.k).length : Nat) : Int)) = false := by first | exact beq_self_eq_true _ | exact bne_self_eq_false _ | (simp; done)
            rw [hc570] at h569; clear hc570
            have hk571 := Blk.butS hk561 hx560.but (Grew.off hx533 (Grew.off hx522 ho155 hk510.lt) hk527.lt)
            exact ⟨S558, u'530, delL L y144.k, h569.sub ⟨rfl, rfl, rfl, rfl, rfl, rfl, trivial⟩, by exact hlo563, by exact (Grew.off hx560 (Grew.off hx533 (Grew.off hx522 ho155 hk510.lt) hk527.lt) hk561.lt), by first | omega | exact Nat.le_trans insL_leT (by omega) | exact Nat.le_trans delL_leT (by omega), hO559, hk571, hB562⟩
         ·
          have hO572 := TwT.gr hO532 hg542 (fun k e => by cases e)
          refine dr_opVal (i := 8) (v := u'530) h554 rfl rfl rfl rfl (by kernel_rfl) rfl (rn_load1 rfl rfl Try.isAgg26 ((TwT.blk hO572).cell rfl)) hB546 (fun a573 h573 => ?_); clear h554
          refine dr_many [4, 9] (by kernel_rfl) (by simp) ⟨?_, ?_, trivial⟩
          ·
           refine dr_op (i := 4) h573 rfl rfl rfl rfl (op_call (args := #[pt N4 0]) (R := fun res xw => ∃ S' : Nat → Prop, res = .int .i64 (((delL L y144.k).length : Nat) : Int) ∧ TwT S' xw N4 N15 u'530 (delL L y144.k) (delL L y144.k) ∧ Grew S531 S' w541 xw) rfl rfl rfl (by kernel_rfl) (by kernel_rfl) (Try.call27 _ _) (pLen w541 hO572) (by rintro e x ⟨S', h0, h⟩; exact ⟨_, h0, S', rfl, h⟩)) ?_ ?_; clear h573
           ·
            rintro _ w575 ⟨S576, rfl, hO577, hx578⟩
            have hk579 := hk538.kept hg542 (by simp)
            have hlo581 : ∀ q, S576 q → w.heap.size ≤ q := hx578.lo hlo535 (by omega)
            have hB580 := hbL hB546 hlo535 hx578.but
            have hz582 := hB580.size
            have hz583 := hx578.but.size
            exact hB580
           rintro _ w575 a574 ⟨S576, rfl, hO577, hx578⟩ h574
           have hk579 := hk538.kept hg542 (by simp)
           have hlo581 : ∀ q, S576 q → w.heap.size ≤ q := hx578.lo hlo535 (by omega)
           have hB580 := hbL hB546 hlo535 hx578.but
           have hz582 := hB580.size
           have hz583 := hx578.but.size
           refine dr_many [9] (by kernel_rfl) (by simp) ⟨?_, trivial⟩
           ·
            refine dr_opVal (i := 9) (v := .int .i64 (((delL L y144.k).length : Nat) : Int)) h574 rfl rfl rfl rfl (by kernel_rfl) rfl (rn_len rfl rfl Try.underlying26 (TwT.sl hO577)) hB580 (fun a584 h584 => ?_); clear h574
            refine dk0 10 (v := .bool ((((delL L y144.k).length : Nat) : Int) != (((delL L y144.k).length : Nat) : Int))) h584 rfl rfl hB580 fun a585 h585 => ?_; clear h584
            refine dk0 11 (v := .bool ((((delL L y144.k).length : Nat) : Int) != (((delL L y144.k).length : Nat) : Int))) h585 rfl rfl hB580 fun a586 h586 => ?_; clear h585
            refine dr_done (by kernel_rfl) ?_
            refine co_then ?_
            have hc587 : ((((delL L y144.k).length : Nat) : Int) != (((delL L y144.k).length : Nat) : Int)) = false := by first | exact beq_self_eq_true _ | exact bne_self_eq_false _ | (simp; done)
            rw [hc587] at h586; clear hc587
            have hk588 := Blk.butS hk579 hx578.but (Grew.off hx533 (Grew.off hx522 ho155 hk510.lt) hk527.lt)
            exact ⟨S576, u'530, delL L y144.k, h586.sub ⟨rfl, rfl, rfl, rfl, rfl, rfl, trivial⟩, by exact hlo581, by exact (Grew.off hx578 (Grew.off hx533 (Grew.off hx522 ho155 hk510.lt) hk527.lt) hk579.lt), by first | omega | exact Nat.le_trans insL_leT (by omega) | exact Nat.le_trans delL_leT (by omega), hO577, hk588, hB580⟩
          ·
           refine dr_opVal (i := 9) (v := .int .i64 (((delL L y144.k).length : Nat) : Int)) h573 rfl rfl rfl rfl (by kernel_rfl) rfl (rn_len rfl rfl Try.underlying26 (TwT.sl hO572)) hB546 (fun a589 h589 => ?_); clear h573
           refine d1 4 h589 rfl rfl (op_call (args := #[pt N4 0]) (R := fun res xw => ∃ S' : Nat → Prop, res = .int .i64 (((delL L y144.k).length : Nat) : Int) ∧ TwT S' xw N4 N15 u'530 (delL L y144.k) (delL L y144.k) ∧ Grew S531 S' w541 xw) rfl rfl rfl (by kernel_rfl) (by kernel_rfl) (Try.call27 _ _) (pLen w541 hO572) (by rintro e x ⟨S', h0, h⟩; exact ⟨_, h0, S', rfl, h⟩)) ?_ ?_; clear h589
           ·
            rintro _ w591 ⟨S592, rfl, hO593, hx594⟩
            have hk595 := hk538.kept hg542 (by simp)
            have hlo597 : ∀ q, S592 q → w.heap.size ≤ q := hx594.lo hlo535 (by omega)
            have hB596 := hbL hB546 hlo535 hx594.but
            have hz598 := hB596.size
            have hz599 := hx594.but.size
            exact hB596
           rintro _ w591 a590 ⟨S592, rfl, hO593, hx594⟩ h590
           have hk595 := hk538.kept hg542 (by simp)
           have hlo597 : ∀ q, S592 q → w.heap.size ≤ q := hx594.lo hlo535 (by omega)
           have hB596 := hbL hB546 hlo535 hx594.but
           have hz598 := hB596.size
           have hz599 := hx594.but.size
           refine dk0 10 (v := .bool ((((delL L y144.k).length : Nat) : Int) != (((delL L y144.k).length : Nat) : Int))) h590 rfl rfl hB596 fun a600 h600 => ?_; clear h590
           refine dk0 11 (v := .bool ((((delL L y144.k).length : Nat) : Int) != (((delL L y144.k).length : Nat) : Int))) h600 rfl rfl hB596 fun a601 h601 => ?_; clear h600
           refine dr_done (by kernel_rfl) ?_
           refine co_then ?_
           have hc602 : ((((delL L y144.k).length : Nat) : Int) != (((delL L y144.k).length : Nat) : Int)) = false := by first | exact beq_self_eq_true _ | exact bne_self_eq_false _ | (simp; done)
           rw [hc602] at h601; clear hc602
           have hk603 := Blk.butS hk595 hx594.but (Grew.off hx533 (Grew.off hx522 ho155 hk510.lt) hk527.lt)
           exact ⟨S592, u'530, delL L y144.k, h601.sub ⟨rfl, rfl, rfl, rfl, rfl, rfl, trivial⟩, by exact hlo597, by exact (Grew.off hx594 (Grew.off hx533 (Grew.off hx522 ho155 hk510.lt) hk527.lt) hk595.lt), by first | omega | exact Nat.le_trans insL_leT (by omega) | exact Nat.le_trans delL_leT (by omega), hO593, hk603, hB596⟩
        rintro a604 w605 ⟨S9, u9, L9, h604, hi606, hi607, hi608, hf609, hf610, hB611⟩
        have hz612 := hB611.size
        have hl613 := hf610.lt
        refine co_false h604 rfl ?_
        refine wp_skip ?_
        refine co_blockN ?_
        refine co_then ?_
        refine co_reg ?_
        refine pk0 (v := .int .i64 ((i : Nat) : Int)) h604 rfl fun a614 h614 => ?_; clear h604
        refine pk (v := .int .i64 ((i + 1 : Nat) : Int)) h614 rfl (rn_arith' rfl rfl rfl rfl rfl rfl (IntWalk.i64_in _ (by omega)) (by omega)) fun a615 h615 => ?_; clear h614
        refine pk0 (v := .int .i64 ((i + 1 : Nat) : Int)) h615 rfl fun a616 h616 => ?_; clear h615
        refine pl_nil ?_
        refine co_then ?_
        refine ⟨(l.length - (i + 1)), by omega, ?_⟩
        have hlo' := hi606
        exact ⟨i + 1, S9, u9, L9, h616.sub ⟨rfl, rfl, rfl, rfl, trivial⟩, rfl, by omega, by omega, by exact hlo', by first | (simp; done) | omega | exact Nat.le_trans insL_leT (by omega) | exact Nat.le_trans delL_leT (by omega), hf609, hB611⟩
      ·
       rw [hc175] at h174
       have hp617 : y144.c = 1 := by first | simpa using hc175 | simpa [and_assoc] using hc175
       clear hc175
       refine co_true h174 rfl ?_
       refine dr_gen (fun x => Below w.heap.size w x ∧ Blk x N149 30 #[.int .i64 y144.c, .string y144.k, .string y144.t, .int .i64 y144.v]) (by kernel_rfl) (fun w618 hg619 => ?_) (fun w618 hg619 => ?_)
       ·
        have hz620 := hg619.size
        have hB621 := hb_new hB169 hg619
        have hk622 := hk158'.kept hg619 (by simp)
        exact ⟨hB621, hk622⟩
       have hz623 := hg619.size
       have hB624 := hb_new hB169 hg619
       have hk625 := hk158'.kept hg619 (by simp)
       refine dk0 0 (v := pt N4 0) h174 rfl rfl ⟨hB624, hk625⟩ fun a626 h626 => ?_; clear h174
       refine dk0 1 (v := pt N149 1) h626 rfl rfl ⟨hB624, hk625⟩ fun a627 h627 => ?_; clear h626
       refine dk 2 (v := .string y144.k) h627 rfl rfl ⟨hB624, hk625⟩ (fun x hx => (rn_load1 rfl rfl Try.isAgg9 (hx.2.cell rfl))) fun a628 h628 => ?_; clear h627
       refine dk0 3 (v := pt N149 3) h628 rfl rfl ⟨hB624, hk625⟩ fun a629 h629 => ?_; clear h628
       refine dk 4 (v := .int .i64 y144.v) h629 rfl rfl ⟨hB624, hk625⟩ (fun x hx => (rn_load1 rfl rfl Try.isAgg3 (hx.2.cell rfl))) fun a630 h630 => ?_; clear h629
       refine dk0 6 (v := pt N15 0) h630 rfl rfl ⟨hB624, hk625⟩ fun a631 h631 => ?_; clear h630
       refine dk0 7 (v := pt N149 1) h631 rfl rfl ⟨hB624, hk625⟩ fun a632 h632 => ?_; clear h631
       refine dk 8 (v := .string y144.k) h632 rfl rfl ⟨hB624, hk625⟩ (fun x hx => (rn_load1 rfl rfl Try.isAgg9 (hx.2.cell rfl))) fun a633 h633 => ?_; clear h632
       refine dk0 9 (v := pt N149 3) h633 rfl rfl ⟨hB624, hk625⟩ fun a634 h634 => ?_; clear h633
       refine dk 10 (v := .int .i64 y144.v) h634 rfl rfl ⟨hB624, hk625⟩ (fun x hx => (rn_load1 rfl rfl Try.isAgg3 (hx.2.cell rfl))) fun a635 h635 => ?_; clear h634
       have hO638 := TwT.gr hO171 hg619 (fun k e => by cases e)
       refine d1 5 h635 rfl rfl (op_call (args := #[pt N4 0, .string y144.k, .int .i64 y144.v]) (R := fun res xw => ∃ S' : Nat → Prop, res = .bool (hasL L y144.k) ∧ TwT S' xw N4 N15 u (insL L y144.k y144.v) L ∧ Grew S S' w618 xw) rfl rfl rfl (by kernel_rfl) (by kernel_rfl) (Try.call16 _ _) (pPut w618 y144.k y144.v hO638 (by omega)) (by rintro e x ⟨S', h0, h⟩; exact ⟨_, h0, S', rfl, h⟩)) ?_ ?_; clear h635
       ·
        rintro _ w637 ⟨S639, rfl, hO640, hx641⟩
        have hlo643 : ∀ q, S639 q → w.heap.size ≤ q := hx641.lo hlo38 (by omega)
        have hB642 := hbL hB624 hlo38 hx641.but
        have hz644 := hB642.size
        have hz645 := hx641.but.size
        have hk646 := Blk.butS hk625 hx641.but ho155
        exact ⟨hB642, hk646⟩
       rintro _ w637 a636 ⟨S639, rfl, hO640, hx641⟩ h636
       have hlo643 : ∀ q, S639 q → w.heap.size ≤ q := hx641.lo hlo38 (by omega)
       have hB642 := hbL hB624 hlo38 hx641.but
       have hz644 := hB642.size
       have hz645 := hx641.but.size
       have hk646 := Blk.butS hk625 hx641.but ho155
       refine d1 11 h636 rfl rfl (op_call (args := #[pt N15 0, .string y144.k, .int .i64 y144.v]) (R := fun res xw => ∃ u' : Value, ∃ S' : Nat → Prop, res = .bool (hasL L y144.k) ∧ TwT S' xw N4 N15 u' (insL L y144.k y144.v) (insL L y144.k y144.v) ∧ Grew S639 S' w637 xw) rfl rfl rfl (by kernel_rfl) (by kernel_rfl) (Try.call17 _ _) (qPut w637 y144.k y144.v hO640 (by omega)) (by rintro e x ⟨u', S', h0, h⟩; exact ⟨_, h0, u', S', rfl, h⟩)) ?_ ?_; clear h636
       ·
        rintro _ w648 ⟨u'649, S650, rfl, hO651, hx652⟩
        have hlo654 : ∀ q, S650 q → w.heap.size ≤ q := hx652.lo hlo643 (by omega)
        have hB653 := hbL hB642 hlo643 hx652.but
        have hz655 := hB653.size
        have hz656 := hx652.but.size
        have hk657 := Blk.butS hk646 hx652.but (Grew.off hx641 ho155 hk625.lt)
        exact ⟨hB653, hk657⟩
       rintro _ w648 a647 ⟨u'649, S650, rfl, hO651, hx652⟩ h647
       have hlo654 : ∀ q, S650 q → w.heap.size ≤ q := hx652.lo hlo643 (by omega)
       have hB653 := hbL hB642 hlo643 hx652.but
       have hz655 := hB653.size
       have hz656 := hx652.but.size
       have hk657 := Blk.butS hk646 hx652.but (Grew.off hx641 ho155 hk625.lt)
       refine dk0 12 (v := .bool ((hasL L y144.k) == (hasL L y144.k))) h647 rfl rfl ⟨hB653, hk657⟩ fun a658 h658 => ?_; clear h647
       refine dk0 13 (v := .bool ((hasL L y144.k) == (hasL L y144.k))) h658 rfl rfl ⟨hB653, hk657⟩ fun a659 h659 => ?_; clear h658
       refine dr_done (by kernel_rfl) ?_
       refine co_blockN ?_
       refine co_then ?_
       refine co_cut (fun a x => ∃ (S9 : Nat → Prop) (u9 : Value) (L9 : List Kv), Slots 143 [(0, v), (3, pt N4 0), (4, pt N15 0), (5, .int .i64 ((i : Nat) : Int)), (6, pt N149 0), (134, .bool false)] a ∧ (∀ q, S9 q → w.heap.size ≤ q) ∧ (¬ S9 N149) ∧ (L9.length ≤ i + 1) ∧ TwT S9 x N4 N15 u9 L9 L9 ∧ Blk x N149 30 #[.int .i64 y144.c, .string y144.k, .string y144.t, .int .i64 y144.v] ∧ Below w.heap.size w x) ?_ ?_
       ·
        refine dr_gen (fun x => Below w.heap.size w x) (by kernel_rfl) (fun w660 hg661 => ?_) (fun w660 hg661 => ?_)
        ·
         have hz662 := hg661.size
         have hB663 := hb_new hB653 hg661
         exact hB663
        have hz664 := hg661.size
        have hB665 := hb_new hB653 hg661
        refine dk0 0 (v := .bool ((hasL L y144.k) == (hasL L y144.k))) h659 rfl rfl hB665 fun a666 h666 => ?_; clear h659
        have hc667 : ((hasL L y144.k) == (hasL L y144.k)) = true := by first | exact beq_self_eq_true _ | exact bne_self_eq_false _ | (simp; done)
        rw [hc667] at h666; clear hc667
        refine dk0 1 (v := .bool false) h666 rfl rfl hB665 fun a668 h668 => ?_; clear h666
        refine dk0 2 (v := .bool false) h668 rfl rfl hB665 fun a669 h669 => ?_; clear h668
        refine dk0 3 (v := pt N4 0) h669 rfl rfl hB665 fun a670 h670 => ?_; clear h669
        refine dk0 5 (v := pt N15 0) h670 rfl rfl hB665 fun a671 h671 => ?_; clear h670
        refine dk0 6 (v := pt N15 0) h671 rfl rfl hB665 fun a672 h672 => ?_; clear h671
        refine dk0 7 (v := pt N15 0) h672 rfl rfl hB665 fun a673 h673 => ?_; clear h672
        refine dr_many [4, 8] (by kernel_rfl) (by simp) ⟨?_, ?_, trivial⟩
        ·
         have hO676 := TwT.gr hO651 hg661 (fun k e => by cases e)
         refine dr_op (i := 4) h673 rfl rfl rfl rfl (op_call (args := #[pt N4 0]) (R := fun res xw => ∃ S' : Nat → Prop, res = .int .i64 (((insL L y144.k y144.v).length : Nat) : Int) ∧ TwT S' xw N4 N15 u'649 (insL L y144.k y144.v) (insL L y144.k y144.v) ∧ Grew S650 S' w660 xw) rfl rfl rfl (by kernel_rfl) (by kernel_rfl) (Try.call27 _ _) (pLen w660 hO676) (by rintro e x ⟨S', h0, h⟩; exact ⟨_, h0, S', rfl, h⟩)) ?_ ?_; clear h673
         ·
          rintro _ w675 ⟨S677, rfl, hO678, hx679⟩
          have hk680 := hk657.kept hg661 (by simp)
          have hlo682 : ∀ q, S677 q → w.heap.size ≤ q := hx679.lo hlo654 (by omega)
          have hB681 := hbL hB665 hlo654 hx679.but
          have hz683 := hB681.size
          have hz684 := hx679.but.size
          exact hB681
         rintro _ w675 a674 ⟨S677, rfl, hO678, hx679⟩ h674
         have hk680 := hk657.kept hg661 (by simp)
         have hlo682 : ∀ q, S677 q → w.heap.size ≤ q := hx679.lo hlo654 (by omega)
         have hB681 := hbL hB665 hlo654 hx679.but
         have hz683 := hB681.size
         have hz684 := hx679.but.size
         refine dr_many [8] (by kernel_rfl) (by simp) ⟨?_, trivial⟩
         ·
          refine dr_opVal (i := 8) (v := u'649) h674 rfl rfl rfl rfl (by kernel_rfl) rfl (rn_load1 rfl rfl Try.isAgg26 ((TwT.blk hO678).cell rfl)) hB681 (fun a685 h685 => ?_); clear h674
          refine dr_many [9] (by kernel_rfl) (by simp) ⟨?_, trivial⟩
          ·
           refine dr_opVal (i := 9) (v := .int .i64 (((insL L y144.k y144.v).length : Nat) : Int)) h685 rfl rfl rfl rfl (by kernel_rfl) rfl (rn_len rfl rfl Try.underlying26 (TwT.sl hO678)) hB681 (fun a686 h686 => ?_); clear h685
           refine dk0 10 (v := .bool ((((insL L y144.k y144.v).length : Nat) : Int) != (((insL L y144.k y144.v).length : Nat) : Int))) h686 rfl rfl hB681 fun a687 h687 => ?_; clear h686
           refine dk0 11 (v := .bool ((((insL L y144.k y144.v).length : Nat) : Int) != (((insL L y144.k y144.v).length : Nat) : Int))) h687 rfl rfl hB681 fun a688 h688 => ?_; clear h687
           refine dr_done (by kernel_rfl) ?_
           refine co_then ?_
           have hc689 : ((((insL L y144.k y144.v).length : Nat) : Int) != (((insL L y144.k y144.v).length : Nat) : Int)) = false := by first | exact beq_self_eq_true _ | exact bne_self_eq_false _ | (simp; done)
           rw [hc689] at h688; clear hc689
           have hk690 := Blk.butS hk680 hx679.but (Grew.off hx652 (Grew.off hx641 ho155 hk625.lt) hk646.lt)
           exact ⟨S677, u'649, insL L y144.k y144.v, h688.sub ⟨rfl, rfl, rfl, rfl, rfl, rfl, trivial⟩, by exact hlo682, by exact (Grew.off hx679 (Grew.off hx652 (Grew.off hx641 ho155 hk625.lt) hk646.lt) hk680.lt), by first | omega | exact Nat.le_trans insL_leT (by omega) | exact Nat.le_trans delL_leT (by omega), hO678, hk690, hB681⟩
        ·
         have hO691 := TwT.gr hO651 hg661 (fun k e => by cases e)
         refine dr_opVal (i := 8) (v := u'649) h673 rfl rfl rfl rfl (by kernel_rfl) rfl (rn_load1 rfl rfl Try.isAgg26 ((TwT.blk hO691).cell rfl)) hB665 (fun a692 h692 => ?_); clear h673
         refine dr_many [4, 9] (by kernel_rfl) (by simp) ⟨?_, ?_, trivial⟩
         ·
          refine dr_op (i := 4) h692 rfl rfl rfl rfl (op_call (args := #[pt N4 0]) (R := fun res xw => ∃ S' : Nat → Prop, res = .int .i64 (((insL L y144.k y144.v).length : Nat) : Int) ∧ TwT S' xw N4 N15 u'649 (insL L y144.k y144.v) (insL L y144.k y144.v) ∧ Grew S650 S' w660 xw) rfl rfl rfl (by kernel_rfl) (by kernel_rfl) (Try.call27 _ _) (pLen w660 hO691) (by rintro e x ⟨S', h0, h⟩; exact ⟨_, h0, S', rfl, h⟩)) ?_ ?_; clear h692
          ·
           rintro _ w694 ⟨S695, rfl, hO696, hx697⟩
           have hk698 := hk657.kept hg661 (by simp)
           have hlo700 : ∀ q, S695 q → w.heap.size ≤ q := hx697.lo hlo654 (by omega)
           have hB699 := hbL hB665 hlo654 hx697.but
           have hz701 := hB699.size
           have hz702 := hx697.but.size
           exact hB699
          rintro _ w694 a693 ⟨S695, rfl, hO696, hx697⟩ h693
          have hk698 := hk657.kept hg661 (by simp)
          have hlo700 : ∀ q, S695 q → w.heap.size ≤ q := hx697.lo hlo654 (by omega)
          have hB699 := hbL hB665 hlo654 hx697.but
          have hz701 := hB699.size
          have hz702 := hx697.but.size
          refine dr_many [9] (by kernel_rfl) (by simp) ⟨?_, trivial⟩
          ·
           refine dr_opVal (i := 9) (v := .int .i64 (((insL L y144.k y144.v).length : Nat) : Int)) h693 rfl rfl rfl rfl (by kernel_rfl) rfl (rn_len rfl rfl Try.underlying26 (TwT.sl hO696)) hB699 (fun a703 h703 => ?_); clear h693
           refine dk0 10 (v := .bool ((((insL L y144.k y144.v).length : Nat) : Int) != (((insL L y144.k y144.v).length : Nat) : Int))) h703 rfl rfl hB699 fun a704 h704 => ?_; clear h703
           refine dk0 11 (v := .bool ((((insL L y144.k y144.v).length : Nat) : Int) != (((insL L y144.k y144.v).length : Nat) : Int))) h704 rfl rfl hB699 fun a705 h705 => ?_; clear h704
           refine dr_done (by kernel_rfl) ?_
           refine co_then ?_
           have hc706 : ((((insL L y144.k y144.v).length : Nat) : Int) != (((insL L y144.k y144.v).length : Nat) : Int)) = false := by first | exact beq_self_eq_true _ | exact bne_self_eq_false _ | (simp; done)
           rw [hc706] at h705; clear hc706
           have hk707 := Blk.butS hk698 hx697.but (Grew.off hx652 (Grew.off hx641 ho155 hk625.lt) hk646.lt)
           exact ⟨S695, u'649, insL L y144.k y144.v, h705.sub ⟨rfl, rfl, rfl, rfl, rfl, rfl, trivial⟩, by exact hlo700, by exact (Grew.off hx697 (Grew.off hx652 (Grew.off hx641 ho155 hk625.lt) hk646.lt) hk698.lt), by first | omega | exact Nat.le_trans insL_leT (by omega) | exact Nat.le_trans delL_leT (by omega), hO696, hk707, hB699⟩
         ·
          refine dr_opVal (i := 9) (v := .int .i64 (((insL L y144.k y144.v).length : Nat) : Int)) h692 rfl rfl rfl rfl (by kernel_rfl) rfl (rn_len rfl rfl Try.underlying26 (TwT.sl hO691)) hB665 (fun a708 h708 => ?_); clear h692
          refine d1 4 h708 rfl rfl (op_call (args := #[pt N4 0]) (R := fun res xw => ∃ S' : Nat → Prop, res = .int .i64 (((insL L y144.k y144.v).length : Nat) : Int) ∧ TwT S' xw N4 N15 u'649 (insL L y144.k y144.v) (insL L y144.k y144.v) ∧ Grew S650 S' w660 xw) rfl rfl rfl (by kernel_rfl) (by kernel_rfl) (Try.call27 _ _) (pLen w660 hO691) (by rintro e x ⟨S', h0, h⟩; exact ⟨_, h0, S', rfl, h⟩)) ?_ ?_; clear h708
          ·
           rintro _ w710 ⟨S711, rfl, hO712, hx713⟩
           have hk714 := hk657.kept hg661 (by simp)
           have hlo716 : ∀ q, S711 q → w.heap.size ≤ q := hx713.lo hlo654 (by omega)
           have hB715 := hbL hB665 hlo654 hx713.but
           have hz717 := hB715.size
           have hz718 := hx713.but.size
           exact hB715
          rintro _ w710 a709 ⟨S711, rfl, hO712, hx713⟩ h709
          have hk714 := hk657.kept hg661 (by simp)
          have hlo716 : ∀ q, S711 q → w.heap.size ≤ q := hx713.lo hlo654 (by omega)
          have hB715 := hbL hB665 hlo654 hx713.but
          have hz717 := hB715.size
          have hz718 := hx713.but.size
          refine dk0 10 (v := .bool ((((insL L y144.k y144.v).length : Nat) : Int) != (((insL L y144.k y144.v).length : Nat) : Int))) h709 rfl rfl hB715 fun a719 h719 => ?_; clear h709
          refine dk0 11 (v := .bool ((((insL L y144.k y144.v).length : Nat) : Int) != (((insL L y144.k y144.v).length : Nat) : Int))) h719 rfl rfl hB715 fun a720 h720 => ?_; clear h719
          refine dr_done (by kernel_rfl) ?_
          refine co_then ?_
          have hc721 : ((((insL L y144.k y144.v).length : Nat) : Int) != (((insL L y144.k y144.v).length : Nat) : Int)) = false := by first | exact beq_self_eq_true _ | exact bne_self_eq_false _ | (simp; done)
          rw [hc721] at h720; clear hc721
          have hk722 := Blk.butS hk714 hx713.but (Grew.off hx652 (Grew.off hx641 ho155 hk625.lt) hk646.lt)
          exact ⟨S711, u'649, insL L y144.k y144.v, h720.sub ⟨rfl, rfl, rfl, rfl, rfl, rfl, trivial⟩, by exact hlo716, by exact (Grew.off hx713 (Grew.off hx652 (Grew.off hx641 ho155 hk625.lt) hk646.lt) hk714.lt), by first | omega | exact Nat.le_trans insL_leT (by omega) | exact Nat.le_trans delL_leT (by omega), hO712, hk722, hB715⟩
       rintro a723 w724 ⟨S9, u9, L9, h723, hi725, hi726, hi727, hf728, hf729, hB730⟩
       have hz731 := hB730.size
       have hl732 := hf729.lt
       refine co_false h723 rfl ?_
       refine wp_skip ?_
       refine co_blockN ?_
       refine co_then ?_
       refine co_reg ?_
       refine pk0 (v := .int .i64 ((i : Nat) : Int)) h723 rfl fun a733 h733 => ?_; clear h723
       refine pk (v := .int .i64 ((i + 1 : Nat) : Int)) h733 rfl (rn_arith' rfl rfl rfl rfl rfl rfl (IntWalk.i64_in _ (by omega)) (by omega)) fun a734 h734 => ?_; clear h733
       refine pk0 (v := .int .i64 ((i + 1 : Nat) : Int)) h734 rfl fun a735 h735 => ?_; clear h734
       refine pl_nil ?_
       refine co_then ?_
       refine ⟨(l.length - (i + 1)), by omega, ?_⟩
       have hlo' := hi725
       exact ⟨i + 1, S9, u9, L9, h735.sub ⟨rfl, rfl, rfl, rfl, trivial⟩, rfl, by omega, by omega, by exact hlo', by first | (simp; done) | omega | exact Nat.le_trans insL_leT (by omega) | exact Nat.le_trans delL_leT (by omega), hf728, hB730⟩
     ·
      rw [hc167] at h166
      have hp736 : y144.c = 0 := by first | simpa using hc167 | simpa [and_assoc] using hc167
      clear hc167
      refine co_true h166 rfl ?_
      refine wp_skip ?_
      refine co_then ?_
      refine co_true h166 rfl ?_
      refine dr_gen (fun x => Below w.heap.size w x ∧ Blk x N149 30 #[.int .i64 y144.c, .string y144.k, .string y144.t, .int .i64 y144.v]) (by kernel_rfl) (fun w737 hg738 => ?_) (fun w737 hg738 => ?_)
      ·
       have hz739 := hg738.size
       have hB740 := hb_new hB169 hg738
       have hk741 := hk158'.kept hg738 (by simp)
       exact ⟨hB740, hk741⟩
      have hz742 := hg738.size
      have hB743 := hb_new hB169 hg738
      have hk744 := hk158'.kept hg738 (by simp)
      refine dk0 0 (v := pt N4 0) h166 rfl rfl ⟨hB743, hk744⟩ fun a745 h745 => ?_; clear h166
      refine dk0 1 (v := pt N149 1) h745 rfl rfl ⟨hB743, hk744⟩ fun a746 h746 => ?_; clear h745
      refine dk 2 (v := .string y144.k) h746 rfl rfl ⟨hB743, hk744⟩ (fun x hx => (rn_load1 rfl rfl Try.isAgg9 (hx.2.cell rfl))) fun a747 h747 => ?_; clear h746
      refine dk0 3 (v := pt N149 3) h747 rfl rfl ⟨hB743, hk744⟩ fun a748 h748 => ?_; clear h747
      refine dk 4 (v := .int .i64 y144.v) h748 rfl rfl ⟨hB743, hk744⟩ (fun x hx => (rn_load1 rfl rfl Try.isAgg3 (hx.2.cell rfl))) fun a749 h749 => ?_; clear h748
      refine dk0 6 (v := pt N15 0) h749 rfl rfl ⟨hB743, hk744⟩ fun a750 h750 => ?_; clear h749
      refine dk0 7 (v := pt N149 1) h750 rfl rfl ⟨hB743, hk744⟩ fun a751 h751 => ?_; clear h750
      refine dk 8 (v := .string y144.k) h751 rfl rfl ⟨hB743, hk744⟩ (fun x hx => (rn_load1 rfl rfl Try.isAgg9 (hx.2.cell rfl))) fun a752 h752 => ?_; clear h751
      refine dk0 9 (v := pt N149 3) h752 rfl rfl ⟨hB743, hk744⟩ fun a753 h753 => ?_; clear h752
      refine dk 10 (v := .int .i64 y144.v) h753 rfl rfl ⟨hB743, hk744⟩ (fun x hx => (rn_load1 rfl rfl Try.isAgg3 (hx.2.cell rfl))) fun a754 h754 => ?_; clear h753
      have hO757 := TwT.gr hO171 hg738 (fun k e => by cases e)
      refine d1 5 h754 rfl rfl (op_call (args := #[pt N4 0, .string y144.k, .int .i64 y144.v]) (R := fun res xw => ∃ S' : Nat → Prop, res = .bool (hasL L y144.k) ∧ TwT S' xw N4 N15 u (insL L y144.k y144.v) L ∧ Grew S S' w737 xw) rfl rfl rfl (by kernel_rfl) (by kernel_rfl) (Try.call16 _ _) (pPut w737 y144.k y144.v hO757 (by omega)) (by rintro e x ⟨S', h0, h⟩; exact ⟨_, h0, S', rfl, h⟩)) ?_ ?_; clear h754
      ·
       rintro _ w756 ⟨S758, rfl, hO759, hx760⟩
       have hlo762 : ∀ q, S758 q → w.heap.size ≤ q := hx760.lo hlo38 (by omega)
       have hB761 := hbL hB743 hlo38 hx760.but
       have hz763 := hB761.size
       have hz764 := hx760.but.size
       have hk765 := Blk.butS hk744 hx760.but ho155
       exact ⟨hB761, hk765⟩
      rintro _ w756 a755 ⟨S758, rfl, hO759, hx760⟩ h755
      have hlo762 : ∀ q, S758 q → w.heap.size ≤ q := hx760.lo hlo38 (by omega)
      have hB761 := hbL hB743 hlo38 hx760.but
      have hz763 := hB761.size
      have hz764 := hx760.but.size
      have hk765 := Blk.butS hk744 hx760.but ho155
      refine d1 11 h755 rfl rfl (op_call (args := #[pt N15 0, .string y144.k, .int .i64 y144.v]) (R := fun res xw => ∃ u' : Value, ∃ S' : Nat → Prop, res = .bool (hasL L y144.k) ∧ TwT S' xw N4 N15 u' (insL L y144.k y144.v) (insL L y144.k y144.v) ∧ Grew S758 S' w756 xw) rfl rfl rfl (by kernel_rfl) (by kernel_rfl) (Try.call17 _ _) (qPut w756 y144.k y144.v hO759 (by omega)) (by rintro e x ⟨u', S', h0, h⟩; exact ⟨_, h0, u', S', rfl, h⟩)) ?_ ?_; clear h755
      ·
       rintro _ w767 ⟨u'768, S769, rfl, hO770, hx771⟩
       have hlo773 : ∀ q, S769 q → w.heap.size ≤ q := hx771.lo hlo762 (by omega)
       have hB772 := hbL hB761 hlo762 hx771.but
       have hz774 := hB772.size
       have hz775 := hx771.but.size
       have hk776 := Blk.butS hk765 hx771.but (Grew.off hx760 ho155 hk744.lt)
       exact ⟨hB772, hk776⟩
      rintro _ w767 a766 ⟨u'768, S769, rfl, hO770, hx771⟩ h766
      have hlo773 : ∀ q, S769 q → w.heap.size ≤ q := hx771.lo hlo762 (by omega)
      have hB772 := hbL hB761 hlo762 hx771.but
      have hz774 := hB772.size
      have hz775 := hx771.but.size
      have hk776 := Blk.butS hk765 hx771.but (Grew.off hx760 ho155 hk744.lt)
      refine dk0 12 (v := .bool ((hasL L y144.k) == (hasL L y144.k))) h766 rfl rfl ⟨hB772, hk776⟩ fun a777 h777 => ?_; clear h766
      refine dk0 13 (v := .bool ((hasL L y144.k) == (hasL L y144.k))) h777 rfl rfl ⟨hB772, hk776⟩ fun a778 h778 => ?_; clear h777
      refine dr_done (by kernel_rfl) ?_
      refine co_blockN ?_
      refine co_then ?_
      refine co_cut (fun a x => ∃ (S9 : Nat → Prop) (u9 : Value) (L9 : List Kv), Slots 143 [(0, v), (3, pt N4 0), (4, pt N15 0), (5, .int .i64 ((i : Nat) : Int)), (6, pt N149 0), (134, .bool false)] a ∧ (∀ q, S9 q → w.heap.size ≤ q) ∧ (¬ S9 N149) ∧ (L9.length ≤ i + 1) ∧ TwT S9 x N4 N15 u9 L9 L9 ∧ Blk x N149 30 #[.int .i64 y144.c, .string y144.k, .string y144.t, .int .i64 y144.v] ∧ Below w.heap.size w x) ?_ ?_
      ·
       refine dr_gen (fun x => Below w.heap.size w x) (by kernel_rfl) (fun w779 hg780 => ?_) (fun w779 hg780 => ?_)
       ·
        have hz781 := hg780.size
        have hB782 := hb_new hB772 hg780
        exact hB782
       have hz783 := hg780.size
       have hB784 := hb_new hB772 hg780
       refine dk0 0 (v := .bool ((hasL L y144.k) == (hasL L y144.k))) h778 rfl rfl hB784 fun a785 h785 => ?_; clear h778
       have hc786 : ((hasL L y144.k) == (hasL L y144.k)) = true := by first | exact beq_self_eq_true _ | exact bne_self_eq_false _ | (simp; done)
       rw [hc786] at h785; clear hc786
       refine dk0 1 (v := .bool false) h785 rfl rfl hB784 fun a787 h787 => ?_; clear h785
       refine dk0 2 (v := .bool false) h787 rfl rfl hB784 fun a788 h788 => ?_; clear h787
       refine dk0 3 (v := pt N4 0) h788 rfl rfl hB784 fun a789 h789 => ?_; clear h788
       refine dk0 5 (v := pt N15 0) h789 rfl rfl hB784 fun a790 h790 => ?_; clear h789
       refine dk0 6 (v := pt N15 0) h790 rfl rfl hB784 fun a791 h791 => ?_; clear h790
       refine dk0 7 (v := pt N15 0) h791 rfl rfl hB784 fun a792 h792 => ?_; clear h791
       refine dr_many [4, 8] (by kernel_rfl) (by simp) ⟨?_, ?_, trivial⟩
       ·
        have hO795 := TwT.gr hO770 hg780 (fun k e => by cases e)
        refine dr_op (i := 4) h792 rfl rfl rfl rfl (op_call (args := #[pt N4 0]) (R := fun res xw => ∃ S' : Nat → Prop, res = .int .i64 (((insL L y144.k y144.v).length : Nat) : Int) ∧ TwT S' xw N4 N15 u'768 (insL L y144.k y144.v) (insL L y144.k y144.v) ∧ Grew S769 S' w779 xw) rfl rfl rfl (by kernel_rfl) (by kernel_rfl) (Try.call27 _ _) (pLen w779 hO795) (by rintro e x ⟨S', h0, h⟩; exact ⟨_, h0, S', rfl, h⟩)) ?_ ?_; clear h792
        ·
         rintro _ w794 ⟨S796, rfl, hO797, hx798⟩
         have hk799 := hk776.kept hg780 (by simp)
         have hlo801 : ∀ q, S796 q → w.heap.size ≤ q := hx798.lo hlo773 (by omega)
         have hB800 := hbL hB784 hlo773 hx798.but
         have hz802 := hB800.size
         have hz803 := hx798.but.size
         exact hB800
        rintro _ w794 a793 ⟨S796, rfl, hO797, hx798⟩ h793
        have hk799 := hk776.kept hg780 (by simp)
        have hlo801 : ∀ q, S796 q → w.heap.size ≤ q := hx798.lo hlo773 (by omega)
        have hB800 := hbL hB784 hlo773 hx798.but
        have hz802 := hB800.size
        have hz803 := hx798.but.size
        refine dr_many [8] (by kernel_rfl) (by simp) ⟨?_, trivial⟩
        ·
         refine dr_opVal (i := 8) (v := u'768) h793 rfl rfl rfl rfl (by kernel_rfl) rfl (rn_load1 rfl rfl Try.isAgg26 ((TwT.blk hO797).cell rfl)) hB800 (fun a804 h804 => ?_); clear h793
         refine dr_many [9] (by kernel_rfl) (by simp) ⟨?_, trivial⟩
         ·
          refine dr_opVal (i := 9) (v := .int .i64 (((insL L y144.k y144.v).length : Nat) : Int)) h804 rfl rfl rfl rfl (by kernel_rfl) rfl (rn_len rfl rfl Try.underlying26 (TwT.sl hO797)) hB800 (fun a805 h805 => ?_); clear h804
          refine dk0 10 (v := .bool ((((insL L y144.k y144.v).length : Nat) : Int) != (((insL L y144.k y144.v).length : Nat) : Int))) h805 rfl rfl hB800 fun a806 h806 => ?_; clear h805
          refine dk0 11 (v := .bool ((((insL L y144.k y144.v).length : Nat) : Int) != (((insL L y144.k y144.v).length : Nat) : Int))) h806 rfl rfl hB800 fun a807 h807 => ?_; clear h806
          refine dr_done (by kernel_rfl) ?_
          refine co_then ?_
          have hc808 : ((((insL L y144.k y144.v).length : Nat) : Int) != (((insL L y144.k y144.v).length : Nat) : Int)) = false := by first | exact beq_self_eq_true _ | exact bne_self_eq_false _ | (simp; done)
          rw [hc808] at h807; clear hc808
          have hk809 := Blk.butS hk799 hx798.but (Grew.off hx771 (Grew.off hx760 ho155 hk744.lt) hk765.lt)
          exact ⟨S796, u'768, insL L y144.k y144.v, h807.sub ⟨rfl, rfl, rfl, rfl, rfl, rfl, trivial⟩, by exact hlo801, by exact (Grew.off hx798 (Grew.off hx771 (Grew.off hx760 ho155 hk744.lt) hk765.lt) hk799.lt), by first | omega | exact Nat.le_trans insL_leT (by omega) | exact Nat.le_trans delL_leT (by omega), hO797, hk809, hB800⟩
       ·
        have hO810 := TwT.gr hO770 hg780 (fun k e => by cases e)
        refine dr_opVal (i := 8) (v := u'768) h792 rfl rfl rfl rfl (by kernel_rfl) rfl (rn_load1 rfl rfl Try.isAgg26 ((TwT.blk hO810).cell rfl)) hB784 (fun a811 h811 => ?_); clear h792
        refine dr_many [4, 9] (by kernel_rfl) (by simp) ⟨?_, ?_, trivial⟩
        ·
         refine dr_op (i := 4) h811 rfl rfl rfl rfl (op_call (args := #[pt N4 0]) (R := fun res xw => ∃ S' : Nat → Prop, res = .int .i64 (((insL L y144.k y144.v).length : Nat) : Int) ∧ TwT S' xw N4 N15 u'768 (insL L y144.k y144.v) (insL L y144.k y144.v) ∧ Grew S769 S' w779 xw) rfl rfl rfl (by kernel_rfl) (by kernel_rfl) (Try.call27 _ _) (pLen w779 hO810) (by rintro e x ⟨S', h0, h⟩; exact ⟨_, h0, S', rfl, h⟩)) ?_ ?_; clear h811
         ·
          rintro _ w813 ⟨S814, rfl, hO815, hx816⟩
          have hk817 := hk776.kept hg780 (by simp)
          have hlo819 : ∀ q, S814 q → w.heap.size ≤ q := hx816.lo hlo773 (by omega)
          have hB818 := hbL hB784 hlo773 hx816.but
          have hz820 := hB818.size
          have hz821 := hx816.but.size
          exact hB818
         rintro _ w813 a812 ⟨S814, rfl, hO815, hx816⟩ h812
         have hk817 := hk776.kept hg780 (by simp)
         have hlo819 : ∀ q, S814 q → w.heap.size ≤ q := hx816.lo hlo773 (by omega)
         have hB818 := hbL hB784 hlo773 hx816.but
         have hz820 := hB818.size
         have hz821 := hx816.but.size
         refine dr_many [9] (by kernel_rfl) (by simp) ⟨?_, trivial⟩
         ·
          refine dr_opVal (i := 9) (v := .int .i64 (((insL L y144.k y144.v).length : Nat) : Int)) h812 rfl rfl rfl rfl (by kernel_rfl) rfl (rn_len rfl rfl Try.underlying26 (TwT.sl hO815)) hB818 (fun a822 h822 => ?_); clear h812
          refine dk0 10 (v := .bool ((((insL L y144.k y144.v).length : Nat) : Int) != (((insL L y144.k y144.v).length : Nat) : Int))) h822 rfl rfl hB818 fun a823 h823 => ?_; clear h822
          refine dk0 11 (v := .bool ((((insL L y144.k y144.v).length : Nat) : Int) != (((insL L y144.k y144.v).length : Nat) : Int))) h823 rfl rfl hB818 fun a824 h824 => ?_; clear h823
          refine dr_done (by kernel_rfl) ?_
          refine co_then ?_
          have hc825 : ((((insL L y144.k y144.v).length : Nat) : Int) != (((insL L y144.k y144.v).length : Nat) : Int)) = false := by first | exact beq_self_eq_true _ | exact bne_self_eq_false _ | (simp; done)
          rw [hc825] at h824; clear hc825
          have hk826 := Blk.butS hk817 hx816.but (Grew.off hx771 (Grew.off hx760 ho155 hk744.lt) hk765.lt)
          exact ⟨S814, u'768, insL L y144.k y144.v, h824.sub ⟨rfl, rfl, rfl, rfl, rfl, rfl, trivial⟩, by exact hlo819, by exact (Grew.off hx816 (Grew.off hx771 (Grew.off hx760 ho155 hk744.lt) hk765.lt) hk817.lt), by first | omega | exact Nat.le_trans insL_leT (by omega) | exact Nat.le_trans delL_leT (by omega), hO815, hk826, hB818⟩
        ·
         refine dr_opVal (i := 9) (v := .int .i64 (((insL L y144.k y144.v).length : Nat) : Int)) h811 rfl rfl rfl rfl (by kernel_rfl) rfl (rn_len rfl rfl Try.underlying26 (TwT.sl hO810)) hB784 (fun a827 h827 => ?_); clear h811
         refine d1 4 h827 rfl rfl (op_call (args := #[pt N4 0]) (R := fun res xw => ∃ S' : Nat → Prop, res = .int .i64 (((insL L y144.k y144.v).length : Nat) : Int) ∧ TwT S' xw N4 N15 u'768 (insL L y144.k y144.v) (insL L y144.k y144.v) ∧ Grew S769 S' w779 xw) rfl rfl rfl (by kernel_rfl) (by kernel_rfl) (Try.call27 _ _) (pLen w779 hO810) (by rintro e x ⟨S', h0, h⟩; exact ⟨_, h0, S', rfl, h⟩)) ?_ ?_; clear h827
         ·
          rintro _ w829 ⟨S830, rfl, hO831, hx832⟩
          have hk833 := hk776.kept hg780 (by simp)
          have hlo835 : ∀ q, S830 q → w.heap.size ≤ q := hx832.lo hlo773 (by omega)
          have hB834 := hbL hB784 hlo773 hx832.but
          have hz836 := hB834.size
          have hz837 := hx832.but.size
          exact hB834
         rintro _ w829 a828 ⟨S830, rfl, hO831, hx832⟩ h828
         have hk833 := hk776.kept hg780 (by simp)
         have hlo835 : ∀ q, S830 q → w.heap.size ≤ q := hx832.lo hlo773 (by omega)
         have hB834 := hbL hB784 hlo773 hx832.but
         have hz836 := hB834.size
         have hz837 := hx832.but.size
         refine dk0 10 (v := .bool ((((insL L y144.k y144.v).length : Nat) : Int) != (((insL L y144.k y144.v).length : Nat) : Int))) h828 rfl rfl hB834 fun a838 h838 => ?_; clear h828
         refine dk0 11 (v := .bool ((((insL L y144.k y144.v).length : Nat) : Int) != (((insL L y144.k y144.v).length : Nat) : Int))) h838 rfl rfl hB834 fun a839 h839 => ?_; clear h838
         refine dr_done (by kernel_rfl) ?_
         refine co_then ?_
         have hc840 : ((((insL L y144.k y144.v).length : Nat) : Int) != (((insL L y144.k y144.v).length : Nat) : Int)) = false := by first | exact beq_self_eq_true _ | exact bne_self_eq_false _ | (simp; done)
         rw [hc840] at h839; clear hc840
         have hk841 := Blk.butS hk833 hx832.but (Grew.off hx771 (Grew.off hx760 ho155 hk744.lt) hk765.lt)
         exact ⟨S830, u'768, insL L y144.k y144.v, h839.sub ⟨rfl, rfl, rfl, rfl, rfl, rfl, trivial⟩, by exact hlo835, by exact (Grew.off hx832 (Grew.off hx771 (Grew.off hx760 ho155 hk744.lt) hk765.lt) hk833.lt), by first | omega | exact Nat.le_trans insL_leT (by omega) | exact Nat.le_trans delL_leT (by omega), hO831, hk841, hB834⟩
      rintro a842 w843 ⟨S9, u9, L9, h842, hi844, hi845, hi846, hf847, hf848, hB849⟩
      have hz850 := hB849.size
      have hl851 := hf848.lt
      refine co_false h842 rfl ?_
      refine wp_skip ?_
      refine co_blockN ?_
      refine co_then ?_
      refine co_reg ?_
      refine pk0 (v := .int .i64 ((i : Nat) : Int)) h842 rfl fun a852 h852 => ?_; clear h842
      refine pk (v := .int .i64 ((i + 1 : Nat) : Int)) h852 rfl (rn_arith' rfl rfl rfl rfl rfl rfl (IntWalk.i64_in _ (by omega)) (by omega)) fun a853 h853 => ?_; clear h852
      refine pk0 (v := .int .i64 ((i + 1 : Nat) : Int)) h853 rfl fun a854 h854 => ?_; clear h853
      refine pl_nil ?_
      refine co_then ?_
      refine ⟨(l.length - (i + 1)), by omega, ?_⟩
      have hlo' := hi844
      exact ⟨i + 1, S9, u9, L9, h854.sub ⟨rfl, rfl, rfl, rfl, trivial⟩, rfl, by omega, by omega, by exact hlo', by first | (simp; done) | omega | exact Nat.le_trans insL_leT (by omega) | exact Nat.le_trans delL_leT (by omega), hf847, hB849⟩
end Go.Proofs.Ythmljllgfigebaa
