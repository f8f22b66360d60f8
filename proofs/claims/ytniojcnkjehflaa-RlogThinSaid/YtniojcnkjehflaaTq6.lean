/- Put together: ThCTp. Conditions: as each says. -/
import Derived.Test.YtniojcnkjehflaaTq5
/- catenalaw17: RlogThin. Conditions: none. -/
namespace Go.Proofs.Ytniojcnkjehflaa
open Go.RowKit Go.PlainAid
set_option linter.unusedVariables false
set_option linter.unusedSimpArgs false

section
variable {S D A : Nat → Prop} {w x : World} {b m n d : Nat} {L X : List EntT} {u : Value}
theorem sl_keep {α : Type} {enc : α → List Value} {sz : Nat} {w x : World} {v : Value} {l : List α} (h : SliceOf enc sz w v l) (hv : ∀ k, v.ownBlock = some k → x.heap[k]? = w.heap[k]?) : SliceOf enc sz x v l := by
  obtain ⟨ao, cap, rfl, h1, h2, h3, h4⟩ := h
  refine ⟨ao, cap, rfl, h1, h2, h3, fun j hj => ?_⟩
  obtain ⟨b, off, e, hr⟩ := h4 j hj
  subst e
  exact ⟨b, off, rfl, fun i u hu => (World.cell?_of_block (w := w) (hv b rfl)).trans (hr i u hu)⟩
/-- A list of entries, whose blocks lie in S. -/
def SlY (S : Nat → Prop) (w : World) (v : Value) (l : List EntT) : Prop :=
  (SliceOf entE 4 w v l ∧ ∀ z ∈ l, EntOk w z) ∧ (∀ z ∈ l, z.opl.length ≤ 20) ∧ (∀ i, v.ownBlock = some i → S i) ∧ (∀ z ∈ l, ∀ i, z.ops.ownBlock = some i → S i) ∧ ∀ q, S q → q < w.heap.size
variable {v : Value} {l : List EntT}
theorem SlY.ofS (h : SlY S w v l) : ∀ q, S q → q < w.heap.size := h.2.2.2.2
theorem SlY.keep (h : SlY S w v l) (hk : ∀ q, S q → x.heap[q]? = w.heap[q]?) (hz : w.heap.size ≤ x.heap.size) : SlY S x v l := by
  obtain ⟨⟨h1, h2⟩, h3, h4, h5, h6⟩ := h
  exact ⟨⟨sl_keep h1 fun k e => hk k (h4 k e), fun z hm => ⟨sl_keep (h2 z hm).ops fun k e => hk k (h5 z hm k e), (h2 z hm).each, (h2 z hm).ts0, (h2 z hm).ts1, (h2 z hm).cl, (h2 z hm).rq⟩⟩, h3, h4, h5, fun q hq => Nat.lt_of_lt_of_le (h6 q hq) hz⟩
theorem SlY.below (h : SlY S w v l) (hb : Below w.heap.size w x) : SlY S x v l := h.keep (fun q hq => hb.block q (h.ofS q hq)) hb.size
theorem SlY.new (h : SlY S w v l) (hg : w.grownBy x none) : SlY S x v l := h.keep (fun q hq => hg.block q (h.ofS q hq) (fun e => by cases e)) hg.size
theorem SlY.but (h : SlY S w v l) (hb : But D w x) (ha : ∀ q, S q → D q → False) : SlY S x v l := h.keep (fun q hq => hb.block q (h.ofS q hq) (fun hd => ha q hq hd)) hb.size
theorem SlY.one (h : SlY S w v l) {k : Nat} {y : EntT} (hy : l[k]? = some y) : SliceOf opE 3 w y.ops y.opl ∧ y.opl.length ≤ 20 ∧ 0 ≤ y.ts ∧ y.ts < 18446744073709551616 ∧ ∀ i, y.ops.ownBlock = some i → S i :=
  have hm := List.mem_of_getElem? hy
  ⟨(h.1.2 y hm).ops, h.2.1 y hm, (h.1.2 y hm).ts0, (h.1.2 y hm).ts1, h.2.2.2.1 y hm⟩
theorem slY_mk {w1 : World} {u : Value} (hr : w.ownsRow w1.heap.size 37 4 u l.length (l.flatMap entE)) (he : EntsK (fun _ => False) w1.heap.size w l) :
    ∃ S : Nat → Prop, SlY S w u l ∧ ∀ q, S q → w1.heap.size ≤ q := by
  refine ⟨fun q => u.ownBlock = some q ∨ ∃ z ∈ l, z.ops.ownBlock = some q, ⟨⟨row_sl hr entE_len, entsK_got he⟩, fun z hz => (he z hz).len, fun i hi => .inl hi, fun z hz i hi => .inr ⟨z, hz, hi⟩, ?_⟩, ?_⟩
  · rintro q (hq | ⟨z, hz, hq⟩)
    · exact (hr.lt q hq).2
    · exact ((he z hz).row.lt q hq).2
  · rintro q (hq | ⟨z, hz, hq⟩)
    · exact (hr.lt q hq).1
    · rcases (he z hz).ins q hq with e | e
      · exact e.elim
      · exact e

theorem SlY.gr {row : Option Nat} (h : SlY S w v l) (hg : w.grownBy x row) (hr : ∀ k, row = some k → ¬ S k) : SlY S x v l :=
  h.keep (fun q hq => hg.block q (h.ofS q hq) (fun e => hr q e.symm hq)) hg.size
theorem TwoP.prog (h : TwoP S w b d u L X) : ∃ A : Nat → Prop, LObj A w b L ∧ (∀ q, A q → S q) := by
  obtain ⟨A, D, h1, h2, h3, h4, h5⟩ := h
  exact ⟨A, h1, fun q hq => (h4 q).2 (.inl hq)⟩
theorem thAll (w : World) (h : LObj S w b L) : Calls Try.prog 10 #[pt b 0] w fun e w' => ∃ (L2 : List EntT) (u2 : Value) (S3 : Nat → Prop) (S' : Nat → Prop), e = .returned u2 ∧ LObj S' w' b L ∧ SlY S3 w' u2 L2 ∧ L2.map e0 = L.map e0 ∧ (∀ q, S3 q → w.heap.size ≤ q) ∧ (∀ q, S3 q → S' q → False) ∧ Grew S S' w w' := by
  refine (tAll w h).mono ?_
  rintro e x ⟨L2, u2, S', rfl, k1, k2, k3, k4, k5, k6⟩
  obtain ⟨S3, q1, q2⟩ := slY_mk k1 k2
  exact ⟨L2, u2, S3, S', rfl, k4, q1, k3, q2, fun q h1 h2 => by have := q2 q h1; have := k5 q h2; omega, k6⟩
theorem ri_4 (h : RI L) : ∀ z ∈ L, z.opl.length ≤ 4 := fun z hz => ((chkB_iff _ _ _).1 (h.chk z hz)).2.2.1
theorem cnt_end {A B : List EntT} {h n c : Int} {i : Nat} (hA : A.map e0 = L.map e0) (hB : B.map e0 = (thL L h n).map e0) (hc : c = opsN (A.take i) - opsN (B.take i)) : ¬ i = A.length ∨ c = thG L h n := by
  by_cases e : i = A.length
  · right
    have h1 := e0_len hA
    have h2 := e0_len hB
    rw [thL_lenT] at h2
    rw [hc, List.take_of_length_le (by omega), List.take_of_length_le (by omega), opsN_e0 hA, opsN_e0 hB, opsN_th]
  · exact .inl e
theorem st_same {A B : List EntT} {P Q : List ValT} {h t n : Int} (ht : h ≤ t) (hA : A.map e0 = L.map e0) (hB : B.map e0 = (thL L h n).map e0) (hP : SetG (fun y : ValT => y.1) (stF t A (thM A n)) P) (hQ : SetG (fun y : ValT => y.1) (stF t B (thM B n)) Q) : P = Q := by
  have h1 := e0_len hA
  have h2 := e0_len hB
  rw [thL_lenT] at h2
  rw [stF_e0 hA, thM_len h1] at hP
  rw [stF_e0 hB, thM_len h2, stF_th ht] at hQ
  exact SetG.uniq hP hQ
end
def mxI (a b : Int) : Int := if a < b then b else a
theorem mxI_p (a b : Int) : mxI a b ≥ a ∧ mxI a b ≥ b ∧ (mxI a b = a ∨ mxI a b = b) := by unfold mxI; split <;> omega
set_option maxRecDepth 100000 in
set_option maxHeartbeats 6400000 in
theorem rlogThin_law (v : Value) (l : List RActT) (h : Int) (n : Int) (t : Int) (w : World) (hs : SliceOf ractE 6 w v l) (hok : ∀ z ∈ l, RActOk w z) (ht1 : 0 ≤ h ∧ h < 18446744073709551616) (hn1 : 0 ≤ n ∧ n ≤ 255) (ht2 : 0 ≤ t ∧ t < 18446744073709551616) :
    Calls Try.prog 3 #[v, .int .u64 h, .int .u8 n, .int .u64 t] w fun e w' => e = .returned (.bool true) ∧ Below w.heap.size w w' := by
 have hB0 := Below.refl w.heap.size w
 have hl_hs := sl_len hs
 by_cases hfew : Few l 40
 · skip
   refine co_enter (n := 149) Try.func3 rfl rfl rfl [(0, v), (1, .int .u64 h), (2, .int .u8 n), (3, .int .u64 t)] rfl (fun a h0 => ?_)
   refine co_seq ?_
   refine co_reg ?_
   refine pk0 (v := .bool false) h0 rfl fun a1 h1 => ?_; clear h0
   refine pl_nil ?_
   refine co_then ?_
   refine co_seq ?_
   refine co_seq ?_
   refine co_reg ?_
   refine pk0 (v := v) h1 rfl fun a2 h2 => ?_; clear h1
   refine pw h2 rfl (op_call (args := #[v]) (R := fun res xw => res = .bool (decide (Few l 40)) ∧ Below w.heap.size w xw) rfl rfl rfl (by kernel_rfl) (by kernel_rfl) (Try.call6 _ _) (few17_any v l w hs hok) (by rintro e x ⟨rfl, hb5⟩; exact ⟨_, rfl, ⟨rfl, hb5⟩⟩)) ?_; clear h2
   rintro _ w4 a3 ⟨rfl, hb5⟩ h3
   have hz6 := hb5.size
   have hc7 : (decide (Few l 40)) = true := by simp [hfew]
   rw [hc7] at h3; clear hc7
   refine pk0 (v := .bool false) h3 rfl fun a8 h8 => ?_; clear h3
   refine pl_nil ?_
   refine co_then ?_
   refine co_false h8 rfl ?_
   refine wp_skip ?_
   refine co_then ?_
   refine co_seq ?_
   refine co_reg ?_
   refine pw h8 rfl (op_call (args := #[]) (R := fun res xw => ∃ N S, res = pt N 0 ∧ LObj S xw N [] ∧ (∀ q, S q → w4.heap.size ≤ q) ∧ Below w4.heap.size w4 xw) rfl rfl rfl (by kernel_rfl) (by kernel_rfl) (Try.call8 _ _) (tNew w4) (by rintro e x ⟨N, S, rfl, h⟩; exact ⟨_, rfl, N, S, rfl, h⟩)) ?_; clear h8
   rintro _ w10 a9 ⟨N11, S12, rfl, hO13, hlo14, hb15⟩ h9
   have hz16 := hb15.size
   have hlo17 : ∀ q, S12 q → w.heap.size ≤ q := fun q hq => by have := hlo14 q hq; omega
   refine pk0 (v := pt N11 0) h9 rfl fun a18 h18 => ?_; clear h9
   refine pl_nil ?_
   refine co_then ?_
   refine co_seq ?_
   refine co_reg ?_
   refine pk0 (v := .agg #[.slice none 0 0]) h18 rfl fun a19 h19 => ?_; clear h18
   refine pw h19 rfl (op_new (v := fun N => pt N 0) (T := 31) (cs := #[.slice none 0 0]) (by kernel_rfl) (by kernel_rfl) (by kernel_rfl)) ?_; clear h19
   rintro _ w21 a20 ⟨N22, rfl, hN25, hz26, hk24, hg23⟩ h20
   have hz27 := hg23.size
   have ho28 := off_new (LObj.ofS hO13) hN25
   try dsimp only at h20
   refine pk0 (v := pt N22 0) h20 rfl fun a29 h29 => ?_; clear h20
   refine pl_nil ?_
   refine co_then ?_
   refine co_seq ?_
   refine co_seq ?_
   refine co_reg ?_
   refine pk0 (v := .int .i64 0) h29 rfl fun a30 h30 => ?_; clear h29
   refine pl_nil ?_
   refine co_then ?_
   refine wp_block ?_
   have hlo' : ∀ q, (fun q => S12 q ∨ q = N22) q → w.heap.size ≤ q := fun q hq => by rcases hq with k | k; exact hlo17 q k; omega
   have h31 : Slots 149 [(0, v), (1, .int .u64 h), (2, .int .u8 n), (3, .int .u64 t), (9, pt N11 0), (10, pt N22 0), (11, .int .i64 0)] _ := h30.sub ⟨rfl, rfl, rfl, rfl, rfl, rfl, rfl, trivial⟩; clear h30
   refine co_loop (fun mm a x => ∃ (i : Nat) (S : Nat → Prop) (u : Value) (L : List EntT) (X : List EntT), Slots 149 [(0, v), (1, .int .u64 h), (2, .int .u8 n), (3, .int .u64 t), (9, pt N11 0), (10, pt N22 0), (11, .int .i64 ((i : Nat) : Int))] a ∧ mm = l.length - i ∧ (i ≤ l.length) ∧ (i ≤ 30) ∧ (∀ q, S q → w.heap.size ≤ q) ∧ TwoP S x N11 N22 u L X ∧ Below w.heap.size w x) (l.length - 0) ?_ ?_
   have hO32 := LObj.gr hO13 hg23 (fun k e => by cases e)
   have hB33 := hb_call hB0 hb5
   have hB34 := hb_call hB33 hb15
   have hB35 := hb_new hB34 hg23
   · exact ⟨0, (fun q => S12 q ∨ q = N22), (.slice none 0 0), [], [], h31.sub ⟨rfl, rfl, rfl, rfl, rfl, rfl, (slot_eq rfl (congrArg (Value.int .i64) (by first | rfl | omega))), trivial⟩, rfl, by omega, by omega, by exact hlo', (TwoP.mk0 hO32 hk24 ho28), hB35⟩
   · rintro k36 a37 w38 ⟨i, S, u, L, X, h37, rfl, hi39, hi40, hi41, hf42, hB43⟩
     have hz44 := hB43.size
     have hlo45 : ∀ q, S q → w.heap.size ≤ q := by assumption
     have hTl := TwoP.len hf42; have hTx := TwoP.lenE hf42
     refine co_seq ?_
     refine co_seq ?_
     refine co_reg ?_
     refine pk0 (v := .int .i64 ((i : Nat) : Int)) h37 rfl fun a46 h46 => ?_; clear h37
     refine pk0 (v := v) h46 rfl fun a47 h47 => ?_; clear h46
     refine pk (v := .int .i64 ((l.length : Nat) : Int)) h47 rfl (rn_len rfl rfl Try.underlying22 (hs.below hB43)) fun a48 h48 => ?_; clear h47
     refine pk0 (v := .bool (decide (((i : Nat) : Int) < ((l.length : Nat) : Int)))) h48 rfl fun a49 h49 => ?_; clear h48
     refine pk0 (v := .bool (decide (((i : Nat) : Int) < ((l.length : Nat) : Int)))) h49 rfl fun a50 h50 => ?_; clear h49
     cases hc51 : (decide (((i : Nat) : Int) < ((l.length : Nat) : Int)))
     ·
      rw [hc51] at h50
      have hp52 : ¬ (((i : Nat) : Int) < ((l.length : Nat) : Int)) := of_decide_eq_false hc51
      clear hc51
      refine psk h50 rfl fun a53 h53 => ?_; clear h50
      refine psk h53 rfl fun a54 h54 => ?_; clear h53
      refine pk0 (v := .bool false) h54 rfl fun a55 h55 => ?_; clear h54
      refine pl_nil ?_
      refine co_then ?_
      refine co_false h55 rfl ?_
      refine wp_exit ?_
      refine co_thenX ?_
      refine co_thenX ?_
      refine co_blockX ?_
      refine co_then ?_
      refine co_seq ?_
      refine co_reg ?_
      refine pk0 (v := pt N11 0) h55 rfl fun a56 h56 => ?_; clear h55
      obtain ⟨A9, hA9, hs9⟩ := TwoP.prog hf42
      have hRI9 := TwoP.ri hf42
      have hlo9 : ∀ q, A9 q → w.heap.size ≤ q := fun q hq => hlo45 q (hs9 q hq)
      have hl100 := TwoP.len hf42
      refine pw h56 rfl (op_call (args := #[pt N11 0]) (R := fun res xw => ∃ L2 : List EntT, ∃ u2 : Value, ∃ S3 : Nat → Prop, ∃ S' : Nat → Prop, res = u2 ∧ LObj S' xw N11 L ∧ (SlY S3 xw u2 L2) ∧ (L2.map e0 = L.map e0) ∧ (∀ q, S3 q → w38.heap.size ≤ q) ∧ (∀ q, S3 q → S' q → False) ∧ Grew A9 S' w38 xw) rfl rfl rfl (by kernel_rfl) (by kernel_rfl) (Try.call10 _ _) (thAll w38 hA9) (by rintro e x ⟨L2, u2, S3, S', h0, h⟩; exact ⟨_, h0, L2, u2, S3, S', rfl, h⟩)) ?_; clear h56
      rintro u260 w58 a57 ⟨L259, _, S361, S62, rfl, hO63, hq65, hq66, hq67, hq68, hx64⟩ h57
      have hlo70 : ∀ q, S62 q → w.heap.size ≤ q := hx64.lo hlo9 (by omega)
      have hB69 := hbL hB43 hlo9 hx64.but
      have hz71 := hB69.size
      have hz72 := hx64.but.size
      have hl73 := e0_len hq66
      refine pk0 (v := u260) h57 rfl fun a74 h74 => ?_; clear h57
      refine pl_nil ?_
      refine co_then ?_
      refine co_seq ?_
      refine co_reg ?_
      refine pk0 (v := pt N11 0) h74 rfl fun a75 h75 => ?_; clear h74
      refine pk0 (v := .int .u64 h) h75 rfl fun a76 h76 => ?_; clear h75
      refine pk0 (v := .int .u8 n) h76 rfl fun a77 h77 => ?_; clear h76
      refine pk (v := .int .i64 n) h77 rfl (rn_conv rfl rfl Try.underlying5 Try.underlying3 (IntWalk.i64_in _ (by omega))) fun a78 h78 => ?_; clear h77
      refine pw h78 rfl (op_call (args := #[pt N11 0, .int .u64 h, .int .i64 n]) (R := fun res xw => ∃ L' : List EntT, ∃ S' : Nat → Prop, res = .int .i64 (thG L h n) ∧ LObj S' xw N11 L' ∧ (L'.map e0 = (thL L h n).map e0) ∧ Grew S62 S' w58 xw) rfl rfl rfl (by kernel_rfl) (by kernel_rfl) (Try.call11 _ _) (tThin w58 h n hO63 ht1 (by omega) hRI9.nd) (by rintro e x ⟨L', S', h0, h⟩; exact ⟨_, h0, L', S', rfl, h⟩)) ?_; clear h78
      rintro _ w80 a79 ⟨L'81, S82, rfl, hO83, hq85, hx84⟩ h79
      have hlo87 : ∀ q, S82 q → w.heap.size ≤ q := hx84.lo hlo70 (by omega)
      have hB86 := hbL hB69 hlo70 hx84.but
      have hz88 := hB86.size
      have hz89 := hx84.but.size
      have hl90 := e0_len hq85; rw [thL_lenT] at hl90
      have hg9 := thG_twice L h n
      rw [← thG_e0T hq85 h n] at hg9
      refine pk0 (v := .int .i64 (thG L h n)) h79 rfl fun a91 h91 => ?_; clear h79
      refine pl_nil ?_
      refine co_then ?_
      refine co_seq ?_
      refine co_reg ?_
      refine pk0 (v := pt N11 0) h91 rfl fun a92 h92 => ?_; clear h91
      refine pw h92 rfl (op_call (args := #[pt N11 0]) (R := fun res xw => ∃ L2 : List EntT, ∃ u2 : Value, ∃ S3 : Nat → Prop, ∃ S' : Nat → Prop, res = u2 ∧ LObj S' xw N11 L'81 ∧ (SlY S3 xw u2 L2) ∧ (L2.map e0 = L'81.map e0) ∧ (∀ q, S3 q → w80.heap.size ≤ q) ∧ (∀ q, S3 q → S' q → False) ∧ Grew S82 S' w80 xw) rfl rfl rfl (by kernel_rfl) (by kernel_rfl) (Try.call10 _ _) (thAll w80 hO83) (by rintro e x ⟨L2, u2, S3, S', h0, h⟩; exact ⟨_, h0, L2, u2, S3, S', rfl, h⟩)) ?_; clear h92
      rintro u296 w94 a93 ⟨L295, _, S397, S98, rfl, hO99, hq101, hq102, hq103, hq104, hx100⟩ h93
      have hX105 := SlY.but hq65 hx84.but hq68
      have hlo107 : ∀ q, S98 q → w.heap.size ≤ q := hx100.lo hlo87 (by omega)
      have hB106 := hbL hB86 hlo87 hx100.but
      have hz108 := hB106.size
      have hz109 := hx100.but.size
      have hl110 := e0_len hq102
      refine pk0 (v := u296) h93 rfl fun a111 h111 => ?_; clear h93
      refine pl_nil ?_
      refine co_then ?_
      refine co_seq ?_
      refine co_seq ?_
      refine co_reg ?_
      refine pk0 (v := u296) h111 rfl fun a112 h112 => ?_; clear h111
      refine pk (v := .int .i64 ((L295.length : Nat) : Int)) h112 rfl (rn_len rfl rfl Try.underlying29 (hq101.1.1)) fun a113 h113 => ?_; clear h112
      refine pk0 (v := u260) h113 rfl fun a114 h114 => ?_; clear h113
      have hX115 := SlY.but hX105 hx100.but (ap_symm (Grew.ap hx84 (ap_symm hq68) (SlY.ofS hq65)))
      refine pk (v := .int .i64 ((L259.length : Nat) : Int)) h114 rfl (rn_len rfl rfl Try.underlying29 (hX115.1.1)) fun a116 h116 => ?_; clear h114
      refine pk0 (v := .bool (((L295.length : Nat) : Int) != ((L259.length : Nat) : Int))) h116 rfl fun a117 h117 => ?_; clear h116
      refine pl_nil ?_
      refine co_then ?_
      have hc118 : (((L295.length : Nat) : Int) != ((L259.length : Nat) : Int)) = false := by first | (simp; done) | (simp; omega) | exact beq_false_of_ne (by omega) | exact beq_iff_eq.2 (by omega)
      rw [hc118] at h117; clear hc118
      refine co_false h117 rfl ?_
      refine wp_skip ?_
      refine co_then ?_
      refine co_seq ?_
      refine co_reg ?_
      refine pk0 (v := .int .i64 0) h117 rfl fun a119 h119 => ?_; clear h117
      refine pl_nil ?_
      refine co_then ?_
      refine co_seq ?_
      refine co_seq ?_
      refine co_reg ?_
      refine pk0 (v := .int .i64 0) h119 rfl fun a120 h120 => ?_; clear h119
      refine pl_nil ?_
      refine co_then ?_
      refine wp_block ?_
      have hc9 : (0 : Int) = opsN (L259.take 0) - opsN (L295.take 0) := rfl
      have h121 : Slots 149 [(1, .int .u64 h), (2, .int .u8 n), (3, .int .u64 t), (9, pt N11 0), (12, u260), (13, .int .i64 (thG L h n)), (14, u296), (15, .int .i64 0), (16, .int .i64 0)] _ := h120.sub ⟨rfl, rfl, rfl, rfl, rfl, rfl, rfl, rfl, rfl, trivial⟩; clear h120
      refine co_loop (fun mm a x => ∃ (i : Nat) (c : Int), Slots 149 [(1, .int .u64 h), (2, .int .u8 n), (3, .int .u64 t), (9, pt N11 0), (12, u260), (13, .int .i64 (thG L h n)), (14, u296), (15, .int .i64 c), (16, .int .i64 ((i : Nat) : Int))] a ∧ mm = L295.length - i ∧ (i ≤ L295.length) ∧ (c = opsN (L259.take i) - opsN (L295.take i)) ∧ (¬ i = L259.length ∨ c = thG L h n) ∧ ((-20 * (i : Int) ≤ c ∧ c ≤ 20 * (i : Int))) ∧ LObj S98 x N11 L'81 ∧ SlY S361 x u260 L259 ∧ SlY S397 x u296 L295 ∧ Below w.heap.size w x) (L295.length - 0) ?_ ?_
      · exact ⟨0, 0, h121.sub ⟨rfl, rfl, rfl, rfl, rfl, rfl, rfl, rfl, (slot_eq rfl (congrArg (Value.int .i64) (by first | rfl | omega))), trivial⟩, rfl, by omega, by exact hc9, by exact cnt_end hq66 (hq102.trans hq85) hc9, by omega, hO99, hX115, hq101, hB106⟩
      · rintro k122 a123 w124 ⟨i, c, h123, rfl, hi125, hi126, hi127, hi128, hf129, hf130, hf131, hB132⟩
        have hz133 := hB132.size
        refine co_seq ?_
        refine co_seq ?_
        refine co_reg ?_
        refine pk0 (v := .int .i64 ((i : Nat) : Int)) h123 rfl fun a134 h134 => ?_; clear h123
        refine pk0 (v := u296) h134 rfl fun a135 h135 => ?_; clear h134
        refine pk (v := .int .i64 ((L295.length : Nat) : Int)) h135 rfl (rn_len rfl rfl Try.underlying29 (hf131.1.1)) fun a136 h136 => ?_; clear h135
        refine pk0 (v := .bool (decide (((i : Nat) : Int) < ((L295.length : Nat) : Int)))) h136 rfl fun a137 h137 => ?_; clear h136
        refine pl_nil ?_
        refine co_then ?_
        cases hc138 : (decide (((i : Nat) : Int) < ((L295.length : Nat) : Int)))
        ·
         rw [hc138] at h137
         have hp139 : ¬ (((i : Nat) : Int) < ((L295.length : Nat) : Int)) := of_decide_eq_false hc138
         clear hc138
         refine co_false h137 rfl ?_
         refine wp_exit ?_
         refine co_thenX ?_
         refine co_thenX ?_
         refine co_blockX ?_
         refine co_then ?_
         refine co_seq ?_
         refine co_reg ?_
         refine pk0 (v := .int .i64 c) h137 rfl fun a140 h140 => ?_; clear h137
         refine pk0 (v := .int .i64 (thG L h n)) h140 rfl fun a141 h141 => ?_; clear h140
         refine pk0 (v := .bool (c == (thG L h n))) h141 rfl fun a142 h142 => ?_; clear h141
         refine pk0 (v := .bool (c == (thG L h n))) h142 rfl fun a143 h143 => ?_; clear h142
         have hc144 : (c == (thG L h n)) = true := by first | (simp; done) | (simp; omega) | exact beq_false_of_ne (by omega) | exact beq_iff_eq.2 (by omega)
         rw [hc144] at h143; clear hc144
         refine pk0 (v := u260) h143 rfl fun a145 h145 => ?_; clear h143
         refine pk0 (v := .int .u8 n) h145 rfl fun a146 h146 => ?_; clear h145
         refine pk (v := .int .i64 n) h146 rfl (rn_conv rfl rfl Try.underlying5 Try.underlying3 (IntWalk.i64_in _ (by omega))) fun a147 h147 => ?_; clear h146
         refine pk0 (v := .int .u64 h) h147 rfl fun a148 h148 => ?_; clear h147
         refine pk0 (v := .int .u64 t) h148 rfl fun a149 h149 => ?_; clear h148
         have hmm150 := mxI_p h t
         refine pk0 (v := .int .u64 (mxI h t)) h149 rfl fun a151 h151 => ?_; clear h149
         refine pw h151 rfl (op_call (args := #[u260, .int .i64 n, .int .u64 (mxI h t)]) (R := fun res xw => ∃ (ys : List ValT) (u : Value), res = u ∧ xw.ownsRow w124.heap.size 78 2 u ys.length (ys.flatMap valE) ∧ SetG (fun y : ValT => y.1) (stF (mxI h t) L259 (thM L259 n)) ys ∧ Below w124.heap.size w124 xw) rfl rfl rfl (by kernel_rfl) (by kernel_rfl) (Try.call14 _ _) (state17_any u260 L259 n (mxI h t) w124 hf130.1.1 hf130.1.2 (ri_4 (RI.e0 hq66.symm hRI9)) (by omega) (by omega) (by omega)) (by rintro e x ⟨ys, u, h0, h⟩; exact ⟨_, h0, ys, u, rfl, h⟩)) ?_; clear h151
         rintro u158 w153 a152 ⟨ys154, _, rfl, hr155, hg157, hb156⟩ h152
         have hz159 := hb156.size
         have ho160 := LObj.ofS hf129
         refine pk0 (v := u296) h152 rfl fun a161 h161 => ?_; clear h152
         refine pk0 (v := .int .u8 n) h161 rfl fun a162 h162 => ?_; clear h161
         refine pk (v := .int .i64 n) h162 rfl (rn_conv rfl rfl Try.underlying5 Try.underlying3 (IntWalk.i64_in _ (by omega))) fun a163 h163 => ?_; clear h162
         refine pk0 (v := .int .u64 h) h163 rfl fun a164 h164 => ?_; clear h163
         refine pk0 (v := .int .u64 t) h164 rfl fun a165 h165 => ?_; clear h164
         have hmm166 := mxI_p h t
         refine pk0 (v := .int .u64 (mxI h t)) h165 rfl fun a167 h167 => ?_; clear h165
         have hB170 := hb_call hB132 hb156
         have hX176 := hf131.below hb156
         refine pw h167 rfl (op_call (args := #[u296, .int .i64 n, .int .u64 (mxI h t)]) (R := fun res xw => ∃ (ys : List ValT) (u : Value), res = u ∧ xw.ownsRow w153.heap.size 78 2 u ys.length (ys.flatMap valE) ∧ SetG (fun y : ValT => y.1) (stF (mxI h t) L295 (thM L295 n)) ys ∧ Below w153.heap.size w153 xw) rfl rfl rfl (by kernel_rfl) (by kernel_rfl) (Try.call14 _ _) (state17_any u296 L295 n (mxI h t) w153 hX176.1.1 hX176.1.2 (ri_4 (RI.e0 (hq102.trans hq85).symm hRI9.th)) (by omega) (by omega) (by omega)) (by rintro e x ⟨ys, u, h0, h⟩; exact ⟨_, h0, ys, u, rfl, h⟩)) ?_; clear h167
         rintro u175 w169 a168 ⟨ys171, _, rfl, hr172, hg174, hb173⟩ h168
         have hz177 := hb173.size
         have hO179 := LObj.gr hf129 (below_grown hb156) (fun k e => by cases e)
         have ho178 := LObj.ofS hO179
         have hPQ9 := st_same (by omega) hq66 (hq102.trans hq85) hg157 hg174
         have hB182 := hb_call hB170 hb173
         have hX183 := hf130.below hb156
         have hX184 := hX183.below hb173
         have hr186 := row_kept_new hr155 (below_grown hb173)
         refine pw h168 rfl (op_call (args := #[u158, u175]) (R := fun res xw => res = .bool true ∧ Below w169.heap.size w169 xw) rfl rfl rfl (by kernel_rfl) (by kernel_rfl) (Try.call13 _ _) (samePairsV_any u158 ys154 u175 w169 (row_sl hr186 valE_len) (by rw [hPQ9]; exact (row_sl hr172 valE_len))) (by rintro e x ⟨rfl, h⟩; exact ⟨_, rfl, rfl, h⟩)) ?_; clear h168
         rintro _ w181 a180 ⟨rfl, hb185⟩ h180
         have hz187 := hb185.size
         have hO189 := LObj.gr hO179 (below_grown hb173) (fun k e => by cases e)
         have ho188 := LObj.ofS hO189
         refine pk0 (v := .bool true) h180 rfl fun a190 h190 => ?_; clear h180
         refine pk0 (v := .bool true) h190 rfl fun a191 h191 => ?_; clear h190
         refine pk0 (v := pt N11 0) h191 rfl fun a192 h192 => ?_; clear h191
         refine pk0 (v := .int .u64 h) h192 rfl fun a193 h193 => ?_; clear h192
         refine pk0 (v := .int .u8 n) h193 rfl fun a194 h194 => ?_; clear h193
         refine pk (v := .int .i64 n) h194 rfl (rn_conv rfl rfl Try.underlying5 Try.underlying3 (IntWalk.i64_in _ (by omega))) fun a195 h195 => ?_; clear h194
         have hB198 := hb_call hB182 hb185
         have hX199 := hX176.below hb173
         have hX200 := hX199.below hb185
         have hO201 := LObj.gr hO189 (below_grown hb185) (fun k e => by cases e)
         refine pw h195 rfl (op_call (args := #[pt N11 0, .int .u64 h, .int .i64 n]) (R := fun res xw => ∃ L' : List EntT, ∃ S' : Nat → Prop, res = .int .i64 (thG L'81 h n) ∧ LObj S' xw N11 L' ∧ (L'.map e0 = (thL L'81 h n).map e0) ∧ Grew S98 S' w181 xw) rfl rfl rfl (by kernel_rfl) (by kernel_rfl) (Try.call11 _ _) (tThin w181 h n hO201 ht1 (by omega) (RI.e0 hq85.symm hRI9.th).nd) (by rintro e x ⟨L', S', h0, h⟩; exact ⟨_, h0, L', S', rfl, h⟩)) ?_; clear h195
         rintro _ w197 a196 ⟨L'202, S203, rfl, hO204, hq206, hx205⟩ h196
         have hX207 := hX184.below hb185
         have hlo209 : ∀ q, S203 q → w.heap.size ≤ q := hx205.lo hlo107 (by omega)
         have hB208 := hbL hB198 hlo107 hx205.but
         have hz210 := hB208.size
         have hz211 := hx205.but.size
         refine pk0 (v := .bool ((thG L'81 h n) == 0)) h196 rfl fun a212 h212 => ?_; clear h196
         refine pk0 (v := .bool ((thG L'81 h n) == 0)) h212 rfl fun a213 h213 => ?_; clear h212
         refine pk0 (v := .bool ((thG L'81 h n) == 0)) h213 rfl fun a214 h214 => ?_; clear h213
         have hc215 : ((thG L'81 h n) == 0) = true := by first | (simp; done) | (simp; omega) | exact beq_false_of_ne (by omega) | exact beq_iff_eq.2 (by omega)
         rw [hc215] at h214; clear hc215
         refine pw h214 rfl (op_call (args := #[]) (R := fun res xw => res = .bool true ∧ Below w197.heap.size w197 xw) rfl rfl rfl (by kernel_rfl) (by kernel_rfl) (Try.call7 _ _) (awake17  w197 ) (by rintro e x ⟨rfl, hb218⟩; exact ⟨_, rfl, ⟨rfl, hb218⟩⟩)) ?_; clear h214
         rintro _ w217 a216 ⟨rfl, hb218⟩ h216
         have hz219 := hb218.size
         have ho220 := LObj.ofS hO204
         refine pk0 (v := .bool true) h216 rfl fun a221 h221 => ?_; clear h216
         refine pk0 (v := .bool true) h221 rfl fun a222 h222 => ?_; clear h221
         refine pl_nil ?_
         refine co_then ?_
         refine wp_ret ?_
         refine co_ret1 h222 rfl rfl ?_
         have hB223 := hb_call hB208 hb218
         exact ⟨rfl, hB223⟩
        ·
         rw [hc138] at h137
         have hp224 : ((i : Nat) : Int) < ((L295.length : Nat) : Int) := of_decide_eq_true hc138
         clear hc138
         refine co_true h137 rfl ?_
         refine wp_skip ?_
         refine co_then ?_
         refine co_seq ?_
         refine wp_block ?_
         refine co_seq ?_
         refine co_seq ?_
         refine dr_gen (fun x => Below w.heap.size w x ∧ SlY S361 x u260 L259 ∧ SlY S397 x u296 L295) (by kernel_rfl) (fun w225 hg226 => ?_) (fun w225 hg226 => ?_)
         ·
          have hz227 := hg226.size
          have hB228 := hb_new hB132 hg226
          have hX229 := hf130.new hg226
          have hX230 := hf131.new hg226
          exact ⟨hB228, hX229, hX230⟩
         have hz231 := hg226.size
         have hB232 := hb_new hB132 hg226
         have hX233 := hf130.new hg226
         have hX234 := hf131.new hg226
         refine dk0 0 (v := u296) h137 rfl rfl ⟨hB232, hX233, hX234⟩ fun a235 h235 => ?_; clear h137
         refine dk0 1 (v := .int .i64 ((i : Nat) : Int)) h235 rfl rfl ⟨hB232, hX233, hX234⟩ fun a236 h236 => ?_; clear h235
         obtain ⟨y237, hy237⟩ : ∃ z, L295[i]? = some z := ⟨_, List.getElem?_eq_getElem (by first | omega | (simp; done) | (simp; omega))⟩
         have hy1238 := SlY.one hX234 hy237
         refine dk 2 (v := pt (blkOf u296) (offOf u296 + i * 4)) h236 rfl rfl ⟨hB232, hX233, hX234⟩ (fun x hx => (rn_index rfl rfl rfl Try.underlying29 Try.sizeOf37 (hx.2.2.1.1) (by omega) (by first | omega | (simp; done) | (simp; omega)))) fun a239 h239 => ?_; clear h236
         refine dk0 3 (v := pt (blkOf u296) (offOf u296 + i * 4 + 3)) h239 rfl rfl ⟨hB232, hX233, hX234⟩ fun a240 h240 => ?_; clear h239
         refine dk 4 (v := .int .u64 y237.ts) h240 rfl rfl ⟨hB232, hX233, hX234⟩ (fun x hx => (rn_load1 rfl rfl Try.isAgg23 ((sl_at (hx.2.2.1.1) hy237) 3 _ rfl))) fun a241 h241 => ?_; clear h240
         refine dk0 5 (v := u260) h241 rfl rfl ⟨hB232, hX233, hX234⟩ fun a242 h242 => ?_; clear h241
         refine dk0 6 (v := .int .i64 ((i : Nat) : Int)) h242 rfl rfl ⟨hB232, hX233, hX234⟩ fun a243 h243 => ?_; clear h242
         obtain ⟨y244, hy244⟩ : ∃ z, L259[i]? = some z := ⟨_, List.getElem?_eq_getElem (by first | omega | (simp; done) | (simp; omega))⟩
         have hy1245 := SlY.one hX233 hy244
         have hth246 := th_at hq66 (hq102.trans hq85) hy244 hy237
         refine dk 7 (v := pt (blkOf u260) (offOf u260 + i * 4)) h243 rfl rfl ⟨hB232, hX233, hX234⟩ (fun x hx => (rn_index rfl rfl rfl Try.underlying29 Try.sizeOf37 (hx.2.1.1.1) (by omega) (by first | omega | (simp; done) | (simp; omega)))) fun a247 h247 => ?_; clear h243
         refine dk0 8 (v := pt (blkOf u260) (offOf u260 + i * 4 + 3)) h247 rfl rfl ⟨hB232, hX233, hX234⟩ fun a248 h248 => ?_; clear h247
         refine dk 9 (v := .int .u64 y244.ts) h248 rfl rfl ⟨hB232, hX233, hX234⟩ (fun x hx => (rn_load1 rfl rfl Try.isAgg23 ((sl_at (hx.2.1.1.1) hy244) 3 _ rfl))) fun a249 h249 => ?_; clear h248
         refine dk0 10 (v := .bool (y237.ts != y244.ts)) h249 rfl rfl ⟨hB232, hX233, hX234⟩ fun a250 h250 => ?_; clear h249
         refine dk0 11 (v := .bool (y237.ts != y244.ts)) h250 rfl rfl ⟨hB232, hX233, hX234⟩ fun a251 h251 => ?_; clear h250
         have hc252 : (y237.ts != y244.ts) = false := by first | (simp; done) | (simp; omega) | exact beq_false_of_ne (by omega) | exact beq_iff_eq.2 (by omega)
         rw [hc252] at h251; clear hc252
         refine dk0 12 (v := u296) h251 rfl rfl ⟨hB232, hX233, hX234⟩ fun a253 h253 => ?_; clear h251
         refine dk0 13 (v := .int .i64 ((i : Nat) : Int)) h253 rfl rfl ⟨hB232, hX233, hX234⟩ fun a254 h254 => ?_; clear h253
         refine dk 14 (v := pt (blkOf u296) (offOf u296 + i * 4)) h254 rfl rfl ⟨hB232, hX233, hX234⟩ (fun x hx => (rn_index rfl rfl rfl Try.underlying29 Try.sizeOf37 (hx.2.2.1.1) (by omega) (by first | omega | (simp; done) | (simp; omega)))) fun a255 h255 => ?_; clear h254
         refine dk 15 (v := .agg #[.int .i64 y237.client, .int .i64 y237.req, y237.ops, .int .u64 y237.ts]) h255 rfl rfl ⟨hB232, hX233, hX234⟩ (fun x hx => (rn_loadN rfl rfl Try.underlying37 rfl (by kernel_rfl) (sl_at (hx.2.2.1.1) hy237))) fun a256 h256 => ?_; clear h255
         refine dk0 16 (v := u260) h256 rfl rfl ⟨hB232, hX233, hX234⟩ fun a257 h257 => ?_; clear h256
         refine dk0 17 (v := .int .i64 ((i : Nat) : Int)) h257 rfl rfl ⟨hB232, hX233, hX234⟩ fun a258 h258 => ?_; clear h257
         refine dk 18 (v := pt (blkOf u260) (offOf u260 + i * 4)) h258 rfl rfl ⟨hB232, hX233, hX234⟩ (fun x hx => (rn_index rfl rfl rfl Try.underlying29 Try.sizeOf37 (hx.2.1.1.1) (by omega) (by first | omega | (simp; done) | (simp; omega)))) fun a259 h259 => ?_; clear h258
         refine dk 19 (v := .agg #[.int .i64 y244.client, .int .i64 y244.req, y244.ops, .int .u64 y244.ts]) h259 rfl rfl ⟨hB232, hX233, hX234⟩ (fun x hx => (rn_loadN rfl rfl Try.underlying37 rfl (by kernel_rfl) (sl_at (hx.2.1.1.1) hy244))) fun a260 h260 => ?_; clear h259
         refine d1 20 h260 rfl rfl (op_call (args := #[.agg #[.int .i64 y237.client, .int .i64 y237.req, y237.ops, .int .u64 y237.ts], .agg #[.int .i64 y244.client, .int .i64 y244.req, y244.ops, .int .u64 y244.ts]]) (R := fun res xw => res = .bool ((y237.client == (y244.client : Int)) && (y237.req == (y244.req : Int))) ∧ Below w225.heap.size w225 xw) rfl rfl rfl (by kernel_rfl) (by kernel_rfl) (Try.call12 _ _) (ritemTwins_any y237.client y237.req y237.ops y237.ts y244.client y244.req y244.ops y244.ts w225 ) (by rintro e x ⟨rfl, hb263⟩; exact ⟨_, rfl, ⟨rfl, hb263⟩⟩)) ?_ ?_; clear h260
         ·
          rintro _ w262 ⟨rfl, hb263⟩
          have hz264 := hb263.size
          have hO266 := LObj.gr hf129 hg226 (fun k e => by cases e)
          have ho265 := LObj.ofS hO266
          have hB267 := hb_call hB232 hb263
          have hX268 := hX233.below hb263
          have hX269 := hX234.below hb263
          exact ⟨hB267, hX268, hX269⟩
         rintro _ w262 a261 ⟨rfl, hb263⟩ h261
         have hz264 := hb263.size
         have hO266 := LObj.gr hf129 hg226 (fun k e => by cases e)
         have ho265 := LObj.ofS hO266
         have hB267 := hb_call hB232 hb263
         have hX268 := hX233.below hb263
         have hX269 := hX234.below hb263
         have hc270 : (((y237.client == (y244.client : Int)) && (y237.req == (y244.req : Int)))) = true := by first | (simp; done) | (simp; omega) | exact beq_false_of_ne (by omega) | exact beq_iff_eq.2 (by omega)
         rw [hc270] at h261; clear hc270
         refine dk0 21 (v := .bool false) h261 rfl rfl ⟨hB267, hX268, hX269⟩ fun a271 h271 => ?_; clear h261
         refine dk0 22 (v := .bool false) h271 rfl rfl ⟨hB267, hX268, hX269⟩ fun a272 h272 => ?_; clear h271
         refine dk0 23 (v := .bool false) h272 rfl rfl ⟨hB267, hX268, hX269⟩ fun a273 h273 => ?_; clear h272
         refine dk0 24 (v := u296) h273 rfl rfl ⟨hB267, hX268, hX269⟩ fun a274 h274 => ?_; clear h273
         refine dk0 25 (v := .int .i64 ((i : Nat) : Int)) h274 rfl rfl ⟨hB267, hX268, hX269⟩ fun a275 h275 => ?_; clear h274
         refine dk 26 (v := pt (blkOf u296) (offOf u296 + i * 4)) h275 rfl rfl ⟨hB267, hX268, hX269⟩ (fun x hx => (rn_index rfl rfl rfl Try.underlying29 Try.sizeOf37 (hx.2.2.1.1) (by omega) (by first | omega | (simp; done) | (simp; omega)))) fun a276 h276 => ?_; clear h275
         refine dk0 27 (v := pt (blkOf u296) (offOf u296 + i * 4)) h276 rfl rfl ⟨hB267, hX268, hX269⟩ fun a277 h277 => ?_; clear h276
         refine dk0 28 (v := pt (blkOf u296) (offOf u296 + i * 4 + 2)) h277 rfl rfl ⟨hB267, hX268, hX269⟩ fun a278 h278 => ?_; clear h277
         refine dk 29 (v := y237.ops) h278 rfl rfl ⟨hB267, hX268, hX269⟩ (fun x hx => (rn_load1 rfl rfl Try.isAgg33 ((sl_at (hx.2.2.1.1) hy237) 2 _ rfl))) fun a279 h279 => ?_; clear h278
         refine dk 30 (v := .int .i64 ((y237.opl.length : Nat) : Int)) h279 rfl rfl ⟨hB267, hX268, hX269⟩ (fun x hx => (rn_len rfl rfl Try.underlying33 (SlY.one hx.2.2 hy237).1)) fun a280 h280 => ?_; clear h279
         refine dk0 31 (v := u260) h280 rfl rfl ⟨hB267, hX268, hX269⟩ fun a281 h281 => ?_; clear h280
         refine dk0 32 (v := .int .i64 ((i : Nat) : Int)) h281 rfl rfl ⟨hB267, hX268, hX269⟩ fun a282 h282 => ?_; clear h281
         refine dk 33 (v := pt (blkOf u260) (offOf u260 + i * 4)) h282 rfl rfl ⟨hB267, hX268, hX269⟩ (fun x hx => (rn_index rfl rfl rfl Try.underlying29 Try.sizeOf37 (hx.2.1.1.1) (by omega) (by first | omega | (simp; done) | (simp; omega)))) fun a283 h283 => ?_; clear h282
         refine dk0 34 (v := pt (blkOf u260) (offOf u260 + i * 4)) h283 rfl rfl ⟨hB267, hX268, hX269⟩ fun a284 h284 => ?_; clear h283
         refine dk0 35 (v := pt (blkOf u260) (offOf u260 + i * 4 + 2)) h284 rfl rfl ⟨hB267, hX268, hX269⟩ fun a285 h285 => ?_; clear h284
         refine dk 36 (v := y244.ops) h285 rfl rfl ⟨hB267, hX268, hX269⟩ (fun x hx => (rn_load1 rfl rfl Try.isAgg33 ((sl_at (hx.2.1.1.1) hy244) 2 _ rfl))) fun a286 h286 => ?_; clear h285
         refine dk 37 (v := .int .i64 ((y244.opl.length : Nat) : Int)) h286 rfl rfl ⟨hB267, hX268, hX269⟩ (fun x hx => (rn_len rfl rfl Try.underlying33 (SlY.one hx.2.1 hy244).1)) fun a287 h287 => ?_; clear h286
         refine dk0 38 (v := .bool (decide (((y237.opl.length : Nat) : Int) > ((y244.opl.length : Nat) : Int)))) h287 rfl rfl ⟨hB267, hX268, hX269⟩ fun a288 h288 => ?_; clear h287
         refine dk0 39 (v := .bool (decide (((y237.opl.length : Nat) : Int) > ((y244.opl.length : Nat) : Int)))) h288 rfl rfl ⟨hB267, hX268, hX269⟩ fun a289 h289 => ?_; clear h288
         refine dr_done (by kernel_rfl) ?_
         refine co_then ?_
         have hc290 : (decide (((y237.opl.length : Nat) : Int) > ((y244.opl.length : Nat) : Int))) = false := decide_eq_false (by omega)
         rw [hc290] at h289; clear hc290
         refine co_false h289 rfl ?_
         refine wp_skip ?_
         refine co_then ?_
         refine dr_eq (by kernel_rfl) (fun w291 hg292 => ?_)
         have hz293 := hg292.size
         refine dk0 0 (v := .int .i64 c) h289 rfl rfl rfl fun a294 h294 => ?_; clear h289
         refine dk0 1 (v := u260) h294 rfl rfl rfl fun a295 h295 => ?_; clear h294
         refine dk0 2 (v := .int .i64 ((i : Nat) : Int)) h295 rfl rfl rfl fun a296 h296 => ?_; clear h295
         have hX297 := hX268.new hg292
         refine dk 3 (v := pt (blkOf u260) (offOf u260 + i * 4)) h296 rfl rfl rfl (fun x hx => by subst hx; exact (rn_index rfl rfl rfl Try.underlying29 Try.sizeOf37 (hX297.1.1) (by omega) (by first | omega | (simp; done) | (simp; omega)))) fun a298 h298 => ?_; clear h296
         refine dk0 4 (v := pt (blkOf u260) (offOf u260 + i * 4)) h298 rfl rfl rfl fun a299 h299 => ?_; clear h298
         refine dk0 5 (v := pt (blkOf u260) (offOf u260 + i * 4 + 2)) h299 rfl rfl rfl fun a300 h300 => ?_; clear h299
         refine dk 6 (v := y244.ops) h300 rfl rfl rfl (fun x hx => by subst hx; exact (rn_load1 rfl rfl Try.isAgg33 ((sl_at (hX297.1.1) hy244) 2 _ rfl))) fun a301 h301 => ?_; clear h300
         refine dk 7 (v := .int .i64 ((y244.opl.length : Nat) : Int)) h301 rfl rfl rfl (fun x hx => by subst hx; exact (rn_len rfl rfl Try.underlying33 (SlY.one hX297 hy244).1)) fun a302 h302 => ?_; clear h301
         refine dk 8 (v := .int .i64 (c + ((y244.opl.length : Nat) : Int))) h302 rfl rfl rfl (fun x hx => by subst hx; exact (rn_arith rfl rfl rfl rfl rfl rfl (IntWalk.i64_in _ (by omega)))) fun a303 h303 => ?_; clear h302
         refine dk0 9 (v := u296) h303 rfl rfl rfl fun a304 h304 => ?_; clear h303
         refine dk0 10 (v := .int .i64 ((i : Nat) : Int)) h304 rfl rfl rfl fun a305 h305 => ?_; clear h304
         have hX306 := hX269.new hg292
         refine dk 11 (v := pt (blkOf u296) (offOf u296 + i * 4)) h305 rfl rfl rfl (fun x hx => by subst hx; exact (rn_index rfl rfl rfl Try.underlying29 Try.sizeOf37 (hX306.1.1) (by omega) (by first | omega | (simp; done) | (simp; omega)))) fun a307 h307 => ?_; clear h305
         refine dk0 12 (v := pt (blkOf u296) (offOf u296 + i * 4)) h307 rfl rfl rfl fun a308 h308 => ?_; clear h307
         refine dk0 13 (v := pt (blkOf u296) (offOf u296 + i * 4 + 2)) h308 rfl rfl rfl fun a309 h309 => ?_; clear h308
         refine dk 14 (v := y237.ops) h309 rfl rfl rfl (fun x hx => by subst hx; exact (rn_load1 rfl rfl Try.isAgg33 ((sl_at (hX306.1.1) hy237) 2 _ rfl))) fun a310 h310 => ?_; clear h309
         refine dk 15 (v := .int .i64 ((y237.opl.length : Nat) : Int)) h310 rfl rfl rfl (fun x hx => by subst hx; exact (rn_len rfl rfl Try.underlying33 (SlY.one hX306 hy237).1)) fun a311 h311 => ?_; clear h310
         refine dk 16 (v := .int .i64 ((c + ((y244.opl.length : Nat) : Int)) - ((y237.opl.length : Nat) : Int))) h311 rfl rfl rfl (fun x hx => by subst hx; exact (rn_arith rfl rfl rfl rfl rfl rfl (IntWalk.i64_in _ (by omega)))) fun a312 h312 => ?_; clear h311
         refine dk0 17 (v := .int .i64 ((c + ((y244.opl.length : Nat) : Int)) - ((y237.opl.length : Nat) : Int))) h312 rfl rfl rfl fun a313 h313 => ?_; clear h312
         refine dr_done (by kernel_rfl) ?_
         refine co_blockN ?_
         refine co_then ?_
         refine co_reg ?_
         refine pk0 (v := .int .i64 ((i : Nat) : Int)) h313 rfl fun a314 h314 => ?_; clear h313
         refine pk (v := .int .i64 ((i + 1 : Nat) : Int)) h314 rfl (rn_arith' rfl rfl rfl rfl rfl rfl (IntWalk.i64_in _ (by omega)) (by omega)) fun a315 h315 => ?_; clear h314
         refine pk0 (v := .int .i64 ((i + 1 : Nat) : Int)) h315 rfl fun a316 h316 => ?_; clear h315
         refine pl_nil ?_
         refine co_then ?_
         refine ⟨(L295.length - (i + 1)), by omega, ?_⟩
         have hc9 : (c + ((y244.opl.length : Nat) : Int)) - ((y237.opl.length : Nat) : Int) = opsN (L259.take (i + 1)) - opsN (L295.take (i + 1)) := by rw [opsN_snoc hy244, opsN_snoc hy237]; omega
         have hO317 := LObj.gr hO266 (below_grown hb263) (fun k e => by cases e)
         have hO318 := LObj.gr hO317 hg292 (fun k e => by cases e)
         have hB319 := hb_new hB267 hg292
         exact ⟨i + 1, ((c + ((y244.opl.length : Nat) : Int)) - ((y237.opl.length : Nat) : Int)), h316.sub ⟨rfl, rfl, rfl, rfl, rfl, rfl, rfl, rfl, rfl, trivial⟩, rfl, by omega, by exact hc9, by exact cnt_end hq66 (hq102.trans hq85) hc9, by omega, hO318, hX297, hX306, hB319⟩
     ·
      rw [hc51] at h50
      have hp320 : ((i : Nat) : Int) < ((l.length : Nat) : Int) := of_decide_eq_true hc51
      clear hc51
      refine pk0 (v := .int .i64 ((i : Nat) : Int)) h50 rfl fun a321 h321 => ?_; clear h50
      refine pk0 (v := .bool (decide (((i : Nat) : Int) < 30))) h321 rfl fun a322 h322 => ?_; clear h321
      refine pk0 (v := .bool (decide (((i : Nat) : Int) < 30))) h322 rfl fun a323 h323 => ?_; clear h322
      refine pl_nil ?_
      refine co_then ?_
      cases hc324 : (decide (((i : Nat) : Int) < 30))
      ·
       rw [hc324] at h323
       have hp325 : ¬ (((i : Nat) : Int) < 30) := of_decide_eq_false hc324
       clear hc324
       refine co_false h323 rfl ?_
       refine wp_exit ?_
       refine co_thenX ?_
       refine co_thenX ?_
       refine co_blockX ?_
       refine co_then ?_
       refine co_seq ?_
       refine co_reg ?_
       refine pk0 (v := pt N11 0) h323 rfl fun a326 h326 => ?_; clear h323
       obtain ⟨A9, hA9, hs9⟩ := TwoP.prog hf42
       have hRI9 := TwoP.ri hf42
       have hlo9 : ∀ q, A9 q → w.heap.size ≤ q := fun q hq => hlo45 q (hs9 q hq)
       have hl100 := TwoP.len hf42
       refine pw h326 rfl (op_call (args := #[pt N11 0]) (R := fun res xw => ∃ L2 : List EntT, ∃ u2 : Value, ∃ S3 : Nat → Prop, ∃ S' : Nat → Prop, res = u2 ∧ LObj S' xw N11 L ∧ (SlY S3 xw u2 L2) ∧ (L2.map e0 = L.map e0) ∧ (∀ q, S3 q → w38.heap.size ≤ q) ∧ (∀ q, S3 q → S' q → False) ∧ Grew A9 S' w38 xw) rfl rfl rfl (by kernel_rfl) (by kernel_rfl) (Try.call10 _ _) (thAll w38 hA9) (by rintro e x ⟨L2, u2, S3, S', h0, h⟩; exact ⟨_, h0, L2, u2, S3, S', rfl, h⟩)) ?_; clear h326
       rintro u2330 w328 a327 ⟨L2329, _, S3331, S332, rfl, hO333, hq335, hq336, hq337, hq338, hx334⟩ h327
       have hlo340 : ∀ q, S332 q → w.heap.size ≤ q := hx334.lo hlo9 (by omega)
       have hB339 := hbL hB43 hlo9 hx334.but
       have hz341 := hB339.size
       have hz342 := hx334.but.size
       have hl343 := e0_len hq336
       refine pk0 (v := u2330) h327 rfl fun a344 h344 => ?_; clear h327
       refine pl_nil ?_
       refine co_then ?_
       refine co_seq ?_
       refine co_reg ?_
       refine pk0 (v := pt N11 0) h344 rfl fun a345 h345 => ?_; clear h344
       refine pk0 (v := .int .u64 h) h345 rfl fun a346 h346 => ?_; clear h345
       refine pk0 (v := .int .u8 n) h346 rfl fun a347 h347 => ?_; clear h346
       refine pk (v := .int .i64 n) h347 rfl (rn_conv rfl rfl Try.underlying5 Try.underlying3 (IntWalk.i64_in _ (by omega))) fun a348 h348 => ?_; clear h347
       refine pw h348 rfl (op_call (args := #[pt N11 0, .int .u64 h, .int .i64 n]) (R := fun res xw => ∃ L' : List EntT, ∃ S' : Nat → Prop, res = .int .i64 (thG L h n) ∧ LObj S' xw N11 L' ∧ (L'.map e0 = (thL L h n).map e0) ∧ Grew S332 S' w328 xw) rfl rfl rfl (by kernel_rfl) (by kernel_rfl) (Try.call11 _ _) (tThin w328 h n hO333 ht1 (by omega) hRI9.nd) (by rintro e x ⟨L', S', h0, h⟩; exact ⟨_, h0, L', S', rfl, h⟩)) ?_; clear h348
       rintro _ w350 a349 ⟨L'351, S352, rfl, hO353, hq355, hx354⟩ h349
       have hlo357 : ∀ q, S352 q → w.heap.size ≤ q := hx354.lo hlo340 (by omega)
       have hB356 := hbL hB339 hlo340 hx354.but
       have hz358 := hB356.size
       have hz359 := hx354.but.size
       have hl360 := e0_len hq355; rw [thL_lenT] at hl360
       have hg9 := thG_twice L h n
       rw [← thG_e0T hq355 h n] at hg9
       refine pk0 (v := .int .i64 (thG L h n)) h349 rfl fun a361 h361 => ?_; clear h349
       refine pl_nil ?_
       refine co_then ?_
       refine co_seq ?_
       refine co_reg ?_
       refine pk0 (v := pt N11 0) h361 rfl fun a362 h362 => ?_; clear h361
       refine pw h362 rfl (op_call (args := #[pt N11 0]) (R := fun res xw => ∃ L2 : List EntT, ∃ u2 : Value, ∃ S3 : Nat → Prop, ∃ S' : Nat → Prop, res = u2 ∧ LObj S' xw N11 L'351 ∧ (SlY S3 xw u2 L2) ∧ (L2.map e0 = L'351.map e0) ∧ (∀ q, S3 q → w350.heap.size ≤ q) ∧ (∀ q, S3 q → S' q → False) ∧ Grew S352 S' w350 xw) rfl rfl rfl (by kernel_rfl) (by kernel_rfl) (Try.call10 _ _) (thAll w350 hO353) (by rintro e x ⟨L2, u2, S3, S', h0, h⟩; exact ⟨_, h0, L2, u2, S3, S', rfl, h⟩)) ?_; clear h362
       rintro u2366 w364 a363 ⟨L2365, _, S3367, S368, rfl, hO369, hq371, hq372, hq373, hq374, hx370⟩ h363
       have hX375 := SlY.but hq335 hx354.but hq338
       have hlo377 : ∀ q, S368 q → w.heap.size ≤ q := hx370.lo hlo357 (by omega)
       have hB376 := hbL hB356 hlo357 hx370.but
       have hz378 := hB376.size
       have hz379 := hx370.but.size
       have hl380 := e0_len hq372
       refine pk0 (v := u2366) h363 rfl fun a381 h381 => ?_; clear h363
       refine pl_nil ?_
       refine co_then ?_
       refine co_seq ?_
       refine co_seq ?_
       refine co_reg ?_
       refine pk0 (v := u2366) h381 rfl fun a382 h382 => ?_; clear h381
       refine pk (v := .int .i64 ((L2365.length : Nat) : Int)) h382 rfl (rn_len rfl rfl Try.underlying29 (hq371.1.1)) fun a383 h383 => ?_; clear h382
       refine pk0 (v := u2330) h383 rfl fun a384 h384 => ?_; clear h383
       have hX385 := SlY.but hX375 hx370.but (ap_symm (Grew.ap hx354 (ap_symm hq338) (SlY.ofS hq335)))
       refine pk (v := .int .i64 ((L2329.length : Nat) : Int)) h384 rfl (rn_len rfl rfl Try.underlying29 (hX385.1.1)) fun a386 h386 => ?_; clear h384
       refine pk0 (v := .bool (((L2365.length : Nat) : Int) != ((L2329.length : Nat) : Int))) h386 rfl fun a387 h387 => ?_; clear h386
       refine pl_nil ?_
       refine co_then ?_
       have hc388 : (((L2365.length : Nat) : Int) != ((L2329.length : Nat) : Int)) = false := by first | (simp; done) | (simp; omega) | exact beq_false_of_ne (by omega) | exact beq_iff_eq.2 (by omega)
       rw [hc388] at h387; clear hc388
       refine co_false h387 rfl ?_
       refine wp_skip ?_
       refine co_then ?_
       refine co_seq ?_
       refine co_reg ?_
       refine pk0 (v := .int .i64 0) h387 rfl fun a389 h389 => ?_; clear h387
       refine pl_nil ?_
       refine co_then ?_
       refine co_seq ?_
       refine co_seq ?_
       refine co_reg ?_
       refine pk0 (v := .int .i64 0) h389 rfl fun a390 h390 => ?_; clear h389
       refine pl_nil ?_
       refine co_then ?_
       refine wp_block ?_
       have hc9 : (0 : Int) = opsN (L2329.take 0) - opsN (L2365.take 0) := rfl
       have h391 : Slots 149 [(1, .int .u64 h), (2, .int .u8 n), (3, .int .u64 t), (9, pt N11 0), (12, u2330), (13, .int .i64 (thG L h n)), (14, u2366), (15, .int .i64 0), (16, .int .i64 0)] _ := h390.sub ⟨rfl, rfl, rfl, rfl, rfl, rfl, rfl, rfl, rfl, trivial⟩; clear h390
       refine co_loop (fun mm a x => ∃ (i : Nat) (c : Int), Slots 149 [(1, .int .u64 h), (2, .int .u8 n), (3, .int .u64 t), (9, pt N11 0), (12, u2330), (13, .int .i64 (thG L h n)), (14, u2366), (15, .int .i64 c), (16, .int .i64 ((i : Nat) : Int))] a ∧ mm = L2365.length - i ∧ (i ≤ L2365.length) ∧ (c = opsN (L2329.take i) - opsN (L2365.take i)) ∧ (¬ i = L2329.length ∨ c = thG L h n) ∧ ((-20 * (i : Int) ≤ c ∧ c ≤ 20 * (i : Int))) ∧ LObj S368 x N11 L'351 ∧ SlY S3331 x u2330 L2329 ∧ SlY S3367 x u2366 L2365 ∧ Below w.heap.size w x) (L2365.length - 0) ?_ ?_
       · exact ⟨0, 0, h391.sub ⟨rfl, rfl, rfl, rfl, rfl, rfl, rfl, rfl, (slot_eq rfl (congrArg (Value.int .i64) (by first | rfl | omega))), trivial⟩, rfl, by omega, by exact hc9, by exact cnt_end hq336 (hq372.trans hq355) hc9, by omega, hO369, hX385, hq371, hB376⟩
       · rintro k392 a393 w394 ⟨i, c, h393, rfl, hi395, hi396, hi397, hi398, hf399, hf400, hf401, hB402⟩
         have hz403 := hB402.size
         refine co_seq ?_
         refine co_seq ?_
         refine co_reg ?_
         refine pk0 (v := .int .i64 ((i : Nat) : Int)) h393 rfl fun a404 h404 => ?_; clear h393
         refine pk0 (v := u2366) h404 rfl fun a405 h405 => ?_; clear h404
         refine pk (v := .int .i64 ((L2365.length : Nat) : Int)) h405 rfl (rn_len rfl rfl Try.underlying29 (hf401.1.1)) fun a406 h406 => ?_; clear h405
         refine pk0 (v := .bool (decide (((i : Nat) : Int) < ((L2365.length : Nat) : Int)))) h406 rfl fun a407 h407 => ?_; clear h406
         refine pl_nil ?_
         refine co_then ?_
         cases hc408 : (decide (((i : Nat) : Int) < ((L2365.length : Nat) : Int)))
         ·
          rw [hc408] at h407
          have hp409 : ¬ (((i : Nat) : Int) < ((L2365.length : Nat) : Int)) := of_decide_eq_false hc408
          clear hc408
          refine co_false h407 rfl ?_
          refine wp_exit ?_
          refine co_thenX ?_
          refine co_thenX ?_
          refine co_blockX ?_
          refine co_then ?_
          refine co_seq ?_
          refine co_reg ?_
          refine pk0 (v := .int .i64 c) h407 rfl fun a410 h410 => ?_; clear h407
          refine pk0 (v := .int .i64 (thG L h n)) h410 rfl fun a411 h411 => ?_; clear h410
          refine pk0 (v := .bool (c == (thG L h n))) h411 rfl fun a412 h412 => ?_; clear h411
          refine pk0 (v := .bool (c == (thG L h n))) h412 rfl fun a413 h413 => ?_; clear h412
          have hc414 : (c == (thG L h n)) = true := by first | (simp; done) | (simp; omega) | exact beq_false_of_ne (by omega) | exact beq_iff_eq.2 (by omega)
          rw [hc414] at h413; clear hc414
          refine pk0 (v := u2330) h413 rfl fun a415 h415 => ?_; clear h413
          refine pk0 (v := .int .u8 n) h415 rfl fun a416 h416 => ?_; clear h415
          refine pk (v := .int .i64 n) h416 rfl (rn_conv rfl rfl Try.underlying5 Try.underlying3 (IntWalk.i64_in _ (by omega))) fun a417 h417 => ?_; clear h416
          refine pk0 (v := .int .u64 h) h417 rfl fun a418 h418 => ?_; clear h417
          refine pk0 (v := .int .u64 t) h418 rfl fun a419 h419 => ?_; clear h418
          have hmm420 := mxI_p h t
          refine pk0 (v := .int .u64 (mxI h t)) h419 rfl fun a421 h421 => ?_; clear h419
          refine pw h421 rfl (op_call (args := #[u2330, .int .i64 n, .int .u64 (mxI h t)]) (R := fun res xw => ∃ (ys : List ValT) (u : Value), res = u ∧ xw.ownsRow w394.heap.size 78 2 u ys.length (ys.flatMap valE) ∧ SetG (fun y : ValT => y.1) (stF (mxI h t) L2329 (thM L2329 n)) ys ∧ Below w394.heap.size w394 xw) rfl rfl rfl (by kernel_rfl) (by kernel_rfl) (Try.call14 _ _) (state17_any u2330 L2329 n (mxI h t) w394 hf400.1.1 hf400.1.2 (ri_4 (RI.e0 hq336.symm hRI9)) (by omega) (by omega) (by omega)) (by rintro e x ⟨ys, u, h0, h⟩; exact ⟨_, h0, ys, u, rfl, h⟩)) ?_; clear h421
          rintro u428 w423 a422 ⟨ys424, _, rfl, hr425, hg427, hb426⟩ h422
          have hz429 := hb426.size
          have ho430 := LObj.ofS hf399
          refine pk0 (v := u2366) h422 rfl fun a431 h431 => ?_; clear h422
          refine pk0 (v := .int .u8 n) h431 rfl fun a432 h432 => ?_; clear h431
          refine pk (v := .int .i64 n) h432 rfl (rn_conv rfl rfl Try.underlying5 Try.underlying3 (IntWalk.i64_in _ (by omega))) fun a433 h433 => ?_; clear h432
          refine pk0 (v := .int .u64 h) h433 rfl fun a434 h434 => ?_; clear h433
          refine pk0 (v := .int .u64 t) h434 rfl fun a435 h435 => ?_; clear h434
          have hmm436 := mxI_p h t
          refine pk0 (v := .int .u64 (mxI h t)) h435 rfl fun a437 h437 => ?_; clear h435
          have hB440 := hb_call hB402 hb426
          have hX446 := hf401.below hb426
          refine pw h437 rfl (op_call (args := #[u2366, .int .i64 n, .int .u64 (mxI h t)]) (R := fun res xw => ∃ (ys : List ValT) (u : Value), res = u ∧ xw.ownsRow w423.heap.size 78 2 u ys.length (ys.flatMap valE) ∧ SetG (fun y : ValT => y.1) (stF (mxI h t) L2365 (thM L2365 n)) ys ∧ Below w423.heap.size w423 xw) rfl rfl rfl (by kernel_rfl) (by kernel_rfl) (Try.call14 _ _) (state17_any u2366 L2365 n (mxI h t) w423 hX446.1.1 hX446.1.2 (ri_4 (RI.e0 (hq372.trans hq355).symm hRI9.th)) (by omega) (by omega) (by omega)) (by rintro e x ⟨ys, u, h0, h⟩; exact ⟨_, h0, ys, u, rfl, h⟩)) ?_; clear h437
          rintro u445 w439 a438 ⟨ys441, _, rfl, hr442, hg444, hb443⟩ h438
          have hz447 := hb443.size
          have hO449 := LObj.gr hf399 (below_grown hb426) (fun k e => by cases e)
          have ho448 := LObj.ofS hO449
          have hPQ9 := st_same (by omega) hq336 (hq372.trans hq355) hg427 hg444
          have hB452 := hb_call hB440 hb443
          have hX453 := hf400.below hb426
          have hX454 := hX453.below hb443
          have hr456 := row_kept_new hr425 (below_grown hb443)
          refine pw h438 rfl (op_call (args := #[u428, u445]) (R := fun res xw => res = .bool true ∧ Below w439.heap.size w439 xw) rfl rfl rfl (by kernel_rfl) (by kernel_rfl) (Try.call13 _ _) (samePairsV_any u428 ys424 u445 w439 (row_sl hr456 valE_len) (by rw [hPQ9]; exact (row_sl hr442 valE_len))) (by rintro e x ⟨rfl, h⟩; exact ⟨_, rfl, rfl, h⟩)) ?_; clear h438
          rintro _ w451 a450 ⟨rfl, hb455⟩ h450
          have hz457 := hb455.size
          have hO459 := LObj.gr hO449 (below_grown hb443) (fun k e => by cases e)
          have ho458 := LObj.ofS hO459
          refine pk0 (v := .bool true) h450 rfl fun a460 h460 => ?_; clear h450
          refine pk0 (v := .bool true) h460 rfl fun a461 h461 => ?_; clear h460
          refine pk0 (v := pt N11 0) h461 rfl fun a462 h462 => ?_; clear h461
          refine pk0 (v := .int .u64 h) h462 rfl fun a463 h463 => ?_; clear h462
          refine pk0 (v := .int .u8 n) h463 rfl fun a464 h464 => ?_; clear h463
          refine pk (v := .int .i64 n) h464 rfl (rn_conv rfl rfl Try.underlying5 Try.underlying3 (IntWalk.i64_in _ (by omega))) fun a465 h465 => ?_; clear h464
          have hB468 := hb_call hB452 hb455
          have hX469 := hX446.below hb443
          have hX470 := hX469.below hb455
          have hO471 := LObj.gr hO459 (below_grown hb455) (fun k e => by cases e)
          refine pw h465 rfl (op_call (args := #[pt N11 0, .int .u64 h, .int .i64 n]) (R := fun res xw => ∃ L' : List EntT, ∃ S' : Nat → Prop, res = .int .i64 (thG L'351 h n) ∧ LObj S' xw N11 L' ∧ (L'.map e0 = (thL L'351 h n).map e0) ∧ Grew S368 S' w451 xw) rfl rfl rfl (by kernel_rfl) (by kernel_rfl) (Try.call11 _ _) (tThin w451 h n hO471 ht1 (by omega) (RI.e0 hq355.symm hRI9.th).nd) (by rintro e x ⟨L', S', h0, h⟩; exact ⟨_, h0, L', S', rfl, h⟩)) ?_; clear h465
          rintro _ w467 a466 ⟨L'472, S473, rfl, hO474, hq476, hx475⟩ h466
          have hX477 := hX454.below hb455
          have hlo479 : ∀ q, S473 q → w.heap.size ≤ q := hx475.lo hlo377 (by omega)
          have hB478 := hbL hB468 hlo377 hx475.but
          have hz480 := hB478.size
          have hz481 := hx475.but.size
          refine pk0 (v := .bool ((thG L'351 h n) == 0)) h466 rfl fun a482 h482 => ?_; clear h466
          refine pk0 (v := .bool ((thG L'351 h n) == 0)) h482 rfl fun a483 h483 => ?_; clear h482
          refine pk0 (v := .bool ((thG L'351 h n) == 0)) h483 rfl fun a484 h484 => ?_; clear h483
          have hc485 : ((thG L'351 h n) == 0) = true := by first | (simp; done) | (simp; omega) | exact beq_false_of_ne (by omega) | exact beq_iff_eq.2 (by omega)
          rw [hc485] at h484; clear hc485
          refine pw h484 rfl (op_call (args := #[]) (R := fun res xw => res = .bool true ∧ Below w467.heap.size w467 xw) rfl rfl rfl (by kernel_rfl) (by kernel_rfl) (Try.call7 _ _) (awake17  w467 ) (by rintro e x ⟨rfl, hb488⟩; exact ⟨_, rfl, ⟨rfl, hb488⟩⟩)) ?_; clear h484
          rintro _ w487 a486 ⟨rfl, hb488⟩ h486
          have hz489 := hb488.size
          have ho490 := LObj.ofS hO474
          refine pk0 (v := .bool true) h486 rfl fun a491 h491 => ?_; clear h486
          refine pk0 (v := .bool true) h491 rfl fun a492 h492 => ?_; clear h491
          refine pl_nil ?_
          refine co_then ?_
          refine wp_ret ?_
          refine co_ret1 h492 rfl rfl ?_
          have hB493 := hb_call hB478 hb488
          exact ⟨rfl, hB493⟩
         ·
          rw [hc408] at h407
          have hp494 : ((i : Nat) : Int) < ((L2365.length : Nat) : Int) := of_decide_eq_true hc408
          clear hc408
          refine co_true h407 rfl ?_
          refine wp_skip ?_
          refine co_then ?_
          refine co_seq ?_
          refine wp_block ?_
          refine co_seq ?_
          refine co_seq ?_
          refine dr_gen (fun x => Below w.heap.size w x ∧ SlY S3331 x u2330 L2329 ∧ SlY S3367 x u2366 L2365) (by kernel_rfl) (fun w495 hg496 => ?_) (fun w495 hg496 => ?_)
          ·
           have hz497 := hg496.size
           have hB498 := hb_new hB402 hg496
           have hX499 := hf400.new hg496
           have hX500 := hf401.new hg496
           exact ⟨hB498, hX499, hX500⟩
          have hz501 := hg496.size
          have hB502 := hb_new hB402 hg496
          have hX503 := hf400.new hg496
          have hX504 := hf401.new hg496
          refine dk0 0 (v := u2366) h407 rfl rfl ⟨hB502, hX503, hX504⟩ fun a505 h505 => ?_; clear h407
          refine dk0 1 (v := .int .i64 ((i : Nat) : Int)) h505 rfl rfl ⟨hB502, hX503, hX504⟩ fun a506 h506 => ?_; clear h505
          obtain ⟨y507, hy507⟩ : ∃ z, L2365[i]? = some z := ⟨_, List.getElem?_eq_getElem (by first | omega | (simp; done) | (simp; omega))⟩
          have hy1508 := SlY.one hX504 hy507
          refine dk 2 (v := pt (blkOf u2366) (offOf u2366 + i * 4)) h506 rfl rfl ⟨hB502, hX503, hX504⟩ (fun x hx => (rn_index rfl rfl rfl Try.underlying29 Try.sizeOf37 (hx.2.2.1.1) (by omega) (by first | omega | (simp; done) | (simp; omega)))) fun a509 h509 => ?_; clear h506
          refine dk0 3 (v := pt (blkOf u2366) (offOf u2366 + i * 4 + 3)) h509 rfl rfl ⟨hB502, hX503, hX504⟩ fun a510 h510 => ?_; clear h509
          refine dk 4 (v := .int .u64 y507.ts) h510 rfl rfl ⟨hB502, hX503, hX504⟩ (fun x hx => (rn_load1 rfl rfl Try.isAgg23 ((sl_at (hx.2.2.1.1) hy507) 3 _ rfl))) fun a511 h511 => ?_; clear h510
          refine dk0 5 (v := u2330) h511 rfl rfl ⟨hB502, hX503, hX504⟩ fun a512 h512 => ?_; clear h511
          refine dk0 6 (v := .int .i64 ((i : Nat) : Int)) h512 rfl rfl ⟨hB502, hX503, hX504⟩ fun a513 h513 => ?_; clear h512
          obtain ⟨y514, hy514⟩ : ∃ z, L2329[i]? = some z := ⟨_, List.getElem?_eq_getElem (by first | omega | (simp; done) | (simp; omega))⟩
          have hy1515 := SlY.one hX503 hy514
          have hth516 := th_at hq336 (hq372.trans hq355) hy514 hy507
          refine dk 7 (v := pt (blkOf u2330) (offOf u2330 + i * 4)) h513 rfl rfl ⟨hB502, hX503, hX504⟩ (fun x hx => (rn_index rfl rfl rfl Try.underlying29 Try.sizeOf37 (hx.2.1.1.1) (by omega) (by first | omega | (simp; done) | (simp; omega)))) fun a517 h517 => ?_; clear h513
          refine dk0 8 (v := pt (blkOf u2330) (offOf u2330 + i * 4 + 3)) h517 rfl rfl ⟨hB502, hX503, hX504⟩ fun a518 h518 => ?_; clear h517
          refine dk 9 (v := .int .u64 y514.ts) h518 rfl rfl ⟨hB502, hX503, hX504⟩ (fun x hx => (rn_load1 rfl rfl Try.isAgg23 ((sl_at (hx.2.1.1.1) hy514) 3 _ rfl))) fun a519 h519 => ?_; clear h518
          refine dk0 10 (v := .bool (y507.ts != y514.ts)) h519 rfl rfl ⟨hB502, hX503, hX504⟩ fun a520 h520 => ?_; clear h519
          refine dk0 11 (v := .bool (y507.ts != y514.ts)) h520 rfl rfl ⟨hB502, hX503, hX504⟩ fun a521 h521 => ?_; clear h520
          have hc522 : (y507.ts != y514.ts) = false := by first | (simp; done) | (simp; omega) | exact beq_false_of_ne (by omega) | exact beq_iff_eq.2 (by omega)
          rw [hc522] at h521; clear hc522
          refine dk0 12 (v := u2366) h521 rfl rfl ⟨hB502, hX503, hX504⟩ fun a523 h523 => ?_; clear h521
          refine dk0 13 (v := .int .i64 ((i : Nat) : Int)) h523 rfl rfl ⟨hB502, hX503, hX504⟩ fun a524 h524 => ?_; clear h523
          refine dk 14 (v := pt (blkOf u2366) (offOf u2366 + i * 4)) h524 rfl rfl ⟨hB502, hX503, hX504⟩ (fun x hx => (rn_index rfl rfl rfl Try.underlying29 Try.sizeOf37 (hx.2.2.1.1) (by omega) (by first | omega | (simp; done) | (simp; omega)))) fun a525 h525 => ?_; clear h524
          refine dk 15 (v := .agg #[.int .i64 y507.client, .int .i64 y507.req, y507.ops, .int .u64 y507.ts]) h525 rfl rfl ⟨hB502, hX503, hX504⟩ (fun x hx => (rn_loadN rfl rfl Try.underlying37 rfl (by kernel_rfl) (sl_at (hx.2.2.1.1) hy507))) fun a526 h526 => ?_; clear h525
          refine dk0 16 (v := u2330) h526 rfl rfl ⟨hB502, hX503, hX504⟩ fun a527 h527 => ?_; clear h526
          refine dk0 17 (v := .int .i64 ((i : Nat) : Int)) h527 rfl rfl ⟨hB502, hX503, hX504⟩ fun a528 h528 => ?_; clear h527
          refine dk 18 (v := pt (blkOf u2330) (offOf u2330 + i * 4)) h528 rfl rfl ⟨hB502, hX503, hX504⟩ (fun x hx => (rn_index rfl rfl rfl Try.underlying29 Try.sizeOf37 (hx.2.1.1.1) (by omega) (by first | omega | (simp; done) | (simp; omega)))) fun a529 h529 => ?_; clear h528
          refine dk 19 (v := .agg #[.int .i64 y514.client, .int .i64 y514.req, y514.ops, .int .u64 y514.ts]) h529 rfl rfl ⟨hB502, hX503, hX504⟩ (fun x hx => (rn_loadN rfl rfl Try.underlying37 rfl (by kernel_rfl) (sl_at (hx.2.1.1.1) hy514))) fun a530 h530 => ?_; clear h529
          refine d1 20 h530 rfl rfl (op_call (args := #[.agg #[.int .i64 y507.client, .int .i64 y507.req, y507.ops, .int .u64 y507.ts], .agg #[.int .i64 y514.client, .int .i64 y514.req, y514.ops, .int .u64 y514.ts]]) (R := fun res xw => res = .bool ((y507.client == (y514.client : Int)) && (y507.req == (y514.req : Int))) ∧ Below w495.heap.size w495 xw) rfl rfl rfl (by kernel_rfl) (by kernel_rfl) (Try.call12 _ _) (ritemTwins_any y507.client y507.req y507.ops y507.ts y514.client y514.req y514.ops y514.ts w495 ) (by rintro e x ⟨rfl, hb533⟩; exact ⟨_, rfl, ⟨rfl, hb533⟩⟩)) ?_ ?_; clear h530
          ·
           rintro _ w532 ⟨rfl, hb533⟩
           have hz534 := hb533.size
           have hO536 := LObj.gr hf399 hg496 (fun k e => by cases e)
           have ho535 := LObj.ofS hO536
           have hB537 := hb_call hB502 hb533
           have hX538 := hX503.below hb533
           have hX539 := hX504.below hb533
           exact ⟨hB537, hX538, hX539⟩
          rintro _ w532 a531 ⟨rfl, hb533⟩ h531
          have hz534 := hb533.size
          have hO536 := LObj.gr hf399 hg496 (fun k e => by cases e)
          have ho535 := LObj.ofS hO536
          have hB537 := hb_call hB502 hb533
          have hX538 := hX503.below hb533
          have hX539 := hX504.below hb533
          have hc540 : (((y507.client == (y514.client : Int)) && (y507.req == (y514.req : Int)))) = true := by first | (simp; done) | (simp; omega) | exact beq_false_of_ne (by omega) | exact beq_iff_eq.2 (by omega)
          rw [hc540] at h531; clear hc540
          refine dk0 21 (v := .bool false) h531 rfl rfl ⟨hB537, hX538, hX539⟩ fun a541 h541 => ?_; clear h531
          refine dk0 22 (v := .bool false) h541 rfl rfl ⟨hB537, hX538, hX539⟩ fun a542 h542 => ?_; clear h541
          refine dk0 23 (v := .bool false) h542 rfl rfl ⟨hB537, hX538, hX539⟩ fun a543 h543 => ?_; clear h542
          refine dk0 24 (v := u2366) h543 rfl rfl ⟨hB537, hX538, hX539⟩ fun a544 h544 => ?_; clear h543
          refine dk0 25 (v := .int .i64 ((i : Nat) : Int)) h544 rfl rfl ⟨hB537, hX538, hX539⟩ fun a545 h545 => ?_; clear h544
          refine dk 26 (v := pt (blkOf u2366) (offOf u2366 + i * 4)) h545 rfl rfl ⟨hB537, hX538, hX539⟩ (fun x hx => (rn_index rfl rfl rfl Try.underlying29 Try.sizeOf37 (hx.2.2.1.1) (by omega) (by first | omega | (simp; done) | (simp; omega)))) fun a546 h546 => ?_; clear h545
          refine dk0 27 (v := pt (blkOf u2366) (offOf u2366 + i * 4)) h546 rfl rfl ⟨hB537, hX538, hX539⟩ fun a547 h547 => ?_; clear h546
          refine dk0 28 (v := pt (blkOf u2366) (offOf u2366 + i * 4 + 2)) h547 rfl rfl ⟨hB537, hX538, hX539⟩ fun a548 h548 => ?_; clear h547
          refine dk 29 (v := y507.ops) h548 rfl rfl ⟨hB537, hX538, hX539⟩ (fun x hx => (rn_load1 rfl rfl Try.isAgg33 ((sl_at (hx.2.2.1.1) hy507) 2 _ rfl))) fun a549 h549 => ?_; clear h548
          refine dk 30 (v := .int .i64 ((y507.opl.length : Nat) : Int)) h549 rfl rfl ⟨hB537, hX538, hX539⟩ (fun x hx => (rn_len rfl rfl Try.underlying33 (SlY.one hx.2.2 hy507).1)) fun a550 h550 => ?_; clear h549
          refine dk0 31 (v := u2330) h550 rfl rfl ⟨hB537, hX538, hX539⟩ fun a551 h551 => ?_; clear h550
          refine dk0 32 (v := .int .i64 ((i : Nat) : Int)) h551 rfl rfl ⟨hB537, hX538, hX539⟩ fun a552 h552 => ?_; clear h551
          refine dk 33 (v := pt (blkOf u2330) (offOf u2330 + i * 4)) h552 rfl rfl ⟨hB537, hX538, hX539⟩ (fun x hx => (rn_index rfl rfl rfl Try.underlying29 Try.sizeOf37 (hx.2.1.1.1) (by omega) (by first | omega | (simp; done) | (simp; omega)))) fun a553 h553 => ?_; clear h552
          refine dk0 34 (v := pt (blkOf u2330) (offOf u2330 + i * 4)) h553 rfl rfl ⟨hB537, hX538, hX539⟩ fun a554 h554 => ?_; clear h553
          refine dk0 35 (v := pt (blkOf u2330) (offOf u2330 + i * 4 + 2)) h554 rfl rfl ⟨hB537, hX538, hX539⟩ fun a555 h555 => ?_; clear h554
          refine dk 36 (v := y514.ops) h555 rfl rfl ⟨hB537, hX538, hX539⟩ (fun x hx => (rn_load1 rfl rfl Try.isAgg33 ((sl_at (hx.2.1.1.1) hy514) 2 _ rfl))) fun a556 h556 => ?_; clear h555
          refine dk 37 (v := .int .i64 ((y514.opl.length : Nat) : Int)) h556 rfl rfl ⟨hB537, hX538, hX539⟩ (fun x hx => (rn_len rfl rfl Try.underlying33 (SlY.one hx.2.1 hy514).1)) fun a557 h557 => ?_; clear h556
          refine dk0 38 (v := .bool (decide (((y507.opl.length : Nat) : Int) > ((y514.opl.length : Nat) : Int)))) h557 rfl rfl ⟨hB537, hX538, hX539⟩ fun a558 h558 => ?_; clear h557
          refine dk0 39 (v := .bool (decide (((y507.opl.length : Nat) : Int) > ((y514.opl.length : Nat) : Int)))) h558 rfl rfl ⟨hB537, hX538, hX539⟩ fun a559 h559 => ?_; clear h558
          refine dr_done (by kernel_rfl) ?_
          refine co_then ?_
          have hc560 : (decide (((y507.opl.length : Nat) : Int) > ((y514.opl.length : Nat) : Int))) = false := decide_eq_false (by omega)
          rw [hc560] at h559; clear hc560
          refine co_false h559 rfl ?_
          refine wp_skip ?_
          refine co_then ?_
          refine dr_eq (by kernel_rfl) (fun w561 hg562 => ?_)
          have hz563 := hg562.size
          refine dk0 0 (v := .int .i64 c) h559 rfl rfl rfl fun a564 h564 => ?_; clear h559
          refine dk0 1 (v := u2330) h564 rfl rfl rfl fun a565 h565 => ?_; clear h564
          refine dk0 2 (v := .int .i64 ((i : Nat) : Int)) h565 rfl rfl rfl fun a566 h566 => ?_; clear h565
          have hX567 := hX538.new hg562
          refine dk 3 (v := pt (blkOf u2330) (offOf u2330 + i * 4)) h566 rfl rfl rfl (fun x hx => by subst hx; exact (rn_index rfl rfl rfl Try.underlying29 Try.sizeOf37 (hX567.1.1) (by omega) (by first | omega | (simp; done) | (simp; omega)))) fun a568 h568 => ?_; clear h566
          refine dk0 4 (v := pt (blkOf u2330) (offOf u2330 + i * 4)) h568 rfl rfl rfl fun a569 h569 => ?_; clear h568
          refine dk0 5 (v := pt (blkOf u2330) (offOf u2330 + i * 4 + 2)) h569 rfl rfl rfl fun a570 h570 => ?_; clear h569
          refine dk 6 (v := y514.ops) h570 rfl rfl rfl (fun x hx => by subst hx; exact (rn_load1 rfl rfl Try.isAgg33 ((sl_at (hX567.1.1) hy514) 2 _ rfl))) fun a571 h571 => ?_; clear h570
          refine dk 7 (v := .int .i64 ((y514.opl.length : Nat) : Int)) h571 rfl rfl rfl (fun x hx => by subst hx; exact (rn_len rfl rfl Try.underlying33 (SlY.one hX567 hy514).1)) fun a572 h572 => ?_; clear h571
          refine dk 8 (v := .int .i64 (c + ((y514.opl.length : Nat) : Int))) h572 rfl rfl rfl (fun x hx => by subst hx; exact (rn_arith rfl rfl rfl rfl rfl rfl (IntWalk.i64_in _ (by omega)))) fun a573 h573 => ?_; clear h572
          refine dk0 9 (v := u2366) h573 rfl rfl rfl fun a574 h574 => ?_; clear h573
          refine dk0 10 (v := .int .i64 ((i : Nat) : Int)) h574 rfl rfl rfl fun a575 h575 => ?_; clear h574
          have hX576 := hX539.new hg562
          refine dk 11 (v := pt (blkOf u2366) (offOf u2366 + i * 4)) h575 rfl rfl rfl (fun x hx => by subst hx; exact (rn_index rfl rfl rfl Try.underlying29 Try.sizeOf37 (hX576.1.1) (by omega) (by first | omega | (simp; done) | (simp; omega)))) fun a577 h577 => ?_; clear h575
          refine dk0 12 (v := pt (blkOf u2366) (offOf u2366 + i * 4)) h577 rfl rfl rfl fun a578 h578 => ?_; clear h577
          refine dk0 13 (v := pt (blkOf u2366) (offOf u2366 + i * 4 + 2)) h578 rfl rfl rfl fun a579 h579 => ?_; clear h578
          refine dk 14 (v := y507.ops) h579 rfl rfl rfl (fun x hx => by subst hx; exact (rn_load1 rfl rfl Try.isAgg33 ((sl_at (hX576.1.1) hy507) 2 _ rfl))) fun a580 h580 => ?_; clear h579
          refine dk 15 (v := .int .i64 ((y507.opl.length : Nat) : Int)) h580 rfl rfl rfl (fun x hx => by subst hx; exact (rn_len rfl rfl Try.underlying33 (SlY.one hX576 hy507).1)) fun a581 h581 => ?_; clear h580
          refine dk 16 (v := .int .i64 ((c + ((y514.opl.length : Nat) : Int)) - ((y507.opl.length : Nat) : Int))) h581 rfl rfl rfl (fun x hx => by subst hx; exact (rn_arith rfl rfl rfl rfl rfl rfl (IntWalk.i64_in _ (by omega)))) fun a582 h582 => ?_; clear h581
          refine dk0 17 (v := .int .i64 ((c + ((y514.opl.length : Nat) : Int)) - ((y507.opl.length : Nat) : Int))) h582 rfl rfl rfl fun a583 h583 => ?_; clear h582
          refine dr_done (by kernel_rfl) ?_
          refine co_blockN ?_
          refine co_then ?_
          refine co_reg ?_
          refine pk0 (v := .int .i64 ((i : Nat) : Int)) h583 rfl fun a584 h584 => ?_; clear h583
          refine pk (v := .int .i64 ((i + 1 : Nat) : Int)) h584 rfl (rn_arith' rfl rfl rfl rfl rfl rfl (IntWalk.i64_in _ (by omega)) (by omega)) fun a585 h585 => ?_; clear h584
          refine pk0 (v := .int .i64 ((i + 1 : Nat) : Int)) h585 rfl fun a586 h586 => ?_; clear h585
          refine pl_nil ?_
          refine co_then ?_
          refine ⟨(L2365.length - (i + 1)), by omega, ?_⟩
          have hc9 : (c + ((y514.opl.length : Nat) : Int)) - ((y507.opl.length : Nat) : Int) = opsN (L2329.take (i + 1)) - opsN (L2365.take (i + 1)) := by rw [opsN_snoc hy514, opsN_snoc hy507]; omega
          have hO587 := LObj.gr hO536 (below_grown hb533) (fun k e => by cases e)
          have hO588 := LObj.gr hO587 hg562 (fun k e => by cases e)
          have hB589 := hb_new hB537 hg562
          exact ⟨i + 1, ((c + ((y514.opl.length : Nat) : Int)) - ((y507.opl.length : Nat) : Int)), h586.sub ⟨rfl, rfl, rfl, rfl, rfl, rfl, rfl, rfl, rfl, trivial⟩, rfl, by omega, by exact hc9, by exact cnt_end hq336 (hq372.trans hq355) hc9, by omega, hO588, hX567, hX576, hB589⟩
      ·
       rw [hc324] at h323
       have hp590 : ((i : Nat) : Int) < 30 := of_decide_eq_true hc324
       clear hc324
       refine co_true h323 rfl ?_
       refine wp_skip ?_
       refine co_then ?_
       refine co_seq ?_
       refine wp_block ?_
       refine co_reg ?_
       refine pk0 (v := pt N11 0) h323 rfl fun a591 h591 => ?_; clear h323
       refine pk0 (v := pt N22 0) h591 rfl fun a592 h592 => ?_; clear h591
       refine pk0 (v := v) h592 rfl fun a593 h593 => ?_; clear h592
       refine pk0 (v := .int .i64 ((i : Nat) : Int)) h593 rfl fun a594 h594 => ?_; clear h593
       obtain ⟨y595, hy595⟩ : ∃ z, l[i]? = some z := ⟨_, List.getElem?_eq_getElem (by first | omega | (simp; done) | (simp; omega))⟩
       have oky595 := hok _ (List.mem_of_getElem? hy595)
       have k596 : 0 ≤ y595.e.ts := oky595.1.ts0
       have k597 : y595.e.ts < 18446744073709551616 := oky595.1.ts1
       refine pk (v := pt (blkOf v) (offOf v + i * 6)) h594 rfl (rn_index rfl rfl rfl Try.underlying22 Try.sizeOf39 (hs.below hB43) (by omega) (by first | omega | (simp; done) | (simp; omega))) fun a598 h598 => ?_; clear h594
       refine pk (v := .agg #[.int .i64 y595.c, .int .i64 y595.i, .int .i64 y595.e.client, .int .i64 y595.e.req, y595.e.ops, .int .u64 y595.e.ts]) h598 rfl (rn_loadN rfl rfl Try.underlying39 rfl (by kernel_rfl) (sl_at (hs.below hB43) hy595)) fun a599 h599 => ?_; clear h598
       refine pw h599 rfl (op_call (args := #[pt N11 0, pt N22 0, .agg #[.int .i64 y595.c, .int .i64 y595.i, .int .i64 y595.e.client, .int .i64 y595.e.req, y595.e.ops, .int .u64 y595.e.ts]]) (R := fun res xw => ∃ u' : Value, ∃ L' : List EntT, ∃ X' : List EntT, ∃ S' : Nat → Prop, res = .bool true ∧ TwoP S' xw N11 N22 u' L' X' ∧ Grew S S' w38 xw) rfl rfl rfl (by kernel_rfl) (by kernel_rfl) (Try.call9 _ _) (step17_any' w38 y595.c y595.i y595.e.client y595.e.req y595.e.ops y595.e.opl y595.e.ts hf42 (oky595.1.ops.below hB43) (sl_off oky595.1.ops (opE_ne _) hlo45) (Few.at hfew hy595 (by omega)) ⟨oky595.1.ts0, oky595.1.ts1⟩ (wf_i64 oky595.2.2) ⟨oky595.1.each, oky595.1.cl, oky595.1.rq⟩) (by rintro e x ⟨u', L', X', S', h0, h⟩; exact ⟨_, h0, u', L', X', S', rfl, h⟩)) ?_; clear h599
       rintro _ w601 a600 ⟨u'602, L'603, X'604, S605, rfl, hO606, hx607⟩ h600
       have hlo609 : ∀ q, S605 q → w.heap.size ≤ q := hx607.lo hlo45 (by omega)
       have hB608 := hbL hB43 hlo45 hx607.but
       have hz610 := hB608.size
       have hz611 := hx607.but.size
       refine pl_nil ?_
       refine co_blockN ?_
       refine co_then ?_
       refine co_reg ?_
       refine pk0 (v := .int .i64 ((i : Nat) : Int)) h600 rfl fun a612 h612 => ?_; clear h600
       refine pk (v := .int .i64 ((i + 1 : Nat) : Int)) h612 rfl (rn_arith' rfl rfl rfl rfl rfl rfl (IntWalk.i64_in _ (by omega)) (by omega)) fun a613 h613 => ?_; clear h612
       refine pk0 (v := .int .i64 ((i + 1 : Nat) : Int)) h613 rfl fun a614 h614 => ?_; clear h613
       refine pl_nil ?_
       refine co_then ?_
       refine ⟨(l.length - (i + 1)), by omega, ?_⟩
       have hlo' := hlo609
       exact ⟨i + 1, S605, u'602, L'603, X'604, h614.sub ⟨rfl, rfl, rfl, rfl, rfl, rfl, rfl, trivial⟩, rfl, by omega, by omega, by exact hlo', hO606, hB608⟩
 · skip
   refine co_enter (n := 149) Try.func3 rfl rfl rfl [(0, v), (1, .int .u64 h), (2, .int .u8 n), (3, .int .u64 t)] rfl (fun a h0 => ?_)
   refine co_seq ?_
   refine co_reg ?_
   refine pk0 (v := .bool false) h0 rfl fun a615 h615 => ?_; clear h0
   refine pl_nil ?_
   refine co_then ?_
   refine co_seq ?_
   refine co_seq ?_
   refine co_reg ?_
   refine pk0 (v := v) h615 rfl fun a616 h616 => ?_; clear h615
   refine pw h616 rfl (op_call (args := #[v]) (R := fun res xw => res = .bool (decide (Few l 40)) ∧ Below w.heap.size w xw) rfl rfl rfl (by kernel_rfl) (by kernel_rfl) (Try.call6 _ _) (few17_any v l w hs hok) (by rintro e x ⟨rfl, hb619⟩; exact ⟨_, rfl, ⟨rfl, hb619⟩⟩)) ?_; clear h616
   rintro _ w618 a617 ⟨rfl, hb619⟩ h617
   have hz620 := hb619.size
   have hc621 : (decide (Few l 40)) = false := by simp [hfew]
   rw [hc621] at h617; clear hc621
   refine pk0 (v := .bool true) h617 rfl fun a622 h622 => ?_; clear h617
   refine pl_nil ?_
   refine co_then ?_
   refine co_true h622 rfl ?_
   refine co_seq ?_
   refine co_reg ?_
   refine pw h622 rfl (op_call (args := #[]) (R := fun res xw => res = .bool true ∧ Below w618.heap.size w618 xw) rfl rfl rfl (by kernel_rfl) (by kernel_rfl) (Try.call7 _ _) (awake17  w618 ) (by rintro e x ⟨rfl, hb625⟩; exact ⟨_, rfl, ⟨rfl, hb625⟩⟩)) ?_; clear h622
   rintro _ w624 a623 ⟨rfl, hb625⟩ h623
   have hz626 := hb625.size
   refine pk0 (v := .bool true) h623 rfl fun a627 h627 => ?_; clear h623
   refine pl_nil ?_
   refine co_then ?_
   refine wp_ret ?_
   refine co_thenR ?_
   refine co_ret1 h627 rfl rfl ?_
   have hB628 := hb_call hB0 hb619
   have hB629 := hb_call hB628 hb625
   exact ⟨rfl, hB629⟩

theorem rlogThin_l (v : Value) (l : List RActT) (h n t : Int) (w : World) (hs : SliceOf ractE 6 w v l) (hok : ∀ z ∈ l, RActOk w z) (h1 : (Lit.int .u64 h).wf = true) (h2 : (Lit.int .u8 n).wf = true) (h3 : (Lit.int .u64 t).wf = true) :
    Calls Try.prog 3 #[v, .int .u64 h, .int .u8 n, .int .u64 t] w fun e w' => e = .returned (.bool true) ∧ Below w.heap.size w w' := rlogThin_law v l h n t w hs hok (wf_u64 h1) (wf_u8 h2) (wf_u64 h3)

end Go.Proofs.Ytniojcnkjehflaa
