/- catenalaw22: come. Conditions: none. -/
import Derived.Test.YthmljllgfigebaaPrFLo
namespace Go.Proofs.Ythmljllgfigebaa
open Go.RowKit Go.PlainAid
set_option linter.unusedVariables false
set_option linter.unusedSimpArgs false


def toldK (t : Int) (l : List ByteArray) : Int := l.foldl (fun _ m => valT m) t
theorem toldK_push {t : Int} {l : List ByteArray} {k : Nat} {y : ByteArray} (h : l[k]? = some y) : valT y = toldK t (l.take (k + 1)) := by unfold toldK; rw [List.take_add_one, h, List.foldl_append]; rfl
theorem toldK_all {t td : Int} {l : List ByteArray} {k : Nat} (h : td = toldK t (l.take k)) (hk : l.length ≤ k) : td = toldK t l := by rw [h, List.take_of_length_le hk]
def comeP (P : PrT) (sd : Int) (y : SegT) : PrT := if sd = 0 then { P with A := (inT P.A y).2.2, t0 := toldK P.t0 (inT P.A y).1 } else { P with B := (inT P.B y).2.2, t1 := toldK P.t1 (inT P.B y).1 }

set_option maxRecDepth 100000 in
set_option maxHeartbeats 3200000 in
theorem prCome_any (S : Nat → Prop) (b : Nat) (P : PrT) (i : Nat) (sd : Int) (y : SegT) (w : World) (hP : PrO S w b P) (hlW : P.W.length ≤ 200) (hlT : P.T.length = P.W.length) (hi : i < P.W.length) (hto : P.T[i]? = some sd) (hy : P.W[i]? = some y) (h0 : (sd = 0 → (inT P.A y).2.1 = 0) ∧ (¬ sd = 0 → (inT P.B y).2.1 = 0)) (h1 : (sd = 0 → ∀ m ∈ (inT P.A y).1, P.t0 < valT m ∧ valT m ≤ P.s1) ∧ (¬ sd = 0 → ∀ m ∈ (inT P.B y).1, P.t1 < valT m ∧ valT m ≤ P.s0)) (hsd : sd = 0 ∨ sd = 1) :
    Calls Try.prog 51 #[pt b 0, .int .i64 ((i : Nat) : Int)] w fun e w' => ∃ (S' : Nat → Prop), e = .returned (.tuple #[]) ∧ PrO S' w' b (comeP P sd y) ∧ Grew S S' w w' ∧ But (S) w w' := by
 have hB0 := But.refl (S) w
 rcases hsd with rfl | rfl
 · skip
   obtain ⟨NA, NB, SA, SB, wv, tv, hQ⟩ := hP
   have hBk : Blk w b 95 #[pt NA 0, pt NB 0, .int .i64 P.b0, .int .i64 P.b1, wv, tv, .int .i64 P.s0, .int .i64 P.s1, .int .i64 P.t0, .int .i64 P.t1, .bool true] := hQ.blk
   have hl_b := hBk.lt
   have hSb : S b ∨ w.heap.size ≤ b := .inl ((hQ.fp b).2 (.inl rfl))
   have hinA : ∀ q, SA q → S q ∨ w.heap.size ≤ q := fun q h => .inl ((hQ.fp q).2 (.inr (.inl h)))
   have hinB : ∀ q, SB q → S q ∨ w.heap.size ≤ q := fun q h => .inl ((hQ.fp q).2 (.inr (.inr (.inl h))))
   have hinw : InS S w.heap.size wv := InS.of (fun i hi => (hQ.fp i).2 (.inr (.inr (.inr (.inl hi)))))
   have hint : InS S w.heap.size tv := InS.of (fun i hi => (hQ.fp i).2 (.inr (.inr (.inr (.inr hi)))))
   have hW0 := hQ.way
   have hT0 := hQ.to
   have g0 : (inT P.A y).2.1 = 0 := h0.1 rfl
   have g1 : ∀ m ∈ (inT P.A y).1, P.t0 < valT m ∧ valT m ≤ P.s1 := h1.1 rfl
   refine co_enter (n := 98) Try.func51 rfl rfl rfl [(0, pt b 0), (1, .int .i64 ((i : Nat) : Int))] rfl (fun a h0 => ?_)
   refine co_seq ?_
   refine co_reg ?_
   refine pk0 (v := pt b 0) h0 rfl fun a1 h1 => ?_; clear h0
   refine pk0 (v := pt b 0) h1 rfl fun a2 h2 => ?_; clear h1
   refine pk0 (v := pt b 5) h2 rfl fun a3 h3 => ?_; clear h2
   refine pk (v := tv) h3 rfl (rn_load1 rfl rfl Try.isAgg93 (hBk.cell rfl)) fun a4 h4 => ?_; clear h3
   refine pk0 (v := .int .i64 ((i : Nat) : Int)) h4 rfl fun a5 h5 => ?_; clear h4
   refine pk (v := pt (blkOf tv) (offOf tv + i * 1)) h5 rfl (rn_index rfl rfl rfl Try.underlying93 Try.sizeOf3 (row_sl hT0 intE_lenL) (by omega) (by first | omega | (simp; done) | (simp; omega))) fun a6 h6 => ?_; clear h5
   refine pk (v := .int .i64 0) h6 rfl (rn_load1 rfl rfl Try.isAgg3 ((sl_at (row_sl hT0 intE_lenL) hto) 0 _ rfl)) fun a7 h7 => ?_; clear h6
   refine pk0 (v := .int .i64 0) h7 rfl fun a8 h8 => ?_; clear h7
   refine pl_nil ?_
   refine co_then ?_
   refine co_seq ?_
   refine dr_gen (fun x => But (S) w x ∧ Blk x b 95 #[pt NA 0, pt NB 0, .int .i64 P.b0, .int .i64 P.b1, wv, tv, .int .i64 P.s0, .int .i64 P.s1, .int .i64 P.t0, .int .i64 P.t1, .bool true] ∧ x.ownsRow 0 61 8 wv P.W.length (P.W.flatMap segE)) (by kernel_rfl) (fun w9 hg10 => ?_) (fun w9 hg10 => ?_)
   ·
    have hz11 := hg10.size
    have hB12 := fbU_new hB0 hg10
    have hk13 := hBk.kept hg10 (by simp)
    have hr14 := row_kept_new hW0 hg10
    exact ⟨hB12, hk13, hr14⟩
   have hz15 := hg10.size
   have hB16 := fbU_new hB0 hg10
   have hk17 := hBk.kept hg10 (by simp)
   have hr18 := row_kept_new hW0 hg10
   refine dk0 0 (v := pt b 0) h8 rfl rfl ⟨hB16, hk17, hr18⟩ fun a19 h19 => ?_; clear h8
   refine dk0 1 (v := .int .i64 0) h19 rfl rfl ⟨hB16, hk17, hr18⟩ fun a20 h20 => ?_; clear h19
   refine dk0 2 (v := pt b 0) h20 rfl rfl ⟨hB16, hk17, hr18⟩ fun a21 h21 => ?_; clear h20
   refine dk0 3 (v := pt b 0) h21 rfl rfl ⟨hB16, hk17, hr18⟩ fun a22 h22 => ?_; clear h21
   refine dk0 4 (v := pt b 0) h22 rfl rfl ⟨hB16, hk17, hr18⟩ fun a23 h23 => ?_; clear h22
   refine dk 5 (v := pt NA 0) h23 rfl rfl ⟨hB16, hk17, hr18⟩ (fun x hx => (rn_load1 rfl rfl Try.isAgg53 (hx.2.1.cell rfl))) fun a24 h24 => ?_; clear h23
   refine dk0 6 (v := pt b 0) h24 rfl rfl ⟨hB16, hk17, hr18⟩ fun a25 h25 => ?_; clear h24
   refine dk0 7 (v := pt b 0) h25 rfl rfl ⟨hB16, hk17, hr18⟩ fun a26 h26 => ?_; clear h25
   refine dk0 8 (v := pt b 4) h26 rfl rfl ⟨hB16, hk17, hr18⟩ fun a27 h27 => ?_; clear h26
   refine dk 9 (v := wv) h27 rfl rfl ⟨hB16, hk17, hr18⟩ (fun x hx => (rn_load1 rfl rfl Try.isAgg67 (hx.2.1.cell rfl))) fun a28 h28 => ?_; clear h27
   refine dk0 10 (v := .int .i64 ((i : Nat) : Int)) h28 rfl rfl ⟨hB16, hk17, hr18⟩ fun a29 h29 => ?_; clear h28
   refine dk 11 (v := pt (blkOf wv) (offOf wv + i * 8)) h29 rfl rfl ⟨hB16, hk17, hr18⟩ (fun x hx => (rn_index rfl rfl rfl Try.underlying67 Try.sizeOf61 (row_sl hx.2.2 segE_len) (by omega) (by first | omega | (simp; done) | (simp; omega)))) fun a30 h30 => ?_; clear h29
   refine dk 12 (v := .agg #[.int .i64 y.boot, .int .i64 y.stream, .int .i64 y.seq, .int .i64 y.ab, .int .i64 y.ast, .int .i64 y.asq, .bool y.has, .string y.body]) h30 rfl rfl ⟨hB16, hk17, hr18⟩ (fun x hx => (rn_loadN rfl rfl Try.underlying61 rfl (by kernel_rfl) (sl_at (row_sl hx.2.2 segE_len) hy))) fun a31 h31 => ?_; clear h30
   have hO35 := LkP.gr hQ.hA hg10 (fun k e => by cases e)
   have ho34 := LkP.ofS hO35
   have hO37 := LkP.gr hQ.hB hg10 (fun k e => by cases e)
   have ho36 := LkP.ofS hO37
   refine d1 13 h31 rfl rfl (op_call (args := #[pt NA 0, .agg #[.int .i64 y.boot, .int .i64 y.stream, .int .i64 y.seq, .int .i64 y.ab, .int .i64 y.ast, .int .i64 y.asq, .bool y.has, .string y.body]]) (R := fun res xw => ∃ v : Value, ∃ S' : Nat → Prop, res = .tuple #[v, .int .i64 ((inT P.A y).2.1)] ∧ LkP S' xw NA ((inT P.A y).2.2) ∧ (xw.ownsRow w9.heap.size 9 1 v (inT P.A y).1.length ((inT P.A y).1.flatMap strE)) ∧ (∀ i, v.ownBlock = some i → ¬ S' i) ∧ Grew SA S' w9 xw) rfl rfl rfl (by kernel_rfl) (by kernel_rfl) (Try.call39 _ _) (kIn w9 y hO35) (by rintro e x ⟨v, S', h0, h⟩; exact ⟨_, h0, v, S', rfl, h⟩)) ?_ ?_; clear h31
   ·
    rintro _ w33 ⟨v38, S39, rfl, hO40, hq42, hq43, hx41⟩
    have hr44 := row_kept_new hT0 hg10
    have hB45 := fbU_foot hB16 hx41.but (fun i hi hq => by rcases hinA i hq with k | k; exact k; omega)
    have hz46 := hB45.size
    have hz47 := hx41.but.size
    have hl48 : (inT P.A y).1.length ≤ 1 := by rcases inT_one P.A y with h | h <;> rw [h] <;> simp
    have hin49 : ∀ q, S39 q → S q ∨ w.heap.size ≤ q := fun q hq => by rcases hx41.sub q hq with k | k; exact hinA q k; exact .inr (by omega)
    have hk50 := Blk.butS hk17 hx41.but hQ.nA
    have hr51 := own_butS hr18 hx41.but hQ.wA
    exact ⟨hB45, hk50, hr51⟩
   rintro _ w33 a32 ⟨v38, S39, rfl, hO40, hq42, hq43, hx41⟩ h32
   have hr44 := row_kept_new hT0 hg10
   have hB45 := fbU_foot hB16 hx41.but (fun i hi hq => by rcases hinA i hq with k | k; exact k; omega)
   have hz46 := hB45.size
   have hz47 := hx41.but.size
   have hl48 : (inT P.A y).1.length ≤ 1 := by rcases inT_one P.A y with h | h <;> rw [h] <;> simp
   have hin49 : ∀ q, S39 q → S q ∨ w.heap.size ≤ q := fun q hq => by rcases hx41.sub q hq with k | k; exact hinA q k; exact .inr (by omega)
   have hk50 := Blk.butS hk17 hx41.but hQ.nA
   have hr51 := own_butS hr18 hx41.but hQ.wA
   refine dk0 14 (v := .tuple #[v38, .int .i64 ((inT P.A y).2.1)]) h32 rfl rfl ⟨hB45, hk50, hr51⟩ fun a52 h52 => ?_; clear h32
   refine dk0 15 (v := v38) h52 rfl rfl ⟨hB45, hk50, hr51⟩ fun a53 h53 => ?_; clear h52
   refine dk0 16 (v := .int .i64 ((inT P.A y).2.1)) h53 rfl rfl ⟨hB45, hk50, hr51⟩ fun a54 h54 => ?_; clear h53
   refine dk0 17 (v := v38) h54 rfl rfl ⟨hB45, hk50, hr51⟩ fun a55 h55 => ?_; clear h54
   refine dk0 18 (v := .int .i64 ((inT P.A y).2.1)) h55 rfl rfl ⟨hB45, hk50, hr51⟩ fun a56 h56 => ?_; clear h55
   refine dr_done (by kernel_rfl) ?_
   refine co_then ?_
   refine co_seq ?_
   refine co_reg ?_
   refine pk0 (v := pt b 0) h56 rfl fun a57 h57 => ?_; clear h56
   refine pk0 (v := pt b 0) h57 rfl fun a58 h58 => ?_; clear h57
   refine pk0 (v := pt b 0) h58 rfl fun a59 h59 => ?_; clear h58
   refine pk0 (v := pt b 10) h59 rfl fun a60 h60 => ?_; clear h59
   refine pk (v := .bool true) h60 rfl (rn_load1 rfl rfl Try.isAgg4 (hk50.cell rfl)) fun a61 h61 => ?_; clear h60
   refine pk0 (v := .bool true) h61 rfl fun a62 h62 => ?_; clear h61
   refine pk0 (v := .int .i64 ((inT P.A y).2.1)) h62 rfl fun a63 h63 => ?_; clear h62
   refine pk0 (v := .bool ((inT P.A y).2.1 == 0)) h63 rfl fun a64 h64 => ?_; clear h63
   refine pk0 (v := .bool ((inT P.A y).2.1 == 0)) h64 rfl fun a65 h65 => ?_; clear h64
   refine pk0 (v := .bool ((inT P.A y).2.1 == 0)) h65 rfl fun a66 h66 => ?_; clear h65
   have hc67 : ((inT P.A y).2.1 == 0) = true := by first | (simp; done) | (simp; omega) | exact beq_false_of_ne (by omega) | exact beq_iff_eq.2 (by omega)
   rw [hc67] at h66; clear hc67
   refine pk0 (v := v38) h66 rfl fun a68 h68 => ?_; clear h66
   refine pk (v := .int .i64 ((((inT P.A y).1).length : Nat) : Int)) h68 rfl (rn_lenOwn rfl rfl Try.underlying38 hq42) fun a69 h69 => ?_; clear h68
   refine pk0 (v := .bool (decide (((((inT P.A y).1).length : Nat) : Int) ≤ 1))) h69 rfl fun a70 h70 => ?_; clear h69
   refine pk0 (v := .bool (decide (((((inT P.A y).1).length : Nat) : Int) ≤ 1))) h70 rfl fun a71 h71 => ?_; clear h70
   refine pk0 (v := pt b 0) h71 rfl fun a72 h72 => ?_; clear h71
   refine pk0 (v := pt b 10) h72 rfl fun a73 h73 => ?_; clear h72
   have hc74 : (decide (((((inT P.A y).1).length : Nat) : Int) ≤ 1)) = true := decide_eq_true (by omega)
   rw [hc74] at h73; clear hc74
   refine pwD h73 rfl (op_store1 rfl rfl rfl rfl Try.sizeOf4 hk50 rfl) ?_; clear h73
   rintro _ w76 a75 ⟨hk77, hz78, hg79⟩ h75
   have hk77' : Blk w76 b 95 #[pt NA 0, pt NB 0, .int .i64 P.b0, .int .i64 P.b1, wv, tv, .int .i64 P.s0, .int .i64 P.s1, .int .i64 P.t0, .int .i64 P.t1, .bool true] := hk77; clear hk77
   have hz80 := hg79.size
   refine pl_nil ?_
   refine co_then ?_
   refine co_seq ?_
   refine co_reg ?_
   refine pk0 (v := .int .i64 0) h75 rfl fun a81 h81 => ?_; clear h75
   refine pl_nil ?_
   refine co_then ?_
   refine wp_block ?_
   have h82 : Slots 98 [(0, pt b 0), (4, .int .i64 0), (5, v38), (7, .int .i64 0)] _ := h81.sub ⟨rfl, rfl, rfl, rfl, trivial⟩; clear h81
   refine co_loop (fun mm a x => ∃ (k : Nat) (td : Int), Slots 98 [(0, pt b 0), (4, .int .i64 0), (5, v38), (7, .int .i64 ((k : Nat) : Int))] a ∧ mm = (inT P.A y).1.length - k ∧ (k ≤ (inT P.A y).1.length) ∧ (td = toldK P.t0 ((inT P.A y).1.take k)) ∧ (k = 0 → td = P.t0) ∧ Blk x b 95 #[pt NA 0, pt NB 0, .int .i64 P.b0, .int .i64 P.b1, wv, tv, .int .i64 P.s0, .int .i64 P.s1, .int .i64 td, .int .i64 P.t1, .bool true] ∧ LkP S39 x NA ((inT P.A y).2.2) ∧ LkP SB x NB P.B ∧ x.ownsRow w9.heap.size 9 1 v38 ((inT P.A y).1).length (((inT P.A y).1).flatMap strE) ∧ x.ownsRow 0 61 8 wv P.W.length (P.W.flatMap segE) ∧ x.ownsRow 0 3 1 tv P.T.length (P.T.flatMap (intE .i64)) ∧ But (S) w x) ((inT P.A y).1.length - 0) ?_ ?_
   have hO83 := LkP.gr hO40 hg79 (fun k e => by cases e; exact (Grew.off hx41 hQ.nA hk17.lt))
   have hO84 := LkP.but hO37 hx41.but (ap_symm hQ.ap)
   have hO85 := LkP.gr hO84 hg79 (fun k e => by cases e; exact hQ.nB)
   have hr86 := row_kept_at hq42 hg79 (own_neT hq42 hk50 (by decide))
   have hr87 := row_kept_at hr51 hg79 (own_neT hr51 hk50 (by decide))
   have hr88 := own_butS hr44 hx41.but hQ.tA
   have hr89 := row_kept_at hr88 hg79 (own_neT hr88 hk50 (by decide))
   have hB90 := fbU_at hB45 hg79 (fun hlt => by rcases hSb with hq | hq; exact hq; omega)
   · exact ⟨0, P.t0, h82.sub ⟨rfl, rfl, rfl, (slot_eq rfl (congrArg (Value.int .i64) (by first | rfl | omega))), trivial⟩, rfl, by omega, by first | rfl | exact hpush, by first | exact fun _ => rfl | exact fun h => absurd h (by omega), hk77', hO83, hO85, hr86, hr87, hr89, hB90⟩
   · rintro k91 a92 w93 ⟨k, td, h92, rfl, hi94, hi95, hi96, hf97, hf98, hf99, hf100, hf101, hf102, hB103⟩
     have hz104 := hB103.size
     have hl105 := hf97.lt
     refine co_seq ?_
     refine co_seq ?_
     refine co_reg ?_
     refine pk0 (v := .int .i64 ((k : Nat) : Int)) h92 rfl fun a106 h106 => ?_; clear h92
     refine pk0 (v := v38) h106 rfl fun a107 h107 => ?_; clear h106
     refine pk (v := .int .i64 ((((inT P.A y).1).length : Nat) : Int)) h107 rfl (rn_lenOwn rfl rfl Try.underlying38 hf100) fun a108 h108 => ?_; clear h107
     refine pk0 (v := .bool (decide (((k : Nat) : Int) < ((((inT P.A y).1).length : Nat) : Int)))) h108 rfl fun a109 h109 => ?_; clear h108
     refine pk0 (v := .bool (decide (((k : Nat) : Int) < ((((inT P.A y).1).length : Nat) : Int)))) h109 rfl fun a110 h110 => ?_; clear h109
     cases hc111 : (decide (((k : Nat) : Int) < ((((inT P.A y).1).length : Nat) : Int)))
     ·
      rw [hc111] at h110
      have hp112 : ¬ (((k : Nat) : Int) < ((((inT P.A y).1).length : Nat) : Int)) := of_decide_eq_false hc111
      clear hc111
      refine psk h110 rfl fun a113 h113 => ?_; clear h110
      refine psk h113 rfl fun a114 h114 => ?_; clear h113
      refine pk0 (v := .bool false) h114 rfl fun a115 h115 => ?_; clear h114
      refine pl_nil ?_
      refine co_then ?_
      refine co_false h115 rfl ?_
      refine wp_exit ?_
      refine co_thenX ?_
      refine co_thenX ?_
      refine co_blockX ?_
      refine co_ret0n h115 rfl ?_
      have hte : td = toldK P.t0 (inT P.A y).1 := toldK_all (by assumption) (by omega)
      obtain ⟨S9, h1, h2⟩ := PrO.fin (P := { P with A := (inT P.A y).2.2, t0 := td }) (NA := NA) (NB := NB) (wv := wv) (tv := tv) (w := w) hf97 hf98 hf99 hf101 hf102 (ap_symm (ap_symm (Grew.ap hx41 (ap_symm (ap_symm hQ.ap)) (LkP.ofS hO37)))) (Grew.off hx41 hQ.nA hk17.lt) hQ.nB (Grew.offR hx41 hr18 hQ.wA) hQ.wB (Grew.offR hx41 hr44 hQ.tA) hQ.tB hSb hin49 hinB hinw hint hB103
      have hEq : comeP P 0 y = { P with A := (inT P.A y).2.2, t0 := td } := by unfold comeP; rw [if_pos rfl, hte]
      exact ⟨S9, rfl, by rw [hEq]; exact h1, h2, hB103⟩
     ·
      rw [hc111] at h110
      have hp116 : ((k : Nat) : Int) < ((((inT P.A y).1).length : Nat) : Int) := of_decide_eq_true hc111
      clear hc111
      refine pk0 (v := .int .i64 ((k : Nat) : Int)) h110 rfl fun a117 h117 => ?_; clear h110
      refine pk0 (v := .bool (decide (((k : Nat) : Int) < 2))) h117 rfl fun a118 h118 => ?_; clear h117
      refine pk0 (v := .bool (decide (((k : Nat) : Int) < 2))) h118 rfl fun a119 h119 => ?_; clear h118
      refine pl_nil ?_
      refine co_then ?_
      have hc120 : (decide (((k : Nat) : Int) < 2)) = true := decide_eq_true (by omega)
      rw [hc120] at h119; clear hc120
      refine co_true h119 rfl ?_
      refine wp_skip ?_
      refine co_then ?_
      refine co_seq ?_
      refine wp_block ?_
      refine co_seq ?_
      refine co_reg ?_
      refine pk0 (v := v38) h119 rfl fun a121 h121 => ?_; clear h119
      refine pk0 (v := .int .i64 ((k : Nat) : Int)) h121 rfl fun a122 h122 => ?_; clear h121
      obtain ⟨y123, hy123⟩ : ∃ z, ((inT P.A y).1)[k]? = some z := ⟨_, List.getElem?_eq_getElem (by first | omega | (simp; done) | (simp; omega))⟩
      have hmy123 := g1 _ (List.mem_of_getElem? hy123)
      refine pk (v := pt (blkOf v38) (offOf v38 + k * 1)) h122 rfl (rn_index rfl rfl rfl Try.underlying38 Try.sizeOf9 (row_sl hf100 strE_len) (by omega) (by first | omega | (simp; done) | (simp; omega))) fun a124 h124 => ?_; clear h122
      refine pk (v := .string y123) h124 rfl (rn_load1 rfl rfl Try.isAgg9 ((sl_at (row_sl hf100 strE_len) hy123) 0 _ rfl)) fun a125 h125 => ?_; clear h124
      refine pw h125 rfl (op_call (args := #[.string y123]) (R := fun res xw => res = .int .i64 (valT y123) ∧ Below w93.heap.size w93 xw) rfl rfl rfl (by kernel_rfl) (by kernel_rfl) (Try.call98 _ _) (numbered_any y123 w93 ) (by rintro e x ⟨rfl, hb128⟩; exact ⟨_, rfl, ⟨rfl, hb128⟩⟩)) ?_; clear h125
      rintro _ w127 a126 ⟨rfl, hb128⟩ h126
      have hz129 := hb128.size
      have ho130 := LkP.ofS hf98
      have ho131 := LkP.ofS hf99
      refine pk0 (v := .int .i64 (valT y123)) h126 rfl fun a132 h132 => ?_; clear h126
      refine pl_nil ?_
      refine co_then ?_
      refine co_seq ?_
      refine co_reg ?_
      refine pk0 (v := pt b 0) h132 rfl fun a133 h133 => ?_; clear h132
      refine pk0 (v := pt b 0) h133 rfl fun a134 h134 => ?_; clear h133
      refine pk0 (v := pt b 0) h134 rfl fun a135 h135 => ?_; clear h134
      refine pk0 (v := pt b 10) h135 rfl fun a136 h136 => ?_; clear h135
      have hk137 := hf97.below hb128
      refine pk (v := .bool true) h136 rfl (rn_load1 rfl rfl Try.isAgg4 (hk137.cell rfl)) fun a138 h138 => ?_; clear h136
      refine pk0 (v := .bool true) h138 rfl fun a139 h139 => ?_; clear h138
      refine pk0 (v := .int .i64 (valT y123)) h139 rfl fun a140 h140 => ?_; clear h139
      refine pk0 (v := pt b 0) h140 rfl fun a141 h141 => ?_; clear h140
      refine pk0 (v := .int .i64 0) h141 rfl fun a142 h142 => ?_; clear h141
      refine pk0 (v := pt b 0) h142 rfl fun a143 h143 => ?_; clear h142
      refine pk0 (v := pt b 8) h143 rfl fun a144 h144 => ?_; clear h143
      refine pk0 (v := pt b 8) h144 rfl fun a145 h145 => ?_; clear h144
      refine pk (v := .int .i64 td) h145 rfl (rn_load1 rfl rfl Try.isAgg3 (hk137.cell rfl)) fun a146 h146 => ?_; clear h145
      refine pk0 (v := .bool (decide ((valT y123) > td))) h146 rfl fun a147 h147 => ?_; clear h146
      refine pk0 (v := .bool (decide ((valT y123) > td))) h147 rfl fun a148 h148 => ?_; clear h147
      refine pk0 (v := .bool (decide ((valT y123) > td))) h148 rfl fun a149 h149 => ?_; clear h148
      have hc150 : (decide ((valT y123) > td)) = true := decide_eq_true (by omega)
      rw [hc150] at h149; clear hc150
      refine pk0 (v := .int .i64 (valT y123)) h149 rfl fun a151 h151 => ?_; clear h149
      refine pk0 (v := pt b 0) h151 rfl fun a152 h152 => ?_; clear h151
      refine pk0 (v := .int .i64 0) h152 rfl fun a153 h153 => ?_; clear h152
      refine pk0 (v := .int .i64 1) h153 rfl fun a154 h154 => ?_; clear h153
      refine pk0 (v := pt b 0) h154 rfl fun a155 h155 => ?_; clear h154
      refine pk0 (v := pt b 6) h155 rfl fun a156 h156 => ?_; clear h155
      refine pk0 (v := pt b 7) h156 rfl fun a157 h157 => ?_; clear h156
      refine pk (v := .int .i64 P.s1) h157 rfl (rn_load1 rfl rfl Try.isAgg3 (hk137.cell rfl)) fun a158 h158 => ?_; clear h157
      refine pk0 (v := .bool (decide ((valT y123) ≤ P.s1))) h158 rfl fun a159 h159 => ?_; clear h158
      refine pk0 (v := .bool (decide ((valT y123) ≤ P.s1))) h159 rfl fun a160 h160 => ?_; clear h159
      refine pk0 (v := pt b 0) h160 rfl fun a161 h161 => ?_; clear h160
      refine pk0 (v := pt b 10) h161 rfl fun a162 h162 => ?_; clear h161
      have hc163 : (decide ((valT y123) ≤ P.s1)) = true := decide_eq_true (by omega)
      rw [hc163] at h162; clear hc163
      refine pwD h162 rfl (op_store1 rfl rfl rfl rfl Try.sizeOf4 hk137 rfl) ?_; clear h162
      rintro _ w165 a164 ⟨hk166, hz167, hg168⟩ h164
      have hk166' : Blk w165 b 95 #[pt NA 0, pt NB 0, .int .i64 P.b0, .int .i64 P.b1, wv, tv, .int .i64 P.s0, .int .i64 P.s1, .int .i64 td, .int .i64 P.t1, .bool true] := hk166; clear hk166
      have hz169 := hg168.size
      refine pl_nil ?_
      refine co_then ?_
      refine co_reg ?_
      refine pk0 (v := pt b 0) h164 rfl fun a170 h170 => ?_; clear h164
      refine pk0 (v := .int .i64 0) h170 rfl fun a171 h171 => ?_; clear h170
      refine pk0 (v := .int .i64 (valT y123)) h171 rfl fun a172 h172 => ?_; clear h171
      refine pk0 (v := pt b 0) h172 rfl fun a173 h173 => ?_; clear h172
      refine pk0 (v := pt b 8) h173 rfl fun a174 h174 => ?_; clear h173
      refine pk0 (v := pt b 8) h174 rfl fun a175 h175 => ?_; clear h174
      refine pwD h175 rfl (op_store1 rfl rfl rfl rfl Try.sizeOf3 hk166' rfl) ?_; clear h175
      rintro _ w177 a176 ⟨hk178, hz179, hg180⟩ h176
      have hk178' : Blk w177 b 95 #[pt NA 0, pt NB 0, .int .i64 P.b0, .int .i64 P.b1, wv, tv, .int .i64 P.s0, .int .i64 P.s1, .int .i64 (valT y123), .int .i64 P.t1, .bool true] := hk178; clear hk178
      have hz181 := hg180.size
      refine pl_nil ?_
      refine co_blockN ?_
      refine co_then ?_
      refine co_reg ?_
      refine pk0 (v := .int .i64 ((k : Nat) : Int)) h176 rfl fun a182 h182 => ?_; clear h176
      refine pk (v := .int .i64 ((k + 1 : Nat) : Int)) h182 rfl (rn_arith' rfl rfl rfl rfl rfl rfl (IntWalk.i64_in _ (by omega)) (by omega)) fun a183 h183 => ?_; clear h182
      refine pk0 (v := .int .i64 ((k + 1 : Nat) : Int)) h183 rfl fun a184 h184 => ?_; clear h183
      refine pl_nil ?_
      refine co_then ?_
      refine ⟨((inT P.A y).1.length - (k + 1)), by omega, ?_⟩
      have hpush := toldK_push (t := P.t0) hy123
      have hO185 := LkP.gr hf98 (below_grown hb128) (fun k e => by cases e)
      have hO186 := LkP.gr hO185 hg168 (fun k e => by cases e; exact (Grew.off hx41 hQ.nA hk17.lt))
      have hO187 := LkP.gr hO186 hg180 (fun k e => by cases e; exact (Grew.off hx41 hQ.nA hk17.lt))
      have hO188 := LkP.gr hf99 (below_grown hb128) (fun k e => by cases e)
      have hO189 := LkP.gr hO188 hg168 (fun k e => by cases e; exact hQ.nB)
      have hO190 := LkP.gr hO189 hg180 (fun k e => by cases e; exact hQ.nB)
      have hr191 := row_kept_new hf100 (below_grown hb128)
      have hr192 := row_kept_at hr191 hg168 (own_neT hr191 hk137 (by decide))
      have hr193 := row_kept_at hr192 hg180 (own_neT hr192 hk166' (by decide))
      have hr194 := row_kept_new hf101 (below_grown hb128)
      have hr195 := row_kept_at hr194 hg168 (own_neT hr194 hk137 (by decide))
      have hr196 := row_kept_at hr195 hg180 (own_neT hr195 hk166' (by decide))
      have hr197 := row_kept_new hf102 (below_grown hb128)
      have hr198 := row_kept_at hr197 hg168 (own_neT hr197 hk137 (by decide))
      have hr199 := row_kept_at hr198 hg180 (own_neT hr198 hk166' (by decide))
      have hB200 := fbU_call hB103 hb128
      have hB201 := fbU_at hB200 hg168 (fun hlt => by rcases hSb with hq | hq; exact hq; omega)
      have hB202 := fbU_at hB201 hg180 (fun hlt => by rcases hSb with hq | hq; exact hq; omega)
      exact ⟨k + 1, (valT y123), h184.sub ⟨rfl, rfl, rfl, rfl, trivial⟩, rfl, by omega, by first | rfl | exact hpush, by first | exact fun _ => rfl | exact fun h => absurd h (by omega), hk178', hO187, hO190, hr193, hr196, hr199, hB202⟩
 · skip
   obtain ⟨NA, NB, SA, SB, wv, tv, hQ⟩ := hP
   have hBk : Blk w b 95 #[pt NA 0, pt NB 0, .int .i64 P.b0, .int .i64 P.b1, wv, tv, .int .i64 P.s0, .int .i64 P.s1, .int .i64 P.t0, .int .i64 P.t1, .bool true] := hQ.blk
   have hl_b := hBk.lt
   have hSb : S b ∨ w.heap.size ≤ b := .inl ((hQ.fp b).2 (.inl rfl))
   have hinA : ∀ q, SA q → S q ∨ w.heap.size ≤ q := fun q h => .inl ((hQ.fp q).2 (.inr (.inl h)))
   have hinB : ∀ q, SB q → S q ∨ w.heap.size ≤ q := fun q h => .inl ((hQ.fp q).2 (.inr (.inr (.inl h))))
   have hinw : InS S w.heap.size wv := InS.of (fun i hi => (hQ.fp i).2 (.inr (.inr (.inr (.inl hi)))))
   have hint : InS S w.heap.size tv := InS.of (fun i hi => (hQ.fp i).2 (.inr (.inr (.inr (.inr hi)))))
   have hW0 := hQ.way
   have hT0 := hQ.to
   have g0 : (inT P.B y).2.1 = 0 := h0.2 (by decide)
   have g1 : ∀ m ∈ (inT P.B y).1, P.t1 < valT m ∧ valT m ≤ P.s0 := h1.2 (by decide)
   refine co_enter (n := 98) Try.func51 rfl rfl rfl [(0, pt b 0), (1, .int .i64 ((i : Nat) : Int))] rfl (fun a h0 => ?_)
   refine co_seq ?_
   refine co_reg ?_
   refine pk0 (v := pt b 0) h0 rfl fun a203 h203 => ?_; clear h0
   refine pk0 (v := pt b 0) h203 rfl fun a204 h204 => ?_; clear h203
   refine pk0 (v := pt b 5) h204 rfl fun a205 h205 => ?_; clear h204
   refine pk (v := tv) h205 rfl (rn_load1 rfl rfl Try.isAgg93 (hBk.cell rfl)) fun a206 h206 => ?_; clear h205
   refine pk0 (v := .int .i64 ((i : Nat) : Int)) h206 rfl fun a207 h207 => ?_; clear h206
   refine pk (v := pt (blkOf tv) (offOf tv + i * 1)) h207 rfl (rn_index rfl rfl rfl Try.underlying93 Try.sizeOf3 (row_sl hT0 intE_lenL) (by omega) (by first | omega | (simp; done) | (simp; omega))) fun a208 h208 => ?_; clear h207
   refine pk (v := .int .i64 1) h208 rfl (rn_load1 rfl rfl Try.isAgg3 ((sl_at (row_sl hT0 intE_lenL) hto) 0 _ rfl)) fun a209 h209 => ?_; clear h208
   refine pk0 (v := .int .i64 1) h209 rfl fun a210 h210 => ?_; clear h209
   refine pl_nil ?_
   refine co_then ?_
   refine co_seq ?_
   refine dr_gen (fun x => But (S) w x ∧ Blk x b 95 #[pt NA 0, pt NB 0, .int .i64 P.b0, .int .i64 P.b1, wv, tv, .int .i64 P.s0, .int .i64 P.s1, .int .i64 P.t0, .int .i64 P.t1, .bool true] ∧ x.ownsRow 0 61 8 wv P.W.length (P.W.flatMap segE)) (by kernel_rfl) (fun w211 hg212 => ?_) (fun w211 hg212 => ?_)
   ·
    have hz213 := hg212.size
    have hB214 := fbU_new hB0 hg212
    have hk215 := hBk.kept hg212 (by simp)
    have hr216 := row_kept_new hW0 hg212
    exact ⟨hB214, hk215, hr216⟩
   have hz217 := hg212.size
   have hB218 := fbU_new hB0 hg212
   have hk219 := hBk.kept hg212 (by simp)
   have hr220 := row_kept_new hW0 hg212
   refine dk0 0 (v := pt b 0) h210 rfl rfl ⟨hB218, hk219, hr220⟩ fun a221 h221 => ?_; clear h210
   refine dk0 1 (v := .int .i64 1) h221 rfl rfl ⟨hB218, hk219, hr220⟩ fun a222 h222 => ?_; clear h221
   refine dk0 2 (v := pt b 0) h222 rfl rfl ⟨hB218, hk219, hr220⟩ fun a223 h223 => ?_; clear h222
   refine dk0 3 (v := pt b 0) h223 rfl rfl ⟨hB218, hk219, hr220⟩ fun a224 h224 => ?_; clear h223
   refine dk0 4 (v := pt b 1) h224 rfl rfl ⟨hB218, hk219, hr220⟩ fun a225 h225 => ?_; clear h224
   refine dk 5 (v := pt NB 0) h225 rfl rfl ⟨hB218, hk219, hr220⟩ (fun x hx => (rn_load1 rfl rfl Try.isAgg53 (hx.2.1.cell rfl))) fun a226 h226 => ?_; clear h225
   refine dk0 6 (v := pt b 0) h226 rfl rfl ⟨hB218, hk219, hr220⟩ fun a227 h227 => ?_; clear h226
   refine dk0 7 (v := pt b 0) h227 rfl rfl ⟨hB218, hk219, hr220⟩ fun a228 h228 => ?_; clear h227
   refine dk0 8 (v := pt b 4) h228 rfl rfl ⟨hB218, hk219, hr220⟩ fun a229 h229 => ?_; clear h228
   refine dk 9 (v := wv) h229 rfl rfl ⟨hB218, hk219, hr220⟩ (fun x hx => (rn_load1 rfl rfl Try.isAgg67 (hx.2.1.cell rfl))) fun a230 h230 => ?_; clear h229
   refine dk0 10 (v := .int .i64 ((i : Nat) : Int)) h230 rfl rfl ⟨hB218, hk219, hr220⟩ fun a231 h231 => ?_; clear h230
   refine dk 11 (v := pt (blkOf wv) (offOf wv + i * 8)) h231 rfl rfl ⟨hB218, hk219, hr220⟩ (fun x hx => (rn_index rfl rfl rfl Try.underlying67 Try.sizeOf61 (row_sl hx.2.2 segE_len) (by omega) (by first | omega | (simp; done) | (simp; omega)))) fun a232 h232 => ?_; clear h231
   refine dk 12 (v := .agg #[.int .i64 y.boot, .int .i64 y.stream, .int .i64 y.seq, .int .i64 y.ab, .int .i64 y.ast, .int .i64 y.asq, .bool y.has, .string y.body]) h232 rfl rfl ⟨hB218, hk219, hr220⟩ (fun x hx => (rn_loadN rfl rfl Try.underlying61 rfl (by kernel_rfl) (sl_at (row_sl hx.2.2 segE_len) hy))) fun a233 h233 => ?_; clear h232
   have hO237 := LkP.gr hQ.hA hg212 (fun k e => by cases e)
   have ho236 := LkP.ofS hO237
   have hO239 := LkP.gr hQ.hB hg212 (fun k e => by cases e)
   have ho238 := LkP.ofS hO239
   refine d1 13 h233 rfl rfl (op_call (args := #[pt NB 0, .agg #[.int .i64 y.boot, .int .i64 y.stream, .int .i64 y.seq, .int .i64 y.ab, .int .i64 y.ast, .int .i64 y.asq, .bool y.has, .string y.body]]) (R := fun res xw => ∃ v : Value, ∃ S' : Nat → Prop, res = .tuple #[v, .int .i64 ((inT P.B y).2.1)] ∧ LkP S' xw NB ((inT P.B y).2.2) ∧ (xw.ownsRow w211.heap.size 9 1 v (inT P.B y).1.length ((inT P.B y).1.flatMap strE)) ∧ (∀ i, v.ownBlock = some i → ¬ S' i) ∧ Grew SB S' w211 xw) rfl rfl rfl (by kernel_rfl) (by kernel_rfl) (Try.call39 _ _) (kIn w211 y hO239) (by rintro e x ⟨v, S', h0, h⟩; exact ⟨_, h0, v, S', rfl, h⟩)) ?_ ?_; clear h233
   ·
    rintro _ w235 ⟨v240, S241, rfl, hO242, hq244, hq245, hx243⟩
    have hr246 := row_kept_new hT0 hg212
    have hB247 := fbU_foot hB218 hx243.but (fun i hi hq => by rcases hinB i hq with k | k; exact k; omega)
    have hz248 := hB247.size
    have hz249 := hx243.but.size
    have hl250 : (inT P.B y).1.length ≤ 1 := by rcases inT_one P.B y with h | h <;> rw [h] <;> simp
    have hin251 : ∀ q, S241 q → S q ∨ w.heap.size ≤ q := fun q hq => by rcases hx243.sub q hq with k | k; exact hinB q k; exact .inr (by omega)
    have hk252 := Blk.butS hk219 hx243.but hQ.nB
    have hr253 := own_butS hr220 hx243.but hQ.wB
    exact ⟨hB247, hk252, hr253⟩
   rintro _ w235 a234 ⟨v240, S241, rfl, hO242, hq244, hq245, hx243⟩ h234
   have hr246 := row_kept_new hT0 hg212
   have hB247 := fbU_foot hB218 hx243.but (fun i hi hq => by rcases hinB i hq with k | k; exact k; omega)
   have hz248 := hB247.size
   have hz249 := hx243.but.size
   have hl250 : (inT P.B y).1.length ≤ 1 := by rcases inT_one P.B y with h | h <;> rw [h] <;> simp
   have hin251 : ∀ q, S241 q → S q ∨ w.heap.size ≤ q := fun q hq => by rcases hx243.sub q hq with k | k; exact hinB q k; exact .inr (by omega)
   have hk252 := Blk.butS hk219 hx243.but hQ.nB
   have hr253 := own_butS hr220 hx243.but hQ.wB
   refine dk0 14 (v := .tuple #[v240, .int .i64 ((inT P.B y).2.1)]) h234 rfl rfl ⟨hB247, hk252, hr253⟩ fun a254 h254 => ?_; clear h234
   refine dk0 15 (v := v240) h254 rfl rfl ⟨hB247, hk252, hr253⟩ fun a255 h255 => ?_; clear h254
   refine dk0 16 (v := .int .i64 ((inT P.B y).2.1)) h255 rfl rfl ⟨hB247, hk252, hr253⟩ fun a256 h256 => ?_; clear h255
   refine dk0 17 (v := v240) h256 rfl rfl ⟨hB247, hk252, hr253⟩ fun a257 h257 => ?_; clear h256
   refine dk0 18 (v := .int .i64 ((inT P.B y).2.1)) h257 rfl rfl ⟨hB247, hk252, hr253⟩ fun a258 h258 => ?_; clear h257
   refine dr_done (by kernel_rfl) ?_
   refine co_then ?_
   refine co_seq ?_
   refine co_reg ?_
   refine pk0 (v := pt b 0) h258 rfl fun a259 h259 => ?_; clear h258
   refine pk0 (v := pt b 0) h259 rfl fun a260 h260 => ?_; clear h259
   refine pk0 (v := pt b 0) h260 rfl fun a261 h261 => ?_; clear h260
   refine pk0 (v := pt b 10) h261 rfl fun a262 h262 => ?_; clear h261
   refine pk (v := .bool true) h262 rfl (rn_load1 rfl rfl Try.isAgg4 (hk252.cell rfl)) fun a263 h263 => ?_; clear h262
   refine pk0 (v := .bool true) h263 rfl fun a264 h264 => ?_; clear h263
   refine pk0 (v := .int .i64 ((inT P.B y).2.1)) h264 rfl fun a265 h265 => ?_; clear h264
   refine pk0 (v := .bool ((inT P.B y).2.1 == 0)) h265 rfl fun a266 h266 => ?_; clear h265
   refine pk0 (v := .bool ((inT P.B y).2.1 == 0)) h266 rfl fun a267 h267 => ?_; clear h266
   refine pk0 (v := .bool ((inT P.B y).2.1 == 0)) h267 rfl fun a268 h268 => ?_; clear h267
   have hc269 : ((inT P.B y).2.1 == 0) = true := by first | (simp; done) | (simp; omega) | exact beq_false_of_ne (by omega) | exact beq_iff_eq.2 (by omega)
   rw [hc269] at h268; clear hc269
   refine pk0 (v := v240) h268 rfl fun a270 h270 => ?_; clear h268
   refine pk (v := .int .i64 ((((inT P.B y).1).length : Nat) : Int)) h270 rfl (rn_lenOwn rfl rfl Try.underlying38 hq244) fun a271 h271 => ?_; clear h270
   refine pk0 (v := .bool (decide (((((inT P.B y).1).length : Nat) : Int) ≤ 1))) h271 rfl fun a272 h272 => ?_; clear h271
   refine pk0 (v := .bool (decide (((((inT P.B y).1).length : Nat) : Int) ≤ 1))) h272 rfl fun a273 h273 => ?_; clear h272
   refine pk0 (v := pt b 0) h273 rfl fun a274 h274 => ?_; clear h273
   refine pk0 (v := pt b 10) h274 rfl fun a275 h275 => ?_; clear h274
   have hc276 : (decide (((((inT P.B y).1).length : Nat) : Int) ≤ 1)) = true := decide_eq_true (by omega)
   rw [hc276] at h275; clear hc276
   refine pwD h275 rfl (op_store1 rfl rfl rfl rfl Try.sizeOf4 hk252 rfl) ?_; clear h275
   rintro _ w278 a277 ⟨hk279, hz280, hg281⟩ h277
   have hk279' : Blk w278 b 95 #[pt NA 0, pt NB 0, .int .i64 P.b0, .int .i64 P.b1, wv, tv, .int .i64 P.s0, .int .i64 P.s1, .int .i64 P.t0, .int .i64 P.t1, .bool true] := hk279; clear hk279
   have hz282 := hg281.size
   refine pl_nil ?_
   refine co_then ?_
   refine co_seq ?_
   refine co_reg ?_
   refine pk0 (v := .int .i64 0) h277 rfl fun a283 h283 => ?_; clear h277
   refine pl_nil ?_
   refine co_then ?_
   refine wp_block ?_
   have h284 : Slots 98 [(0, pt b 0), (4, .int .i64 1), (5, v240), (7, .int .i64 0)] _ := h283.sub ⟨rfl, rfl, rfl, rfl, trivial⟩; clear h283
   refine co_loop (fun mm a x => ∃ (k : Nat) (td : Int), Slots 98 [(0, pt b 0), (4, .int .i64 1), (5, v240), (7, .int .i64 ((k : Nat) : Int))] a ∧ mm = (inT P.B y).1.length - k ∧ (k ≤ (inT P.B y).1.length) ∧ (td = toldK P.t1 ((inT P.B y).1.take k)) ∧ (k = 0 → td = P.t1) ∧ Blk x b 95 #[pt NA 0, pt NB 0, .int .i64 P.b0, .int .i64 P.b1, wv, tv, .int .i64 P.s0, .int .i64 P.s1, .int .i64 P.t0, .int .i64 td, .bool true] ∧ LkP SA x NA P.A ∧ LkP S241 x NB ((inT P.B y).2.2) ∧ x.ownsRow w211.heap.size 9 1 v240 ((inT P.B y).1).length (((inT P.B y).1).flatMap strE) ∧ x.ownsRow 0 61 8 wv P.W.length (P.W.flatMap segE) ∧ x.ownsRow 0 3 1 tv P.T.length (P.T.flatMap (intE .i64)) ∧ But (S) w x) ((inT P.B y).1.length - 0) ?_ ?_
   have hO285 := LkP.but hO237 hx243.but hQ.ap
   have hO286 := LkP.gr hO285 hg281 (fun k e => by cases e; exact hQ.nA)
   have hO287 := LkP.gr hO242 hg281 (fun k e => by cases e; exact (Grew.off hx243 hQ.nB hk219.lt))
   have hr288 := row_kept_at hq244 hg281 (own_neT hq244 hk252 (by decide))
   have hr289 := row_kept_at hr253 hg281 (own_neT hr253 hk252 (by decide))
   have hr290 := own_butS hr246 hx243.but hQ.tB
   have hr291 := row_kept_at hr290 hg281 (own_neT hr290 hk252 (by decide))
   have hB292 := fbU_at hB247 hg281 (fun hlt => by rcases hSb with hq | hq; exact hq; omega)
   · exact ⟨0, P.t1, h284.sub ⟨rfl, rfl, rfl, (slot_eq rfl (congrArg (Value.int .i64) (by first | rfl | omega))), trivial⟩, rfl, by omega, by first | rfl | exact hpush, by first | exact fun _ => rfl | exact fun h => absurd h (by omega), hk279', hO286, hO287, hr288, hr289, hr291, hB292⟩
   · rintro k293 a294 w295 ⟨k, td, h294, rfl, hi296, hi297, hi298, hf299, hf300, hf301, hf302, hf303, hf304, hB305⟩
     have hz306 := hB305.size
     have hl307 := hf299.lt
     refine co_seq ?_
     refine co_seq ?_
     refine co_reg ?_
     refine pk0 (v := .int .i64 ((k : Nat) : Int)) h294 rfl fun a308 h308 => ?_; clear h294
     refine pk0 (v := v240) h308 rfl fun a309 h309 => ?_; clear h308
     refine pk (v := .int .i64 ((((inT P.B y).1).length : Nat) : Int)) h309 rfl (rn_lenOwn rfl rfl Try.underlying38 hf302) fun a310 h310 => ?_; clear h309
     refine pk0 (v := .bool (decide (((k : Nat) : Int) < ((((inT P.B y).1).length : Nat) : Int)))) h310 rfl fun a311 h311 => ?_; clear h310
     refine pk0 (v := .bool (decide (((k : Nat) : Int) < ((((inT P.B y).1).length : Nat) : Int)))) h311 rfl fun a312 h312 => ?_; clear h311
     cases hc313 : (decide (((k : Nat) : Int) < ((((inT P.B y).1).length : Nat) : Int)))
     ·
      rw [hc313] at h312
      have hp314 : ¬ (((k : Nat) : Int) < ((((inT P.B y).1).length : Nat) : Int)) := of_decide_eq_false hc313
      clear hc313
      refine psk h312 rfl fun a315 h315 => ?_; clear h312
      refine psk h315 rfl fun a316 h316 => ?_; clear h315
      refine pk0 (v := .bool false) h316 rfl fun a317 h317 => ?_; clear h316
      refine pl_nil ?_
      refine co_then ?_
      refine co_false h317 rfl ?_
      refine wp_exit ?_
      refine co_thenX ?_
      refine co_thenX ?_
      refine co_blockX ?_
      refine co_ret0n h317 rfl ?_
      have hte : td = toldK P.t1 (inT P.B y).1 := toldK_all (by assumption) (by omega)
      obtain ⟨S9, h1, h2⟩ := PrO.fin (P := { P with B := (inT P.B y).2.2, t1 := td }) (NA := NA) (NB := NB) (wv := wv) (tv := tv) (w := w) hf299 hf300 hf301 hf303 hf304 (ap_symm (Grew.ap hx243 (ap_symm hQ.ap) (LkP.ofS hO237))) hQ.nA (Grew.off hx243 hQ.nB hk219.lt) hQ.wA (Grew.offR hx243 hr220 hQ.wB) hQ.tA (Grew.offR hx243 hr246 hQ.tB) hSb hinA hin251 hinw hint hB305
      have hEq : comeP P 1 y = { P with B := (inT P.B y).2.2, t1 := td } := by unfold comeP; rw [if_neg (by decide), hte]
      exact ⟨S9, rfl, by rw [hEq]; exact h1, h2, hB305⟩
     ·
      rw [hc313] at h312
      have hp318 : ((k : Nat) : Int) < ((((inT P.B y).1).length : Nat) : Int) := of_decide_eq_true hc313
      clear hc313
      refine pk0 (v := .int .i64 ((k : Nat) : Int)) h312 rfl fun a319 h319 => ?_; clear h312
      refine pk0 (v := .bool (decide (((k : Nat) : Int) < 2))) h319 rfl fun a320 h320 => ?_; clear h319
      refine pk0 (v := .bool (decide (((k : Nat) : Int) < 2))) h320 rfl fun a321 h321 => ?_; clear h320
      refine pl_nil ?_
      refine co_then ?_
      have hc322 : (decide (((k : Nat) : Int) < 2)) = true := decide_eq_true (by omega)
      rw [hc322] at h321; clear hc322
      refine co_true h321 rfl ?_
      refine wp_skip ?_
      refine co_then ?_
      refine co_seq ?_
      refine wp_block ?_
      refine co_seq ?_
      refine co_reg ?_
      refine pk0 (v := v240) h321 rfl fun a323 h323 => ?_; clear h321
      refine pk0 (v := .int .i64 ((k : Nat) : Int)) h323 rfl fun a324 h324 => ?_; clear h323
      obtain ⟨y325, hy325⟩ : ∃ z, ((inT P.B y).1)[k]? = some z := ⟨_, List.getElem?_eq_getElem (by first | omega | (simp; done) | (simp; omega))⟩
      have hmy325 := g1 _ (List.mem_of_getElem? hy325)
      refine pk (v := pt (blkOf v240) (offOf v240 + k * 1)) h324 rfl (rn_index rfl rfl rfl Try.underlying38 Try.sizeOf9 (row_sl hf302 strE_len) (by omega) (by first | omega | (simp; done) | (simp; omega))) fun a326 h326 => ?_; clear h324
      refine pk (v := .string y325) h326 rfl (rn_load1 rfl rfl Try.isAgg9 ((sl_at (row_sl hf302 strE_len) hy325) 0 _ rfl)) fun a327 h327 => ?_; clear h326
      refine pw h327 rfl (op_call (args := #[.string y325]) (R := fun res xw => res = .int .i64 (valT y325) ∧ Below w295.heap.size w295 xw) rfl rfl rfl (by kernel_rfl) (by kernel_rfl) (Try.call98 _ _) (numbered_any y325 w295 ) (by rintro e x ⟨rfl, hb330⟩; exact ⟨_, rfl, ⟨rfl, hb330⟩⟩)) ?_; clear h327
      rintro _ w329 a328 ⟨rfl, hb330⟩ h328
      have hz331 := hb330.size
      have ho332 := LkP.ofS hf300
      have ho333 := LkP.ofS hf301
      refine pk0 (v := .int .i64 (valT y325)) h328 rfl fun a334 h334 => ?_; clear h328
      refine pl_nil ?_
      refine co_then ?_
      refine co_seq ?_
      refine co_reg ?_
      refine pk0 (v := pt b 0) h334 rfl fun a335 h335 => ?_; clear h334
      refine pk0 (v := pt b 0) h335 rfl fun a336 h336 => ?_; clear h335
      refine pk0 (v := pt b 0) h336 rfl fun a337 h337 => ?_; clear h336
      refine pk0 (v := pt b 10) h337 rfl fun a338 h338 => ?_; clear h337
      have hk339 := hf299.below hb330
      refine pk (v := .bool true) h338 rfl (rn_load1 rfl rfl Try.isAgg4 (hk339.cell rfl)) fun a340 h340 => ?_; clear h338
      refine pk0 (v := .bool true) h340 rfl fun a341 h341 => ?_; clear h340
      refine pk0 (v := .int .i64 (valT y325)) h341 rfl fun a342 h342 => ?_; clear h341
      refine pk0 (v := pt b 0) h342 rfl fun a343 h343 => ?_; clear h342
      refine pk0 (v := .int .i64 1) h343 rfl fun a344 h344 => ?_; clear h343
      refine pk0 (v := pt b 0) h344 rfl fun a345 h345 => ?_; clear h344
      refine pk0 (v := pt b 8) h345 rfl fun a346 h346 => ?_; clear h345
      refine pk0 (v := pt b 9) h346 rfl fun a347 h347 => ?_; clear h346
      refine pk (v := .int .i64 td) h347 rfl (rn_load1 rfl rfl Try.isAgg3 (hk339.cell rfl)) fun a348 h348 => ?_; clear h347
      refine pk0 (v := .bool (decide ((valT y325) > td))) h348 rfl fun a349 h349 => ?_; clear h348
      refine pk0 (v := .bool (decide ((valT y325) > td))) h349 rfl fun a350 h350 => ?_; clear h349
      refine pk0 (v := .bool (decide ((valT y325) > td))) h350 rfl fun a351 h351 => ?_; clear h350
      have hc352 : (decide ((valT y325) > td)) = true := decide_eq_true (by omega)
      rw [hc352] at h351; clear hc352
      refine pk0 (v := .int .i64 (valT y325)) h351 rfl fun a353 h353 => ?_; clear h351
      refine pk0 (v := pt b 0) h353 rfl fun a354 h354 => ?_; clear h353
      refine pk0 (v := .int .i64 1) h354 rfl fun a355 h355 => ?_; clear h354
      refine pk0 (v := .int .i64 0) h355 rfl fun a356 h356 => ?_; clear h355
      refine pk0 (v := pt b 0) h356 rfl fun a357 h357 => ?_; clear h356
      refine pk0 (v := pt b 6) h357 rfl fun a358 h358 => ?_; clear h357
      refine pk0 (v := pt b 6) h358 rfl fun a359 h359 => ?_; clear h358
      refine pk (v := .int .i64 P.s0) h359 rfl (rn_load1 rfl rfl Try.isAgg3 (hk339.cell rfl)) fun a360 h360 => ?_; clear h359
      refine pk0 (v := .bool (decide ((valT y325) ≤ P.s0))) h360 rfl fun a361 h361 => ?_; clear h360
      refine pk0 (v := .bool (decide ((valT y325) ≤ P.s0))) h361 rfl fun a362 h362 => ?_; clear h361
      refine pk0 (v := pt b 0) h362 rfl fun a363 h363 => ?_; clear h362
      refine pk0 (v := pt b 10) h363 rfl fun a364 h364 => ?_; clear h363
      have hc365 : (decide ((valT y325) ≤ P.s0)) = true := decide_eq_true (by omega)
      rw [hc365] at h364; clear hc365
      refine pwD h364 rfl (op_store1 rfl rfl rfl rfl Try.sizeOf4 hk339 rfl) ?_; clear h364
      rintro _ w367 a366 ⟨hk368, hz369, hg370⟩ h366
      have hk368' : Blk w367 b 95 #[pt NA 0, pt NB 0, .int .i64 P.b0, .int .i64 P.b1, wv, tv, .int .i64 P.s0, .int .i64 P.s1, .int .i64 P.t0, .int .i64 td, .bool true] := hk368; clear hk368
      have hz371 := hg370.size
      refine pl_nil ?_
      refine co_then ?_
      refine co_reg ?_
      refine pk0 (v := pt b 0) h366 rfl fun a372 h372 => ?_; clear h366
      refine pk0 (v := .int .i64 1) h372 rfl fun a373 h373 => ?_; clear h372
      refine pk0 (v := .int .i64 (valT y325)) h373 rfl fun a374 h374 => ?_; clear h373
      refine pk0 (v := pt b 0) h374 rfl fun a375 h375 => ?_; clear h374
      refine pk0 (v := pt b 8) h375 rfl fun a376 h376 => ?_; clear h375
      refine pk0 (v := pt b 9) h376 rfl fun a377 h377 => ?_; clear h376
      refine pwD h377 rfl (op_store1 rfl rfl rfl rfl Try.sizeOf3 hk368' rfl) ?_; clear h377
      rintro _ w379 a378 ⟨hk380, hz381, hg382⟩ h378
      have hk380' : Blk w379 b 95 #[pt NA 0, pt NB 0, .int .i64 P.b0, .int .i64 P.b1, wv, tv, .int .i64 P.s0, .int .i64 P.s1, .int .i64 P.t0, .int .i64 (valT y325), .bool true] := hk380; clear hk380
      have hz383 := hg382.size
      refine pl_nil ?_
      refine co_blockN ?_
      refine co_then ?_
      refine co_reg ?_
      refine pk0 (v := .int .i64 ((k : Nat) : Int)) h378 rfl fun a384 h384 => ?_; clear h378
      refine pk (v := .int .i64 ((k + 1 : Nat) : Int)) h384 rfl (rn_arith' rfl rfl rfl rfl rfl rfl (IntWalk.i64_in _ (by omega)) (by omega)) fun a385 h385 => ?_; clear h384
      refine pk0 (v := .int .i64 ((k + 1 : Nat) : Int)) h385 rfl fun a386 h386 => ?_; clear h385
      refine pl_nil ?_
      refine co_then ?_
      refine ⟨((inT P.B y).1.length - (k + 1)), by omega, ?_⟩
      have hpush := toldK_push (t := P.t1) hy325
      have hO387 := LkP.gr hf300 (below_grown hb330) (fun k e => by cases e)
      have hO388 := LkP.gr hO387 hg370 (fun k e => by cases e; exact hQ.nA)
      have hO389 := LkP.gr hO388 hg382 (fun k e => by cases e; exact hQ.nA)
      have hO390 := LkP.gr hf301 (below_grown hb330) (fun k e => by cases e)
      have hO391 := LkP.gr hO390 hg370 (fun k e => by cases e; exact (Grew.off hx243 hQ.nB hk219.lt))
      have hO392 := LkP.gr hO391 hg382 (fun k e => by cases e; exact (Grew.off hx243 hQ.nB hk219.lt))
      have hr393 := row_kept_new hf302 (below_grown hb330)
      have hr394 := row_kept_at hr393 hg370 (own_neT hr393 hk339 (by decide))
      have hr395 := row_kept_at hr394 hg382 (own_neT hr394 hk368' (by decide))
      have hr396 := row_kept_new hf303 (below_grown hb330)
      have hr397 := row_kept_at hr396 hg370 (own_neT hr396 hk339 (by decide))
      have hr398 := row_kept_at hr397 hg382 (own_neT hr397 hk368' (by decide))
      have hr399 := row_kept_new hf304 (below_grown hb330)
      have hr400 := row_kept_at hr399 hg370 (own_neT hr399 hk339 (by decide))
      have hr401 := row_kept_at hr400 hg382 (own_neT hr400 hk368' (by decide))
      have hB402 := fbU_call hB305 hb330
      have hB403 := fbU_at hB402 hg370 (fun hlt => by rcases hSb with hq | hq; exact hq; omega)
      have hB404 := fbU_at hB403 hg382 (fun hlt => by rcases hSb with hq | hq; exact hq; omega)
      exact ⟨k + 1, (valT y325), h386.sub ⟨rfl, rfl, rfl, rfl, trivial⟩, rfl, by omega, by first | rfl | exact hpush, by first | exact fun _ => rfl | exact fun h => absurd h (by omega), hk380', hO389, hO392, hr395, hr398, hr401, hB404⟩
end Go.Proofs.Ythmljllgfigebaa
