/- catenalaw22: LinkFair. Conditions: none. -/
import Derived.Test.YthmljllgfigebaaLo8
import Derived.Test.YthmljllgfigebaaPrULo
namespace Go.Proofs.Ythmljllgfigebaa
open Go.RowKit Go.PlainAid
set_option linter.unusedVariables false
set_option linter.unusedSimpArgs false


section
variable {Pg : Program} {n : Nat} {m : List (Nat × Value)} {o : Oper} {S : Nat → Prop} {w x : World} {b : Nat} {P P' : PrT}
theorem own_ne_blkP {N B sz k : Nat} {e T : TypeId} {v : Value} {xs : List Value} {cs : Array Value} (h : w.ownsRow B e sz v k xs) (hb : Blk w N T cs) (hT : e ≠ T) : v.ownBlock ≠ some N := fun e1 => by
  rcases h.2 with ⟨hv, _⟩ | ⟨g, cap, cur, hv, _, hh, _⟩
  · rw [hv] at e1; cases e1
  · rw [hv] at e1
    have : g = N := by simpa [Value.ownBlock] using e1
    subst this
    unfold Blk at hb
    rw [hh] at hb
    injection hb with h1; injection h1 with h2 h3
    exact hT h3
theorem PrQ.butG {NA NB : Nat} {SA SB : Nat → Prop} {wv tv : Value} (h : PrQ NA NB SA SB wv tv S w b P) (h3 : w.grownBy x (some b)) : But S w x :=
  ⟨h3.os, h3.tape, h3.output, h3.size, fun k hk hS => h3.block k hk fun e => hS (by injection e with e; subst e; exact (h.fp _).2 (.inl rfl))⟩
theorem op_prW4 {t : TypeId} {p q : Operand} (ho : o.op = .store t p q) (hp : ev m p = some (pt b 4)) (hq : ev m q = some (.slice none 0 0)) (hs : ∀ w : World, (sizeOf t).run Pg w = .ok 1 w) (h : PrO S w b P) (he : { P with W := [] } = P') : Op1 Pg n m o w (fun _ x => ∃ S' : Nat → Prop, PrO S' x b P' ∧ Grew S S' w x) := by
  obtain ⟨NA, NB, SA, SB, wv, tv, h⟩ := h
  intro a ha K Q hN
  refine op_store1 ho hp hq rfl hs h.blk rfl a ha K Q fun v x ⟨h1, h2, h3⟩ => hN v x ?_
  have h1' : Blk x b 95 (prC NA NB P (.slice none 0 0) tv) := h1
  have hne := own_ne_blkP h.to h.blk (by decide)
  subst he
  exact ⟨fun q => q = b ∨ SA q ∨ SB q ∨ (Value.slice none 0 0).ownBlock = some q ∨ tv.ownBlock = some q, ⟨NA, NB, SA, SB, _, tv, h1', LkP.gr h.hA h3 (fun k e => by injection e with e; subst e; exact h.nA), LkP.gr h.hB h3 (fun k e => by injection e with e; subst e; exact h.nB), World.ownsRow_nil _ _ _ _, row_sameL h.to (fun i hi => h3.block i (h.to.lt i hi).2 (fun e => hne (by rw [hi]; exact e))), h.ap, h.nA, h.nB, offR_nil, offR_nil, h.tA, h.tB, fun q => Iff.rfl⟩,
    ⟨fun q hq => .inl (by
      rcases hq with k | k | k | k | k
      · exact (h.fp q).2 (.inl k)
      · exact (h.fp q).2 (.inr (.inl k))
      · exact (h.fp q).2 (.inr (.inr (.inl k)))
      · simp [Value.ownBlock] at k
      · exact (h.fp q).2 (.inr (.inr (.inr (.inr k))))), h.butG h3⟩⟩
theorem op_prT5 {t : TypeId} {p q : Operand} (ho : o.op = .store t p q) (hp : ev m p = some (pt b 5)) (hq : ev m q = some (.slice none 0 0)) (hs : ∀ w : World, (sizeOf t).run Pg w = .ok 1 w) (h : PrO S w b P) (he : { P with T := [] } = P') : Op1 Pg n m o w (fun _ x => ∃ S' : Nat → Prop, PrO S' x b P' ∧ Grew S S' w x) := by
  obtain ⟨NA, NB, SA, SB, wv, tv, h⟩ := h
  intro a ha K Q hN
  refine op_store1 ho hp hq rfl hs h.blk rfl a ha K Q fun v x ⟨h1, h2, h3⟩ => hN v x ?_
  have h1' : Blk x b 95 (prC NA NB P wv (.slice none 0 0)) := h1
  have hne := own_ne_blkP h.way h.blk (by decide)
  subst he
  exact ⟨fun q => q = b ∨ SA q ∨ SB q ∨ wv.ownBlock = some q ∨ (Value.slice none 0 0).ownBlock = some q, ⟨NA, NB, SA, SB, wv, _, h1', LkP.gr h.hA h3 (fun k e => by injection e with e; subst e; exact h.nA), LkP.gr h.hB h3 (fun k e => by injection e with e; subst e; exact h.nB), row_sameL h.way (fun i hi => h3.block i (h.way.lt i hi).2 (fun e => hne (by rw [hi]; exact e))), World.ownsRow_nil _ _ _ _, h.ap, h.nA, h.nB, h.wA, h.wB, offR_nil, offR_nil, fun q => Iff.rfl⟩,
    ⟨fun q hq => .inl (by
      rcases hq with k | k | k | k | k
      · exact (h.fp q).2 (.inl k)
      · exact (h.fp q).2 (.inr (.inl k))
      · exact (h.fp q).2 (.inr (.inr (.inl k)))
      · exact (h.fp q).2 (.inr (.inr (.inr (.inl k))))
      · simp [Value.ownBlock] at k), h.butG h3⟩⟩
theorem PrO.wayK {W : List SegT} (h : PrO S w b P) (hW : P.W = W) : ∃ wv, w.cell? ⟨b, 4, none⟩ = some wv ∧ SliceOf segE 8 w wv W := by
  obtain ⟨NA, NB, SA, SB, wv, tv, h⟩ := h
  subst hW
  exact ⟨wv, h.cell4, h.sl⟩
end
theorem prOut0 (S : Nat → Prop) (b : Nat) (P : PrT) (w : World) (hP : PrO S w b (clrP P)) : Calls Try.prog 50 #[pt b 0, .int .i64 0, .bool true] w fun e w' => ∃ S' : Nat → Prop, e = .returned (.tuple #[]) ∧ PrO S' w' b (outP (clrP P) 0 true (outT P.A true).length) ∧ Grew S S' w w' :=
  (prOutK_any S b (clrP P) 0 true w hP (by show (0 : Nat) ≤ 100; omega) rfl (by decide)).mono (by rintro e x ⟨k, S', h0, h1, h2, h3, _⟩; rw [if_pos rfl] at h1; subst h1; exact ⟨S', h0, h2, h3⟩)
theorem prOut1 (S : Nat → Prop) (b : Nat) (P : PrT) (w : World) (hP : PrO S w b (outP (clrP P) 0 true (outT P.A true).length)) : Calls Try.prog 50 #[pt b 0, .int .i64 1, .bool true] w fun e w' => ∃ S' : Nat → Prop, e = .returned (.tuple #[]) ∧ PrO S' w' b (outsP P) ∧ Grew S S' w w' := by
  have hl : (outP (clrP P) 0 true (outT P.A true).length).W.length ≤ 100 := by
    have := outP_len (clrP P) 0 true (outT P.A true).length
    have h0 : (clrP P).W.length = 0 := rfl
    have := outT_len P.A true
    omega
  have ht : (outP (clrP P) 0 true (outT P.A true).length).T.length = (outP (clrP P) 0 true (outT P.A true).length).W.length := by simp [outP, clrP]
  exact (prOutK_any S b _ 1 true w hP hl ht (by decide)).mono (by rintro e x ⟨k, S', h0, h1, h2, h3, _⟩; rw [if_neg (by decide)] at h1; subst h1; exact ⟨S', h0, h2, h3⟩)
theorem prComeF (S : Nat → Prop) (b : Nat) (Q : PrT) (j : Nat) (w : World) (N : Int) (hP : PrO S w b (comesP Q j)) (h1 : PInv Q N) (hN : N ≤ 900) (h2 : FP Q) (hj : j < Q.W.length) :
    Calls Try.prog 51 #[pt b 0, .int .i64 ((j : Nat) : Int)] w fun e w' => ∃ S' : Nat → Prop, e = .returned (.tuple #[]) ∧ PrO S' w' b (comesP Q (j + 1)) ∧ Grew S S' w w' := by
  obtain ⟨i1, i2, i3, i4, i5⟩ := comes_all h1 (by omega) h2 j (by omega)
  have hl := h1.lT
  obtain ⟨y, hy⟩ : ∃ z, Q.W[j]? = some z := ⟨_, List.getElem?_eq_getElem (by omega)⟩
  obtain ⟨d, hd⟩ : ∃ z, Q.T[j]? = some z := ⟨_, List.getElem?_eq_getElem (by omega)⟩
  have st := i1.stepH (by omega)
  have hy' : (comesP Q j).W[j]? = some y := by rw [i4]; exact hy
  have hd' : (comesP Q j).T[j]? = some d := by rw [i5]; exact hd
  obtain ⟨c0, c1⟩ := st.cm j y d hy' hd'
  rw [comesP_succ hy hd]
  exact (prCome_any S b (comesP Q j) j d y w hP st.lW st.lT (by rw [i4]; exact hj) hd' hy' c0 c1 (st.sd d (List.mem_of_getElem? hd'))).mono fun e x ⟨S', e1, e2, e3, _⟩ => ⟨S', e1, e2, e3⟩

set_option maxRecDepth 100000 in
set_option maxHeartbeats 6400000 in
theorem linkFair_law (v : Value) (l : List StpT) (w : World) (hs : SliceOf stpE 3 w v l) (hok : ∀ z ∈ l, StpOk z) :
    Calls Try.prog 10 #[v] w fun e w' => e = .returned (.bool true) ∧ Below w.heap.size w w' := by
 have hB0 := Below.refl w.heap.size w
 have hl_hs := sl_len hs
 refine co_enter (n := 129) Try.func10 rfl rfl rfl [(0, v)] rfl (fun a h0 => ?_)
 refine co_seq ?_
 refine co_reg ?_
 refine pk0 (v := .bool false) h0 rfl fun a1 h1 => ?_; clear h0
 refine pl_nil ?_
 refine co_then ?_
 refine co_seq ?_
 refine co_reg ?_
 refine pw h1 rfl (op_call (args := #[]) (R := fun res xw => ∃ N S, res = pt N 0 ∧ PrO S xw N pr0 ∧ (∀ q, S q → w.heap.size ≤ q) ∧ Below w.heap.size w xw) rfl rfl rfl (by kernel_rfl) (by kernel_rfl) (Try.call48 _ _) (both_any w) (by rintro e x ⟨N, S, rfl, h⟩; exact ⟨_, rfl, _, S, rfl, h⟩)) ?_; clear h1
 rintro _ w3 a2 ⟨N4, S5, rfl, hO6, hlo7, hb8⟩ h2
 have hz9 := hb8.size
 have hlo10 : ∀ q, S5 q → w.heap.size ≤ q := fun q hq => by have := hlo7 q hq; omega
 refine pk0 (v := pt N4 0) h2 rfl fun a11 h11 => ?_; clear h2
 refine pl_nil ?_
 refine co_then ?_
 refine co_seq ?_
 refine co_seq ?_
 refine co_reg ?_
 refine pk0 (v := pt N4 0) h11 rfl fun a12 h12 => ?_; clear h11
 refine pk0 (v := .bool false) h12 rfl fun a13 h13 => ?_; clear h12
 refine pl_nil ?_
 refine co_then ?_
 refine co_false h13 rfl ?_
 refine wp_skip ?_
 refine co_then ?_
 refine co_seq ?_
 refine co_reg ?_
 refine pk0 (v := .bool false) h13 rfl fun a14 h14 => ?_; clear h13
 refine pl_nil ?_
 refine co_then ?_
 refine co_seq ?_
 refine co_seq ?_
 refine co_reg ?_
 refine pk0 (v := .int .i64 0) h14 rfl fun a15 h15 => ?_; clear h14
 refine pl_nil ?_
 refine co_then ?_
 refine wp_block ?_
 have hll := hlo10
 have hpi : PInv pr0 0 := pInv0
 have hfp : FP pr0 := fp0
 have hup : false = false → UP pr0 := fun _ => up0
 have h16 : Slots 129 [(0, v), (3, pt N4 0), (4, .bool false), (5, .int .i64 0)] _ := h15.sub ⟨rfl, rfl, rfl, rfl, trivial⟩; clear h15
 refine co_loop (fun mm a x => ∃ (i : Nat) (SP : Nat → Prop) (Pk : PrT) (sb : Bool), Slots 129 [(0, v), (3, pt N4 0), (4, .bool sb), (5, .int .i64 ((i : Nat) : Int))] a ∧ mm = l.length - i ∧ (i ≤ l.length) ∧ (i ≤ 200) ∧ (∀ q, SP q → w.heap.size ≤ q) ∧ (PInv Pk ((i : Nat) : Int)) ∧ (FP Pk) ∧ (sb = false → UP Pk) ∧ PrO SP x N4 Pk ∧ Below w.heap.size w x) (l.length - 0) ?_ ?_
 have hB17 := hb_call hB0 hb8
 · exact ⟨0, S5, pr0, false, h16.sub ⟨rfl, rfl, rfl, (slot_eq rfl (congrArg (Value.int .i64) (by first | rfl | omega))), trivial⟩, rfl, by omega, by omega, by exact hll, by exact hpi, by exact hfp, by exact hup, hO6, hB17⟩
 · rintro k18 a19 w20 ⟨i, SP, Pk, sb, h19, rfl, hi21, hi22, hi23, hi24, hi25, hi26, hf27, hB28⟩
   have hz29 := hB28.size
   have hlo30 : ∀ q, SP q → w.heap.size ≤ q := by assumption
   have hInv : PInv Pk ((i : Nat) : Int) := by assumption
   have hFi : FP Pk := by assumption
   have hUi : sb = false → UP Pk := by assumption
   refine co_seq ?_
   refine co_seq ?_
   refine co_reg ?_
   refine pk0 (v := .int .i64 ((i : Nat) : Int)) h19 rfl fun a31 h31 => ?_; clear h19
   refine pk0 (v := v) h31 rfl fun a32 h32 => ?_; clear h31
   refine pk (v := .int .i64 ((l.length : Nat) : Int)) h32 rfl (rn_len rfl rfl Try.underlying85 (hs.below hB28)) fun a33 h33 => ?_; clear h32
   refine pk0 (v := .bool (decide (((i : Nat) : Int) < ((l.length : Nat) : Int)))) h33 rfl fun a34 h34 => ?_; clear h33
   refine pk0 (v := .bool (decide (((i : Nat) : Int) < ((l.length : Nat) : Int)))) h34 rfl fun a35 h35 => ?_; clear h34
   cases hc36 : (decide (((i : Nat) : Int) < ((l.length : Nat) : Int)))
   ·
    rw [hc36] at h35
    have hp37 : ¬ (((i : Nat) : Int) < ((l.length : Nat) : Int)) := of_decide_eq_false hc36
    clear hc36
    refine psk h35 rfl fun a38 h38 => ?_; clear h35
    refine psk h38 rfl fun a39 h39 => ?_; clear h38
    refine pk0 (v := .bool false) h39 rfl fun a40 h40 => ?_; clear h39
    refine pl_nil ?_
    refine co_then ?_
    refine co_false h40 rfl ?_
    refine wp_exit ?_
    refine co_thenX ?_
    refine co_thenX ?_
    refine co_blockX ?_
    refine co_then ?_
    refine co_seq ?_
    refine co_seq ?_
    refine co_reg ?_
    refine pk0 (v := .int .i64 0) h40 rfl fun a41 h41 => ?_; clear h40
    refine pl_nil ?_
    refine co_then ?_
    refine wp_block ?_
    have hPI : PInv Pk ((i : Nat) : Int) := hInv
    have hFP : FP Pk := hFi
    have hUP : sb = false → UP Pk := hUi
    have hll := hlo30
    have hO9 : PrO SP w20 N4 (rndsP Pk 0) := hf27
    have h42 : Slots 129 [(0, v), (3, pt N4 0), (4, .bool sb), (6, .int .i64 0)] _ := h41.sub ⟨rfl, rfl, rfl, rfl, trivial⟩; clear h41
    refine co_loop (fun mm a x => ∃ (r : Nat) (SR : Nat → Prop), Slots 129 [(0, v), (3, pt N4 0), (4, .bool sb), (6, .int .i64 ((r : Nat) : Int))] a ∧ mm = 8 - r ∧ (r ≤ 8) ∧ (∀ q, SR q → w.heap.size ≤ q) ∧ PrO SR x N4 (rndsP Pk r) ∧ Below w.heap.size w x) (8 - 0) ?_ ?_
    · exact ⟨0, SP, h42.sub ⟨rfl, rfl, rfl, (slot_eq rfl (congrArg (Value.int .i64) (by first | rfl | omega))), trivial⟩, rfl, by omega, by exact hll, hO9, hB28⟩
    · rintro k43 a44 w45 ⟨r, SR, h44, rfl, hi46, hi47, hf48, hB49⟩
      have hz50 := hB49.size
      have hlo51 : ∀ q, SR q → w.heap.size ≤ q := by assumption
      have hra := fun h8 : r ≤ 8 => rnds_all hPI (by omega) (by omega) hFP r h8
      refine co_seq ?_
      refine co_seq ?_
      refine co_reg ?_
      refine pk0 (v := .int .i64 ((r : Nat) : Int)) h44 rfl fun a52 h52 => ?_; clear h44
      refine pk0 (v := .bool (decide (((r : Nat) : Int) < 8))) h52 rfl fun a53 h53 => ?_; clear h52
      refine pk0 (v := .bool (decide (((r : Nat) : Int) < 8))) h53 rfl fun a54 h54 => ?_; clear h53
      cases hc55 : (decide (((r : Nat) : Int) < 8))
      ·
       rw [hc55] at h54
       have hp56 : ¬ (((r : Nat) : Int) < 8) := of_decide_eq_false hc55
       clear hc55
       refine psk h54 rfl fun a57 h57 => ?_; clear h54
       refine psk h57 rfl fun a58 h58 => ?_; clear h57
       refine psk h58 rfl fun a59 h59 => ?_; clear h58
       refine psk h59 rfl fun a60 h60 => ?_; clear h59
       refine pk0 (v := .bool false) h60 rfl fun a61 h61 => ?_; clear h60
       refine pl_nil ?_
       refine co_then ?_
       refine co_false h61 rfl ?_
       refine wp_exit ?_
       refine co_thenX ?_
       refine co_thenX ?_
       refine co_blockX ?_
       refine co_then ?_
       refine co_seq ?_
       refine co_seq ?_
       refine co_reg ?_
       refine pk0 (v := pt N4 0) h61 rfl fun a62 h62 => ?_; clear h61
       refine pk0 (v := pt N4 0) h62 rfl fun a63 h63 => ?_; clear h62
       refine pk0 (v := pt N4 10) h63 rfl fun a64 h64 => ?_; clear h63
       refine pk (v := .bool true) h64 rfl (rn_load1 rfl rfl Try.isAgg4 (PrO.okc hf48)) fun a65 h65 => ?_; clear h64
       refine pk0 (v := .bool false) h65 rfl fun a66 h66 => ?_; clear h65
       refine pk0 (v := .bool false) h66 rfl fun a67 h67 => ?_; clear h66
       refine pk0 (v := pt N4 0) h67 rfl fun a68 h68 => ?_; clear h67
       refine pk0 (v := pt N4 0) h68 rfl fun a69 h69 => ?_; clear h68
       refine pk0 (v := pt N4 0) h69 rfl fun a70 h70 => ?_; clear h69
       refine pk0 (v := pt N4 0) h70 rfl fun a71 h71 => ?_; clear h70
       have hO8 := hf48
       obtain ⟨NA, NB, SA, SB, wv, tv, hQ⟩ := hO8
       have hBk : Blk w45 N4 95 #[pt NA 0, pt NB 0, .int .i64 ((rndsP Pk r).b0), .int .i64 ((rndsP Pk r).b1), wv, tv, .int .i64 ((rndsP Pk r).s0), .int .i64 ((rndsP Pk r).s1), .int .i64 ((rndsP Pk r).t0), .int .i64 ((rndsP Pk r).t1), .bool true] := hQ.blk
       have hr8 : r = 8 := by omega
       have hem := fair_empty hPI (by omega) (by omega) hFP
       have htd := fair_told hPI (by omega) (by omega) hFP
       rw [← hr8] at hem htd
       have hlA : (rndsP Pk r).A.q.length = 0 := by rw [hem.1]; rfl
       have hlB : (rndsP Pk r).B.q.length = 0 := by rw [hem.2]; rfl
       refine pk (v := pt NA 0) h71 rfl (rn_load1 rfl rfl Try.isAgg53 (hBk.cell rfl)) fun a72 h72 => ?_; clear h71
       refine pw h72 rfl (op_call (args := #[pt NA 0]) (R := fun res xw => res = .int .i64 (((rndsP Pk r).A.q.length : Nat) : Int) ∧ w45 = xw) rfl rfl rfl (by kernel_rfl) (by kernel_rfl) (Try.call41 _ _) (kWaiting w45 hQ.hA) (by rintro e x ⟨rfl, rfl⟩; exact ⟨_, rfl, rfl, rfl⟩)) ?_; clear h72
       rintro _ _ a73 ⟨rfl, rfl⟩ h73
       refine pk0 (v := .bool ((((rndsP Pk r).A.q.length : Nat) : Int) != 0)) h73 rfl fun a75 h75 => ?_; clear h73
       refine pk0 (v := .bool ((((rndsP Pk r).A.q.length : Nat) : Int) != 0)) h75 rfl fun a76 h76 => ?_; clear h75
       refine pk0 (v := .bool ((((rndsP Pk r).A.q.length : Nat) : Int) != 0)) h76 rfl fun a77 h77 => ?_; clear h76
       have hc78 : ((((rndsP Pk r).A.q.length : Nat) : Int) != 0) = false := by rw [hlA]; rfl
       rw [hc78] at h77; clear hc78
       refine pk0 (v := pt N4 0) h77 rfl fun a79 h79 => ?_; clear h77
       refine pk0 (v := pt N4 0) h79 rfl fun a80 h80 => ?_; clear h79
       refine pk0 (v := pt N4 0) h80 rfl fun a81 h81 => ?_; clear h80
       refine pk0 (v := pt N4 1) h81 rfl fun a82 h82 => ?_; clear h81
       refine pk (v := pt NB 0) h82 rfl (rn_load1 rfl rfl Try.isAgg53 (hBk.cell rfl)) fun a83 h83 => ?_; clear h82
       refine pw h83 rfl (op_call (args := #[pt NB 0]) (R := fun res xw => res = .int .i64 (((rndsP Pk r).B.q.length : Nat) : Int) ∧ w45 = xw) rfl rfl rfl (by kernel_rfl) (by kernel_rfl) (Try.call41 _ _) (kWaiting w45 hQ.hB) (by rintro e x ⟨rfl, rfl⟩; exact ⟨_, rfl, rfl, rfl⟩)) ?_; clear h83
       rintro _ _ a84 ⟨rfl, rfl⟩ h84
       refine pk0 (v := .bool ((((rndsP Pk r).B.q.length : Nat) : Int) != 0)) h84 rfl fun a86 h86 => ?_; clear h84
       refine pk0 (v := .bool ((((rndsP Pk r).B.q.length : Nat) : Int) != 0)) h86 rfl fun a87 h87 => ?_; clear h86
       refine pl_nil ?_
       refine co_then ?_
       have hc88 : ((((rndsP Pk r).B.q.length : Nat) : Int) != 0) = false := by rw [hlB]; rfl
       rw [hc88] at h87; clear hc88
       refine co_false h87 rfl ?_
       refine wp_skip ?_
       refine co_then ?_
       refine co_seq ?_
       refine dr_gen (fun x => Below w.heap.size w x ∧ Blk x N4 95 #[pt NA 0, pt NB 0, .int .i64 ((rndsP Pk r).b0), .int .i64 ((rndsP Pk r).b1), wv, tv, .int .i64 ((rndsP Pk r).s0), .int .i64 ((rndsP Pk r).s1), .int .i64 ((rndsP Pk r).t0), .int .i64 ((rndsP Pk r).t1), .bool true]) (by kernel_rfl) (fun w89 hg90 => ?_) (fun w89 hg90 => ?_)
       ·
        have hz91 := hg90.size
        have hB92 := hb_new hB49 hg90
        have hk93 := hBk.kept hg90 (by simp)
        exact ⟨hB92, hk93⟩
       have hz94 := hg90.size
       have hB95 := hb_new hB49 hg90
       have hk96 := hBk.kept hg90 (by simp)
       refine dk0 0 (v := .bool sb) h87 rfl rfl ⟨hB95, hk96⟩ fun a97 h97 => ?_; clear h87
       refine dk0 1 (v := .bool sb) h97 rfl rfl ⟨hB95, hk96⟩ fun a98 h98 => ?_; clear h97
       cases hc99 : (sb)
       ·
        rw [hc99] at h98
        refine dk0 2 (v := pt N4 0) h98 rfl rfl ⟨hB95, hk96⟩ fun a100 h100 => ?_; clear h98
        refine dk0 3 (v := pt N4 0) h100 rfl rfl ⟨hB95, hk96⟩ fun a101 h101 => ?_; clear h100
        refine dk0 4 (v := pt N4 8) h101 rfl rfl ⟨hB95, hk96⟩ fun a102 h102 => ?_; clear h101
        refine dk0 5 (v := pt N4 8) h102 rfl rfl ⟨hB95, hk96⟩ fun a103 h103 => ?_; clear h102
        refine dk 6 (v := .int .i64 ((rndsP Pk r).t0)) h103 rfl rfl ⟨hB95, hk96⟩ (fun x hx => (rn_load1 rfl rfl Try.isAgg3 (hx.2.cell rfl))) fun a104 h104 => ?_; clear h103
        refine dk0 7 (v := pt N4 0) h104 rfl rfl ⟨hB95, hk96⟩ fun a105 h105 => ?_; clear h104
        refine dk0 8 (v := pt N4 0) h105 rfl rfl ⟨hB95, hk96⟩ fun a106 h106 => ?_; clear h105
        refine dk0 9 (v := pt N4 6) h106 rfl rfl ⟨hB95, hk96⟩ fun a107 h107 => ?_; clear h106
        refine dk0 10 (v := pt N4 7) h107 rfl rfl ⟨hB95, hk96⟩ fun a108 h108 => ?_; clear h107
        refine dk 11 (v := .int .i64 ((rndsP Pk r).s1)) h108 rfl rfl ⟨hB95, hk96⟩ (fun x hx => (rn_load1 rfl rfl Try.isAgg3 (hx.2.cell rfl))) fun a109 h109 => ?_; clear h108
        refine dk0 12 (v := .bool ((rndsP Pk r).t0 == (rndsP Pk r).s1)) h109 rfl rfl ⟨hB95, hk96⟩ fun a110 h110 => ?_; clear h109
        refine dk0 13 (v := .bool ((rndsP Pk r).t0 == (rndsP Pk r).s1)) h110 rfl rfl ⟨hB95, hk96⟩ fun a111 h111 => ?_; clear h110
        have hc112 : ((rndsP Pk r).t0 == (rndsP Pk r).s1) = true := beq_iff_eq.2 (htd (hUP (by assumption))).1
        rw [hc112] at h111; clear hc112
        refine dk0 14 (v := pt N4 0) h111 rfl rfl ⟨hB95, hk96⟩ fun a113 h113 => ?_; clear h111
        refine dk0 15 (v := pt N4 0) h113 rfl rfl ⟨hB95, hk96⟩ fun a114 h114 => ?_; clear h113
        refine dk0 16 (v := pt N4 8) h114 rfl rfl ⟨hB95, hk96⟩ fun a115 h115 => ?_; clear h114
        refine dk0 17 (v := pt N4 9) h115 rfl rfl ⟨hB95, hk96⟩ fun a116 h116 => ?_; clear h115
        refine dk 18 (v := .int .i64 ((rndsP Pk r).t1)) h116 rfl rfl ⟨hB95, hk96⟩ (fun x hx => (rn_load1 rfl rfl Try.isAgg3 (hx.2.cell rfl))) fun a117 h117 => ?_; clear h116
        refine dk0 19 (v := pt N4 0) h117 rfl rfl ⟨hB95, hk96⟩ fun a118 h118 => ?_; clear h117
        refine dk0 20 (v := pt N4 0) h118 rfl rfl ⟨hB95, hk96⟩ fun a119 h119 => ?_; clear h118
        refine dk0 21 (v := pt N4 6) h119 rfl rfl ⟨hB95, hk96⟩ fun a120 h120 => ?_; clear h119
        refine dk0 22 (v := pt N4 6) h120 rfl rfl ⟨hB95, hk96⟩ fun a121 h121 => ?_; clear h120
        refine dk 23 (v := .int .i64 ((rndsP Pk r).s0)) h121 rfl rfl ⟨hB95, hk96⟩ (fun x hx => (rn_load1 rfl rfl Try.isAgg3 (hx.2.cell rfl))) fun a122 h122 => ?_; clear h121
        refine dk0 24 (v := .bool ((rndsP Pk r).t1 == (rndsP Pk r).s0)) h122 rfl rfl ⟨hB95, hk96⟩ fun a123 h123 => ?_; clear h122
        refine dk0 25 (v := .bool ((rndsP Pk r).t1 == (rndsP Pk r).s0)) h123 rfl rfl ⟨hB95, hk96⟩ fun a124 h124 => ?_; clear h123
        refine dk0 26 (v := .bool ((rndsP Pk r).t1 == (rndsP Pk r).s0)) h124 rfl rfl ⟨hB95, hk96⟩ fun a125 h125 => ?_; clear h124
        refine dk0 27 (v := .bool ((rndsP Pk r).t1 == (rndsP Pk r).s0)) h125 rfl rfl ⟨hB95, hk96⟩ fun a126 h126 => ?_; clear h125
        have hc127 : ((rndsP Pk r).t1 == (rndsP Pk r).s0) = true := beq_iff_eq.2 (htd (hUP (by assumption))).2
        rw [hc127] at h126; clear hc127
        refine d1 28 h126 rfl rfl (op_call (args := #[]) (R := fun res xw => res = .bool true ∧ Below w89.heap.size w89 xw) rfl rfl rfl (by kernel_rfl) (by kernel_rfl) (Try.call43 _ _) (awake22 w89) (by rintro e x ⟨rfl, h⟩; exact ⟨_, rfl, rfl, h⟩)) ?_ ?_; clear h126
        ·
         rintro _ w129 ⟨rfl, hb130⟩
         have hz131 := hb130.size
         have hB132 := hb_call hB95 hb130
         have hk133 := hk96.below hb130
         exact ⟨hB132, hk133⟩
        rintro _ w129 a128 ⟨rfl, hb130⟩ h128
        have hz131 := hb130.size
        have hB132 := hb_call hB95 hb130
        have hk133 := hk96.below hb130
        refine dk0 29 (v := .bool true) h128 rfl rfl ⟨hB132, hk133⟩ fun a134 h134 => ?_; clear h128
        refine dk0 30 (v := .bool true) h134 rfl rfl ⟨hB132, hk133⟩ fun a135 h135 => ?_; clear h134
        refine dr_done (by kernel_rfl) ?_
        refine co_then ?_
        refine wp_ret ?_
        refine co_ret1 h135 rfl rfl ?_
        exact ⟨rfl, hB132⟩
       ·
        rw [hc99] at h98
        refine dsk 2 h98 rfl rfl ⟨hB95, hk96⟩ fun a136 h136 => ?_; clear h98
        refine dsk 3 h136 rfl rfl ⟨hB95, hk96⟩ fun a137 h137 => ?_; clear h136
        refine dsk 4 h137 rfl rfl ⟨hB95, hk96⟩ fun a138 h138 => ?_; clear h137
        refine dsk 5 h138 rfl rfl ⟨hB95, hk96⟩ fun a139 h139 => ?_; clear h138
        refine dsk 6 h139 rfl rfl ⟨hB95, hk96⟩ fun a140 h140 => ?_; clear h139
        refine dsk 7 h140 rfl rfl ⟨hB95, hk96⟩ fun a141 h141 => ?_; clear h140
        refine dsk 8 h141 rfl rfl ⟨hB95, hk96⟩ fun a142 h142 => ?_; clear h141
        refine dsk 9 h142 rfl rfl ⟨hB95, hk96⟩ fun a143 h143 => ?_; clear h142
        refine dsk 10 h143 rfl rfl ⟨hB95, hk96⟩ fun a144 h144 => ?_; clear h143
        refine dsk 11 h144 rfl rfl ⟨hB95, hk96⟩ fun a145 h145 => ?_; clear h144
        refine dsk 12 h145 rfl rfl ⟨hB95, hk96⟩ fun a146 h146 => ?_; clear h145
        refine dsk 13 h146 rfl rfl ⟨hB95, hk96⟩ fun a147 h147 => ?_; clear h146
        refine dsk 14 h147 rfl rfl ⟨hB95, hk96⟩ fun a148 h148 => ?_; clear h147
        refine dsk 15 h148 rfl rfl ⟨hB95, hk96⟩ fun a149 h149 => ?_; clear h148
        refine dsk 16 h149 rfl rfl ⟨hB95, hk96⟩ fun a150 h150 => ?_; clear h149
        refine dsk 17 h150 rfl rfl ⟨hB95, hk96⟩ fun a151 h151 => ?_; clear h150
        refine dsk 18 h151 rfl rfl ⟨hB95, hk96⟩ fun a152 h152 => ?_; clear h151
        refine dsk 19 h152 rfl rfl ⟨hB95, hk96⟩ fun a153 h153 => ?_; clear h152
        refine dsk 20 h153 rfl rfl ⟨hB95, hk96⟩ fun a154 h154 => ?_; clear h153
        refine dsk 21 h154 rfl rfl ⟨hB95, hk96⟩ fun a155 h155 => ?_; clear h154
        refine dsk 22 h155 rfl rfl ⟨hB95, hk96⟩ fun a156 h156 => ?_; clear h155
        refine dsk 23 h156 rfl rfl ⟨hB95, hk96⟩ fun a157 h157 => ?_; clear h156
        refine dsk 24 h157 rfl rfl ⟨hB95, hk96⟩ fun a158 h158 => ?_; clear h157
        refine dsk 25 h158 rfl rfl ⟨hB95, hk96⟩ fun a159 h159 => ?_; clear h158
        refine dk0 26 (v := .bool true) h159 rfl rfl ⟨hB95, hk96⟩ fun a160 h160 => ?_; clear h159
        refine dk0 27 (v := .bool true) h160 rfl rfl ⟨hB95, hk96⟩ fun a161 h161 => ?_; clear h160
        refine d1 28 h161 rfl rfl (op_call (args := #[]) (R := fun res xw => res = .bool true ∧ Below w89.heap.size w89 xw) rfl rfl rfl (by kernel_rfl) (by kernel_rfl) (Try.call43 _ _) (awake22 w89) (by rintro e x ⟨rfl, h⟩; exact ⟨_, rfl, rfl, h⟩)) ?_ ?_; clear h161
        ·
         rintro _ w163 ⟨rfl, hb164⟩
         have hz165 := hb164.size
         have hB166 := hb_call hB95 hb164
         have hk167 := hk96.below hb164
         exact ⟨hB166, hk167⟩
        rintro _ w163 a162 ⟨rfl, hb164⟩ h162
        have hz165 := hb164.size
        have hB166 := hb_call hB95 hb164
        have hk167 := hk96.below hb164
        refine dk0 29 (v := .bool true) h162 rfl rfl ⟨hB166, hk167⟩ fun a168 h168 => ?_; clear h162
        refine dk0 30 (v := .bool true) h168 rfl rfl ⟨hB166, hk167⟩ fun a169 h169 => ?_; clear h168
        refine dr_done (by kernel_rfl) ?_
        refine co_then ?_
        refine wp_ret ?_
        refine co_ret1 h169 rfl rfl ?_
        exact ⟨rfl, hB166⟩
      ·
       rw [hc55] at h54
       have hp170 : ((r : Nat) : Int) < 8 := of_decide_eq_true hc55
       clear hc55
       refine pk0 (v := pt N4 0) h54 rfl fun a171 h171 => ?_; clear h54
       refine pk0 (v := pt N4 0) h171 rfl fun a172 h172 => ?_; clear h171
       refine pk0 (v := pt N4 10) h172 rfl fun a173 h173 => ?_; clear h172
       refine pk (v := .bool true) h173 rfl (rn_load1 rfl rfl Try.isAgg4 (PrO.okc hf48)) fun a174 h174 => ?_; clear h173
       refine pk0 (v := .bool true) h174 rfl fun a175 h175 => ?_; clear h174
       refine pl_nil ?_
       refine co_then ?_
       refine co_true h175 rfl ?_
       refine wp_skip ?_
       refine co_then ?_
       refine co_seq ?_
       refine wp_block ?_
       refine co_seq ?_
       refine co_reg ?_
       refine pk0 (v := pt N4 0) h175 rfl fun a176 h176 => ?_; clear h175
       refine pk0 (v := pt N4 0) h176 rfl fun a177 h177 => ?_; clear h176
       refine pk0 (v := pt N4 4) h177 rfl fun a178 h178 => ?_; clear h177
       have ho181 := PrO.ofS hf48
       refine pwD h178 rfl (op_prW4 (P' := { (rndsP Pk r) with W := [] }) rfl rfl rfl Try.sizeOf67 hf48 rfl) ?_; clear h178
       rintro _ w180 a179 ⟨S182, hO183, hx184⟩ h179
       have hlo186 : ∀ q, S182 q → w.heap.size ≤ q := hx184.lo hlo51 (by omega)
       have hB185 := hbL hB49 hlo51 hx184.but
       have hz187 := hB185.size
       have hz188 := hx184.but.size
       refine pl_nil ?_
       refine co_then ?_
       refine co_seq ?_
       refine co_reg ?_
       refine pk0 (v := pt N4 0) h179 rfl fun a189 h189 => ?_; clear h179
       refine pk0 (v := pt N4 0) h189 rfl fun a190 h190 => ?_; clear h189
       refine pk0 (v := pt N4 5) h190 rfl fun a191 h191 => ?_; clear h190
       have ho194 := PrO.ofS hO183
       refine pwD h191 rfl (op_prT5 (P' := (clrP (rndsP Pk r))) rfl rfl rfl Try.sizeOf93 hO183 rfl) ?_; clear h191
       rintro _ w193 a192 ⟨S195, hO196, hx197⟩ h192
       have hlo199 : ∀ q, S195 q → w.heap.size ≤ q := hx197.lo hlo186 (by omega)
       have hB198 := hbL hB185 hlo186 hx197.but
       have hz200 := hB198.size
       have hz201 := hx197.but.size
       refine pl_nil ?_
       refine co_then ?_
       refine co_seq ?_
       refine co_reg ?_
       refine pk0 (v := pt N4 0) h192 rfl fun a202 h202 => ?_; clear h192
       have ho205 := PrO.ofS hO196
       refine pw h202 rfl (op_call (args := #[pt N4 0, .int .i64 0, .bool true]) (R := fun res xw => ∃ S' : Nat → Prop, res = .tuple #[] ∧ PrO S' xw N4 (outP (clrP (rndsP Pk r)) 0 true (outT (rndsP Pk r).A true).length) ∧ Grew S195 S' w193 xw) rfl rfl rfl (by kernel_rfl) (by kernel_rfl) (Try.call50 _ _) (prOut0 S195 N4 (rndsP Pk r) w193 hO196) (by rintro e x ⟨S', h0, h⟩; exact ⟨_, h0, S', rfl, h⟩)) ?_; clear h202
       rintro _ w204 a203 ⟨S206, rfl, hO207, hx208⟩ h203
       have hlo210 : ∀ q, S206 q → w.heap.size ≤ q := hx208.lo hlo199 (by omega)
       have hB209 := hbL hB198 hlo199 hx208.but
       have hz211 := hB209.size
       have hz212 := hx208.but.size
       refine pl_nil ?_
       refine co_then ?_
       refine co_seq ?_
       refine co_reg ?_
       refine pk0 (v := pt N4 0) h203 rfl fun a213 h213 => ?_; clear h203
       have ho216 := PrO.ofS hO207
       refine pw h213 rfl (op_call (args := #[pt N4 0, .int .i64 1, .bool true]) (R := fun res xw => ∃ S' : Nat → Prop, res = .tuple #[] ∧ PrO S' xw N4 (outsP (rndsP Pk r)) ∧ Grew S206 S' w204 xw) rfl rfl rfl (by kernel_rfl) (by kernel_rfl) (Try.call50 _ _) (prOut1 S206 N4 (rndsP Pk r) w204 hO207) (by rintro e x ⟨S', h0, h⟩; exact ⟨_, h0, S', rfl, h⟩)) ?_; clear h213
       rintro _ w215 a214 ⟨S217, rfl, hO218, hx219⟩ h214
       have hlo221 : ∀ q, S217 q → w.heap.size ≤ q := hx219.lo hlo210 (by omega)
       have hB220 := hbL hB209 hlo210 hx219.but
       have hz222 := hB220.size
       have hz223 := hx219.but.size
       refine pl_nil ?_
       refine co_then ?_
       refine co_seq ?_
       refine co_reg ?_
       refine pk0 (v := .int .i64 0) h214 rfl fun a224 h224 => ?_; clear h214
       refine pl_nil ?_
       refine co_then ?_
       refine wp_block ?_
       obtain ⟨hq1, hq2, -⟩ := outs_all (hra (by omega)).1 (by omega) (by omega) (hra (by omega)).2.1
       have hll := hlo221
       have hO9 : PrO S217 w215 N4 (comesP (outsP (rndsP Pk r)) 0) := hO218
       have h225 : Slots 129 [(0, v), (3, pt N4 0), (4, .bool sb), (6, .int .i64 ((r : Nat) : Int)), (7, .int .i64 0)] _ := h224.sub ⟨rfl, rfl, rfl, rfl, rfl, trivial⟩; clear h224
       refine co_loop (fun mm a x => ∃ (j : Nat) (SJ : Nat → Prop), Slots 129 [(0, v), (3, pt N4 0), (4, .bool sb), (6, .int .i64 ((r : Nat) : Int)), (7, .int .i64 ((j : Nat) : Int))] a ∧ mm = (outsP (rndsP Pk r)).W.length - j ∧ (j ≤ (outsP (rndsP Pk r)).W.length) ∧ (∀ q, SJ q → w.heap.size ≤ q) ∧ PrO SJ x N4 (comesP (outsP (rndsP Pk r)) j) ∧ Below w.heap.size w x) ((outsP (rndsP Pk r)).W.length - 0) ?_ ?_
       · exact ⟨0, S217, h225.sub ⟨rfl, rfl, rfl, rfl, (slot_eq rfl (congrArg (Value.int .i64) (by first | rfl | omega))), trivial⟩, rfl, by omega, by exact hll, hO9, hB220⟩
       · rintro k226 a227 w228 ⟨j, SJ, h227, rfl, hi229, hi230, hf231, hB232⟩
         have hz233 := hB232.size
         have hlo234 : ∀ q, SJ q → w.heap.size ≤ q := by assumption
         have hlW9 := hq1.lW
         have hcW : (comesP (outsP (rndsP Pk r)) j).W = (outsP (rndsP Pk r)).W := (comes_all hq1 (by omega) hq2 j (by omega)).2.2.2.1
         refine co_seq ?_
         refine co_seq ?_
         refine co_reg ?_
         refine pk0 (v := .int .i64 ((j : Nat) : Int)) h227 rfl fun a235 h235 => ?_; clear h227
         refine pk0 (v := pt N4 0) h235 rfl fun a236 h236 => ?_; clear h235
         refine pk0 (v := pt N4 0) h236 rfl fun a237 h237 => ?_; clear h236
         refine pk0 (v := pt N4 4) h237 rfl fun a238 h238 => ?_; clear h237
         obtain ⟨wv239, hwv240, hsl241⟩ := PrO.wayK hf231 hcW
         refine pk (v := wv239) h238 rfl (rn_load1 rfl rfl Try.isAgg67 hwv240) fun a242 h242 => ?_; clear h238
         refine pk (v := .int .i64 ((((outsP (rndsP Pk r)).W).length : Nat) : Int)) h242 rfl (rn_len rfl rfl Try.underlying67 hsl241) fun a243 h243 => ?_; clear h242
         refine pk0 (v := .bool (decide (((j : Nat) : Int) < ((((outsP (rndsP Pk r)).W).length : Nat) : Int)))) h243 rfl fun a244 h244 => ?_; clear h243
         refine pl_nil ?_
         refine co_then ?_
         cases hc245 : (decide (((j : Nat) : Int) < ((((outsP (rndsP Pk r)).W).length : Nat) : Int)))
         ·
          rw [hc245] at h244
          have hp246 : ¬ (((j : Nat) : Int) < ((((outsP (rndsP Pk r)).W).length : Nat) : Int)) := of_decide_eq_false hc245
          clear hc245
          refine co_false h244 rfl ?_
          refine wp_exit ?_
          refine co_thenX ?_
          refine co_thenX ?_
          refine co_blockX ?_
          refine co_blockN ?_
          refine co_then ?_
          refine co_reg ?_
          refine pk0 (v := .int .i64 ((r : Nat) : Int)) h244 rfl fun a247 h247 => ?_; clear h244
          refine pk (v := .int .i64 ((r + 1 : Nat) : Int)) h247 rfl (rn_arith' rfl rfl rfl rfl rfl rfl (IntWalk.i64_in _ (by omega)) (by omega)) fun a248 h248 => ?_; clear h247
          refine pk0 (v := .int .i64 ((r + 1 : Nat) : Int)) h248 rfl fun a249 h249 => ?_; clear h248
          refine pl_nil ?_
          refine co_then ?_
          refine ⟨(8 - (r + 1)), by omega, ?_⟩
          have hll := hlo234
          have hje : j = (outsP (rndsP Pk r)).W.length := by omega
          have hO9 : PrO SJ w228 N4 (rndsP Pk (r + 1)) := by have h9 := hf231; rw [hje] at h9; exact h9
          exact ⟨r + 1, SJ, h249.sub ⟨rfl, rfl, rfl, rfl, trivial⟩, rfl, by omega, by exact hll, hO9, hB232⟩
         ·
          rw [hc245] at h244
          have hp250 : ((j : Nat) : Int) < ((((outsP (rndsP Pk r)).W).length : Nat) : Int) := of_decide_eq_true hc245
          clear hc245
          refine co_true h244 rfl ?_
          refine wp_skip ?_
          refine co_then ?_
          refine co_seq ?_
          refine wp_block ?_
          refine co_reg ?_
          refine pk0 (v := pt N4 0) h244 rfl fun a251 h251 => ?_; clear h244
          refine pk0 (v := .int .i64 ((j : Nat) : Int)) h251 rfl fun a252 h252 => ?_; clear h251
          have ho255 := PrO.ofS hf231
          refine pw h252 rfl (op_call (args := #[pt N4 0, .int .i64 ((j : Nat) : Int)]) (R := fun res xw => ∃ S' : Nat → Prop, res = .tuple #[] ∧ PrO S' xw N4 (comesP (outsP (rndsP Pk r)) (j + 1)) ∧ Grew SJ S' w228 xw) rfl rfl rfl (by kernel_rfl) (by kernel_rfl) (Try.call51 _ _) (prComeF SJ N4 (outsP (rndsP Pk r)) j w228 _ hf231 hq1 (by omega) hq2 (by omega)) (by rintro e x ⟨S', h0, h⟩; exact ⟨_, h0, S', rfl, h⟩)) ?_; clear h252
          rintro _ w254 a253 ⟨S256, rfl, hO257, hx258⟩ h253
          have hlo260 : ∀ q, S256 q → w.heap.size ≤ q := hx258.lo hlo234 (by omega)
          have hB259 := hbL hB232 hlo234 hx258.but
          have hz261 := hB259.size
          have hz262 := hx258.but.size
          refine pl_nil ?_
          refine co_blockN ?_
          refine co_then ?_
          refine co_reg ?_
          refine pk0 (v := .int .i64 ((j : Nat) : Int)) h253 rfl fun a263 h263 => ?_; clear h253
          refine pk (v := .int .i64 ((j + 1 : Nat) : Int)) h263 rfl (rn_arith' rfl rfl rfl rfl rfl rfl (IntWalk.i64_in _ (by omega)) (by omega)) fun a264 h264 => ?_; clear h263
          refine pk0 (v := .int .i64 ((j + 1 : Nat) : Int)) h264 rfl fun a265 h265 => ?_; clear h264
          refine pl_nil ?_
          refine co_then ?_
          refine ⟨((outsP (rndsP Pk r)).W.length - (j + 1)), by omega, ?_⟩
          have hll := hlo260
          have hO9 := hO257
          exact ⟨j + 1, S256, h265.sub ⟨rfl, rfl, rfl, rfl, rfl, trivial⟩, rfl, by omega, by exact hll, hO9, hB259⟩
   ·
    rw [hc36] at h35
    have hp266 : ((i : Nat) : Int) < ((l.length : Nat) : Int) := of_decide_eq_true hc36
    clear hc36
    refine pk0 (v := .int .i64 ((i : Nat) : Int)) h35 rfl fun a267 h267 => ?_; clear h35
    refine pk0 (v := .bool (decide (((i : Nat) : Int) < 200))) h267 rfl fun a268 h268 => ?_; clear h267
    refine pk0 (v := .bool (decide (((i : Nat) : Int) < 200))) h268 rfl fun a269 h269 => ?_; clear h268
    refine pl_nil ?_
    refine co_then ?_
    cases hc270 : (decide (((i : Nat) : Int) < 200))
    ·
     rw [hc270] at h269
     have hp271 : ¬ (((i : Nat) : Int) < 200) := of_decide_eq_false hc270
     clear hc270
     refine co_false h269 rfl ?_
     refine wp_exit ?_
     refine co_thenX ?_
     refine co_thenX ?_
     refine co_blockX ?_
     refine co_then ?_
     refine co_seq ?_
     refine co_seq ?_
     refine co_reg ?_
     refine pk0 (v := .int .i64 0) h269 rfl fun a272 h272 => ?_; clear h269
     refine pl_nil ?_
     refine co_then ?_
     refine wp_block ?_
     have hPI : PInv Pk ((i : Nat) : Int) := hInv
     have hFP : FP Pk := hFi
     have hUP : sb = false → UP Pk := hUi
     have hll := hlo30
     have hO9 : PrO SP w20 N4 (rndsP Pk 0) := hf27
     have h273 : Slots 129 [(0, v), (3, pt N4 0), (4, .bool sb), (6, .int .i64 0)] _ := h272.sub ⟨rfl, rfl, rfl, rfl, trivial⟩; clear h272
     refine co_loop (fun mm a x => ∃ (r : Nat) (SR : Nat → Prop), Slots 129 [(0, v), (3, pt N4 0), (4, .bool sb), (6, .int .i64 ((r : Nat) : Int))] a ∧ mm = 8 - r ∧ (r ≤ 8) ∧ (∀ q, SR q → w.heap.size ≤ q) ∧ PrO SR x N4 (rndsP Pk r) ∧ Below w.heap.size w x) (8 - 0) ?_ ?_
     · exact ⟨0, SP, h273.sub ⟨rfl, rfl, rfl, (slot_eq rfl (congrArg (Value.int .i64) (by first | rfl | omega))), trivial⟩, rfl, by omega, by exact hll, hO9, hB28⟩
     · rintro k274 a275 w276 ⟨r, SR, h275, rfl, hi277, hi278, hf279, hB280⟩
       have hz281 := hB280.size
       have hlo282 : ∀ q, SR q → w.heap.size ≤ q := by assumption
       have hra := fun h8 : r ≤ 8 => rnds_all hPI (by omega) (by omega) hFP r h8
       refine co_seq ?_
       refine co_seq ?_
       refine co_reg ?_
       refine pk0 (v := .int .i64 ((r : Nat) : Int)) h275 rfl fun a283 h283 => ?_; clear h275
       refine pk0 (v := .bool (decide (((r : Nat) : Int) < 8))) h283 rfl fun a284 h284 => ?_; clear h283
       refine pk0 (v := .bool (decide (((r : Nat) : Int) < 8))) h284 rfl fun a285 h285 => ?_; clear h284
       cases hc286 : (decide (((r : Nat) : Int) < 8))
       ·
        rw [hc286] at h285
        have hp287 : ¬ (((r : Nat) : Int) < 8) := of_decide_eq_false hc286
        clear hc286
        refine psk h285 rfl fun a288 h288 => ?_; clear h285
        refine psk h288 rfl fun a289 h289 => ?_; clear h288
        refine psk h289 rfl fun a290 h290 => ?_; clear h289
        refine psk h290 rfl fun a291 h291 => ?_; clear h290
        refine pk0 (v := .bool false) h291 rfl fun a292 h292 => ?_; clear h291
        refine pl_nil ?_
        refine co_then ?_
        refine co_false h292 rfl ?_
        refine wp_exit ?_
        refine co_thenX ?_
        refine co_thenX ?_
        refine co_blockX ?_
        refine co_then ?_
        refine co_seq ?_
        refine co_seq ?_
        refine co_reg ?_
        refine pk0 (v := pt N4 0) h292 rfl fun a293 h293 => ?_; clear h292
        refine pk0 (v := pt N4 0) h293 rfl fun a294 h294 => ?_; clear h293
        refine pk0 (v := pt N4 10) h294 rfl fun a295 h295 => ?_; clear h294
        refine pk (v := .bool true) h295 rfl (rn_load1 rfl rfl Try.isAgg4 (PrO.okc hf279)) fun a296 h296 => ?_; clear h295
        refine pk0 (v := .bool false) h296 rfl fun a297 h297 => ?_; clear h296
        refine pk0 (v := .bool false) h297 rfl fun a298 h298 => ?_; clear h297
        refine pk0 (v := pt N4 0) h298 rfl fun a299 h299 => ?_; clear h298
        refine pk0 (v := pt N4 0) h299 rfl fun a300 h300 => ?_; clear h299
        refine pk0 (v := pt N4 0) h300 rfl fun a301 h301 => ?_; clear h300
        refine pk0 (v := pt N4 0) h301 rfl fun a302 h302 => ?_; clear h301
        have hO8 := hf279
        obtain ⟨NA, NB, SA, SB, wv, tv, hQ⟩ := hO8
        have hBk : Blk w276 N4 95 #[pt NA 0, pt NB 0, .int .i64 ((rndsP Pk r).b0), .int .i64 ((rndsP Pk r).b1), wv, tv, .int .i64 ((rndsP Pk r).s0), .int .i64 ((rndsP Pk r).s1), .int .i64 ((rndsP Pk r).t0), .int .i64 ((rndsP Pk r).t1), .bool true] := hQ.blk
        have hr8 : r = 8 := by omega
        have hem := fair_empty hPI (by omega) (by omega) hFP
        have htd := fair_told hPI (by omega) (by omega) hFP
        rw [← hr8] at hem htd
        have hlA : (rndsP Pk r).A.q.length = 0 := by rw [hem.1]; rfl
        have hlB : (rndsP Pk r).B.q.length = 0 := by rw [hem.2]; rfl
        refine pk (v := pt NA 0) h302 rfl (rn_load1 rfl rfl Try.isAgg53 (hBk.cell rfl)) fun a303 h303 => ?_; clear h302
        refine pw h303 rfl (op_call (args := #[pt NA 0]) (R := fun res xw => res = .int .i64 (((rndsP Pk r).A.q.length : Nat) : Int) ∧ w276 = xw) rfl rfl rfl (by kernel_rfl) (by kernel_rfl) (Try.call41 _ _) (kWaiting w276 hQ.hA) (by rintro e x ⟨rfl, rfl⟩; exact ⟨_, rfl, rfl, rfl⟩)) ?_; clear h303
        rintro _ _ a304 ⟨rfl, rfl⟩ h304
        refine pk0 (v := .bool ((((rndsP Pk r).A.q.length : Nat) : Int) != 0)) h304 rfl fun a306 h306 => ?_; clear h304
        refine pk0 (v := .bool ((((rndsP Pk r).A.q.length : Nat) : Int) != 0)) h306 rfl fun a307 h307 => ?_; clear h306
        refine pk0 (v := .bool ((((rndsP Pk r).A.q.length : Nat) : Int) != 0)) h307 rfl fun a308 h308 => ?_; clear h307
        have hc309 : ((((rndsP Pk r).A.q.length : Nat) : Int) != 0) = false := by rw [hlA]; rfl
        rw [hc309] at h308; clear hc309
        refine pk0 (v := pt N4 0) h308 rfl fun a310 h310 => ?_; clear h308
        refine pk0 (v := pt N4 0) h310 rfl fun a311 h311 => ?_; clear h310
        refine pk0 (v := pt N4 0) h311 rfl fun a312 h312 => ?_; clear h311
        refine pk0 (v := pt N4 1) h312 rfl fun a313 h313 => ?_; clear h312
        refine pk (v := pt NB 0) h313 rfl (rn_load1 rfl rfl Try.isAgg53 (hBk.cell rfl)) fun a314 h314 => ?_; clear h313
        refine pw h314 rfl (op_call (args := #[pt NB 0]) (R := fun res xw => res = .int .i64 (((rndsP Pk r).B.q.length : Nat) : Int) ∧ w276 = xw) rfl rfl rfl (by kernel_rfl) (by kernel_rfl) (Try.call41 _ _) (kWaiting w276 hQ.hB) (by rintro e x ⟨rfl, rfl⟩; exact ⟨_, rfl, rfl, rfl⟩)) ?_; clear h314
        rintro _ _ a315 ⟨rfl, rfl⟩ h315
        refine pk0 (v := .bool ((((rndsP Pk r).B.q.length : Nat) : Int) != 0)) h315 rfl fun a317 h317 => ?_; clear h315
        refine pk0 (v := .bool ((((rndsP Pk r).B.q.length : Nat) : Int) != 0)) h317 rfl fun a318 h318 => ?_; clear h317
        refine pl_nil ?_
        refine co_then ?_
        have hc319 : ((((rndsP Pk r).B.q.length : Nat) : Int) != 0) = false := by rw [hlB]; rfl
        rw [hc319] at h318; clear hc319
        refine co_false h318 rfl ?_
        refine wp_skip ?_
        refine co_then ?_
        refine co_seq ?_
        refine dr_gen (fun x => Below w.heap.size w x ∧ Blk x N4 95 #[pt NA 0, pt NB 0, .int .i64 ((rndsP Pk r).b0), .int .i64 ((rndsP Pk r).b1), wv, tv, .int .i64 ((rndsP Pk r).s0), .int .i64 ((rndsP Pk r).s1), .int .i64 ((rndsP Pk r).t0), .int .i64 ((rndsP Pk r).t1), .bool true]) (by kernel_rfl) (fun w320 hg321 => ?_) (fun w320 hg321 => ?_)
        ·
         have hz322 := hg321.size
         have hB323 := hb_new hB280 hg321
         have hk324 := hBk.kept hg321 (by simp)
         exact ⟨hB323, hk324⟩
        have hz325 := hg321.size
        have hB326 := hb_new hB280 hg321
        have hk327 := hBk.kept hg321 (by simp)
        refine dk0 0 (v := .bool sb) h318 rfl rfl ⟨hB326, hk327⟩ fun a328 h328 => ?_; clear h318
        refine dk0 1 (v := .bool sb) h328 rfl rfl ⟨hB326, hk327⟩ fun a329 h329 => ?_; clear h328
        cases hc330 : (sb)
        ·
         rw [hc330] at h329
         refine dk0 2 (v := pt N4 0) h329 rfl rfl ⟨hB326, hk327⟩ fun a331 h331 => ?_; clear h329
         refine dk0 3 (v := pt N4 0) h331 rfl rfl ⟨hB326, hk327⟩ fun a332 h332 => ?_; clear h331
         refine dk0 4 (v := pt N4 8) h332 rfl rfl ⟨hB326, hk327⟩ fun a333 h333 => ?_; clear h332
         refine dk0 5 (v := pt N4 8) h333 rfl rfl ⟨hB326, hk327⟩ fun a334 h334 => ?_; clear h333
         refine dk 6 (v := .int .i64 ((rndsP Pk r).t0)) h334 rfl rfl ⟨hB326, hk327⟩ (fun x hx => (rn_load1 rfl rfl Try.isAgg3 (hx.2.cell rfl))) fun a335 h335 => ?_; clear h334
         refine dk0 7 (v := pt N4 0) h335 rfl rfl ⟨hB326, hk327⟩ fun a336 h336 => ?_; clear h335
         refine dk0 8 (v := pt N4 0) h336 rfl rfl ⟨hB326, hk327⟩ fun a337 h337 => ?_; clear h336
         refine dk0 9 (v := pt N4 6) h337 rfl rfl ⟨hB326, hk327⟩ fun a338 h338 => ?_; clear h337
         refine dk0 10 (v := pt N4 7) h338 rfl rfl ⟨hB326, hk327⟩ fun a339 h339 => ?_; clear h338
         refine dk 11 (v := .int .i64 ((rndsP Pk r).s1)) h339 rfl rfl ⟨hB326, hk327⟩ (fun x hx => (rn_load1 rfl rfl Try.isAgg3 (hx.2.cell rfl))) fun a340 h340 => ?_; clear h339
         refine dk0 12 (v := .bool ((rndsP Pk r).t0 == (rndsP Pk r).s1)) h340 rfl rfl ⟨hB326, hk327⟩ fun a341 h341 => ?_; clear h340
         refine dk0 13 (v := .bool ((rndsP Pk r).t0 == (rndsP Pk r).s1)) h341 rfl rfl ⟨hB326, hk327⟩ fun a342 h342 => ?_; clear h341
         have hc343 : ((rndsP Pk r).t0 == (rndsP Pk r).s1) = true := beq_iff_eq.2 (htd (hUP (by assumption))).1
         rw [hc343] at h342; clear hc343
         refine dk0 14 (v := pt N4 0) h342 rfl rfl ⟨hB326, hk327⟩ fun a344 h344 => ?_; clear h342
         refine dk0 15 (v := pt N4 0) h344 rfl rfl ⟨hB326, hk327⟩ fun a345 h345 => ?_; clear h344
         refine dk0 16 (v := pt N4 8) h345 rfl rfl ⟨hB326, hk327⟩ fun a346 h346 => ?_; clear h345
         refine dk0 17 (v := pt N4 9) h346 rfl rfl ⟨hB326, hk327⟩ fun a347 h347 => ?_; clear h346
         refine dk 18 (v := .int .i64 ((rndsP Pk r).t1)) h347 rfl rfl ⟨hB326, hk327⟩ (fun x hx => (rn_load1 rfl rfl Try.isAgg3 (hx.2.cell rfl))) fun a348 h348 => ?_; clear h347
         refine dk0 19 (v := pt N4 0) h348 rfl rfl ⟨hB326, hk327⟩ fun a349 h349 => ?_; clear h348
         refine dk0 20 (v := pt N4 0) h349 rfl rfl ⟨hB326, hk327⟩ fun a350 h350 => ?_; clear h349
         refine dk0 21 (v := pt N4 6) h350 rfl rfl ⟨hB326, hk327⟩ fun a351 h351 => ?_; clear h350
         refine dk0 22 (v := pt N4 6) h351 rfl rfl ⟨hB326, hk327⟩ fun a352 h352 => ?_; clear h351
         refine dk 23 (v := .int .i64 ((rndsP Pk r).s0)) h352 rfl rfl ⟨hB326, hk327⟩ (fun x hx => (rn_load1 rfl rfl Try.isAgg3 (hx.2.cell rfl))) fun a353 h353 => ?_; clear h352
         refine dk0 24 (v := .bool ((rndsP Pk r).t1 == (rndsP Pk r).s0)) h353 rfl rfl ⟨hB326, hk327⟩ fun a354 h354 => ?_; clear h353
         refine dk0 25 (v := .bool ((rndsP Pk r).t1 == (rndsP Pk r).s0)) h354 rfl rfl ⟨hB326, hk327⟩ fun a355 h355 => ?_; clear h354
         refine dk0 26 (v := .bool ((rndsP Pk r).t1 == (rndsP Pk r).s0)) h355 rfl rfl ⟨hB326, hk327⟩ fun a356 h356 => ?_; clear h355
         refine dk0 27 (v := .bool ((rndsP Pk r).t1 == (rndsP Pk r).s0)) h356 rfl rfl ⟨hB326, hk327⟩ fun a357 h357 => ?_; clear h356
         have hc358 : ((rndsP Pk r).t1 == (rndsP Pk r).s0) = true := beq_iff_eq.2 (htd (hUP (by assumption))).2
         rw [hc358] at h357; clear hc358
         refine d1 28 h357 rfl rfl (op_call (args := #[]) (R := fun res xw => res = .bool true ∧ Below w320.heap.size w320 xw) rfl rfl rfl (by kernel_rfl) (by kernel_rfl) (Try.call43 _ _) (awake22 w320) (by rintro e x ⟨rfl, h⟩; exact ⟨_, rfl, rfl, h⟩)) ?_ ?_; clear h357
         ·
          rintro _ w360 ⟨rfl, hb361⟩
          have hz362 := hb361.size
          have hB363 := hb_call hB326 hb361
          have hk364 := hk327.below hb361
          exact ⟨hB363, hk364⟩
         rintro _ w360 a359 ⟨rfl, hb361⟩ h359
         have hz362 := hb361.size
         have hB363 := hb_call hB326 hb361
         have hk364 := hk327.below hb361
         refine dk0 29 (v := .bool true) h359 rfl rfl ⟨hB363, hk364⟩ fun a365 h365 => ?_; clear h359
         refine dk0 30 (v := .bool true) h365 rfl rfl ⟨hB363, hk364⟩ fun a366 h366 => ?_; clear h365
         refine dr_done (by kernel_rfl) ?_
         refine co_then ?_
         refine wp_ret ?_
         refine co_ret1 h366 rfl rfl ?_
         exact ⟨rfl, hB363⟩
        ·
         rw [hc330] at h329
         refine dsk 2 h329 rfl rfl ⟨hB326, hk327⟩ fun a367 h367 => ?_; clear h329
         refine dsk 3 h367 rfl rfl ⟨hB326, hk327⟩ fun a368 h368 => ?_; clear h367
         refine dsk 4 h368 rfl rfl ⟨hB326, hk327⟩ fun a369 h369 => ?_; clear h368
         refine dsk 5 h369 rfl rfl ⟨hB326, hk327⟩ fun a370 h370 => ?_; clear h369
         refine dsk 6 h370 rfl rfl ⟨hB326, hk327⟩ fun a371 h371 => ?_; clear h370
         refine dsk 7 h371 rfl rfl ⟨hB326, hk327⟩ fun a372 h372 => ?_; clear h371
         refine dsk 8 h372 rfl rfl ⟨hB326, hk327⟩ fun a373 h373 => ?_; clear h372
         refine dsk 9 h373 rfl rfl ⟨hB326, hk327⟩ fun a374 h374 => ?_; clear h373
         refine dsk 10 h374 rfl rfl ⟨hB326, hk327⟩ fun a375 h375 => ?_; clear h374
         refine dsk 11 h375 rfl rfl ⟨hB326, hk327⟩ fun a376 h376 => ?_; clear h375
         refine dsk 12 h376 rfl rfl ⟨hB326, hk327⟩ fun a377 h377 => ?_; clear h376
         refine dsk 13 h377 rfl rfl ⟨hB326, hk327⟩ fun a378 h378 => ?_; clear h377
         refine dsk 14 h378 rfl rfl ⟨hB326, hk327⟩ fun a379 h379 => ?_; clear h378
         refine dsk 15 h379 rfl rfl ⟨hB326, hk327⟩ fun a380 h380 => ?_; clear h379
         refine dsk 16 h380 rfl rfl ⟨hB326, hk327⟩ fun a381 h381 => ?_; clear h380
         refine dsk 17 h381 rfl rfl ⟨hB326, hk327⟩ fun a382 h382 => ?_; clear h381
         refine dsk 18 h382 rfl rfl ⟨hB326, hk327⟩ fun a383 h383 => ?_; clear h382
         refine dsk 19 h383 rfl rfl ⟨hB326, hk327⟩ fun a384 h384 => ?_; clear h383
         refine dsk 20 h384 rfl rfl ⟨hB326, hk327⟩ fun a385 h385 => ?_; clear h384
         refine dsk 21 h385 rfl rfl ⟨hB326, hk327⟩ fun a386 h386 => ?_; clear h385
         refine dsk 22 h386 rfl rfl ⟨hB326, hk327⟩ fun a387 h387 => ?_; clear h386
         refine dsk 23 h387 rfl rfl ⟨hB326, hk327⟩ fun a388 h388 => ?_; clear h387
         refine dsk 24 h388 rfl rfl ⟨hB326, hk327⟩ fun a389 h389 => ?_; clear h388
         refine dsk 25 h389 rfl rfl ⟨hB326, hk327⟩ fun a390 h390 => ?_; clear h389
         refine dk0 26 (v := .bool true) h390 rfl rfl ⟨hB326, hk327⟩ fun a391 h391 => ?_; clear h390
         refine dk0 27 (v := .bool true) h391 rfl rfl ⟨hB326, hk327⟩ fun a392 h392 => ?_; clear h391
         refine d1 28 h392 rfl rfl (op_call (args := #[]) (R := fun res xw => res = .bool true ∧ Below w320.heap.size w320 xw) rfl rfl rfl (by kernel_rfl) (by kernel_rfl) (Try.call43 _ _) (awake22 w320) (by rintro e x ⟨rfl, h⟩; exact ⟨_, rfl, rfl, h⟩)) ?_ ?_; clear h392
         ·
          rintro _ w394 ⟨rfl, hb395⟩
          have hz396 := hb395.size
          have hB397 := hb_call hB326 hb395
          have hk398 := hk327.below hb395
          exact ⟨hB397, hk398⟩
         rintro _ w394 a393 ⟨rfl, hb395⟩ h393
         have hz396 := hb395.size
         have hB397 := hb_call hB326 hb395
         have hk398 := hk327.below hb395
         refine dk0 29 (v := .bool true) h393 rfl rfl ⟨hB397, hk398⟩ fun a399 h399 => ?_; clear h393
         refine dk0 30 (v := .bool true) h399 rfl rfl ⟨hB397, hk398⟩ fun a400 h400 => ?_; clear h399
         refine dr_done (by kernel_rfl) ?_
         refine co_then ?_
         refine wp_ret ?_
         refine co_ret1 h400 rfl rfl ?_
         exact ⟨rfl, hB397⟩
       ·
        rw [hc286] at h285
        have hp401 : ((r : Nat) : Int) < 8 := of_decide_eq_true hc286
        clear hc286
        refine pk0 (v := pt N4 0) h285 rfl fun a402 h402 => ?_; clear h285
        refine pk0 (v := pt N4 0) h402 rfl fun a403 h403 => ?_; clear h402
        refine pk0 (v := pt N4 10) h403 rfl fun a404 h404 => ?_; clear h403
        refine pk (v := .bool true) h404 rfl (rn_load1 rfl rfl Try.isAgg4 (PrO.okc hf279)) fun a405 h405 => ?_; clear h404
        refine pk0 (v := .bool true) h405 rfl fun a406 h406 => ?_; clear h405
        refine pl_nil ?_
        refine co_then ?_
        refine co_true h406 rfl ?_
        refine wp_skip ?_
        refine co_then ?_
        refine co_seq ?_
        refine wp_block ?_
        refine co_seq ?_
        refine co_reg ?_
        refine pk0 (v := pt N4 0) h406 rfl fun a407 h407 => ?_; clear h406
        refine pk0 (v := pt N4 0) h407 rfl fun a408 h408 => ?_; clear h407
        refine pk0 (v := pt N4 4) h408 rfl fun a409 h409 => ?_; clear h408
        have ho412 := PrO.ofS hf279
        refine pwD h409 rfl (op_prW4 (P' := { (rndsP Pk r) with W := [] }) rfl rfl rfl Try.sizeOf67 hf279 rfl) ?_; clear h409
        rintro _ w411 a410 ⟨S413, hO414, hx415⟩ h410
        have hlo417 : ∀ q, S413 q → w.heap.size ≤ q := hx415.lo hlo282 (by omega)
        have hB416 := hbL hB280 hlo282 hx415.but
        have hz418 := hB416.size
        have hz419 := hx415.but.size
        refine pl_nil ?_
        refine co_then ?_
        refine co_seq ?_
        refine co_reg ?_
        refine pk0 (v := pt N4 0) h410 rfl fun a420 h420 => ?_; clear h410
        refine pk0 (v := pt N4 0) h420 rfl fun a421 h421 => ?_; clear h420
        refine pk0 (v := pt N4 5) h421 rfl fun a422 h422 => ?_; clear h421
        have ho425 := PrO.ofS hO414
        refine pwD h422 rfl (op_prT5 (P' := (clrP (rndsP Pk r))) rfl rfl rfl Try.sizeOf93 hO414 rfl) ?_; clear h422
        rintro _ w424 a423 ⟨S426, hO427, hx428⟩ h423
        have hlo430 : ∀ q, S426 q → w.heap.size ≤ q := hx428.lo hlo417 (by omega)
        have hB429 := hbL hB416 hlo417 hx428.but
        have hz431 := hB429.size
        have hz432 := hx428.but.size
        refine pl_nil ?_
        refine co_then ?_
        refine co_seq ?_
        refine co_reg ?_
        refine pk0 (v := pt N4 0) h423 rfl fun a433 h433 => ?_; clear h423
        have ho436 := PrO.ofS hO427
        refine pw h433 rfl (op_call (args := #[pt N4 0, .int .i64 0, .bool true]) (R := fun res xw => ∃ S' : Nat → Prop, res = .tuple #[] ∧ PrO S' xw N4 (outP (clrP (rndsP Pk r)) 0 true (outT (rndsP Pk r).A true).length) ∧ Grew S426 S' w424 xw) rfl rfl rfl (by kernel_rfl) (by kernel_rfl) (Try.call50 _ _) (prOut0 S426 N4 (rndsP Pk r) w424 hO427) (by rintro e x ⟨S', h0, h⟩; exact ⟨_, h0, S', rfl, h⟩)) ?_; clear h433
        rintro _ w435 a434 ⟨S437, rfl, hO438, hx439⟩ h434
        have hlo441 : ∀ q, S437 q → w.heap.size ≤ q := hx439.lo hlo430 (by omega)
        have hB440 := hbL hB429 hlo430 hx439.but
        have hz442 := hB440.size
        have hz443 := hx439.but.size
        refine pl_nil ?_
        refine co_then ?_
        refine co_seq ?_
        refine co_reg ?_
        refine pk0 (v := pt N4 0) h434 rfl fun a444 h444 => ?_; clear h434
        have ho447 := PrO.ofS hO438
        refine pw h444 rfl (op_call (args := #[pt N4 0, .int .i64 1, .bool true]) (R := fun res xw => ∃ S' : Nat → Prop, res = .tuple #[] ∧ PrO S' xw N4 (outsP (rndsP Pk r)) ∧ Grew S437 S' w435 xw) rfl rfl rfl (by kernel_rfl) (by kernel_rfl) (Try.call50 _ _) (prOut1 S437 N4 (rndsP Pk r) w435 hO438) (by rintro e x ⟨S', h0, h⟩; exact ⟨_, h0, S', rfl, h⟩)) ?_; clear h444
        rintro _ w446 a445 ⟨S448, rfl, hO449, hx450⟩ h445
        have hlo452 : ∀ q, S448 q → w.heap.size ≤ q := hx450.lo hlo441 (by omega)
        have hB451 := hbL hB440 hlo441 hx450.but
        have hz453 := hB451.size
        have hz454 := hx450.but.size
        refine pl_nil ?_
        refine co_then ?_
        refine co_seq ?_
        refine co_reg ?_
        refine pk0 (v := .int .i64 0) h445 rfl fun a455 h455 => ?_; clear h445
        refine pl_nil ?_
        refine co_then ?_
        refine wp_block ?_
        obtain ⟨hq1, hq2, -⟩ := outs_all (hra (by omega)).1 (by omega) (by omega) (hra (by omega)).2.1
        have hll := hlo452
        have hO9 : PrO S448 w446 N4 (comesP (outsP (rndsP Pk r)) 0) := hO449
        have h456 : Slots 129 [(0, v), (3, pt N4 0), (4, .bool sb), (6, .int .i64 ((r : Nat) : Int)), (7, .int .i64 0)] _ := h455.sub ⟨rfl, rfl, rfl, rfl, rfl, trivial⟩; clear h455
        refine co_loop (fun mm a x => ∃ (j : Nat) (SJ : Nat → Prop), Slots 129 [(0, v), (3, pt N4 0), (4, .bool sb), (6, .int .i64 ((r : Nat) : Int)), (7, .int .i64 ((j : Nat) : Int))] a ∧ mm = (outsP (rndsP Pk r)).W.length - j ∧ (j ≤ (outsP (rndsP Pk r)).W.length) ∧ (∀ q, SJ q → w.heap.size ≤ q) ∧ PrO SJ x N4 (comesP (outsP (rndsP Pk r)) j) ∧ Below w.heap.size w x) ((outsP (rndsP Pk r)).W.length - 0) ?_ ?_
        · exact ⟨0, S448, h456.sub ⟨rfl, rfl, rfl, rfl, (slot_eq rfl (congrArg (Value.int .i64) (by first | rfl | omega))), trivial⟩, rfl, by omega, by exact hll, hO9, hB451⟩
        · rintro k457 a458 w459 ⟨j, SJ, h458, rfl, hi460, hi461, hf462, hB463⟩
          have hz464 := hB463.size
          have hlo465 : ∀ q, SJ q → w.heap.size ≤ q := by assumption
          have hlW9 := hq1.lW
          have hcW : (comesP (outsP (rndsP Pk r)) j).W = (outsP (rndsP Pk r)).W := (comes_all hq1 (by omega) hq2 j (by omega)).2.2.2.1
          refine co_seq ?_
          refine co_seq ?_
          refine co_reg ?_
          refine pk0 (v := .int .i64 ((j : Nat) : Int)) h458 rfl fun a466 h466 => ?_; clear h458
          refine pk0 (v := pt N4 0) h466 rfl fun a467 h467 => ?_; clear h466
          refine pk0 (v := pt N4 0) h467 rfl fun a468 h468 => ?_; clear h467
          refine pk0 (v := pt N4 4) h468 rfl fun a469 h469 => ?_; clear h468
          obtain ⟨wv470, hwv471, hsl472⟩ := PrO.wayK hf462 hcW
          refine pk (v := wv470) h469 rfl (rn_load1 rfl rfl Try.isAgg67 hwv471) fun a473 h473 => ?_; clear h469
          refine pk (v := .int .i64 ((((outsP (rndsP Pk r)).W).length : Nat) : Int)) h473 rfl (rn_len rfl rfl Try.underlying67 hsl472) fun a474 h474 => ?_; clear h473
          refine pk0 (v := .bool (decide (((j : Nat) : Int) < ((((outsP (rndsP Pk r)).W).length : Nat) : Int)))) h474 rfl fun a475 h475 => ?_; clear h474
          refine pl_nil ?_
          refine co_then ?_
          cases hc476 : (decide (((j : Nat) : Int) < ((((outsP (rndsP Pk r)).W).length : Nat) : Int)))
          ·
           rw [hc476] at h475
           have hp477 : ¬ (((j : Nat) : Int) < ((((outsP (rndsP Pk r)).W).length : Nat) : Int)) := of_decide_eq_false hc476
           clear hc476
           refine co_false h475 rfl ?_
           refine wp_exit ?_
           refine co_thenX ?_
           refine co_thenX ?_
           refine co_blockX ?_
           refine co_blockN ?_
           refine co_then ?_
           refine co_reg ?_
           refine pk0 (v := .int .i64 ((r : Nat) : Int)) h475 rfl fun a478 h478 => ?_; clear h475
           refine pk (v := .int .i64 ((r + 1 : Nat) : Int)) h478 rfl (rn_arith' rfl rfl rfl rfl rfl rfl (IntWalk.i64_in _ (by omega)) (by omega)) fun a479 h479 => ?_; clear h478
           refine pk0 (v := .int .i64 ((r + 1 : Nat) : Int)) h479 rfl fun a480 h480 => ?_; clear h479
           refine pl_nil ?_
           refine co_then ?_
           refine ⟨(8 - (r + 1)), by omega, ?_⟩
           have hll := hlo465
           have hje : j = (outsP (rndsP Pk r)).W.length := by omega
           have hO9 : PrO SJ w459 N4 (rndsP Pk (r + 1)) := by have h9 := hf462; rw [hje] at h9; exact h9
           exact ⟨r + 1, SJ, h480.sub ⟨rfl, rfl, rfl, rfl, trivial⟩, rfl, by omega, by exact hll, hO9, hB463⟩
          ·
           rw [hc476] at h475
           have hp481 : ((j : Nat) : Int) < ((((outsP (rndsP Pk r)).W).length : Nat) : Int) := of_decide_eq_true hc476
           clear hc476
           refine co_true h475 rfl ?_
           refine wp_skip ?_
           refine co_then ?_
           refine co_seq ?_
           refine wp_block ?_
           refine co_reg ?_
           refine pk0 (v := pt N4 0) h475 rfl fun a482 h482 => ?_; clear h475
           refine pk0 (v := .int .i64 ((j : Nat) : Int)) h482 rfl fun a483 h483 => ?_; clear h482
           have ho486 := PrO.ofS hf462
           refine pw h483 rfl (op_call (args := #[pt N4 0, .int .i64 ((j : Nat) : Int)]) (R := fun res xw => ∃ S' : Nat → Prop, res = .tuple #[] ∧ PrO S' xw N4 (comesP (outsP (rndsP Pk r)) (j + 1)) ∧ Grew SJ S' w459 xw) rfl rfl rfl (by kernel_rfl) (by kernel_rfl) (Try.call51 _ _) (prComeF SJ N4 (outsP (rndsP Pk r)) j w459 _ hf462 hq1 (by omega) hq2 (by omega)) (by rintro e x ⟨S', h0, h⟩; exact ⟨_, h0, S', rfl, h⟩)) ?_; clear h483
           rintro _ w485 a484 ⟨S487, rfl, hO488, hx489⟩ h484
           have hlo491 : ∀ q, S487 q → w.heap.size ≤ q := hx489.lo hlo465 (by omega)
           have hB490 := hbL hB463 hlo465 hx489.but
           have hz492 := hB490.size
           have hz493 := hx489.but.size
           refine pl_nil ?_
           refine co_blockN ?_
           refine co_then ?_
           refine co_reg ?_
           refine pk0 (v := .int .i64 ((j : Nat) : Int)) h484 rfl fun a494 h494 => ?_; clear h484
           refine pk (v := .int .i64 ((j + 1 : Nat) : Int)) h494 rfl (rn_arith' rfl rfl rfl rfl rfl rfl (IntWalk.i64_in _ (by omega)) (by omega)) fun a495 h495 => ?_; clear h494
           refine pk0 (v := .int .i64 ((j + 1 : Nat) : Int)) h495 rfl fun a496 h496 => ?_; clear h495
           refine pl_nil ?_
           refine co_then ?_
           refine ⟨((outsP (rndsP Pk r)).W.length - (j + 1)), by omega, ?_⟩
           have hll := hlo491
           have hO9 := hO488
           exact ⟨j + 1, S487, h496.sub ⟨rfl, rfl, rfl, rfl, rfl, trivial⟩, rfl, by omega, by exact hll, hO9, hB490⟩
    ·
     rw [hc270] at h269
     have hp497 : ((i : Nat) : Int) < 200 := of_decide_eq_true hc270
     clear hc270
     refine co_true h269 rfl ?_
     refine wp_skip ?_
     refine co_then ?_
     refine co_seq ?_
     refine wp_block ?_
     refine co_seq ?_
     refine co_reg ?_
     refine pk0 (v := pt N4 0) h269 rfl fun a498 h498 => ?_; clear h269
     refine pk0 (v := v) h498 rfl fun a499 h499 => ?_; clear h498
     refine pk0 (v := .int .i64 ((i : Nat) : Int)) h499 rfl fun a500 h500 => ?_; clear h499
     obtain ⟨y501, hy501⟩ : ∃ z, l[i]? = some z := ⟨_, List.getElem?_eq_getElem (by first | omega | (simp; done) | (simp; omega))⟩
     have oky501 := hok _ (List.mem_of_getElem? hy501)
     refine pk (v := pt (blkOf v) (offOf v + i * 3)) h500 rfl (rn_index rfl rfl rfl Try.underlying85 Try.sizeOf90 (hs.below hB28) (by omega) (by first | omega | (simp; done) | (simp; omega))) fun a502 h502 => ?_; clear h500
     refine pk (v := .agg #[.int .i64 y501.k, .int .u8 y501.n, .bool y501.g]) h502 rfl (rn_loadN rfl rfl Try.underlying90 rfl (by kernel_rfl) (sl_at (hs.below hB28) hy501)) fun a503 h503 => ?_; clear h502
     have ho506 := PrO.ofS hf27
     refine pw h503 rfl (op_call (args := #[pt N4 0, .agg #[.int .i64 y501.k, .int .u8 y501.n, .bool y501.g]]) (R := fun res xw => ∃ P' : PrT, ∃ S' : Nat → Prop, res = .tuple #[] ∧ PrO S' xw N4 P' ∧ (StepR y501.k Pk P') ∧ Grew SP S' w20 xw) rfl rfl rfl (by kernel_rfl) (by kernel_rfl) (Try.call49 _ _) (step_any SP N4 Pk y501.k y501.n y501.g w20 hf27 (PInv.stepH hInv (by omega)) (by assumption)) (by rintro e x ⟨P', S', h0, h⟩; exact ⟨_, h0, P', S', rfl, h⟩)) ?_; clear h503
     rintro _ w505 a504 ⟨P'507, S508, rfl, hO509, hq511, hx510⟩ h504
     have hlo513 : ∀ q, S508 q → w.heap.size ≤ q := hx510.lo hlo30 (by omega)
     have hB512 := hbL hB28 hlo30 hx510.but
     have hz514 := hB512.size
     have hz515 := hx510.but.size
     refine pl_nil ?_
     refine co_then ?_
     refine co_reg ?_
     refine pk0 (v := .bool sb) h504 rfl fun a516 h516 => ?_; clear h504
     refine pk0 (v := .bool sb) h516 rfl fun a517 h517 => ?_; clear h516
     cases hc518 : (sb)
     ·
      rw [hc518] at h517
      refine pk0 (v := v) h517 rfl fun a519 h519 => ?_; clear h517
      refine pk0 (v := .int .i64 ((i : Nat) : Int)) h519 rfl fun a520 h520 => ?_; clear h519
      refine pk (v := pt (blkOf v) (offOf v + i * 3)) h520 rfl (rn_index rfl rfl rfl Try.underlying85 Try.sizeOf90 (hs.below hB512) (by omega) (by first | omega | (simp; done) | (simp; omega))) fun a521 h521 => ?_; clear h520
      refine pk0 (v := pt (blkOf v) (offOf v + i * 3)) h521 rfl fun a522 h522 => ?_; clear h521
      refine pk (v := .int .i64 y501.k) h522 rfl (rn_load1 rfl rfl Try.isAgg3 ((sl_at (hs.below hB512) hy501) 0 _ rfl)) fun a523 h523 => ?_; clear h522
      refine pk0 (v := .bool (decide (y501.k > 6))) h523 rfl fun a524 h524 => ?_; clear h523
      refine pk0 (v := .bool (decide (y501.k > 6))) h524 rfl fun a525 h525 => ?_; clear h524
      refine pk0 (v := .bool (decide (y501.k > 6))) h525 rfl fun a526 h526 => ?_; clear h525
      cases hc527 : (decide (y501.k > 6))
      ·
       rw [hc527] at h526
       have hp528 : ¬ (y501.k > 6) := of_decide_eq_false hc527
       clear hc527
       refine pk0 (v := v) h526 rfl fun a529 h529 => ?_; clear h526
       refine pk0 (v := .int .i64 ((i : Nat) : Int)) h529 rfl fun a530 h530 => ?_; clear h529
       refine pk (v := pt (blkOf v) (offOf v + i * 3)) h530 rfl (rn_index rfl rfl rfl Try.underlying85 Try.sizeOf90 (hs.below hB512) (by omega) (by first | omega | (simp; done) | (simp; omega))) fun a531 h531 => ?_; clear h530
       refine pk0 (v := pt (blkOf v) (offOf v + i * 3)) h531 rfl fun a532 h532 => ?_; clear h531
       refine pk (v := .int .i64 y501.k) h532 rfl (rn_load1 rfl rfl Try.isAgg3 ((sl_at (hs.below hB512) hy501) 0 _ rfl)) fun a533 h533 => ?_; clear h532
       refine pk0 (v := .bool (decide (y501.k < 0))) h533 rfl fun a534 h534 => ?_; clear h533
       refine pk0 (v := .bool (decide (y501.k < 0))) h534 rfl fun a535 h535 => ?_; clear h534
       refine pk0 (v := .bool (decide (y501.k < 0))) h535 rfl fun a536 h536 => ?_; clear h535
       refine pl_nil ?_
       refine co_blockN ?_
       refine co_then ?_
       refine co_reg ?_
       refine pk0 (v := .int .i64 ((i : Nat) : Int)) h536 rfl fun a537 h537 => ?_; clear h536
       refine pk (v := .int .i64 ((i + 1 : Nat) : Int)) h537 rfl (rn_arith' rfl rfl rfl rfl rfl rfl (IntWalk.i64_in _ (by omega)) (by omega)) fun a538 h538 => ?_; clear h537
       refine pk0 (v := .int .i64 ((i + 1 : Nat) : Int)) h538 rfl fun a539 h539 => ?_; clear h538
       refine pl_nil ?_
       refine co_then ?_
       refine ⟨(l.length - (i + 1)), by omega, ?_⟩
       have hll := hlo513
       have hpi : PInv P'507 ((i : Int) + 1) := PInv.step hInv (by omega) (by omega) hq511
       have hfp : FP P'507 := FP.step hInv (by omega) hFi hq511
       have hup : (decide (y501.k < 0)) = false → UP P'507 := fun e => UP.step hInv (by omega) (hUi (by assumption)) (by have e9 := of_decide_eq_false e; omega) hq511
       exact ⟨i + 1, S508, P'507, (decide (y501.k < 0)), h539.sub ⟨rfl, rfl, rfl, rfl, trivial⟩, rfl, by omega, by omega, by exact hll, by exact hpi, by exact hfp, by exact hup, hO509, hB512⟩
      ·
       rw [hc527] at h526
       have hp540 : y501.k > 6 := of_decide_eq_true hc527
       clear hc527
       refine psk h526 rfl fun a541 h541 => ?_; clear h526
       refine psk h541 rfl fun a542 h542 => ?_; clear h541
       refine psk h542 rfl fun a543 h543 => ?_; clear h542
       refine psk h543 rfl fun a544 h544 => ?_; clear h543
       refine psk h544 rfl fun a545 h545 => ?_; clear h544
       refine psk h545 rfl fun a546 h546 => ?_; clear h545
       refine pk0 (v := .bool true) h546 rfl fun a547 h547 => ?_; clear h546
       refine pk0 (v := .bool true) h547 rfl fun a548 h548 => ?_; clear h547
       refine pl_nil ?_
       refine co_blockN ?_
       refine co_then ?_
       refine co_reg ?_
       refine pk0 (v := .int .i64 ((i : Nat) : Int)) h548 rfl fun a549 h549 => ?_; clear h548
       refine pk (v := .int .i64 ((i + 1 : Nat) : Int)) h549 rfl (rn_arith' rfl rfl rfl rfl rfl rfl (IntWalk.i64_in _ (by omega)) (by omega)) fun a550 h550 => ?_; clear h549
       refine pk0 (v := .int .i64 ((i + 1 : Nat) : Int)) h550 rfl fun a551 h551 => ?_; clear h550
       refine pl_nil ?_
       refine co_then ?_
       refine ⟨(l.length - (i + 1)), by omega, ?_⟩
       have hll := hlo513
       have hpi : PInv P'507 ((i : Int) + 1) := PInv.step hInv (by omega) (by omega) hq511
       have hfp : FP P'507 := FP.step hInv (by omega) hFi hq511
       have hup : true = false → UP P'507 := fun e => by cases e
       exact ⟨i + 1, S508, P'507, true, h551.sub ⟨rfl, rfl, rfl, rfl, trivial⟩, rfl, by omega, by omega, by exact hll, by exact hpi, by exact hfp, by exact hup, hO509, hB512⟩
     ·
      rw [hc518] at h517
      refine psk h517 rfl fun a552 h552 => ?_; clear h517
      refine psk h552 rfl fun a553 h553 => ?_; clear h552
      refine psk h553 rfl fun a554 h554 => ?_; clear h553
      refine psk h554 rfl fun a555 h555 => ?_; clear h554
      refine psk h555 rfl fun a556 h556 => ?_; clear h555
      refine psk h556 rfl fun a557 h557 => ?_; clear h556
      refine pk0 (v := .bool true) h557 rfl fun a558 h558 => ?_; clear h557
      refine pk0 (v := .bool true) h558 rfl fun a559 h559 => ?_; clear h558
      refine psk h559 rfl fun a560 h560 => ?_; clear h559
      refine psk h560 rfl fun a561 h561 => ?_; clear h560
      refine psk h561 rfl fun a562 h562 => ?_; clear h561
      refine psk h562 rfl fun a563 h563 => ?_; clear h562
      refine psk h563 rfl fun a564 h564 => ?_; clear h563
      refine psk h564 rfl fun a565 h565 => ?_; clear h564
      refine pk0 (v := .bool true) h565 rfl fun a566 h566 => ?_; clear h565
      refine pk0 (v := .bool true) h566 rfl fun a567 h567 => ?_; clear h566
      refine pl_nil ?_
      refine co_blockN ?_
      refine co_then ?_
      refine co_reg ?_
      refine pk0 (v := .int .i64 ((i : Nat) : Int)) h567 rfl fun a568 h568 => ?_; clear h567
      refine pk (v := .int .i64 ((i + 1 : Nat) : Int)) h568 rfl (rn_arith' rfl rfl rfl rfl rfl rfl (IntWalk.i64_in _ (by omega)) (by omega)) fun a569 h569 => ?_; clear h568
      refine pk0 (v := .int .i64 ((i + 1 : Nat) : Int)) h569 rfl fun a570 h570 => ?_; clear h569
      refine pl_nil ?_
      refine co_then ?_
      refine ⟨(l.length - (i + 1)), by omega, ?_⟩
      have hll := hlo513
      have hpi : PInv P'507 ((i : Int) + 1) := PInv.step hInv (by omega) (by omega) hq511
      have hfp : FP P'507 := FP.step hInv (by omega) hFi hq511
      have hup : true = false → UP P'507 := fun e => by cases e
      exact ⟨i + 1, S508, P'507, true, h570.sub ⟨rfl, rfl, rfl, rfl, trivial⟩, rfl, by omega, by omega, by exact hll, by exact hpi, by exact hfp, by exact hup, hO509, hB512⟩
end Go.Proofs.Ythmljllgfigebaa
