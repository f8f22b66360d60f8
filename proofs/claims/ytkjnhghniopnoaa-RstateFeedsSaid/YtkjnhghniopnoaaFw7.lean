/- Put together: RstNFv. Conditions: as each says. -/
import Derived.Test.YtkjnhghniopnoaaFw6
/- catenalaw30: RstateFeeds. Conditions: none. -/
namespace Go.Proofs.Ytkjnhghniopnoaa
open Go.RowKit Go.PlainAid
set_option linter.unusedVariables false
set_option linter.unusedSimpArgs false


section
variable {S D A : Nat → Prop} {w x : World} {b m n d : Nat} {L L2 : List EntT} {ep hz la ce : Int} {f : Fv}
theorem twFeedA (w : World) (j : Int) (hj : 0 ≤ j) (h : TwS S w b m L ep hz (fun _ => []) 0 0 0) :
    Calls Try.prog 15 #[pt b 0, pt m 0, .int .i64 0, .int .i64 j] w fun e w' => ∃ (k : Nat) (S' : Nat → Prop), e = .returned (.int .i64 ((k : Nat) : Int)) ∧ TwS S' w' b m L ep hz (fdI fdZ L 0 (k : Int)).1 (fdI fdZ L 0 (k : Int)).2.1 (fdI fdZ L 0 (k : Int)).2.2 k ∧ k ≤ stN L ∧ Grew S S' w w' := by
  have hs := stN_le L
  have hl := h.len
  have e0 : mxI 0 0 = 0 := rfl
  refine (twFeed w 0 j h (by rw [e0]; omega)).mono ?_
  rintro e x ⟨r, S', rfl, k1, k2, g⟩
  rw [e0] at k1 k2 ⊢
  have e2 : mxI 0 (mnI j ((stN L : Nat) : Int)) = r := by omega
  rw [e2] at k1 ⊢
  rw [Nat.zero_add] at k1
  have h1 := mnI_p j ((stN L : Nat) : Int); have h2 := mxI_p 0 (mnI j ((stN L : Nat) : Int))
  exact ⟨r, S', rfl, k1, by omega, g⟩
theorem twFeedB (w : World) (k : Nat) (h : TwS S w b m L ep hz (fdI fdZ L 0 (k : Int)).1 (fdI fdZ L 0 (k : Int)).2.1 (fdI fdZ L 0 (k : Int)).2.2 k) (hk : k ≤ stN L) :
    Calls Try.prog 15 #[pt b 0, pt m 0, .int .i64 ((k : Nat) : Int), .int .i64 1073741824] w fun e w' => ∃ (S' : Nat → Prop), e = .returned (.int .i64 ((stN L : Nat) : Int)) ∧ TwS S' w' b m L ep hz (fdI fdZ L 0 (stN L : Int)).1 (fdI fdZ L 0 (stN L : Int)).2.1 (fdI fdZ L 0 (stN L : Int)).2.2 (stN L) ∧ Grew S S' w w' := by
  have hs := stN_le L
  have hl := h.len
  have h3 := mxI_p (k : Int) 0
  have e0 : mxI (k : Int) 0 = k := by omega
  refine (twFeed w k 1073741824 h (by rw [e0]; omega)).mono ?_
  rintro e x ⟨r, S', rfl, k1, k2, g⟩
  rw [e0] at k1 k2 ⊢
  have h1 := mnI_p 1073741824 ((stN L : Nat) : Int); have h2 := mxI_p (k : Int) (mnI 1073741824 ((stN L : Nat) : Int))
  have e2 : mxI (k : Int) (mnI 1073741824 ((stN L : Nat) : Int)) = ((stN L : Nat) : Int) := by omega
  rw [e2] at k1 k2 ⊢
  have e3 : k + r = stN L := by omega
  rw [e3] at k1
  have e4 : fdI (fdI fdZ L 0 (k : Int)) L (k : Int) ((stN L : Nat) : Int) = fdI fdZ L 0 ((stN L : Nat) : Int) := fdI_two (by omega) (by omega) (by omega) (by omega)
  rw [show ((fdI fdZ L 0 (k : Int)).1, (fdI fdZ L 0 (k : Int)).2.1, (fdI fdZ L 0 (k : Int)).2.2) = fdI fdZ L 0 (k : Int) from rfl, e4] at k1
  exact ⟨S', rfl, k1, g⟩
theorem stN_eq (h : L2.map e0 = L.map e0) : stN L2 = stN L := by rw [← stN_e0 L2, h, stN_e0]
end

theorem RsO.inS {S : Nat → Prop} {w : World} {d m : Nat} {f : Fv} {la : Int} (h : RsO S w d f la m) : S d := by obtain ⟨u, L, h1, h2, h3, h4, h5, h6, h7, h8, _⟩ := h; exact h8
theorem rso_butR {S D : Nat → Prop} {w x : World} {d m : Nat} {f : Fv} {la : Int} (h : RsO S w d f la m) (hb : But D w x) (ha : ∀ q, S q → D q → False) : RsO S x d f la m := h.but hb (fun q h1 h2 => ha q h2 h1)
theorem over_fd {L : List EntT} {k : Nat} {y : EntT} {t : Int} (v v2 : Value) (w : World) (hP : FdP L k (fdI fdZ L 0 (k : Int))) (hQ : FdP L (k + 1) (fd1 (fdI fdZ L 0 (k : Int)) y)) (hE : mvE (fdI fdZ L 0 (k : Int)).2.1 y.ts y.opl = 0) (ht : y.ts ≤ t) (hk : k ≤ 100) (hl : y.opl.length ≤ 20)
    (hs : SliceOf pairE 2 w v (hitsF (fdI fdZ L 0 (k : Int)).1 t ⟨#[]⟩ ⟨#[]⟩)) (hs2 : SliceOf opE 3 w v2 y.opl) :
    Calls Try.prog 17 #[v, v2] w fun e w' => ∃ u : Value, e = .returned u ∧ w'.ownsRow w.heap.size 101 2 u (hitsF (fd1 (fdI fdZ L 0 (k : Int)) y).1 t ⟨#[]⟩ ⟨#[]⟩).length ((hitsF (fd1 (fdI fdZ L 0 (k : Int)) y).1 t ⟨#[]⟩ ⟨#[]⟩).flatMap pairE) ∧ Below w.heap.size w w' := by
  have h1 := hP.hits (t := t) (F := ⟨#[]⟩) (T := ⟨#[]⟩)
  refine (mvOver (f := (fdI fdZ L 0 (k : Int)).1) (la := (fdI fdZ L 0 (k : Int)).2.1) (ts := y.ts) (t := t) v v2 y.opl w hP.kof hQ.kof hE ht hs hs2 (by omega)).mono ?_
  rintro e x ⟨ao, nn, cap, rfl, hr, hb⟩
  exact ⟨_, rfl, hr, hb⟩
theorem hits_nil {L : List EntT} (t : Int) : hitsF (fdI fdZ L 0 ((0 : Nat) : Int)).1 t ⟨#[]⟩ ⟨#[]⟩ = [] := by rw [show ((0 : Nat) : Int) = 0 from rfl, fdI_0]; exact hits_0
theorem stay_fd {L : List EntT} {k : Nat} {y : EntT} {t : Int} (hP : FdP L k (fdI fdZ L 0 (k : Int))) (hQ : FdP L (k + 1) (fd1 (fdI fdZ L 0 (k : Int)) y)) (ht : ¬ y.ts ≤ t) : hitsF (fdI fdZ L 0 (k : Int)).1 t ⟨#[]⟩ ⟨#[]⟩ = hitsF (fd1 (fdI fdZ L 0 (k : Int)) y).1 t ⟨#[]⟩ ⟨#[]⟩ :=
  hits_stay (la := (fdI fdZ L 0 (k : Int)).2.1) (ts := y.ts) (l := y.opl) hP.fok hP.kof hQ.kof (fun h => ht h.2)

set_option maxRecDepth 100000 in
set_option maxHeartbeats 6400000 in
theorem rstateFeeds_law (v : Value) (l : List NoteX) (cut : Int) (t : Int) (w : World) (hs : SliceOf noteE 18 w v l) (hok : ∀ z ∈ l, NoteOk w z) (hcut : 0 ≤ cut ∧ cut ≤ 255) (ht : 0 ≤ t ∧ t < 18446744073709551616) :
    Calls Try.prog 4 #[v, .int .u8 cut, .int .u64 t] w fun e w' => e = .returned (.bool true) ∧ Below w.heap.size w w' := by
 have hB0 := Below.refl w.heap.size w
 have hl_hs := sl_len hs
 refine co_enter (n := 129) Try.func4 rfl rfl rfl [(0, v), (1, .int .u8 cut), (2, .int .u64 t)] rfl (fun a h0 => ?_)
 refine co_seq ?_
 refine co_reg ?_
 refine pk0 (v := .bool false) h0 rfl fun a1 h1 => ?_; clear h0
 refine pl_nil ?_
 refine co_then ?_
 refine co_seq ?_
 refine co_seq ?_
 refine co_reg ?_
 refine pk0 (v := v) h1 rfl fun a2 h2 => ?_; clear h1
 refine pw h2 rfl (op_call (args := #[v]) (R := fun res xw => ∃ r : Int, res = .int .i64 r ∧ Below w.heap.size w xw) rfl rfl rfl (by kernel_rfl) (by kernel_rfl) (Try.call6 _ _) (partsL_any v l w hs hok) (by rintro e x ⟨r, rfl, hb6⟩; exact ⟨_, rfl, ⟨r, rfl, hb6⟩⟩)) ?_; clear h2
 rintro _ w4 a3 ⟨r5, rfl, hb6⟩ h3
 have hz7 := hb6.size
 refine pk0 (v := .bool (decide (r5 > 20))) h3 rfl fun a8 h8 => ?_; clear h3
 refine pl_nil ?_
 refine co_then ?_
 have hB10 := hb_call hB0 hb6
 cases hc9 : (decide (r5 > 20))
 ·
  rw [hc9] at h8
  have hp11 : ¬ (r5 > 20) := of_decide_eq_false hc9
  clear hc9
  refine co_false h8 rfl ?_
  refine wp_skip ?_
  refine co_then ?_
  refine co_seq ?_
  refine co_reg ?_
  refine pw h8 rfl (op_call (args := #[]) (R := fun res xw => ∃ N S, res = pt N 0 ∧ StO S xw N [] 0 0 ∧ (∀ q, S q → w4.heap.size ≤ q) ∧ Below w4.heap.size w4 xw) rfl rfl rfl (by kernel_rfl) (by kernel_rfl) (Try.call8 _ _) (stNew w4) (by rintro e x ⟨N, S, rfl, h⟩; exact ⟨_, rfl, N, S, rfl, h⟩)) ?_; clear h8
  rintro _ w13 a12 ⟨N14, S15, rfl, hO16, hlo17, hb18⟩ h12
  have hz19 := hb18.size
  have hlo20 : ∀ q, S15 q → w.heap.size ≤ q := fun q hq => by have := hlo17 q hq; omega
  refine pk0 (v := pt N14 0) h12 rfl fun a21 h21 => ?_; clear h12
  refine pl_nil ?_
  refine co_then ?_
  have hB22 := hb_call hB10 hb18
  refine co_cut (fun a x => ∃ (S8 : Nat → Prop) (L8 : List EntT) (e8 : Int) (z8 : Int), Slots 129 [(1, .int .u8 cut), (2, .int .u64 t), (7, pt N14 0)] a ∧ (∀ q, S8 q → w.heap.size ≤ q) ∧ StO S8 x N14 L8 e8 z8 ∧ Below w.heap.size w x) ?_ ?_
  ·
   refine co_seq ?_
   refine co_reg ?_
   refine pk0 (v := .int .i64 0) h21 rfl fun a23 h23 => ?_; clear h21
   refine pl_nil ?_
   refine co_then ?_
   refine wp_block ?_
   have hlo9 := hlo20
   have h24 : Slots 129 [(0, v), (1, .int .u8 cut), (2, .int .u64 t), (7, pt N14 0), (8, .int .i64 0)] _ := h23.sub ⟨rfl, rfl, rfl, rfl, rfl, trivial⟩; clear h23
   refine co_loop (fun mm a x => ∃ (i : Nat) (SA : Nat → Prop) (LA : List EntT) (eA : Int) (zA : Int), Slots 129 [(0, v), (1, .int .u8 cut), (2, .int .u64 t), (7, pt N14 0), (8, .int .i64 ((i : Nat) : Int))] a ∧ mm = l.length - i ∧ (i ≤ l.length) ∧ (i ≤ 40) ∧ (∀ q, SA q → w.heap.size ≤ q) ∧ StO SA x N14 LA eA zA ∧ Below w.heap.size w x) (l.length - 0) ?_ ?_
   · exact ⟨0, S15, [], 0, 0, h24.sub ⟨rfl, rfl, rfl, rfl, (slot_eq rfl (congrArg (Value.int .i64) (by first | rfl | omega))), trivial⟩, rfl, by omega, by omega, by exact hlo9, hO16, hB22⟩
   · rintro k25 a26 w27 ⟨i, SA, LA, eA, zA, h26, rfl, hi28, hi29, hi30, hf31, hB32⟩
     have hz33 := hB32.size
     have hlo34 : ∀ q, SA q → w.heap.size ≤ q := by assumption
     refine co_seq ?_
     refine co_seq ?_
     refine co_reg ?_
     refine pk0 (v := .int .i64 ((i : Nat) : Int)) h26 rfl fun a35 h35 => ?_; clear h26
     refine pk0 (v := v) h35 rfl fun a36 h36 => ?_; clear h35
     refine pk (v := .int .i64 ((l.length : Nat) : Int)) h36 rfl (rn_len rfl rfl Try.underlying22 (hs.below hB32)) fun a37 h37 => ?_; clear h36
     refine pk0 (v := .bool (decide (((i : Nat) : Int) < ((l.length : Nat) : Int)))) h37 rfl fun a38 h38 => ?_; clear h37
     refine pk0 (v := .bool (decide (((i : Nat) : Int) < ((l.length : Nat) : Int)))) h38 rfl fun a39 h39 => ?_; clear h38
     cases hc40 : (decide (((i : Nat) : Int) < ((l.length : Nat) : Int)))
     ·
      rw [hc40] at h39
      have hp41 : ¬ (((i : Nat) : Int) < ((l.length : Nat) : Int)) := of_decide_eq_false hc40
      clear hc40
      refine psk h39 rfl fun a42 h42 => ?_; clear h39
      refine psk h42 rfl fun a43 h43 => ?_; clear h42
      refine pk0 (v := .bool false) h43 rfl fun a44 h44 => ?_; clear h43
      refine pl_nil ?_
      refine co_then ?_
      refine co_false h44 rfl ?_
      refine wp_exit ?_
      refine co_thenX ?_
      refine co_thenX ?_
      refine co_blockX ?_
      refine co_then ?_
      exact ⟨SA, LA, eA, zA, h44.sub ⟨rfl, rfl, rfl, trivial⟩, by exact hlo34, hf31, hB32⟩
     ·
      rw [hc40] at h39
      have hp45 : ((i : Nat) : Int) < ((l.length : Nat) : Int) := of_decide_eq_true hc40
      clear hc40
      refine pk0 (v := .int .i64 ((i : Nat) : Int)) h39 rfl fun a46 h46 => ?_; clear h39
      refine pk0 (v := .bool (decide (((i : Nat) : Int) < 40))) h46 rfl fun a47 h47 => ?_; clear h46
      refine pk0 (v := .bool (decide (((i : Nat) : Int) < 40))) h47 rfl fun a48 h48 => ?_; clear h47
      refine pl_nil ?_
      refine co_then ?_
      cases hc49 : (decide (((i : Nat) : Int) < 40))
      ·
       rw [hc49] at h48
       have hp50 : ¬ (((i : Nat) : Int) < 40) := of_decide_eq_false hc49
       clear hc49
       refine co_false h48 rfl ?_
       refine wp_exit ?_
       refine co_thenX ?_
       refine co_thenX ?_
       refine co_blockX ?_
       refine co_then ?_
       exact ⟨SA, LA, eA, zA, h48.sub ⟨rfl, rfl, rfl, trivial⟩, by exact hlo34, hf31, hB32⟩
      ·
       rw [hc49] at h48
       have hp51 : ((i : Nat) : Int) < 40 := of_decide_eq_true hc49
       clear hc49
       refine co_true h48 rfl ?_
       refine wp_skip ?_
       refine co_then ?_
       refine co_seq ?_
       refine wp_block ?_
       refine co_reg ?_
       refine pk0 (v := pt N14 0) h48 rfl fun a52 h52 => ?_; clear h48
       refine pk0 (v := v) h52 rfl fun a53 h53 => ?_; clear h52
       refine pk0 (v := .int .i64 ((i : Nat) : Int)) h53 rfl fun a54 h54 => ?_; clear h53
       obtain ⟨y55, hy55⟩ : ∃ z, l[i]? = some z := ⟨_, List.getElem?_eq_getElem (by first | omega | (simp; done) | (simp; omega))⟩
       have oky55 := hok _ (List.mem_of_getElem? hy55)
       refine pk (v := pt (blkOf v) (offOf v + i * 18)) h54 rfl (rn_index rfl rfl rfl Try.underlying22 Try.sizeOf46 (hs.below hB32) (by omega) (by first | omega | (simp; done) | (simp; omega))) fun a56 h56 => ?_; clear h54
       refine pk (v := .agg #[.int .i64 y55.d.k, .int .i64 y55.d.n, .int .u64 y55.d.t, .int .i64 y55.d.ep, y55.mv, .int .u64 y55.d.fl, y55.lv, .int .i64 y55.d.ec, .int .i64 y55.d.er, y55.ev, .int .u64 y55.d.ets, .int .i64 y55.d.pid, .int .u64 y55.d.pat, .int .i64 y55.d.plf, .int .i64 y55.d.sc, .int .i64 y55.d.sr, .int .i64 y55.d.se, .int .i64 y55.d.sp]) h56 rfl (rn_loadN rfl rfl Try.underlying46 rfl (by kernel_rfl) (sl_at (hs.below hB32) hy55)) fun a57 h57 => ?_; clear h56
       have ho60 := StO.ofS hf31
       refine pw h57 rfl (op_call (args := #[pt N14 0, .agg #[.int .i64 y55.d.k, .int .i64 y55.d.n, .int .u64 y55.d.t, .int .i64 y55.d.ep, y55.mv, .int .u64 y55.d.fl, y55.lv, .int .i64 y55.d.ec, .int .i64 y55.d.er, y55.ev, .int .u64 y55.d.ets, .int .i64 y55.d.pid, .int .u64 y55.d.pat, .int .i64 y55.d.plf, .int .i64 y55.d.sc, .int .i64 y55.d.sr, .int .i64 y55.d.se, .int .i64 y55.d.sp]]) (R := fun res xw => ∃ r : Int, ∃ L' : List EntT, ∃ ep' : Int, ∃ hz' : Int, ∃ S' : Nat → Prop, res = .int .i64 r ∧ StO S' xw N14 L' ep' hz' ∧ (ApR y55.d eA zA LA r ep' hz' L') ∧ Grew SA S' w27 xw) rfl rfl rfl (by kernel_rfl) (by kernel_rfl) (Try.call11 _ _) (stApply w27 y55.d y55.mv y55.lv y55.ev hf31 (oky55.hm.below hB32) (oky55.hg.below hB32) (oky55.he.below hB32) oky55.hR (sl_off oky55.hm (memE_ne _) hlo34) (sl_off oky55.hg (intE_ne _) hlo34) (sl_off oky55.he (opE_neR _) hlo34)) (by rintro e x ⟨r, L', ep', hz', S', h0, h⟩; exact ⟨_, h0, r, L', ep', hz', S', rfl, h⟩)) ?_; clear h57
       rintro _ w59 a58 ⟨r61, L'62, ep'63, hz'64, S65, rfl, hO66, hq68, hx67⟩ h58
       have hlo70 : ∀ q, S65 q → w.heap.size ≤ q := hx67.lo hlo34 (by omega)
       have hB69 := hbL hB32 hlo34 hx67.but
       have hz71 := hB69.size
       have hz72 := hx67.but.size
       have hu73 := ApR.up hq68
       refine pl_nil ?_
       refine co_blockN ?_
       refine co_then ?_
       refine co_reg ?_
       refine pk0 (v := .int .i64 ((i : Nat) : Int)) h58 rfl fun a74 h74 => ?_; clear h58
       refine pk (v := .int .i64 ((i + 1 : Nat) : Int)) h74 rfl (rn_arith' rfl rfl rfl rfl rfl rfl (IntWalk.i64_in _ (by omega)) (by omega)) fun a75 h75 => ?_; clear h74
       refine pk0 (v := .int .i64 ((i + 1 : Nat) : Int)) h75 rfl fun a76 h76 => ?_; clear h75
       refine pl_nil ?_
       refine co_then ?_
       refine ⟨(l.length - (i + 1)), by omega, ?_⟩
       have hlo9 := hlo70
       exact ⟨i + 1, S65, L'62, ep'63, hz'64, h76.sub ⟨rfl, rfl, rfl, rfl, rfl, trivial⟩, rfl, by omega, by omega, by exact hlo9, hO66, hB69⟩
  rintro a77 w78 ⟨S8, L8, e8, z8, h77, hi79, hf80, hB81⟩
  have hz82 := hB81.size
  refine co_seq ?_
  refine co_reg ?_
  refine pw h77 rfl (op_call (args := #[]) (R := fun res xw => ∃ N : Nat, ∃ S' : Nat → Prop, res = pt N 0 ∧ TwS S' xw N14 N L8 e8 z8 (fun _ => []) 0 0 0 ∧ Grew S8 S' w78 xw) rfl rfl rfl (by kernel_rfl) (by kernel_rfl) (Try.call14 _ _) (twNew w78 hf80) (by rintro e x ⟨N, S', h0, h⟩; exact ⟨_, h0, N, S', rfl, h⟩)) ?_; clear h77
  rintro _ w84 a83 ⟨N85, S86, rfl, hO87, hx88⟩ h83
  have hlo90 : ∀ q, S86 q → w.heap.size ≤ q := hx88.lo hi79 (by omega)
  have hB89 := hbL hB81 hi79 hx88.but
  have hz91 := hB89.size
  have hz92 := hx88.but.size
  refine pk0 (v := pt N85 0) h83 rfl fun a93 h93 => ?_; clear h83
  refine pl_nil ?_
  refine co_then ?_
  refine co_seq ?_
  refine co_reg ?_
  refine pk0 (v := .agg #[.slice none 0 0, .int .u64 0]) h93 rfl fun a94 h94 => ?_; clear h93
  refine pw h94 rfl (op_new (v := fun N => pt N 0) (T := 56) (cs := #[.slice none 0 0, .int .u64 0]) (by kernel_rfl) (by kernel_rfl) (by kernel_rfl)) ?_; clear h94
  rintro _ w96 a95 ⟨N97, rfl, hN100, hz101, hk99, hg98⟩ h95
  have hz102 := hg98.size
  have ho103 := off_new (TwS.ofS hO87) hN100
  try dsimp only at h95
  refine pk0 (v := pt N97 0) h95 rfl fun a104 h104 => ?_; clear h95
  refine pl_nil ?_
  refine co_then ?_
  refine co_seq ?_
  refine co_reg ?_
  refine pk0 (v := pt N14 0) h104 rfl fun a105 h105 => ?_; clear h104
  refine pk0 (v := pt N85 0) h105 rfl fun a106 h106 => ?_; clear h105
  refine pk0 (v := .int .u8 cut) h106 rfl fun a107 h107 => ?_; clear h106
  refine pk (v := .int .i64 cut) h107 rfl (rn_conv rfl rfl Try.underlying5 Try.underlying3 (IntWalk.i64_in _ (by omega))) fun a108 h108 => ?_; clear h107
  have hB111 := hb_new hB89 hg98
  have hO112 := TwS.gr hO87 hg98 (fun k e => by cases e)
  refine pw h108 rfl (op_call (args := #[pt N14 0, pt N85 0, .int .i64 0, .int .i64 cut]) (R := fun res xw => ∃ k : Nat, ∃ S' : Nat → Prop, res = .int .i64 ((k : Nat) : Int) ∧ TwS S' xw N14 N85 L8 e8 z8 (fdI fdZ L8 0 ((k : Nat) : Int)).1 (fdI fdZ L8 0 ((k : Nat) : Int)).2.1 (fdI fdZ L8 0 ((k : Nat) : Int)).2.2 k ∧ (k ≤ stN L8) ∧ Grew S86 S' w96 xw) rfl rfl rfl (by kernel_rfl) (by kernel_rfl) (Try.call15 _ _) (twFeedA w96 cut (by omega) hO112) (by rintro e x ⟨k, S', h0, h⟩; exact ⟨_, h0, k, S', rfl, h⟩)) ?_; clear h108
  rintro _ w110 a109 ⟨k113, S114, rfl, hO115, hq117, hx116⟩ h109
  have hlo119 : ∀ q, S114 q → w.heap.size ≤ q := hx116.lo hlo90 (by omega)
  have hB118 := hbL hB111 hlo90 hx116.but
  have hz120 := hB118.size
  have hz121 := hx116.but.size
  refine pk0 (v := .int .i64 ((k113 : Nat) : Int)) h109 rfl fun a122 h122 => ?_; clear h109
  refine pl_nil ?_
  refine co_then ?_
  refine co_seq ?_
  refine co_reg ?_
  refine pk0 (v := pt N14 0) h122 rfl fun a123 h123 => ?_; clear h122
  refine pk0 (v := pt N85 0) h123 rfl fun a124 h124 => ?_; clear h123
  refine pk0 (v := .int .i64 ((k113 : Nat) : Int)) h124 rfl fun a125 h125 => ?_; clear h124
  refine pw h125 rfl (op_call (args := #[pt N14 0, pt N85 0, .int .i64 ((k113 : Nat) : Int), .int .i64 1073741824]) (R := fun res xw => ∃ S' : Nat → Prop, res = .int .i64 ((stN L8 : Nat) : Int) ∧ TwS S' xw N14 N85 L8 e8 z8 (fdI fdZ L8 0 ((stN L8 : Nat) : Int)).1 (fdI fdZ L8 0 ((stN L8 : Nat) : Int)).2.1 (fdI fdZ L8 0 ((stN L8 : Nat) : Int)).2.2 (stN L8) ∧ Grew S114 S' w110 xw) rfl rfl rfl (by kernel_rfl) (by kernel_rfl) (Try.call15 _ _) (twFeedB w110 k113 hO115 hq117) (by rintro e x ⟨S', h0, h⟩; exact ⟨_, h0, S', rfl, h⟩)) ?_; clear h125
  rintro _ w127 a126 ⟨S128, rfl, hO129, hx130⟩ h126
  have hk131 := Blk.butS hk99 hx116.but ho103
  have hlo133 : ∀ q, S128 q → w.heap.size ≤ q := hx130.lo hlo119 (by omega)
  have hB132 := hbL hB118 hlo119 hx130.but
  have hz134 := hB132.size
  have hz135 := hx130.but.size
  refine pk0 (v := .int .i64 ((stN L8 : Nat) : Int)) h126 rfl fun a136 h136 => ?_; clear h126
  refine pl_nil ?_
  refine co_then ?_
  refine co_seq ?_
  refine co_reg ?_
  refine pk0 (v := pt N14 0) h136 rfl fun a137 h137 => ?_; clear h136
  have ho140 := TwS.ofS hO129
  refine pw h137 rfl (op_call (args := #[pt N14 0]) (R := fun res xw => ∃ L2 : List EntT, ∃ u2 : Value, ∃ S' : Nat → Prop, res = u2 ∧ TwS S' xw N14 N85 L8 e8 z8 (fdI fdZ L8 0 ((stN L8 : Nat) : Int)).1 (fdI fdZ L8 0 ((stN L8 : Nat) : Int)).2.1 (fdI fdZ L8 0 ((stN L8 : Nat) : Int)).2.2 (stN L8) ∧ (xw.ownsRow w127.heap.size 40 4 u2 L2.length (L2.flatMap entE)) ∧ (EntsK (fun _ => False) w127.heap.size xw L2) ∧ (L2.map e0 = L8.map e0) ∧ Grew S128 S' w127 xw) rfl rfl rfl (by kernel_rfl) (by kernel_rfl) (Try.call13 _ _) (twAll w127 hO129) (by rintro e x ⟨L2, u2, S', h0, h⟩; exact ⟨_, h0, L2, u2, S', rfl, h⟩)) ?_; clear h137
  rintro u2142 w139 a138 ⟨L2141, _, S143, rfl, hO144, hq146, hq147, hq148, hx145⟩ h138
  have hk149 := Blk.butS hk131 hx130.but (Grew.off hx116 ho103 hk99.lt)
  have hlo151 : ∀ q, S143 q → w.heap.size ≤ q := hx145.lo hlo133 (by omega)
  have hB150 := hbL hB132 hlo133 hx145.but
  have hz152 := hB150.size
  have hz153 := hx145.but.size
  obtain ⟨S154, hY155, hlo156⟩ := slY_mk hq146 hq147
  have hN9 : ¬ S154 N97 := off_lo hlo156 (by omega)
  have hR2 : RI L2141 := RI.e0 hq148.symm (TwS.ri hO144)
  have hS2 := stN_eq hq148
  have hL2 := stN_le L2141
  have hl100 := TwS.len hO144
  have hle0 := e0_len hq148
  have hts9 : ∀ e ∈ L2141, 0 ≤ e.ts ∧ e.ts < 18446744073709551616 := fun e he => ⟨(hY155.1.2 e he).ts0, (hY155.1.2 e he).ts1⟩
  refine pk0 (v := u2142) h138 rfl fun a157 h157 => ?_; clear h138
  refine pl_nil ?_
  refine co_then ?_
  refine co_seq ?_
  refine co_reg ?_
  refine pk0 (v := .slice none 0 0) h157 rfl fun a158 h158 => ?_; clear h157
  refine pl_nil ?_
  refine co_then ?_
  refine co_seq ?_
  refine co_seq ?_
  refine co_reg ?_
  refine pk0 (v := .int .i64 0) h158 rfl fun a159 h159 => ?_; clear h158
  refine pl_nil ?_
  refine co_then ?_
  refine wp_block ?_
  have hof9 : ∀ i, Value.ownBlock (Value.slice none 0 0) = some i → ¬ S143 i := (fun i hi => by simp [Value.ownBlock] at hi)
  have hlo9 : ∀ q, (fun q => q = N97) q → w.heap.size ≤ q := fun q hq => by have e : q = N97 := hq; omega
  have hpt9 : ∀ q, S143 q → (fun q => q = N97) q → False := fun q h1 h2 => by have e : q = N97 := h2; subst e; exact (Grew.off hx145 (Grew.off hx130 (Grew.off hx116 ho103 hk99.lt) hk131.lt) hk149.lt) h1
  have hps9 : ∀ q, S154 q → (fun q => q = N97) q → False := fun q h1 h2 => by have e : q = N97 := h2; subst e; exact hN9 h1
  have hou9 : ∀ i, Value.ownBlock (Value.slice none 0 0) = some i → ¬ (fun q => q = N97) i := (fun i hi => by simp [Value.ownBlock] at hi)
  have h160 : Slots 129 [(2, .int .u64 t), (7, pt N14 0), (9, pt N85 0), (10, pt N97 0), (11, .int .i64 ((stN L8 : Nat) : Int)), (12, u2142), (13, .slice none 0 0), (14, .int .i64 0)] _ := h159.sub ⟨rfl, rfl, rfl, rfl, rfl, rfl, rfl, rfl, trivial⟩; clear h159
  refine co_loop (fun mm a x => ∃ (k : Nat) (SB : Nat → Prop) (uv : Value), Slots 129 [(2, .int .u64 t), (7, pt N14 0), (9, pt N85 0), (10, pt N97 0), (11, .int .i64 ((stN L8 : Nat) : Int)), (12, u2142), (13, uv), (14, .int .i64 ((k : Nat) : Int))] a ∧ mm = L2141.length - k ∧ (k ≤ L2141.length) ∧ (k ≤ stN L2141) ∧ (∀ q, SB q → w.heap.size ≤ q) ∧ (∀ q, S143 q → SB q → False) ∧ (∀ q, S154 q → SB q → False) ∧ (∀ i, Value.ownBlock uv = some i → ¬ SB i) ∧ (∀ i, Value.ownBlock uv = some i → ¬ S143 i) ∧ RsO SB x N97 (fdI fdZ L2141 0 (k : Int)).1 (fdI fdZ L2141 0 (k : Int)).2.1 k ∧ TwS S143 x N14 N85 L8 e8 z8 (fdI fdZ L8 0 ((stN L8 : Nat) : Int)).1 (fdI fdZ L8 0 ((stN L8 : Nat) : Int)).2.1 (fdI fdZ L8 0 ((stN L8 : Nat) : Int)).2.2 (stN L8) ∧ SlY S154 x u2142 L2141 ∧ x.ownsRow w.heap.size 101 2 uv (hitsF (fdI fdZ L2141 0 (k : Int)).1 t ⟨#[]⟩ ⟨#[]⟩).length ((hitsF (fdI fdZ L2141 0 (k : Int)).1 t ⟨#[]⟩ ⟨#[]⟩).flatMap pairE) ∧ Below w.heap.size w x) (L2141.length - 0) ?_ ?_
  have hk161 := Blk.butS hk149 hx145.but (Grew.off hx130 (Grew.off hx116 ho103 hk99.lt) hk131.lt)
  · exact ⟨0, (fun q => q = N97), (.slice none 0 0), h160.sub ⟨rfl, rfl, rfl, rfl, rfl, rfl, rfl, (slot_eq rfl (congrArg (Value.int .i64) (by first | rfl | omega))), trivial⟩, rfl, by omega, by omega, by exact hlo9, by exact hpt9, by exact hps9, by exact hou9, by exact hof9, (by rw [show ((0 : Nat) : Int) = 0 from rfl, fdI_0]; exact RsO.mk0 hk161), hO144, hY155, (row_eq (row_nilL _ _ _ _ _) (hits_nil t).symm), hB150⟩
  · rintro k162 a163 w164 ⟨k, SB, uv, h163, rfl, hi165, hi166, hi167, hi168, hi169, hi170, hi171, hf172, hf173, hf174, hf175, hB176⟩
    have hz177 := hB176.size
    have hlo178 : ∀ q, SB q → w.heap.size ≤ q := by assumption
    have hptA : ∀ q, S143 q → SB q → False := by assumption
    have hpsA : ∀ q, S154 q → SB q → False := by assumption
    have houA : ∀ i, Value.ownBlock uv = some i → ¬ SB i := by assumption
    have hofA : ∀ i, Value.ownBlock uv = some i → ¬ S143 i := by assumption
    refine co_seq ?_
    refine co_seq ?_
    refine co_reg ?_
    refine pk0 (v := .int .i64 ((k : Nat) : Int)) h163 rfl fun a179 h179 => ?_; clear h163
    refine pk0 (v := u2142) h179 rfl fun a180 h180 => ?_; clear h179
    refine pk (v := .int .i64 ((L2141.length : Nat) : Int)) h180 rfl (rn_len rfl rfl Try.underlying48 (hf174.1.1)) fun a181 h181 => ?_; clear h180
    refine pk0 (v := .bool (decide (((k : Nat) : Int) < ((L2141.length : Nat) : Int)))) h181 rfl fun a182 h182 => ?_; clear h181
    refine pk0 (v := .bool (decide (((k : Nat) : Int) < ((L2141.length : Nat) : Int)))) h182 rfl fun a183 h183 => ?_; clear h182
    cases hc184 : (decide (((k : Nat) : Int) < ((L2141.length : Nat) : Int)))
    ·
     rw [hc184] at h183
     have hp185 : ¬ (((k : Nat) : Int) < ((L2141.length : Nat) : Int)) := of_decide_eq_false hc184
     clear hc184
     refine psk h183 rfl fun a186 h186 => ?_; clear h183
     refine psk h186 rfl fun a187 h187 => ?_; clear h186
     refine psk h187 rfl fun a188 h188 => ?_; clear h187
     refine pk0 (v := .bool false) h188 rfl fun a189 h189 => ?_; clear h188
     refine pl_nil ?_
     refine co_then ?_
     refine co_false h189 rfl ?_
     refine wp_exit ?_
     refine co_thenX ?_
     refine co_thenX ?_
     refine co_blockX ?_
     refine co_then ?_
     refine co_seq ?_
     refine co_reg ?_
     refine pk0 (v := pt N85 0) h189 rfl fun a190 h190 => ?_; clear h189
     refine pk0 (v := .int .u64 t) h190 rfl fun a191 h191 => ?_; clear h190
     have ho194 := RsO.ofS hf172
     have ho195 := TwS.ofS hf173
     obtain ⟨D199, hV200⟩ := TwS.mv hf173
     have hkn : k = stN L2141 := by omega
     have hX9 : (fdI fdZ L8 0 ((stN L8 : Nat) : Int)) = (fdI fdZ L2141 0 (k : Int)) := by rw [hkn, hS2]; exact (fdI_e0 hq148).symm
     have hP8 := fd_inv hR2 hts9 k (by omega)
     have hH8 := hP8.hits (t := t) (F := ⟨#[]⟩) (T := ⟨#[]⟩)
     refine pw h191 rfl (op_call (args := #[pt N85 0, .string (⟨#[]⟩), .string (⟨#[]⟩), .int .u64 t, .int .i64 1000]) (R := fun res xw => ∃ u : Value, res = .tuple #[u, .bool false] ∧ xw.ownsRow w164.heap.size 101 2 u (hitsF (fdI fdZ L2141 0 (k : Int)).1 t ⟨#[]⟩ ⟨#[]⟩).length ((hitsF (fdI fdZ L2141 0 (k : Int)).1 t ⟨#[]⟩ ⟨#[]⟩).flatMap pairE) ∧ Below w164.heap.size w164 xw) rfl rfl rfl (by kernel_rfl) (by kernel_rfl) (Try.call18 _ _) (mvScan w164 ⟨#[]⟩ ⟨#[]⟩ t 1000 hV200 (by omega) (by omega)) (by rintro e x ⟨u, h0, h1, h2⟩; rw [hX9, scanM_no (by omega)] at h0; rw [hX9, scan_whole (by omega)] at h1; exact ⟨_, h0, u, rfl, h1, h2⟩)) ?_; clear h191
     rintro _ w193 a192 ⟨u196, rfl, hr197, hb198⟩ h192
     have hz201 := hb198.size
     have ho202 := RsO.ofS hf172
     have ho203 := TwS.ofS hf173
     have hB206 := hb_call hB176 hb198
     have hO207 := RsO.gr hf172 (below_grown hb198) (fun k e => by cases e)
     obtain ⟨u204, hb205⟩ := RsO.blk hO207
     have ho208 : ¬ S143 N97 := fun hq => hptA N97 hq (RsO.inS hO207)
     refine pk0 (v := .tuple #[u196, .bool false]) h192 rfl fun a209 h209 => ?_; clear h192
     refine pk0 (v := u196) h209 rfl fun a210 h210 => ?_; clear h209
     refine pk0 (v := .bool false) h210 rfl fun a211 h211 => ?_; clear h210
     refine pk0 (v := u196) h211 rfl fun a212 h212 => ?_; clear h211
     refine pk0 (v := .bool false) h212 rfl fun a213 h213 => ?_; clear h212
     refine pl_nil ?_
     refine co_then ?_
     refine co_seq ?_
     refine dr_gen (fun x => Below w.heap.size w x ∧ Blk x N97 56 #[u204, .int .u64 ((fdI fdZ L2141 0 (k : Int)).2.1)]) (by kernel_rfl) (fun w214 hg215 => ?_) (fun w214 hg215 => ?_)
     ·
      have hz216 := hg215.size
      have hB217 := hb_new hB206 hg215
      have hk218 := hb205.kept hg215 (by simp)
      exact ⟨hB217, hk218⟩
     have hz219 := hg215.size
     have hB220 := hb_new hB206 hg215
     have hk221 := hb205.kept hg215 (by simp)
     refine dk0 0 (v := .int .i64 ((stN L8 : Nat) : Int)) h213 rfl rfl ⟨hB220, hk221⟩ fun a222 h222 => ?_; clear h213
     refine dk0 1 (v := pt N14 0) h222 rfl rfl ⟨hB220, hk221⟩ fun a223 h223 => ?_; clear h222
     have hO226 := TwS.gr hf173 (below_grown hb198) (fun k e => by cases e)
     have hO227 := TwS.gr hO226 hg215 (fun k e => by cases e)
     have hr228 := row_kept_new hf175 (below_grown hb198)
     have hr229 := row_kept_new hr228 hg215
     have hO231 := RsO.gr hO207 hg215 (fun k e => by cases e)
     have ho230 := RsO.ofS hO231
     have ho232 := TwS.ofS hO227
     refine d1 2 h223 rfl rfl (op_call (args := #[pt N14 0]) (R := fun res xw => ∃ S' : Nat → Prop, res = .int .i64 ((stN L8 : Nat) : Int) ∧ TwS S' xw N14 N85 L8 e8 z8 (fdI fdZ L8 0 ((stN L8 : Nat) : Int)).1 (fdI fdZ L8 0 ((stN L8 : Nat) : Int)).2.1 (fdI fdZ L8 0 ((stN L8 : Nat) : Int)).2.2 (stN L8) ∧ Grew S143 S' w214 xw) rfl rfl rfl (by kernel_rfl) (by kernel_rfl) (Try.call19 _ _) (twStamped w214 hO227) (by rintro e x ⟨S', h0, h⟩; exact ⟨_, h0, S', rfl, h⟩)) ?_ ?_; clear h223
     ·
      rintro _ w225 ⟨S233, rfl, hO234, hx235⟩
      have hr236 := row_kept_new hr197 hg215
      have hlo238 : ∀ q, S233 q → w.heap.size ≤ q := hx235.lo hlo151 (by omega)
      have hB237 := hbL hB220 hlo151 hx235.but
      have hz239 := hB237.size
      have hz240 := hx235.but.size
      have hk241 := Blk.butS hk221 hx235.but ho208
      exact ⟨hB237, hk241⟩
     rintro _ w225 a224 ⟨S233, rfl, hO234, hx235⟩ h224
     have hr236 := row_kept_new hr197 hg215
     have hlo238 : ∀ q, S233 q → w.heap.size ≤ q := hx235.lo hlo151 (by omega)
     have hB237 := hbL hB220 hlo151 hx235.but
     have hz239 := hB237.size
     have hz240 := hx235.but.size
     have hk241 := Blk.butS hk221 hx235.but ho208
     refine dk0 3 (v := .bool (((stN L8 : Nat) : Int) == ((stN L8 : Nat) : Int))) h224 rfl rfl ⟨hB237, hk241⟩ fun a242 h242 => ?_; clear h224
     refine dk0 4 (v := .bool (((stN L8 : Nat) : Int) == ((stN L8 : Nat) : Int))) h242 rfl rfl ⟨hB237, hk241⟩ fun a243 h243 => ?_; clear h242
     have hc244 : (((stN L8 : Nat) : Int) == ((stN L8 : Nat) : Int)) = true := by first | (simp; done) | (simp; omega) | exact beq_false_of_ne (by omega) | exact beq_iff_eq.2 (by omega)
     rw [hc244] at h243; clear hc244
     refine dk0 5 (v := u196) h243 rfl rfl ⟨hB237, hk241⟩ fun a245 h245 => ?_; clear h243
     refine dk0 6 (v := uv) h245 rfl rfl ⟨hB237, hk241⟩ fun a246 h246 => ?_; clear h245
     have hr249 := own_butS hr236 hx235.but (offR_row ho203 hr236 (Nat.le_refl _))
     have hr250 := own_butS hr229 hx235.but hofA
     refine d1 7 h246 rfl rfl (op_call (args := #[u196, uv]) (R := fun res xw => res = .bool true ∧ Below w225.heap.size w225 xw) rfl rfl rfl (by kernel_rfl) (by kernel_rfl) (Try.call20 _ _) (rsamePairs_any u196 (hitsF (fdI fdZ L2141 0 (k : Int)).1 t ⟨#[]⟩ ⟨#[]⟩) uv (hitsF (fdI fdZ L2141 0 (k : Int)).1 t ⟨#[]⟩ ⟨#[]⟩) w225 (row_sl hr249 pairE_len) (row_sl hr250 pairE_len)) (by rintro e x ⟨h0, h⟩; rw [sameP_refl] at h0; exact ⟨_, h0, rfl, h⟩)) ?_ ?_; clear h246
     ·
      rintro _ w248 ⟨rfl, hb251⟩
      have hz252 := hb251.size
      have hO254 := rso_butR hO231 hx235.but (ap_symm hptA)
      have ho253 := RsO.ofS hO254
      have ho255 := TwS.ofS hO234
      have hB256 := hb_call hB237 hb251
      have hk257 := hk241.below hb251
      exact ⟨hB256, hk257⟩
     rintro _ w248 a247 ⟨rfl, hb251⟩ h247
     have hz252 := hb251.size
     have hO254 := rso_butR hO231 hx235.but (ap_symm hptA)
     have ho253 := RsO.ofS hO254
     have ho255 := TwS.ofS hO234
     have hB256 := hb_call hB237 hb251
     have hk257 := hk241.below hb251
     refine dk0 8 (v := .bool true) h247 rfl rfl ⟨hB256, hk257⟩ fun a258 h258 => ?_; clear h247
     refine dk0 9 (v := .bool true) h258 rfl rfl ⟨hB256, hk257⟩ fun a259 h259 => ?_; clear h258
     refine dk0 10 (v := .bool false) h259 rfl rfl ⟨hB256, hk257⟩ fun a260 h260 => ?_; clear h259
     refine dk0 11 (v := .bool true) h260 rfl rfl ⟨hB256, hk257⟩ fun a261 h261 => ?_; clear h260
     refine dk0 12 (v := .bool true) h261 rfl rfl ⟨hB256, hk257⟩ fun a262 h262 => ?_; clear h261
     refine dk0 13 (v := .bool true) h262 rfl rfl ⟨hB256, hk257⟩ fun a263 h263 => ?_; clear h262
     refine dk0 14 (v := pt N85 0) h263 rfl rfl ⟨hB256, hk257⟩ fun a264 h264 => ?_; clear h263
     refine dk0 16 (v := pt N97 0) h264 rfl rfl ⟨hB256, hk257⟩ fun a265 h265 => ?_; clear h264
     refine dk0 17 (v := pt N97 0) h265 rfl rfl ⟨hB256, hk257⟩ fun a266 h266 => ?_; clear h265
     refine dk0 18 (v := pt N97 1) h266 rfl rfl ⟨hB256, hk257⟩ fun a267 h267 => ?_; clear h266
     refine dk 19 (v := .int .u64 ((fdI fdZ L2141 0 (k : Int)).2.1)) h267 rfl rfl ⟨hB256, hk257⟩ (fun x hx => (rn_load1 rfl rfl Try.isAgg27 (hx.2.cell rfl))) fun a268 h268 => ?_; clear h267
     have hO273 := TwS.gr hO234 (below_grown hb251) (fun k e => by cases e)
     obtain ⟨D271, hV272⟩ := TwS.mv hO273
     refine d1 15 h268 rfl rfl (op_call (args := #[pt N85 0]) (R := fun res xw => res = .int .u64 (fdI fdZ L2141 0 (k : Int)).2.1 ∧ w248 = xw) rfl rfl rfl (by kernel_rfl) (by kernel_rfl) (Try.call21 _ _) (mvLast w248 hV272) (by rintro e x ⟨h0, rfl⟩; rw [hX9] at h0; exact ⟨_, h0, rfl, rfl⟩)) ?_ ?_; clear h268
     ·
      rintro _ _ ⟨rfl, rfl⟩
      exact ⟨hB256, hk257⟩
     rintro _ _ a269 ⟨rfl, rfl⟩ h269
     refine dk0 20 (v := .bool ((fdI fdZ L2141 0 (k : Int)).2.1 == (fdI fdZ L2141 0 (k : Int)).2.1)) h269 rfl rfl ⟨hB256, hk257⟩ fun a274 h274 => ?_; clear h269
     refine dk0 21 (v := .bool ((fdI fdZ L2141 0 (k : Int)).2.1 == (fdI fdZ L2141 0 (k : Int)).2.1)) h274 rfl rfl ⟨hB256, hk257⟩ fun a275 h275 => ?_; clear h274
     refine dk0 22 (v := .bool ((fdI fdZ L2141 0 (k : Int)).2.1 == (fdI fdZ L2141 0 (k : Int)).2.1)) h275 rfl rfl ⟨hB256, hk257⟩ fun a276 h276 => ?_; clear h275
     have hc277 : ((fdI fdZ L2141 0 (k : Int)).2.1 == (fdI fdZ L2141 0 (k : Int)).2.1) = true := by first | (simp; done) | (simp; omega) | exact beq_false_of_ne (by omega) | exact beq_iff_eq.2 (by omega)
     rw [hc277] at h276; clear hc277
     refine dk0 23 (v := pt N85 0) h276 rfl rfl ⟨hB256, hk257⟩ fun a278 h278 => ?_; clear h276
     refine dk0 25 (v := pt N97 0) h278 rfl rfl ⟨hB256, hk257⟩ fun a279 h279 => ?_; clear h278
     obtain ⟨D282, hV283⟩ := TwS.mv hO273
     refine d1 24 h279 rfl rfl (op_call (args := #[pt N85 0]) (R := fun res xw => res = .int .i64 ((csK (fdI fdZ L2141 0 (k : Int)).1 (ksOf (fdI fdZ L2141 0 (k : Int)).1) : Nat) : Int) ∧ w248 = xw) rfl rfl rfl (by kernel_rfl) (by kernel_rfl) (Try.call22 _ _) (mvCells w248 hV283) (by rintro e x ⟨h0, rfl⟩; rw [hX9, hP8.ce] at h0; exact ⟨_, h0, rfl, rfl⟩)) ?_ ?_; clear h279
     ·
      rintro _ _ ⟨rfl, rfl⟩
      exact ⟨hB256, hk257⟩
     rintro _ _ a280 ⟨rfl, rfl⟩ h280
     have hO286 := RsO.gr hO254 (below_grown hb251) (fun k e => by cases e)
     refine d1 26 h280 rfl rfl (op_call (args := #[pt N97 0]) (R := fun res xw => res = .int .i64 ((csK (fdI fdZ L2141 0 (k : Int)).1 (ksOf (fdI fdZ L2141 0 (k : Int)).1) : Nat) : Int) ∧ Below w248.heap.size w248 xw) rfl rfl rfl (by kernel_rfl) (by kernel_rfl) (Try.call23 _ _) (rsCells w248 hO286 (by omega)) (by rintro e x ⟨rfl, h⟩; exact ⟨_, rfl, rfl, h⟩)) ?_ ?_; clear h280
     ·
      rintro _ w285 ⟨rfl, hb287⟩
      have hz288 := hb287.size
      have ho289 := RsO.ofS hO286
      have ho290 := TwS.ofS hO273
      have hB291 := hb_call hB256 hb287
      have hk292 := hk257.below hb287
      exact ⟨hB291, hk292⟩
     rintro _ w285 a284 ⟨rfl, hb287⟩ h284
     have hz288 := hb287.size
     have ho289 := RsO.ofS hO286
     have ho290 := TwS.ofS hO273
     have hB291 := hb_call hB256 hb287
     have hk292 := hk257.below hb287
     refine dk0 27 (v := .bool (((csK (fdI fdZ L2141 0 (k : Int)).1 (ksOf (fdI fdZ L2141 0 (k : Int)).1) : Nat) : Int) == ((csK (fdI fdZ L2141 0 (k : Int)).1 (ksOf (fdI fdZ L2141 0 (k : Int)).1) : Nat) : Int))) h284 rfl rfl ⟨hB291, hk292⟩ fun a293 h293 => ?_; clear h284
     refine dk0 28 (v := .bool (((csK (fdI fdZ L2141 0 (k : Int)).1 (ksOf (fdI fdZ L2141 0 (k : Int)).1) : Nat) : Int) == ((csK (fdI fdZ L2141 0 (k : Int)).1 (ksOf (fdI fdZ L2141 0 (k : Int)).1) : Nat) : Int))) h293 rfl rfl ⟨hB291, hk292⟩ fun a294 h294 => ?_; clear h293
     refine dk0 29 (v := .bool (((csK (fdI fdZ L2141 0 (k : Int)).1 (ksOf (fdI fdZ L2141 0 (k : Int)).1) : Nat) : Int) == ((csK (fdI fdZ L2141 0 (k : Int)).1 (ksOf (fdI fdZ L2141 0 (k : Int)).1) : Nat) : Int))) h294 rfl rfl ⟨hB291, hk292⟩ fun a295 h295 => ?_; clear h294
     have hc296 : (((csK (fdI fdZ L2141 0 (k : Int)).1 (ksOf (fdI fdZ L2141 0 (k : Int)).1) : Nat) : Int) == ((csK (fdI fdZ L2141 0 (k : Int)).1 (ksOf (fdI fdZ L2141 0 (k : Int)).1) : Nat) : Int)) = true := by first | (simp; done) | (simp; omega) | exact beq_false_of_ne (by omega) | exact beq_iff_eq.2 (by omega)
     rw [hc296] at h295; clear hc296
     have hr299 := row_kept_new hr250 (below_grown hb251)
     have hr300 := row_kept_new hr299 (below_grown hb287)
     have hr301 := row_kept_new hr249 (below_grown hb251)
     have hr302 := row_kept_new hr301 (below_grown hb287)
     refine d1 30 h295 rfl rfl (op_call (args := #[]) (R := fun res xw => res = .bool true ∧ Below w285.heap.size w285 xw) rfl rfl rfl (by kernel_rfl) (by kernel_rfl) (Try.call7 _ _) (awake30 w285) (by rintro e x ⟨rfl, h⟩; exact ⟨_, rfl, rfl, h⟩)) ?_ ?_; clear h295
     ·
      rintro _ w298 ⟨rfl, hb303⟩
      have hz304 := hb303.size
      have hO306 := RsO.gr hO286 (below_grown hb287) (fun k e => by cases e)
      have ho305 := RsO.ofS hO306
      have hO308 := TwS.gr hO273 (below_grown hb287) (fun k e => by cases e)
      have ho307 := TwS.ofS hO308
      have hB309 := hb_call hB291 hb303
      have hk310 := hk292.below hb303
      exact ⟨hB309, hk310⟩
     rintro _ w298 a297 ⟨rfl, hb303⟩ h297
     have hz304 := hb303.size
     have hO306 := RsO.gr hO286 (below_grown hb287) (fun k e => by cases e)
     have ho305 := RsO.ofS hO306
     have hO308 := TwS.gr hO273 (below_grown hb287) (fun k e => by cases e)
     have ho307 := TwS.ofS hO308
     have hB309 := hb_call hB291 hb303
     have hk310 := hk292.below hb303
     refine dk0 31 (v := .bool true) h297 rfl rfl ⟨hB309, hk310⟩ fun a311 h311 => ?_; clear h297
     refine dk0 32 (v := .bool true) h311 rfl rfl ⟨hB309, hk310⟩ fun a312 h312 => ?_; clear h311
     refine dr_done (by kernel_rfl) ?_
     refine co_then ?_
     refine wp_ret ?_
     refine co_ret1 h312 rfl rfl ?_
     exact ⟨rfl, hB309⟩
    ·
     rw [hc184] at h183
     have hp313 : ((k : Nat) : Int) < ((L2141.length : Nat) : Int) := of_decide_eq_true hc184
     clear hc184
     refine pk0 (v := .int .i64 ((k : Nat) : Int)) h183 rfl fun a314 h314 => ?_; clear h183
     refine pk0 (v := .int .i64 ((stN L8 : Nat) : Int)) h314 rfl fun a315 h315 => ?_; clear h314
     refine pk0 (v := .bool (decide (((k : Nat) : Int) < ((stN L8 : Nat) : Int)))) h315 rfl fun a316 h316 => ?_; clear h315
     refine pk0 (v := .bool (decide (((k : Nat) : Int) < ((stN L8 : Nat) : Int)))) h316 rfl fun a317 h317 => ?_; clear h316
     refine pl_nil ?_
     refine co_then ?_
     cases hc318 : (decide (((k : Nat) : Int) < ((stN L8 : Nat) : Int)))
     ·
      rw [hc318] at h317
      have hp319 : ¬ (((k : Nat) : Int) < ((stN L8 : Nat) : Int)) := of_decide_eq_false hc318
      clear hc318
      refine co_false h317 rfl ?_
      refine wp_exit ?_
      refine co_thenX ?_
      refine co_thenX ?_
      refine co_blockX ?_
      refine co_then ?_
      refine co_seq ?_
      refine co_reg ?_
      refine pk0 (v := pt N85 0) h317 rfl fun a320 h320 => ?_; clear h317
      refine pk0 (v := .int .u64 t) h320 rfl fun a321 h321 => ?_; clear h320
      have ho324 := RsO.ofS hf172
      have ho325 := TwS.ofS hf173
      obtain ⟨D329, hV330⟩ := TwS.mv hf173
      have hkn : k = stN L2141 := by omega
      have hX9 : (fdI fdZ L8 0 ((stN L8 : Nat) : Int)) = (fdI fdZ L2141 0 (k : Int)) := by rw [hkn, hS2]; exact (fdI_e0 hq148).symm
      have hP8 := fd_inv hR2 hts9 k (by omega)
      have hH8 := hP8.hits (t := t) (F := ⟨#[]⟩) (T := ⟨#[]⟩)
      refine pw h321 rfl (op_call (args := #[pt N85 0, .string (⟨#[]⟩), .string (⟨#[]⟩), .int .u64 t, .int .i64 1000]) (R := fun res xw => ∃ u : Value, res = .tuple #[u, .bool false] ∧ xw.ownsRow w164.heap.size 101 2 u (hitsF (fdI fdZ L2141 0 (k : Int)).1 t ⟨#[]⟩ ⟨#[]⟩).length ((hitsF (fdI fdZ L2141 0 (k : Int)).1 t ⟨#[]⟩ ⟨#[]⟩).flatMap pairE) ∧ Below w164.heap.size w164 xw) rfl rfl rfl (by kernel_rfl) (by kernel_rfl) (Try.call18 _ _) (mvScan w164 ⟨#[]⟩ ⟨#[]⟩ t 1000 hV330 (by omega) (by omega)) (by rintro e x ⟨u, h0, h1, h2⟩; rw [hX9, scanM_no (by omega)] at h0; rw [hX9, scan_whole (by omega)] at h1; exact ⟨_, h0, u, rfl, h1, h2⟩)) ?_; clear h321
      rintro _ w323 a322 ⟨u326, rfl, hr327, hb328⟩ h322
      have hz331 := hb328.size
      have ho332 := RsO.ofS hf172
      have ho333 := TwS.ofS hf173
      have hB336 := hb_call hB176 hb328
      have hO337 := RsO.gr hf172 (below_grown hb328) (fun k e => by cases e)
      obtain ⟨u334, hb335⟩ := RsO.blk hO337
      have ho338 : ¬ S143 N97 := fun hq => hptA N97 hq (RsO.inS hO337)
      refine pk0 (v := .tuple #[u326, .bool false]) h322 rfl fun a339 h339 => ?_; clear h322
      refine pk0 (v := u326) h339 rfl fun a340 h340 => ?_; clear h339
      refine pk0 (v := .bool false) h340 rfl fun a341 h341 => ?_; clear h340
      refine pk0 (v := u326) h341 rfl fun a342 h342 => ?_; clear h341
      refine pk0 (v := .bool false) h342 rfl fun a343 h343 => ?_; clear h342
      refine pl_nil ?_
      refine co_then ?_
      refine co_seq ?_
      refine dr_gen (fun x => Below w.heap.size w x ∧ Blk x N97 56 #[u334, .int .u64 ((fdI fdZ L2141 0 (k : Int)).2.1)]) (by kernel_rfl) (fun w344 hg345 => ?_) (fun w344 hg345 => ?_)
      ·
       have hz346 := hg345.size
       have hB347 := hb_new hB336 hg345
       have hk348 := hb335.kept hg345 (by simp)
       exact ⟨hB347, hk348⟩
      have hz349 := hg345.size
      have hB350 := hb_new hB336 hg345
      have hk351 := hb335.kept hg345 (by simp)
      refine dk0 0 (v := .int .i64 ((stN L8 : Nat) : Int)) h343 rfl rfl ⟨hB350, hk351⟩ fun a352 h352 => ?_; clear h343
      refine dk0 1 (v := pt N14 0) h352 rfl rfl ⟨hB350, hk351⟩ fun a353 h353 => ?_; clear h352
      have hO356 := TwS.gr hf173 (below_grown hb328) (fun k e => by cases e)
      have hO357 := TwS.gr hO356 hg345 (fun k e => by cases e)
      have hr358 := row_kept_new hf175 (below_grown hb328)
      have hr359 := row_kept_new hr358 hg345
      have hO361 := RsO.gr hO337 hg345 (fun k e => by cases e)
      have ho360 := RsO.ofS hO361
      have ho362 := TwS.ofS hO357
      refine d1 2 h353 rfl rfl (op_call (args := #[pt N14 0]) (R := fun res xw => ∃ S' : Nat → Prop, res = .int .i64 ((stN L8 : Nat) : Int) ∧ TwS S' xw N14 N85 L8 e8 z8 (fdI fdZ L8 0 ((stN L8 : Nat) : Int)).1 (fdI fdZ L8 0 ((stN L8 : Nat) : Int)).2.1 (fdI fdZ L8 0 ((stN L8 : Nat) : Int)).2.2 (stN L8) ∧ Grew S143 S' w344 xw) rfl rfl rfl (by kernel_rfl) (by kernel_rfl) (Try.call19 _ _) (twStamped w344 hO357) (by rintro e x ⟨S', h0, h⟩; exact ⟨_, h0, S', rfl, h⟩)) ?_ ?_; clear h353
      ·
       rintro _ w355 ⟨S363, rfl, hO364, hx365⟩
       have hr366 := row_kept_new hr327 hg345
       have hlo368 : ∀ q, S363 q → w.heap.size ≤ q := hx365.lo hlo151 (by omega)
       have hB367 := hbL hB350 hlo151 hx365.but
       have hz369 := hB367.size
       have hz370 := hx365.but.size
       have hk371 := Blk.butS hk351 hx365.but ho338
       exact ⟨hB367, hk371⟩
      rintro _ w355 a354 ⟨S363, rfl, hO364, hx365⟩ h354
      have hr366 := row_kept_new hr327 hg345
      have hlo368 : ∀ q, S363 q → w.heap.size ≤ q := hx365.lo hlo151 (by omega)
      have hB367 := hbL hB350 hlo151 hx365.but
      have hz369 := hB367.size
      have hz370 := hx365.but.size
      have hk371 := Blk.butS hk351 hx365.but ho338
      refine dk0 3 (v := .bool (((stN L8 : Nat) : Int) == ((stN L8 : Nat) : Int))) h354 rfl rfl ⟨hB367, hk371⟩ fun a372 h372 => ?_; clear h354
      refine dk0 4 (v := .bool (((stN L8 : Nat) : Int) == ((stN L8 : Nat) : Int))) h372 rfl rfl ⟨hB367, hk371⟩ fun a373 h373 => ?_; clear h372
      have hc374 : (((stN L8 : Nat) : Int) == ((stN L8 : Nat) : Int)) = true := by first | (simp; done) | (simp; omega) | exact beq_false_of_ne (by omega) | exact beq_iff_eq.2 (by omega)
      rw [hc374] at h373; clear hc374
      refine dk0 5 (v := u326) h373 rfl rfl ⟨hB367, hk371⟩ fun a375 h375 => ?_; clear h373
      refine dk0 6 (v := uv) h375 rfl rfl ⟨hB367, hk371⟩ fun a376 h376 => ?_; clear h375
      have hr379 := own_butS hr366 hx365.but (offR_row ho333 hr366 (Nat.le_refl _))
      have hr380 := own_butS hr359 hx365.but hofA
      refine d1 7 h376 rfl rfl (op_call (args := #[u326, uv]) (R := fun res xw => res = .bool true ∧ Below w355.heap.size w355 xw) rfl rfl rfl (by kernel_rfl) (by kernel_rfl) (Try.call20 _ _) (rsamePairs_any u326 (hitsF (fdI fdZ L2141 0 (k : Int)).1 t ⟨#[]⟩ ⟨#[]⟩) uv (hitsF (fdI fdZ L2141 0 (k : Int)).1 t ⟨#[]⟩ ⟨#[]⟩) w355 (row_sl hr379 pairE_len) (row_sl hr380 pairE_len)) (by rintro e x ⟨h0, h⟩; rw [sameP_refl] at h0; exact ⟨_, h0, rfl, h⟩)) ?_ ?_; clear h376
      ·
       rintro _ w378 ⟨rfl, hb381⟩
       have hz382 := hb381.size
       have hO384 := rso_butR hO361 hx365.but (ap_symm hptA)
       have ho383 := RsO.ofS hO384
       have ho385 := TwS.ofS hO364
       have hB386 := hb_call hB367 hb381
       have hk387 := hk371.below hb381
       exact ⟨hB386, hk387⟩
      rintro _ w378 a377 ⟨rfl, hb381⟩ h377
      have hz382 := hb381.size
      have hO384 := rso_butR hO361 hx365.but (ap_symm hptA)
      have ho383 := RsO.ofS hO384
      have ho385 := TwS.ofS hO364
      have hB386 := hb_call hB367 hb381
      have hk387 := hk371.below hb381
      refine dk0 8 (v := .bool true) h377 rfl rfl ⟨hB386, hk387⟩ fun a388 h388 => ?_; clear h377
      refine dk0 9 (v := .bool true) h388 rfl rfl ⟨hB386, hk387⟩ fun a389 h389 => ?_; clear h388
      refine dk0 10 (v := .bool false) h389 rfl rfl ⟨hB386, hk387⟩ fun a390 h390 => ?_; clear h389
      refine dk0 11 (v := .bool true) h390 rfl rfl ⟨hB386, hk387⟩ fun a391 h391 => ?_; clear h390
      refine dk0 12 (v := .bool true) h391 rfl rfl ⟨hB386, hk387⟩ fun a392 h392 => ?_; clear h391
      refine dk0 13 (v := .bool true) h392 rfl rfl ⟨hB386, hk387⟩ fun a393 h393 => ?_; clear h392
      refine dk0 14 (v := pt N85 0) h393 rfl rfl ⟨hB386, hk387⟩ fun a394 h394 => ?_; clear h393
      refine dk0 16 (v := pt N97 0) h394 rfl rfl ⟨hB386, hk387⟩ fun a395 h395 => ?_; clear h394
      refine dk0 17 (v := pt N97 0) h395 rfl rfl ⟨hB386, hk387⟩ fun a396 h396 => ?_; clear h395
      refine dk0 18 (v := pt N97 1) h396 rfl rfl ⟨hB386, hk387⟩ fun a397 h397 => ?_; clear h396
      refine dk 19 (v := .int .u64 ((fdI fdZ L2141 0 (k : Int)).2.1)) h397 rfl rfl ⟨hB386, hk387⟩ (fun x hx => (rn_load1 rfl rfl Try.isAgg27 (hx.2.cell rfl))) fun a398 h398 => ?_; clear h397
      have hO403 := TwS.gr hO364 (below_grown hb381) (fun k e => by cases e)
      obtain ⟨D401, hV402⟩ := TwS.mv hO403
      refine d1 15 h398 rfl rfl (op_call (args := #[pt N85 0]) (R := fun res xw => res = .int .u64 (fdI fdZ L2141 0 (k : Int)).2.1 ∧ w378 = xw) rfl rfl rfl (by kernel_rfl) (by kernel_rfl) (Try.call21 _ _) (mvLast w378 hV402) (by rintro e x ⟨h0, rfl⟩; rw [hX9] at h0; exact ⟨_, h0, rfl, rfl⟩)) ?_ ?_; clear h398
      ·
       rintro _ _ ⟨rfl, rfl⟩
       exact ⟨hB386, hk387⟩
      rintro _ _ a399 ⟨rfl, rfl⟩ h399
      refine dk0 20 (v := .bool ((fdI fdZ L2141 0 (k : Int)).2.1 == (fdI fdZ L2141 0 (k : Int)).2.1)) h399 rfl rfl ⟨hB386, hk387⟩ fun a404 h404 => ?_; clear h399
      refine dk0 21 (v := .bool ((fdI fdZ L2141 0 (k : Int)).2.1 == (fdI fdZ L2141 0 (k : Int)).2.1)) h404 rfl rfl ⟨hB386, hk387⟩ fun a405 h405 => ?_; clear h404
      refine dk0 22 (v := .bool ((fdI fdZ L2141 0 (k : Int)).2.1 == (fdI fdZ L2141 0 (k : Int)).2.1)) h405 rfl rfl ⟨hB386, hk387⟩ fun a406 h406 => ?_; clear h405
      have hc407 : ((fdI fdZ L2141 0 (k : Int)).2.1 == (fdI fdZ L2141 0 (k : Int)).2.1) = true := by first | (simp; done) | (simp; omega) | exact beq_false_of_ne (by omega) | exact beq_iff_eq.2 (by omega)
      rw [hc407] at h406; clear hc407
      refine dk0 23 (v := pt N85 0) h406 rfl rfl ⟨hB386, hk387⟩ fun a408 h408 => ?_; clear h406
      refine dk0 25 (v := pt N97 0) h408 rfl rfl ⟨hB386, hk387⟩ fun a409 h409 => ?_; clear h408
      obtain ⟨D412, hV413⟩ := TwS.mv hO403
      refine d1 24 h409 rfl rfl (op_call (args := #[pt N85 0]) (R := fun res xw => res = .int .i64 ((csK (fdI fdZ L2141 0 (k : Int)).1 (ksOf (fdI fdZ L2141 0 (k : Int)).1) : Nat) : Int) ∧ w378 = xw) rfl rfl rfl (by kernel_rfl) (by kernel_rfl) (Try.call22 _ _) (mvCells w378 hV413) (by rintro e x ⟨h0, rfl⟩; rw [hX9, hP8.ce] at h0; exact ⟨_, h0, rfl, rfl⟩)) ?_ ?_; clear h409
      ·
       rintro _ _ ⟨rfl, rfl⟩
       exact ⟨hB386, hk387⟩
      rintro _ _ a410 ⟨rfl, rfl⟩ h410
      have hO416 := RsO.gr hO384 (below_grown hb381) (fun k e => by cases e)
      refine d1 26 h410 rfl rfl (op_call (args := #[pt N97 0]) (R := fun res xw => res = .int .i64 ((csK (fdI fdZ L2141 0 (k : Int)).1 (ksOf (fdI fdZ L2141 0 (k : Int)).1) : Nat) : Int) ∧ Below w378.heap.size w378 xw) rfl rfl rfl (by kernel_rfl) (by kernel_rfl) (Try.call23 _ _) (rsCells w378 hO416 (by omega)) (by rintro e x ⟨rfl, h⟩; exact ⟨_, rfl, rfl, h⟩)) ?_ ?_; clear h410
      ·
       rintro _ w415 ⟨rfl, hb417⟩
       have hz418 := hb417.size
       have ho419 := RsO.ofS hO416
       have ho420 := TwS.ofS hO403
       have hB421 := hb_call hB386 hb417
       have hk422 := hk387.below hb417
       exact ⟨hB421, hk422⟩
      rintro _ w415 a414 ⟨rfl, hb417⟩ h414
      have hz418 := hb417.size
      have ho419 := RsO.ofS hO416
      have ho420 := TwS.ofS hO403
      have hB421 := hb_call hB386 hb417
      have hk422 := hk387.below hb417
      refine dk0 27 (v := .bool (((csK (fdI fdZ L2141 0 (k : Int)).1 (ksOf (fdI fdZ L2141 0 (k : Int)).1) : Nat) : Int) == ((csK (fdI fdZ L2141 0 (k : Int)).1 (ksOf (fdI fdZ L2141 0 (k : Int)).1) : Nat) : Int))) h414 rfl rfl ⟨hB421, hk422⟩ fun a423 h423 => ?_; clear h414
      refine dk0 28 (v := .bool (((csK (fdI fdZ L2141 0 (k : Int)).1 (ksOf (fdI fdZ L2141 0 (k : Int)).1) : Nat) : Int) == ((csK (fdI fdZ L2141 0 (k : Int)).1 (ksOf (fdI fdZ L2141 0 (k : Int)).1) : Nat) : Int))) h423 rfl rfl ⟨hB421, hk422⟩ fun a424 h424 => ?_; clear h423
      refine dk0 29 (v := .bool (((csK (fdI fdZ L2141 0 (k : Int)).1 (ksOf (fdI fdZ L2141 0 (k : Int)).1) : Nat) : Int) == ((csK (fdI fdZ L2141 0 (k : Int)).1 (ksOf (fdI fdZ L2141 0 (k : Int)).1) : Nat) : Int))) h424 rfl rfl ⟨hB421, hk422⟩ fun a425 h425 => ?_; clear h424
      have hc426 : (((csK (fdI fdZ L2141 0 (k : Int)).1 (ksOf (fdI fdZ L2141 0 (k : Int)).1) : Nat) : Int) == ((csK (fdI fdZ L2141 0 (k : Int)).1 (ksOf (fdI fdZ L2141 0 (k : Int)).1) : Nat) : Int)) = true := by first | (simp; done) | (simp; omega) | exact beq_false_of_ne (by omega) | exact beq_iff_eq.2 (by omega)
      rw [hc426] at h425; clear hc426
      have hr429 := row_kept_new hr380 (below_grown hb381)
      have hr430 := row_kept_new hr429 (below_grown hb417)
      have hr431 := row_kept_new hr379 (below_grown hb381)
      have hr432 := row_kept_new hr431 (below_grown hb417)
      refine d1 30 h425 rfl rfl (op_call (args := #[]) (R := fun res xw => res = .bool true ∧ Below w415.heap.size w415 xw) rfl rfl rfl (by kernel_rfl) (by kernel_rfl) (Try.call7 _ _) (awake30 w415) (by rintro e x ⟨rfl, h⟩; exact ⟨_, rfl, rfl, h⟩)) ?_ ?_; clear h425
      ·
       rintro _ w428 ⟨rfl, hb433⟩
       have hz434 := hb433.size
       have hO436 := RsO.gr hO416 (below_grown hb417) (fun k e => by cases e)
       have ho435 := RsO.ofS hO436
       have hO438 := TwS.gr hO403 (below_grown hb417) (fun k e => by cases e)
       have ho437 := TwS.ofS hO438
       have hB439 := hb_call hB421 hb433
       have hk440 := hk422.below hb433
       exact ⟨hB439, hk440⟩
      rintro _ w428 a427 ⟨rfl, hb433⟩ h427
      have hz434 := hb433.size
      have hO436 := RsO.gr hO416 (below_grown hb417) (fun k e => by cases e)
      have ho435 := RsO.ofS hO436
      have hO438 := TwS.gr hO403 (below_grown hb417) (fun k e => by cases e)
      have ho437 := TwS.ofS hO438
      have hB439 := hb_call hB421 hb433
      have hk440 := hk422.below hb433
      refine dk0 31 (v := .bool true) h427 rfl rfl ⟨hB439, hk440⟩ fun a441 h441 => ?_; clear h427
      refine dk0 32 (v := .bool true) h441 rfl rfl ⟨hB439, hk440⟩ fun a442 h442 => ?_; clear h441
      refine dr_done (by kernel_rfl) ?_
      refine co_then ?_
      refine wp_ret ?_
      refine co_ret1 h442 rfl rfl ?_
      exact ⟨rfl, hB439⟩
     ·
      rw [hc318] at h317
      have hp443 : ((k : Nat) : Int) < ((stN L8 : Nat) : Int) := of_decide_eq_true hc318
      clear hc318
      refine co_true h317 rfl ?_
      refine wp_skip ?_
      refine co_then ?_
      refine co_seq ?_
      refine wp_block ?_
      refine co_seq ?_
      refine dr_gen (fun x => Below w.heap.size w x ∧ SlY S154 x u2142 L2141) (by kernel_rfl) (fun w444 hg445 => ?_) (fun w444 hg445 => ?_)
      ·
       have hz446 := hg445.size
       have hB447 := hb_new hB176 hg445
       have hX448 := hf174.new hg445
       exact ⟨hB447, hX448⟩
      have hz449 := hg445.size
      have hB450 := hb_new hB176 hg445
      have hX451 := hf174.new hg445
      refine dk0 0 (v := pt N97 0) h317 rfl rfl ⟨hB450, hX451⟩ fun a452 h452 => ?_; clear h317
      refine dk0 1 (v := u2142) h452 rfl rfl ⟨hB450, hX451⟩ fun a453 h453 => ?_; clear h452
      refine dk0 2 (v := .int .i64 ((k : Nat) : Int)) h453 rfl rfl ⟨hB450, hX451⟩ fun a454 h454 => ?_; clear h453
      obtain ⟨y455, hy455⟩ : ∃ z, L2141[k]? = some z := ⟨_, List.getElem?_eq_getElem (by first | omega | (simp; done) | (simp; omega))⟩
      have hy1456 := SlY.one hX451 hy455
      refine dk 3 (v := pt (blkOf u2142) (offOf u2142 + k * 4)) h454 rfl rfl ⟨hB450, hX451⟩ (fun x hx => (rn_index rfl rfl rfl Try.underlying48 Try.sizeOf40 (hx.2.1.1) (by omega) (by first | omega | (simp; done) | (simp; omega)))) fun a457 h457 => ?_; clear h454
      refine dk0 4 (v := pt (blkOf u2142) (offOf u2142 + k * 4 + 3)) h457 rfl rfl ⟨hB450, hX451⟩ fun a458 h458 => ?_; clear h457
      refine dk 5 (v := .int .u64 y455.ts) h458 rfl rfl ⟨hB450, hX451⟩ (fun x hx => (rn_load1 rfl rfl Try.isAgg27 ((sl_at (hx.2.1.1) hy455) 3 _ rfl))) fun a459 h459 => ?_; clear h458
      refine dk0 6 (v := u2142) h459 rfl rfl ⟨hB450, hX451⟩ fun a460 h460 => ?_; clear h459
      refine dk0 7 (v := .int .i64 ((k : Nat) : Int)) h460 rfl rfl ⟨hB450, hX451⟩ fun a461 h461 => ?_; clear h460
      refine dk 8 (v := pt (blkOf u2142) (offOf u2142 + k * 4)) h461 rfl rfl ⟨hB450, hX451⟩ (fun x hx => (rn_index rfl rfl rfl Try.underlying48 Try.sizeOf40 (hx.2.1.1) (by omega) (by first | omega | (simp; done) | (simp; omega)))) fun a462 h462 => ?_; clear h461
      refine dk0 9 (v := pt (blkOf u2142) (offOf u2142 + k * 4)) h462 rfl rfl ⟨hB450, hX451⟩ fun a463 h463 => ?_; clear h462
      refine dk0 10 (v := pt (blkOf u2142) (offOf u2142 + k * 4 + 2)) h463 rfl rfl ⟨hB450, hX451⟩ fun a464 h464 => ?_; clear h463
      refine dk 11 (v := y455.ops) h464 rfl rfl ⟨hB450, hX451⟩ (fun x hx => (rn_load1 rfl rfl Try.isAgg36 ((sl_at (hx.2.1.1) hy455) 2 _ rfl))) fun a465 h465 => ?_; clear h464
      have hO469 := RsO.gr hf172 hg445 (fun k e => by cases e)
      have ho468 := RsO.ofS hO469
      have hO471 := TwS.gr hf173 hg445 (fun k e => by cases e)
      have ho470 := TwS.ofS hO471
      have hP9 := fd_inv hR2 hts9 k (by omega)
      have hE9 := hP9.good hR2 (SlY.one hX451 hy455).2.2.1 (by omega) hy455
      have hQ9 := hP9.step hR2 ⟨(SlY.one hX451 hy455).2.2.1, (SlY.one hX451 hy455).2.2.2.1⟩ (by omega) hy455
      refine d1 12 h465 rfl rfl (op_call (args := #[pt N97 0, .int .u64 y455.ts, y455.ops]) (R := fun res xw => ∃ S' : Nat → Prop, res = .int .i64 (mvE ((fdI fdZ L2141 0 (k : Int)).2.1) y455.ts y455.opl) ∧ RsO S' xw N97 (mvF ((fdI fdZ L2141 0 (k : Int)).1) ((fdI fdZ L2141 0 (k : Int)).2.1) y455.ts y455.opl) (mvLa ((fdI fdZ L2141 0 (k : Int)).2.1) y455.ts y455.opl) (k + 1) ∧ Grew SB S' w444 xw) rfl rfl rfl (by kernel_rfl) (by kernel_rfl) (Try.call16 _ _) (rsPut w444 y455.ts y455.ops y455.opl hO469 (SlY.one hX451 hy455).1 (fun _ i hi hq => hpsA i ((SlY.one hX451 hy455).2.2.2.2 i hi) hq) (by omega) (by omega) (by omega)) (by rintro e x ⟨S', h0, h⟩; exact ⟨_, h0, S', rfl, h⟩)) ?_ ?_; clear h465
      ·
       rintro _ w467 ⟨S472, rfl, hO473, hx474⟩
       have hr475 := row_kept_new hf175 hg445
       have hlo477 : ∀ q, S472 q → w.heap.size ≤ q := hx474.lo hlo178 (by omega)
       have hB476 := hbL hB450 hlo178 hx474.but
       have hz478 := hB476.size
       have hz479 := hx474.but.size
       have hX480 := SlY.but hX451 hx474.but hpsA
       exact ⟨hB476, hX480⟩
      rintro _ w467 a466 ⟨S472, rfl, hO473, hx474⟩ h466
      have hr475 := row_kept_new hf175 hg445
      have hlo477 : ∀ q, S472 q → w.heap.size ≤ q := hx474.lo hlo178 (by omega)
      have hB476 := hbL hB450 hlo178 hx474.but
      have hz478 := hB476.size
      have hz479 := hx474.but.size
      refine dr_done (by kernel_rfl) ?_
      refine co_then ?_
      refine co_seq ?_
      refine co_reg ?_
      refine pk0 (v := u2142) h466 rfl fun a480 h480 => ?_; clear h466
      refine pk0 (v := .int .i64 ((k : Nat) : Int)) h480 rfl fun a481 h481 => ?_; clear h480
      have hX482 := SlY.but hX451 hx474.but hpsA
      refine pk (v := pt (blkOf u2142) (offOf u2142 + k * 4)) h481 rfl (rn_index rfl rfl rfl Try.underlying48 Try.sizeOf40 (hX482.1.1) (by omega) (by first | omega | (simp; done) | (simp; omega))) fun a483 h483 => ?_; clear h481
      refine pk0 (v := pt (blkOf u2142) (offOf u2142 + k * 4 + 3)) h483 rfl fun a484 h484 => ?_; clear h483
      refine pk (v := .int .u64 y455.ts) h484 rfl (rn_load1 rfl rfl Try.isAgg27 ((sl_at (hX482.1.1) hy455) 3 _ rfl)) fun a485 h485 => ?_; clear h484
      refine pk0 (v := .int .u64 t) h485 rfl fun a486 h486 => ?_; clear h485
      refine pk0 (v := .bool (decide (y455.ts ≤ t))) h486 rfl fun a487 h487 => ?_; clear h486
      refine pl_nil ?_
      refine co_then ?_
      cases hc488 : (decide (y455.ts ≤ t))
      ·
       rw [hc488] at h487
       have hp489 : ¬ (y455.ts ≤ t) := of_decide_eq_false hc488
       clear hc488
       refine co_false h487 rfl ?_
       refine wp_skip ?_
       refine co_blockN ?_
       refine co_then ?_
       refine co_reg ?_
       refine pk0 (v := .int .i64 ((k : Nat) : Int)) h487 rfl fun a490 h490 => ?_; clear h487
       refine pk (v := .int .i64 ((k + 1 : Nat) : Int)) h490 rfl (rn_arith' rfl rfl rfl rfl rfl rfl (IntWalk.i64_in _ (by omega)) (by omega)) fun a491 h491 => ?_; clear h490
       refine pk0 (v := .int .i64 ((k + 1 : Nat) : Int)) h491 rfl fun a492 h492 => ?_; clear h491
       refine pl_nil ?_
       refine co_then ?_
       refine ⟨(L2141.length - (k + 1)), by omega, ?_⟩
       have hof9 : ∀ i, Value.ownBlock uv = some i → ¬ S143 i := hofA
       have hlo9 := hlo477
       have hpt9 := (ap_symm (Grew.ap hx474 (ap_symm hptA) (TwS.ofS hO471)))
       have hps9 := (ap_symm (Grew.ap hx474 (ap_symm hpsA) (SlY.ofS hX451)))
       have hou9 : ∀ i, Value.ownBlock uv = some i → ¬ S472 i := (Grew.offR hx474 hr475 houA)
       have hO493 := TwS.but hO471 hx474.but hptA
       have hr494 := own_butS hr475 hx474.but houA
       exact ⟨k + 1, S472, uv, h492.sub ⟨rfl, rfl, rfl, rfl, rfl, rfl, rfl, rfl, trivial⟩, rfl, by omega, by omega, by exact hlo9, by exact hpt9, by exact hps9, by exact hou9, by exact hof9, (by rw [show (((k + 1 : Nat)) : Int) = (k : Int) + 1 from by omega, fdI_y hy455]; exact hO473), hO493, hX482, (row_eq hr494 (((stay_fd hP9 hQ9 (by omega)).trans (by rw [show (((k + 1 : Nat)) : Int) = (k : Int) + 1 from by omega, fdI_y hy455])))), hB476⟩
      ·
       rw [hc488] at h487
       have hp495 : y455.ts ≤ t := of_decide_eq_true hc488
       clear hc488
       refine co_true h487 rfl ?_
       refine co_reg ?_
       refine pk0 (v := uv) h487 rfl fun a496 h496 => ?_; clear h487
       refine pk0 (v := u2142) h496 rfl fun a497 h497 => ?_; clear h496
       refine pk0 (v := .int .i64 ((k : Nat) : Int)) h497 rfl fun a498 h498 => ?_; clear h497
       refine pk (v := pt (blkOf u2142) (offOf u2142 + k * 4)) h498 rfl (rn_index rfl rfl rfl Try.underlying48 Try.sizeOf40 (hX482.1.1) (by omega) (by first | omega | (simp; done) | (simp; omega))) fun a499 h499 => ?_; clear h498
       refine pk0 (v := pt (blkOf u2142) (offOf u2142 + k * 4)) h499 rfl fun a500 h500 => ?_; clear h499
       refine pk0 (v := pt (blkOf u2142) (offOf u2142 + k * 4 + 2)) h500 rfl fun a501 h501 => ?_; clear h500
       refine pk (v := y455.ops) h501 rfl (rn_load1 rfl rfl Try.isAgg36 ((sl_at (hX482.1.1) hy455) 2 _ rfl)) fun a502 h502 => ?_; clear h501
       have hO506 := TwS.but hO471 hx474.but hptA
       have ho505 := TwS.ofS hO506
       have ho507 := RsO.ofS hO473
       have hr511 := own_butS hr475 hx474.but houA
       refine pw h502 rfl (op_call (args := #[uv, y455.ops]) (R := fun res xw => ∃ u : Value, res = u ∧ xw.ownsRow w467.heap.size 101 2 u (hitsF (fd1 (fdI fdZ L2141 0 (k : Int)) y455).1 t ⟨#[]⟩ ⟨#[]⟩).length ((hitsF (fd1 (fdI fdZ L2141 0 (k : Int)) y455).1 t ⟨#[]⟩ ⟨#[]⟩).flatMap pairE) ∧ Below w467.heap.size w467 xw) rfl rfl rfl (by kernel_rfl) (by kernel_rfl) (Try.call17 _ _) (over_fd (t := t) uv y455.ops w467 hP9 hQ9 hE9 (by omega) (by omega) (by omega) (row_sl hr511 pairE_len) (SlY.one hX482 hy455).1) (by rintro e x ⟨u, h0, h⟩; exact ⟨_, h0, u, rfl, h⟩)) ?_; clear h502
       rintro u508 w504 a503 ⟨_, rfl, hr509, hb510⟩ h503
       have hz512 := hb510.size
       have ho513 := TwS.ofS hO506
       have ho514 := RsO.ofS hO473
       refine pk0 (v := u508) h503 rfl fun a515 h515 => ?_; clear h503
       refine pl_nil ?_
       refine co_blockN ?_
       refine co_then ?_
       refine co_reg ?_
       refine pk0 (v := .int .i64 ((k : Nat) : Int)) h515 rfl fun a516 h516 => ?_; clear h515
       refine pk (v := .int .i64 ((k + 1 : Nat) : Int)) h516 rfl (rn_arith' rfl rfl rfl rfl rfl rfl (IntWalk.i64_in _ (by omega)) (by omega)) fun a517 h517 => ?_; clear h516
       refine pk0 (v := .int .i64 ((k + 1 : Nat) : Int)) h517 rfl fun a518 h518 => ?_; clear h517
       refine pl_nil ?_
       refine co_then ?_
       refine ⟨(L2141.length - (k + 1)), by omega, ?_⟩
       have hof9 : ∀ i, Value.ownBlock u508 = some i → ¬ S143 i := (offR_row ho505 hr509 (Nat.le_refl _))
       have hlo9 := hlo477
       have hpt9 := (ap_symm (Grew.ap hx474 (ap_symm hptA) (TwS.ofS hO471)))
       have hps9 := (ap_symm (Grew.ap hx474 (ap_symm hpsA) (SlY.ofS hX451)))
       have hou9 : ∀ i, Value.ownBlock u508 = some i → ¬ S472 i := (offR_row ho514 hr509 (Nat.le_refl _))
       have hO519 := RsO.gr hO473 (below_grown hb510) (fun k e => by cases e)
       have hO520 := TwS.gr hO506 (below_grown hb510) (fun k e => by cases e)
       have hX521 := hX482.below hb510
       have hB522 := hb_call hB476 hb510
       exact ⟨k + 1, S472, u508, h518.sub ⟨rfl, rfl, rfl, rfl, rfl, rfl, rfl, rfl, trivial⟩, rfl, by omega, by omega, by exact hlo9, by exact hpt9, by exact hps9, by exact hou9, by exact hof9, (by rw [show (((k + 1 : Nat)) : Int) = (k : Int) + 1 from by omega, fdI_y hy455]; exact hO519), hO520, hX521, (row_eq (row_lows hr509 (by omega)) ((by rw [show (((k + 1 : Nat)) : Int) = (k : Int) + 1 from by omega, fdI_y hy455]))), hB522⟩
 ·
  rw [hc9] at h8
  have hp523 : r5 > 20 := of_decide_eq_true hc9
  clear hc9
  refine co_true h8 rfl ?_
  refine co_seq ?_
  refine co_reg ?_
  refine pw h8 rfl (op_call (args := #[]) (R := fun res xw => res = .bool true ∧ Below w4.heap.size w4 xw) rfl rfl rfl (by kernel_rfl) (by kernel_rfl) (Try.call7 _ _) (awake30 w4) (by rintro e x ⟨rfl, h⟩; exact ⟨_, rfl, rfl, h⟩)) ?_; clear h8
  rintro _ w525 a524 ⟨rfl, hb526⟩ h524
  have hz527 := hb526.size
  refine pk0 (v := .bool true) h524 rfl fun a528 h528 => ?_; clear h524
  refine pl_nil ?_
  refine co_then ?_
  refine wp_ret ?_
  refine co_thenR ?_
  refine co_ret1 h528 rfl rfl ?_
  have hB529 := hb_call hB10 hb526
  exact ⟨rfl, hB529⟩

theorem rstateFeeds_l (v : Value) (l : List NoteX) (cut t : Int) (w : World) (hs : SliceOf noteE 18 w v l) (hok : ∀ z ∈ l, NoteOk w z) (hc : (Lit.int .u8 cut).wf = true) (ht : (Lit.int .u64 t).wf = true) :
    Calls Try.prog 4 #[v, .int .u8 cut, .int .u64 t] w fun e w' => e = .returned (.bool true) ∧ Below w.heap.size w w' := rstateFeeds_law v l cut t w hs hok (wf_u8 hc) (wf_u64 ht)

end Go.Proofs.Ytkjnhghniopnoaa
