/- Package adopt: adopted, laid; item: Right, Twins. Conditions: none. -/
import Derived.Test.YthmnndbpadegnaaAdpB
import Derived.Test.YthmnndbpadegnaaAdR
namespace Go.Proofs.Ythmnndbpadegnaa
open Go.RowKit Go.PlainAid
set_option linter.unusedVariables false
set_option linter.unusedSimpArgs false


section
variable {h e : EntT}
theorem adE_no (hn : ¬ (h.client = e.client ∧ h.req = e.req)) : adE h e = e := by unfold adE; rw [if_neg (fun q : nmE h = nmE e => hn (Prod.mk.inj q))]
theorem adE_ts (hn : h.client = e.client ∧ h.req = e.req) (ht : e.ts ≠ 0) : adE h e = { h with ts := e.ts } := by unfold adE; rw [if_pos (show nmE h = nmE e from Prod.ext hn.1 hn.2), if_pos ht]
theorem adE_keep (hn : h.client = e.client ∧ h.req = e.req) (ht : ¬ e.ts ≠ 0) : adE h e = h := by unfold adE; rw [if_pos (show nmE h = nmE e from Prod.ext hn.1 hn.2), if_neg ht]
end
section
variable {l LL L' : List EntT} {k : Nat} {y : EntT}
/-- A log that is right, laid entry by entry. -/
theorem lay_ok (hR : RI l) (hl : l.length ≤ 100) (hy : l[k]? = some y) (h : LL.map e0 = (l.take k).map e0) : setE LL (k : Int) y.client y.req y.opl y.ts = 0 ∧ ∀ L', SetR LL (k : Int) y.client y.req y.opl y.ts L' → L'.map e0 = (l.take (k + 1)).map e0 := by
  have hk := (List.getElem?_eq_some_iff.1 hy).1
  have hE : setE (l.take k) (k : Int) y.client y.req y.opl y.ts = 0 := by
    have hr := (rgF_0 l []).1 hR.right
    obtain ⟨r1, r2, r3⟩ := hr
    have hlen : (l.take k).length = k := by rw [List.length_take]; omega
    unfold setE
    rw [if_neg (by rw [hlen]; omega), if_neg (by rw [r1 y (List.mem_of_getElem? hy)]; simp), if_neg (by omega), Int.toNat_natCast, List.take_take, Nat.min_self]
    have h2 := r2 k y hy
    rw [List.nil_append] at h2
    have h3 := r3 k y hy
    rw [List.nil_append] at h3
    rw [if_neg (by rw [findN_none.2 (twN_none.1 h2)]; simp)]
    have h3' : badT (l.take k) (EntT.mk y.client y.req (.slice none 0 0) y.opl y.ts) = false := h3
    rw [if_neg (by rw [h3']; simp)]
  have hE' : setE LL (k : Int) y.client y.req y.opl y.ts = 0 := by rw [cong_n (F := fun L => setE L (k : Int) y.client y.req y.opl y.ts) (fun L => setE_e0) h]; exact hE
  refine ⟨hE', fun L' hs => ?_⟩
  rw [setR_e0 hs]
  have h2 : (setL LL (k : Int) y.client y.req y.opl y.ts).map e0 = (setL (l.take k) (k : Int) y.client y.req y.opl y.ts).map e0 := cong_n (F := fun L => (setL L (k : Int) y.client y.req y.opl y.ts).map e0) (fun L => setL_e0) h
  rw [h2, setL_nw hE (by rw [Int.toNat_natCast, List.getElem?_eq_none (by rw [List.length_take]; omega)]; simp), Int.toNat_natCast, List.take_take, Nat.min_self, takeE hy, List.map_append, List.map_append]
  rfl
end
theorem eq_arr2 (a b c d : Int) (w : World) : (binOp .eql 166 (.agg #[.int .i64 a, .int .i64 b]) (.agg #[.int .i64 c, .int .i64 d])).run Try.prog w = .ok (.bool (a == c && b == d)) w := by
  have ht := Try.underlying166
  have hE := Try.underlying3
  have hs : ∀ w : World, (sizeOf 3).run Try.prog w = .ok 1 w := fun w => by kernel_rfl
  have hg : ∀ w : World, (isAgg 3).run Try.prog w = .ok false w := fun w => by kernel_rfl
  have hp : ∀ (w : World) (a b : Int) (i : Nat), i < 2 → (part 3 #[.int .i64 a, .int .i64 b] (i * 1)).run Try.prog w = .ok (.int .i64 (if i = 0 then a else b)) w := by
    intro w a b i hi
    match i, hi with
    | 0, _ => simp [part, Sem.run_bind, hg, hs]
    | 1, _ => simp [part, Sem.run_bind, hg, hs]
  have q2 : ∀ (n : Nat) (w : World), (Op.equalIn (n + 1 + 1) 166 (.agg #[.int .i64 a, .int .i64 b]) (.agg #[.int .i64 c, .int .i64 d])).run Try.prog w = .ok (a == c && b == d) w := by
    intro n w
    have e1 : ∀ (w : World) (x y : Int), (Op.equalIn (n + 1) 3 (.int .i64 x) (.int .i64 y)).run Try.prog w = .ok (x == y) w := fun w x y => by
        simp [Op.equalIn, Sem.run_bind, run_underlying hE]
    have h00 := fun w => hp w a b 0 (by omega); have h01 := fun w => hp w a b 1 (by omega)
    have h10 := fun w => hp w c d 0 (by omega); have h11 := fun w => hp w c d 1 (by omega)
    simp only [Nat.zero_mul, Nat.one_mul, if_true, Nat.one_ne_zero, if_false] at h00 h01 h10 h11
    rw [Op.equalIn]
    simp only [Sem.run_bind, run_underlying ht, Result.andThen_ok, hs]
    simp [Std.Legacy.Range.forIn_eq_forIn_range', List.range', Sem.run_bind, h00, h01, h10, h11, e1, Sem.run_ite, hs]
    by_cases h1 : a = c <;> by_cases h2 : b = d <;> simp [h1, h2]
  rw [run_eql_struct, show (10000 : Nat) = 9998 + 1 + 1 from rfl, q2 9998]; rfl
theorem arr2_kl : KL Try.prog 166 arr2K := arr2KL Try.underlying166 Try.underlying3 (fun w => by kernel_rfl) (fun w => by kernel_rfl)
theorem int_z (w : World) : (zeroValue 3).run Try.prog w = .ok (intK 0) w := by kernel_rfl
theorem MapG.eq {K V : Type} [DecidableEq K] {kv : K → Value} {enc : V → Value} {z : V} {w : World} {B : Nat} {g g' : K → V} (h : MapG kv enc z w B g) (e : g = g') : MapG kv enc z w B g' := e ▸ h

set_option maxRecDepth 100000 in
theorem itemWho_any (c : Int) (r : Int) (v : Value) (ts : Int) (w : World)  :
    Calls Try.prog 111 #[.agg #[.int .i64 c, .int .i64 r, v, .int .u64 ts]] w fun e w' => e = .returned (.agg #[.int .i64 c, .int .i64 r]) ∧ Below w.heap.size w w' := by
 have hB0 := Below.refl w.heap.size w
 refine co_enter (n := 10) Try.func111 rfl rfl rfl [(0, .agg #[.int .i64 c, .int .i64 r, v, .int .u64 ts])] rfl (fun a h0 => ?_)
 refine co_seq ?_
 refine co_reg ?_
 refine pw h0 rfl (op_new (v := fun N => pt N 0) (T := 47) (cs := #[.int .i64 c, .int .i64 r, v, .int .u64 ts]) (by kernel_rfl) (by kernel_rfl) (by kernel_rfl)) ?_; clear h0
 rintro _ w2 a1 ⟨N3, rfl, hN6, hz7, hk5, hg4⟩ h1
 have hz8 := hg4.size
 try dsimp only at h1
 refine pw h1 rfl (op_new (v := fun N => pt N 0) (T := 166) (cs := #[.int .i64 0, .int .i64 0]) (by kernel_rfl) (by kernel_rfl) (by kernel_rfl)) ?_; clear h1
 rintro _ w10 a9 ⟨N11, rfl, hN14, hz15, hk13, hg12⟩ h9
 have hz16 := hg12.size
 try dsimp only at h9
 refine pl_nil ?_
 refine co_then ?_
 refine co_seq ?_
 refine co_reg ?_
 refine pk0 (v := pt N3 0) h9 rfl fun a17 h17 => ?_; clear h9
 refine pk0 (v := pt N3 0) h17 rfl fun a18 h18 => ?_; clear h17
 have hk19 := hk5.kept hg12 (by simp)
 refine pk (v := .int .i64 c) h18 rfl (rn_load1 rfl rfl Try.isAgg3 (hk19.cell rfl)) fun a20 h20 => ?_; clear h18
 refine pk0 (v := pt N3 0) h20 rfl fun a21 h21 => ?_; clear h20
 refine pk0 (v := pt N3 1) h21 rfl fun a22 h22 => ?_; clear h21
 refine pk (v := .int .i64 r) h22 rfl (rn_load1 rfl rfl Try.isAgg3 (hk19.cell rfl)) fun a23 h23 => ?_; clear h22
 refine pk0 (v := .agg #[.int .i64 c, .int .i64 r]) h23 rfl fun a24 h24 => ?_; clear h23
 refine pwD h24 rfl (op_storeN rfl rfl rfl (by kernel_rfl) (by kernel_rfl) hk13 rfl) ?_; clear h24
 rintro _ w26 a25 ⟨hk27, hz28, hg29⟩ h25
 have hk27' : Blk w26 N11 166 #[.int .i64 c, .int .i64 r] := hk27; clear hk27
 have hz30 := hg29.size
 refine pl_nil ?_
 refine co_then ?_
 refine wp_ret ?_
 refine co_retC (Q := fun _ _ _ => True) h25 rfl rfl hk27' Try.underlying166 rfl (by kernel_rfl) ?_
 have hB31 := hb_new hB0 hg4
 have hB32 := hb_new hB31 hg12
 have hB33 := hb_at hB32 hg29 (by omega)
 exact ⟨rfl, hB33⟩
set_option maxRecDepth 100000 in
theorem itemRight_any (v : Value) (l : List EntT) (w : World) (hs : SliceOf entE 4 w v l) (hok : ∀ z ∈ l, EntOk w z) :
    Calls Try.prog 91 #[v] w fun e w' => e = .returned (.int .i64 (rightI l)) ∧ Below w.heap.size w w' := by
 have hB0 := Below.refl w.heap.size w
 have hl_hs := sl_len hs
 refine co_enter (n := 60) Try.func91 rfl rfl rfl [(0, v)] rfl (fun a h0 => ?_)
 refine co_seq ?_
 refine co_reg ?_
 refine pk0 (v := .int .i64 0) h0 rfl fun a1 h1 => ?_; clear h0
 refine pl_nil ?_
 refine co_then ?_
 refine co_seq ?_
 refine co_reg ?_
 refine pw h1 rfl (op_makeG arr2K intK 0 (by kernel_rfl) (by kernel_rfl) rfl) ?_; clear h1
 rintro _ w3 a2 ⟨B4, rfl, hN5, hz6, hm7, hg8⟩ h2
 have hz9 := hg8.size
 have hl10 := hm7.lt
 refine pk0 (v := .map (some B4)) h2 rfl fun a11 h11 => ?_; clear h2
 refine pl_nil ?_
 refine co_then ?_
 refine co_seq ?_
 refine co_seq ?_
 refine co_reg ?_
 refine pk0 (v := v) h11 rfl fun a12 h12 => ?_; clear h11
 have hB13 := hb_new hB0 hg8
 refine pk (v := .int .i64 ((l.length : Nat) : Int)) h12 rfl (rn_len rfl rfl Try.underlying39 (hs.below hB13)) fun a14 h14 => ?_; clear h12
 refine pk0 (v := .int .i64 0) h14 rfl fun a15 h15 => ?_; clear h14
 refine pl_nil ?_
 refine co_then ?_
 refine wp_block ?_
 have h16 : Slots 60 [(0, v), (3, .map (some B4)), (8, v), (9, .int .i64 ((l.length : Nat) : Int)), (10, .int .i64 0)] _ := h15.sub ⟨rfl, rfl, rfl, rfl, rfl, trivial⟩; clear h15
 refine co_loop (fun mm a x => ∃ (i : Nat), Slots 60 [(0, v), (3, .map (some B4)), (8, v), (9, .int .i64 ((l.length : Nat) : Int)), (10, .int .i64 ((i : Nat) : Int))] a ∧ mm = l.length - i ∧ (i ≤ l.length) ∧ (rgF (l.take i) (l.drop i) = rightI l) ∧ MapG arr2K intK 0 x B4 (fun k : Int × Int => twN (l.take i) k.1 k.2) ∧ Below w.heap.size w x) (l.length - 0) ?_ ?_
 · exact ⟨0, h16.sub ⟨rfl, rfl, rfl, rfl, (slot_eq rfl (congrArg (Value.int .i64) (by first | rfl | omega))), trivial⟩, rfl, by omega, by first | rfl | exact hL', (hm7.eq (funext fun k => by simp [twN])), hB13⟩
 · rintro k17 a18 w19 ⟨i, h18, rfl, hi20, hi21, hf22, hB23⟩
   have hz24 := hB23.size
   have hl25 := hf22.lt
   have hL : rgF (l.take i) (l.drop i) = rightI l := by assumption
   refine co_seq ?_
   refine co_reg ?_
   refine pk0 (v := .bool (decide (((i : Nat) : Int) < ((l.length : Nat) : Int)))) h18 rfl fun a26 h26 => ?_; clear h18
   refine pl_nil ?_
   refine co_then ?_
   refine co_seq ?_
   cases hc27 : (decide (((i : Nat) : Int) < ((l.length : Nat) : Int)))
   ·
    rw [hc27] at h26
    have hp28 : ¬ (((i : Nat) : Int) < ((l.length : Nat) : Int)) := of_decide_eq_false hc27
    clear hc27
    refine co_false h26 rfl ?_
    refine wp_exit ?_
    refine co_thenX ?_
    refine co_thenX ?_
    refine co_blockX ?_
    refine co_then ?_
    refine co_seq ?_
    refine co_reg ?_
    refine pk0 (v := .int .i64 0) h26 rfl fun a29 h29 => ?_; clear h26
    refine pl_nil ?_
    refine co_then ?_
    refine wp_ret ?_
    refine co_ret1 h29 rfl rfl ?_
    exact ⟨ret_int (rg_end (i := i) hL (by omega)), hB23⟩
   ·
    rw [hc27] at h26
    have hp30 : ((i : Nat) : Int) < ((l.length : Nat) : Int) := of_decide_eq_true hc27
    clear hc27
    refine co_true h26 rfl ?_
    refine wp_skip ?_
    refine co_then ?_
    refine co_seq ?_
    refine wp_block ?_
    refine co_seq ?_
    refine co_reg ?_
    refine pk0 (v := .int .i64 ((i : Nat) : Int)) h26 rfl fun a31 h31 => ?_; clear h26
    obtain ⟨y32, hy32⟩ : ∃ z, l[i]? = some z := ⟨_, List.getElem?_eq_getElem (by first | omega | (simp; done) | (simp; omega))⟩
    have oky32 := hok _ (List.mem_of_getElem? hy32)
    have k33 : 0 ≤ y32.ts := oky32.ts0
    have k34 : y32.ts < 18446744073709551616 := oky32.ts1
    refine pk (v := pt (blkOf v) (offOf v + i * 4)) h31 rfl (rn_index rfl rfl rfl Try.underlying39 Try.sizeOf47 (hs.below hB23) (by omega) (by first | omega | (simp; done) | (simp; omega))) fun a35 h35 => ?_; clear h31
    refine pk (v := .agg #[.int .i64 y32.client, .int .i64 y32.req, y32.ops, .int .u64 y32.ts]) h35 rfl (rn_loadN rfl rfl Try.underlying47 rfl (by kernel_rfl) (sl_at (hs.below hB23) hy32)) fun a36 h36 => ?_; clear h35
    refine pw h36 rfl (op_new (v := fun N => pt N 0) (T := 47) (cs := #[.int .i64 0, .int .i64 0, .slice none 0 0, .int .u64 0]) (by kernel_rfl) (by kernel_rfl) (by kernel_rfl)) ?_; clear h36
    rintro _ w38 a37 ⟨N39, rfl, hN42, hz43, hk41, hg40⟩ h37
    have hz44 := hg40.size
    try dsimp only at h37
    refine pk0 (v := .int .i64 ((i : Nat) : Int)) h37 rfl fun a45 h45 => ?_; clear h37
    have hB51 := hb_new hB23 hg40
    refine pwD h45 rfl (op_storeN rfl rfl rfl (all_cons rfl (all_cons rfl (all_cons (sl_one (oky32.ops.below hB51)) (all_cons rfl all_nil)))) (by kernel_rfl) hk41 rfl) ?_; clear h45
    rintro _ w47 a46 ⟨hk48, hz49, hg50⟩ h46
    have hk48' : Blk w47 N39 47 #[.int .i64 y32.client, .int .i64 y32.req, y32.ops, .int .u64 y32.ts] := hk48; clear hk48
    have hz52 := hg50.size
    refine pl_nil ?_
    refine co_then ?_
    refine co_seq ?_
    refine co_seq ?_
    refine co_reg ?_
    refine pk (v := .agg #[.int .i64 y32.client, .int .i64 y32.req, y32.ops, .int .u64 y32.ts]) h46 rfl (rn_loadN rfl rfl Try.underlying47 rfl (by kernel_rfl) hk48'.all) fun a53 h53 => ?_; clear h46
    have hB56 := hb_at hB51 hg50 (by omega)
    refine pw h53 rfl (op_call (args := #[.agg #[.int .i64 y32.client, .int .i64 y32.req, y32.ops, .int .u64 y32.ts]]) (R := fun res xw => res = .int .i64 (chkB y32.client y32.req y32.opl) ∧ Below w47.heap.size w47 xw) rfl rfl rfl (by kernel_rfl) (by kernel_rfl) (Try.call86 _ _) (itemCheck_any y32.client y32.req y32.ops y32.opl y32.ts w47 (oky32.ops.below hB56)) (by rintro e x ⟨rfl, hb57⟩; exact ⟨_, rfl, ⟨rfl, hb57⟩⟩)) ?_; clear h53
    rintro _ w55 a54 ⟨rfl, hb57⟩ h54
    have hz58 := hb57.size
    refine pk0 (v := .int .i64 (chkB y32.client y32.req y32.opl)) h54 rfl fun a59 h59 => ?_; clear h54
    refine pl_nil ?_
    refine co_then ?_
    refine co_seq ?_
    refine co_reg ?_
    refine pk0 (v := .int .i64 (chkB y32.client y32.req y32.opl)) h59 rfl fun a60 h60 => ?_; clear h59
    refine pk0 (v := .bool (chkB y32.client y32.req y32.opl != 0)) h60 rfl fun a61 h61 => ?_; clear h60
    refine pl_nil ?_
    refine co_then ?_
    have hB63 := hb_call hB56 hb57
    have hI64 := hf22.kept hg40 (by simp)
    have hI65 := hI64.kept hg50 (by simp; omega)
    have hI66 := hI65.kept (below_grown hb57) (by simp)
    cases hc62 : (chkB y32.client y32.req y32.opl != 0)
    ·
     rw [hc62] at h61
     have hp67 : ¬ (chkB y32.client y32.req y32.opl ≠ 0) := by first | simpa using hc62 | simpa [and_assoc] using hc62
     clear hc62
     refine co_false h61 rfl ?_
     refine wp_skip ?_
     refine co_then ?_
     refine co_seq ?_
     refine co_seq ?_
     refine co_reg ?_
     refine pk0 (v := .map (some B4)) h61 rfl fun a68 h68 => ?_; clear h61
     have hk69 := hk48'.below hb57
     refine pk (v := .agg #[.int .i64 y32.client, .int .i64 y32.req, y32.ops, .int .u64 y32.ts]) h68 rfl (rn_loadN rfl rfl Try.underlying47 rfl (by kernel_rfl) hk69.all) fun a70 h70 => ?_; clear h68
     refine pw h70 rfl (op_call (args := #[.agg #[.int .i64 y32.client, .int .i64 y32.req, y32.ops, .int .u64 y32.ts]]) (R := fun res xw => res = .agg #[.int .i64 y32.client, .int .i64 y32.req] ∧ Below w55.heap.size w55 xw) rfl rfl rfl (by kernel_rfl) (by kernel_rfl) (Try.call111 _ _) (itemWho_any y32.client y32.req y32.ops y32.ts w55 ) (by rintro e x ⟨rfl, hb73⟩; exact ⟨_, rfl, ⟨rfl, hb73⟩⟩)) ?_; clear h70
     rintro _ w72 a71 ⟨rfl, hb73⟩ h71
     have hz74 := hb73.size
     have hI76 := hI66.kept (below_grown hb73) (by simp)
     have k75 : 0 ≤ twN (l.take i) y32.client y32.req ∧ twN (l.take i) y32.client y32.req ≤ i := by have := twN_pos (l.take i) y32.client y32.req; rw [List.length_take] at this; omega
     refine pk (v := .int .i64 (twN (l.take i) y32.client y32.req)) h71 rfl (rn_lookG (a := (y32.client, y32.req)) arr2_kl rfl rfl rfl Try.underlying165 int_z hI76) fun a77 h77 => ?_; clear h71
     refine pk0 (v := .bool (decide (twN (l.take i) y32.client y32.req > 0))) h77 rfl fun a78 h78 => ?_; clear h77
     refine pl_nil ?_
     refine co_then ?_
     have hB80 := hb_call hB63 hb73
     cases hc79 : (decide (twN (l.take i) y32.client y32.req > 0))
     ·
      rw [hc79] at h78
      have hp81 : ¬ (twN (l.take i) y32.client y32.req > 0) := of_decide_eq_false hc79
      clear hc79
      refine co_false h78 rfl ?_
      refine wp_skip ?_
      refine co_then ?_
      refine co_seq ?_
      refine dr_gen (fun x => Below w.heap.size w x ∧ Blk x N39 47 #[.int .i64 y32.client, .int .i64 y32.req, y32.ops, .int .u64 y32.ts]) (by kernel_rfl) (fun w82 hg83 => ?_) (fun w82 hg83 => ?_)
      ·
       have hz84 := hg83.size
       have hB85 := hb_new hB80 hg83
       have hk86 := hk69.below hb73
       have hk87 := hk86.kept hg83 (by simp)
       exact ⟨hB85, hk87⟩
      have hz88 := hg83.size
      have hB89 := hb_new hB80 hg83
      have hk90 := hk69.below hb73
      have hk91 := hk90.kept hg83 (by simp)
      refine dk0 0 (v := .map (some B4)) h78 rfl rfl ⟨hB89, hk91⟩ fun a92 h92 => ?_; clear h78
      refine dk 1 (v := .agg #[.int .i64 y32.client, .int .i64 y32.req, y32.ops, .int .u64 y32.ts]) h92 rfl rfl ⟨hB89, hk91⟩ (fun x hx => (rn_loadN rfl rfl Try.underlying47 rfl (by kernel_rfl) hx.2.all)) fun a93 h93 => ?_; clear h92
      refine d1 2 h93 rfl rfl (op_call (args := #[.agg #[.int .i64 y32.client, .int .i64 y32.req, y32.ops, .int .u64 y32.ts]]) (R := fun res xw => res = .agg #[.int .i64 y32.client, .int .i64 y32.req] ∧ Below w82.heap.size w82 xw) rfl rfl rfl (by kernel_rfl) (by kernel_rfl) (Try.call111 _ _) (itemWho_any y32.client y32.req y32.ops y32.ts w82 ) (by rintro e x ⟨rfl, hb96⟩; exact ⟨_, rfl, ⟨rfl, hb96⟩⟩)) ?_ ?_; clear h93
      ·
       rintro _ w95 ⟨rfl, hb96⟩
       have hz97 := hb96.size
       have hB98 := hb_call hB89 hb96
       have hk99 := hk91.below hb96
       exact ⟨hB98, hk99⟩
      rintro _ w95 a94 ⟨rfl, hb96⟩ h94
      have hz97 := hb96.size
      have hB98 := hb_call hB89 hb96
      have hk99 := hk91.below hb96
      refine dr_many [3, 5] (by kernel_rfl) (by simp) ⟨?_, ?_, trivial⟩
      ·
       have hI101 := hI76.kept hg83 (by simp)
       have hI102 := hI101.kept (below_grown hb96) (by simp)
       have k100 : 0 ≤ twN (l.take i) y32.client y32.req ∧ twN (l.take i) y32.client y32.req ≤ i := by have := twN_pos (l.take i) y32.client y32.req; rw [List.length_take] at this; omega
       refine dr_opVal (i := 3) (v := .int .i64 (twN (l.take i) y32.client y32.req)) h94 rfl rfl rfl rfl (by kernel_rfl) rfl (rn_lookG (a := (y32.client, y32.req)) arr2_kl rfl rfl rfl Try.underlying165 int_z hI102) ⟨hB98, hk99⟩ (fun a103 h103 => ?_); clear h94
       refine dk 4 (v := .int .i64 ((twN (l.take i) y32.client y32.req) + 1)) h103 rfl rfl ⟨hB98, hk99⟩ (fun x hx => (rn_arith rfl rfl rfl rfl rfl rfl (IntWalk.i64_in _ (by omega)))) fun a104 h104 => ?_; clear h103
       refine d1 5 h104 rfl rfl (op_entryG (a := (y32.client, y32.req)) arr2_kl rfl rfl rfl Try.underlying165 int_z hI102) ?_ ?_; clear h104
       ·
        rintro _ w106 ⟨s107, rfl, hm108, hS109, hz110, hg111⟩
        have hz112 := hg111.size
        have hl113 := hm108.lt
        have hB114 := hb_at hB98 hg111 (by omega)
        have hk115 := hk99.kept hg111 (by simp; omega)
        exact ⟨hB114, hk115⟩
       rintro _ w106 a105 ⟨s107, rfl, hm108, hS109, hz110, hg111⟩ h105
       have hz112 := hg111.size
       have hl113 := hm108.lt
       have hB114 := hb_at hB98 hg111 (by omega)
       have hk115 := hk99.kept hg111 (by simp; omega)
       refine dk0 6 (v := .int .i64 ((s107 : Nat) : Int)) h105 rfl rfl ⟨hB114, hk115⟩ fun a116 h116 => ?_; clear h105
       refine d1D 7 h116 rfl rfl (op_entryStoreG (a := (y32.client, y32.req)) (v := ((twN (l.take i) y32.client y32.req) + 1)) (st := s107) arr2K_inj rfl rfl rfl rfl hm108 hS109) ?_ ?_; clear h116
       ·
        rintro _ w118 ⟨hm119, hz120, hg121⟩
        have hz122 := hg121.size
        have hl123 := hm119.lt
        have hB124 := hb_at hB114 hg121 (by omega)
        have hk125 := hk115.kept hg121 (by simp; omega)
        exact ⟨hB124, hk125⟩
       rintro _ w118 a117 ⟨hm119, hz120, hg121⟩ h117
       have hz122 := hg121.size
       have hl123 := hm119.lt
       refine dr_done (by kernel_rfl) ?_
       refine co_then ?_
       refine co_seq ?_
       refine dr_eq (by kernel_rfl) (fun w124 hg125 => ?_)
       have hz126 := hg125.size
       refine dk0 0 (v := pt N39 3) h117 rfl rfl rfl fun a127 h127 => ?_; clear h117
       have hk128 := hk115.kept hg121 (by simp; omega)
       have hk129 := hk128.kept hg125 (by simp)
       refine dk 1 (v := .int .u64 y32.ts) h127 rfl rfl rfl (fun x hx => by subst hx; exact (rn_load1 rfl rfl Try.isAgg45 (hk129.cell rfl))) fun a130 h130 => ?_; clear h127
       refine dk0 2 (v := .bool (y32.ts != 0)) h130 rfl rfl rfl fun a131 h131 => ?_; clear h130
       refine dk0 3 (v := .bool (y32.ts != 0)) h131 rfl rfl rfl fun a132 h132 => ?_; clear h131
       have hB134 := hb_at hB114 hg121 (by omega)
       have hB135 := hb_new hB134 hg125
       cases hc133 : (y32.ts != 0)
       ·
        rw [hc133] at h132
        have hp136 : ¬ (y32.ts ≠ 0) := by first | simpa using hc133 | simpa [and_assoc] using hc133
        clear hc133
        refine dsk 4 h132 rfl rfl rfl fun a137 h137 => ?_; clear h132
        refine dsk 5 h137 rfl rfl rfl fun a138 h138 => ?_; clear h137
        refine dk0 6 (v := .bool false) h138 rfl rfl rfl fun a139 h139 => ?_; clear h138
        refine dk0 7 (v := .bool false) h139 rfl rfl rfl fun a140 h140 => ?_; clear h139
        refine dsk 8 h140 rfl rfl rfl fun a141 h141 => ?_; clear h140
        refine dsk 9 h141 rfl rfl rfl fun a142 h142 => ?_; clear h141
        refine dsk 10 h142 rfl rfl rfl fun a143 h143 => ?_; clear h142
        refine dsk 11 h143 rfl rfl rfl fun a144 h144 => ?_; clear h143
        refine dsk 12 h144 rfl rfl rfl fun a145 h145 => ?_; clear h144
        refine dsk 13 h145 rfl rfl rfl fun a146 h146 => ?_; clear h145
        refine dsk 14 h146 rfl rfl rfl fun a147 h147 => ?_; clear h146
        refine dsk 15 h147 rfl rfl rfl fun a148 h148 => ?_; clear h147
        refine dsk 16 h148 rfl rfl rfl fun a149 h149 => ?_; clear h148
        refine dsk 17 h149 rfl rfl rfl fun a150 h150 => ?_; clear h149
        refine dsk 18 h150 rfl rfl rfl fun a151 h151 => ?_; clear h150
        refine dsk 19 h151 rfl rfl rfl fun a152 h152 => ?_; clear h151
        refine dsk 20 h152 rfl rfl rfl fun a153 h153 => ?_; clear h152
        refine dsk 21 h153 rfl rfl rfl fun a154 h154 => ?_; clear h153
        refine dsk 22 h154 rfl rfl rfl fun a155 h155 => ?_; clear h154
        refine dsk 23 h155 rfl rfl rfl fun a156 h156 => ?_; clear h155
        refine dsk 24 h156 rfl rfl rfl fun a157 h157 => ?_; clear h156
        refine dsk 25 h157 rfl rfl rfl fun a158 h158 => ?_; clear h157
        refine dk0 26 (v := .bool false) h158 rfl rfl rfl fun a159 h159 => ?_; clear h158
        refine dr_done (by kernel_rfl) ?_
        refine co_then ?_
        refine co_false h159 rfl ?_
        refine wp_skip ?_
        refine co_blockN ?_
        refine co_then ?_
        refine co_reg ?_
        refine pk (v := .int .i64 ((i + 1 : Nat) : Int)) h159 rfl (rn_arith' rfl rfl rfl rfl rfl rfl (IntWalk.i64_in _ (by omega)) (by omega)) fun a160 h160 => ?_; clear h159
        refine pk0 (v := .int .i64 ((i + 1 : Nat) : Int)) h160 rfl fun a161 h161 => ?_; clear h160
        refine pl_nil ?_
        refine co_then ?_
        refine ⟨(l.length - (i + 1)), by omega, ?_⟩
        have hbd : badT (l.take i) y32 = false := by first | exact bad_ts (by omega) | exact bad_0 (by omega)
        have hL' := rg_step (i := i) hL hy32 (by omega) (by omega) hbd
        have hI162 := hm119.kept hg125 (by simp)
        exact ⟨i + 1, h161.sub ⟨rfl, rfl, rfl, rfl, rfl, trivial⟩, rfl, by omega, by first | rfl | exact hL', (hI162.eq (tw_step hy32)), hB135⟩
       ·
        rw [hc133] at h132
        have hp163 : y32.ts ≠ 0 := by first | simpa using hc133 | simpa [and_assoc] using hc133
        clear hc133
        refine dk0 4 (v := .int .i64 ((i : Nat) : Int)) h132 rfl rfl rfl fun a164 h164 => ?_; clear h132
        refine dk0 5 (v := .bool (decide (((i : Nat) : Int) > 0))) h164 rfl rfl rfl fun a165 h165 => ?_; clear h164
        refine dk0 6 (v := .bool (decide (((i : Nat) : Int) > 0))) h165 rfl rfl rfl fun a166 h166 => ?_; clear h165
        refine dk0 7 (v := .bool (decide (((i : Nat) : Int) > 0))) h166 rfl rfl rfl fun a167 h167 => ?_; clear h166
        cases hc168 : (decide (((i : Nat) : Int) > 0))
        ·
         rw [hc168] at h167
         have hp169 : ¬ (((i : Nat) : Int) > 0) := of_decide_eq_false hc168
         clear hc168
         refine dsk 8 h167 rfl rfl rfl fun a170 h170 => ?_; clear h167
         refine dsk 9 h170 rfl rfl rfl fun a171 h171 => ?_; clear h170
         refine dsk 10 h171 rfl rfl rfl fun a172 h172 => ?_; clear h171
         refine dsk 11 h172 rfl rfl rfl fun a173 h173 => ?_; clear h172
         refine dsk 12 h173 rfl rfl rfl fun a174 h174 => ?_; clear h173
         refine dsk 13 h174 rfl rfl rfl fun a175 h175 => ?_; clear h174
         refine dsk 14 h175 rfl rfl rfl fun a176 h176 => ?_; clear h175
         refine dsk 15 h176 rfl rfl rfl fun a177 h177 => ?_; clear h176
         refine dsk 16 h177 rfl rfl rfl fun a178 h178 => ?_; clear h177
         refine dsk 17 h178 rfl rfl rfl fun a179 h179 => ?_; clear h178
         refine dsk 18 h179 rfl rfl rfl fun a180 h180 => ?_; clear h179
         refine dsk 19 h180 rfl rfl rfl fun a181 h181 => ?_; clear h180
         refine dsk 20 h181 rfl rfl rfl fun a182 h182 => ?_; clear h181
         refine dsk 21 h182 rfl rfl rfl fun a183 h183 => ?_; clear h182
         refine dsk 22 h183 rfl rfl rfl fun a184 h184 => ?_; clear h183
         refine dsk 23 h184 rfl rfl rfl fun a185 h185 => ?_; clear h184
         refine dsk 24 h185 rfl rfl rfl fun a186 h186 => ?_; clear h185
         refine dsk 25 h186 rfl rfl rfl fun a187 h187 => ?_; clear h186
         refine dk0 26 (v := .bool false) h187 rfl rfl rfl fun a188 h188 => ?_; clear h187
         refine dr_done (by kernel_rfl) ?_
         refine co_then ?_
         refine co_false h188 rfl ?_
         refine wp_skip ?_
         refine co_blockN ?_
         refine co_then ?_
         refine co_reg ?_
         refine pk (v := .int .i64 ((i + 1 : Nat) : Int)) h188 rfl (rn_arith' rfl rfl rfl rfl rfl rfl (IntWalk.i64_in _ (by omega)) (by omega)) fun a189 h189 => ?_; clear h188
         refine pk0 (v := .int .i64 ((i + 1 : Nat) : Int)) h189 rfl fun a190 h190 => ?_; clear h189
         refine pl_nil ?_
         refine co_then ?_
         refine ⟨(l.length - (i + 1)), by omega, ?_⟩
         have hbd : badT (l.take i) y32 = false := by first | exact bad_ts (by omega) | exact bad_0 (by omega)
         have hL' := rg_step (i := i) hL hy32 (by omega) (by omega) hbd
         have hI191 := hm119.kept hg125 (by simp)
         exact ⟨i + 1, h190.sub ⟨rfl, rfl, rfl, rfl, rfl, trivial⟩, rfl, by omega, by first | rfl | exact hL', (hI191.eq (tw_step hy32)), hB135⟩
        ·
         rw [hc168] at h167
         have hp192 : ((i : Nat) : Int) > 0 := of_decide_eq_true hc168
         clear hc168
         refine dk0 8 (v := v) h167 rfl rfl rfl fun a193 h193 => ?_; clear h167
         refine dk0 9 (v := .int .i64 ((i : Nat) : Int)) h193 rfl rfl rfl fun a194 h194 => ?_; clear h193
         refine dk 10 (v := .int .i64 (((i : Nat) : Int) - 1)) h194 rfl rfl rfl (fun x hx => by subst hx; exact (rn_arith rfl rfl rfl rfl rfl rfl (IntWalk.i64_in _ (by omega)))) fun a195 h195 => ?_; clear h194
         obtain ⟨y196, hy196⟩ : ∃ z, l[(((i : Nat) : Int) - 1).toNat]? = some z := ⟨_, List.getElem?_eq_getElem (by first | omega | (simp; done) | (simp; omega))⟩
         have oky196 := hok _ (List.mem_of_getElem? hy196)
         have k197 : 0 ≤ y196.ts := oky196.ts0
         have k198 : y196.ts < 18446744073709551616 := oky196.ts1
         refine dk 11 (v := pt (blkOf v) (offOf v + ((((i : Nat) : Int) - 1).toNat) * 4)) h195 rfl rfl rfl (fun x hx => by subst hx; exact (rn_index rfl rfl rfl Try.underlying39 Try.sizeOf47 (hs.below hB135) (by omega) (by first | omega | (simp; done) | (simp; omega)))) fun a199 h199 => ?_; clear h195
         refine dk0 12 (v := pt (blkOf v) (offOf v + ((((i : Nat) : Int) - 1).toNat) * 4 + 3)) h199 rfl rfl rfl fun a200 h200 => ?_; clear h199
         refine dk 13 (v := .int .u64 y196.ts) h200 rfl rfl rfl (fun x hx => by subst hx; exact (rn_load1 rfl rfl Try.isAgg45 ((sl_at (hs.below hB135) hy196) 3 _ rfl))) fun a201 h201 => ?_; clear h200
         refine dk0 14 (v := .bool (y196.ts == 0)) h201 rfl rfl rfl fun a202 h202 => ?_; clear h201
         refine dk0 15 (v := .bool (y196.ts == 0)) h202 rfl rfl rfl fun a203 h203 => ?_; clear h202
         cases hc204 : (y196.ts == 0)
         ·
          rw [hc204] at h203
          have hp205 : ¬ (y196.ts = 0) := by first | simpa using hc204 | simpa [and_assoc] using hc204
          clear hc204
          refine dk0 16 (v := v) h203 rfl rfl rfl fun a206 h206 => ?_; clear h203
          refine dk0 17 (v := .int .i64 ((i : Nat) : Int)) h206 rfl rfl rfl fun a207 h207 => ?_; clear h206
          refine dk 18 (v := .int .i64 (((i : Nat) : Int) - 1)) h207 rfl rfl rfl (fun x hx => by subst hx; exact (rn_arith rfl rfl rfl rfl rfl rfl (IntWalk.i64_in _ (by omega)))) fun a208 h208 => ?_; clear h207
          refine dk 19 (v := pt (blkOf v) (offOf v + ((((i : Nat) : Int) - 1).toNat) * 4)) h208 rfl rfl rfl (fun x hx => by subst hx; exact (rn_index rfl rfl rfl Try.underlying39 Try.sizeOf47 (hs.below hB135) (by omega) (by first | omega | (simp; done) | (simp; omega)))) fun a209 h209 => ?_; clear h208
          refine dk0 20 (v := pt (blkOf v) (offOf v + ((((i : Nat) : Int) - 1).toNat) * 4 + 3)) h209 rfl rfl rfl fun a210 h210 => ?_; clear h209
          refine dk 21 (v := .int .u64 y196.ts) h210 rfl rfl rfl (fun x hx => by subst hx; exact (rn_load1 rfl rfl Try.isAgg45 ((sl_at (hs.below hB135) hy196) 3 _ rfl))) fun a211 h211 => ?_; clear h210
          refine dk0 22 (v := pt N39 3) h211 rfl rfl rfl fun a212 h212 => ?_; clear h211
          refine dk 23 (v := .int .u64 y32.ts) h212 rfl rfl rfl (fun x hx => by subst hx; exact (rn_load1 rfl rfl Try.isAgg45 (hk129.cell rfl))) fun a213 h213 => ?_; clear h212
          refine dk0 24 (v := .bool (decide (y196.ts ≥ y32.ts))) h213 rfl rfl rfl fun a214 h214 => ?_; clear h213
          refine dk0 25 (v := .bool (decide (y196.ts ≥ y32.ts))) h214 rfl rfl rfl fun a215 h215 => ?_; clear h214
          refine dk0 26 (v := .bool (decide (y196.ts ≥ y32.ts))) h215 rfl rfl rfl fun a216 h216 => ?_; clear h215
          refine dr_done (by kernel_rfl) ?_
          refine co_then ?_
          cases hc217 : (decide (y196.ts ≥ y32.ts))
          ·
           rw [hc217] at h216
           have hp218 : ¬ (y196.ts ≥ y32.ts) := of_decide_eq_false hc217
           clear hc217
           refine co_false h216 rfl ?_
           refine wp_skip ?_
           refine co_blockN ?_
           refine co_then ?_
           refine co_reg ?_
           refine pk (v := .int .i64 ((i + 1 : Nat) : Int)) h216 rfl (rn_arith' rfl rfl rfl rfl rfl rfl (IntWalk.i64_in _ (by omega)) (by omega)) fun a219 h219 => ?_; clear h216
           refine pk0 (v := .int .i64 ((i + 1 : Nat) : Int)) h219 rfl fun a220 h220 => ?_; clear h219
           refine pl_nil ?_
           refine co_then ?_
           refine ⟨(l.length - (i + 1)), by omega, ?_⟩
           have hbd : badT (l.take i) y32 = false := by rw [bad_at (j := (((i : Nat) : Int) - 1).toNat) (by omega) (by omega) hy196]; exact decide_eq_false (by omega)
           have hL' := rg_step (i := i) hL hy32 (by omega) (by omega) hbd
           have hI221 := hm119.kept hg125 (by simp)
           exact ⟨i + 1, h220.sub ⟨rfl, rfl, rfl, rfl, rfl, trivial⟩, rfl, by omega, by first | rfl | exact hL', (hI221.eq (tw_step hy32)), hB135⟩
          ·
           rw [hc217] at h216
           have hp222 : y196.ts ≥ y32.ts := of_decide_eq_true hc217
           clear hc217
           refine co_true h216 rfl ?_
           refine co_seq ?_
           refine co_reg ?_
           refine pk0 (v := .int .i64 18) h216 rfl fun a223 h223 => ?_; clear h216
           refine pl_nil ?_
           refine co_then ?_
           refine wp_ret ?_
           refine co_blockR ?_
           refine co_thenR ?_
           refine co_thenR ?_
           refine co_blockR ?_
           refine co_thenR ?_
           refine co_ret1 h223 rfl rfl ?_
           have hbd : badT (l.take i) y32 = true := by rw [bad_at (j := (((i : Nat) : Int) - 1).toNat) (by omega) (by omega) hy196]; exact decide_eq_true (by omega)
           exact ⟨ret_int (rg_bad (i := i) hL hy32 (by omega) (by omega) hbd), hB135⟩
         ·
          rw [hc204] at h203
          have hp224 : y196.ts = 0 := by first | simpa using hc204 | simpa [and_assoc] using hc204
          clear hc204
          refine dsk 16 h203 rfl rfl rfl fun a225 h225 => ?_; clear h203
          refine dsk 17 h225 rfl rfl rfl fun a226 h226 => ?_; clear h225
          refine dsk 18 h226 rfl rfl rfl fun a227 h227 => ?_; clear h226
          refine dsk 19 h227 rfl rfl rfl fun a228 h228 => ?_; clear h227
          refine dsk 20 h228 rfl rfl rfl fun a229 h229 => ?_; clear h228
          refine dsk 21 h229 rfl rfl rfl fun a230 h230 => ?_; clear h229
          refine dsk 22 h230 rfl rfl rfl fun a231 h231 => ?_; clear h230
          refine dsk 23 h231 rfl rfl rfl fun a232 h232 => ?_; clear h231
          refine dsk 24 h232 rfl rfl rfl fun a233 h233 => ?_; clear h232
          refine dk0 25 (v := .bool true) h233 rfl rfl rfl fun a234 h234 => ?_; clear h233
          refine dk0 26 (v := .bool true) h234 rfl rfl rfl fun a235 h235 => ?_; clear h234
          refine dr_done (by kernel_rfl) ?_
          refine co_then ?_
          refine co_true h235 rfl ?_
          refine co_seq ?_
          refine co_reg ?_
          refine pk0 (v := .int .i64 18) h235 rfl fun a236 h236 => ?_; clear h235
          refine pl_nil ?_
          refine co_then ?_
          refine wp_ret ?_
          refine co_blockR ?_
          refine co_thenR ?_
          refine co_thenR ?_
          refine co_blockR ?_
          refine co_thenR ?_
          refine co_ret1 h236 rfl rfl ?_
          have hbd : badT (l.take i) y32 = true := by rw [bad_at (j := (((i : Nat) : Int) - 1).toNat) (by omega) (by omega) hy196]; exact decide_eq_true (by omega)
          exact ⟨ret_int (rg_bad (i := i) hL hy32 (by omega) (by omega) hbd), hB135⟩
      ·
       have hI244 := hI76.kept hg83 (by simp)
       have hI245 := hI244.kept (below_grown hb96) (by simp)
       refine dr_op (i := 5) h94 rfl rfl rfl rfl (op_entryG (a := (y32.client, y32.req)) arr2_kl rfl rfl rfl Try.underlying165 int_z hI245) ?_ ?_; clear h94
       ·
        rintro _ w238 ⟨s239, rfl, hm240, hS241, hz242, hg243⟩
        have hz246 := hg243.size
        have hl247 := hm240.lt
        have hB248 := hb_at hB98 hg243 (by omega)
        have hk249 := hk99.kept hg243 (by simp; omega)
        exact ⟨hB248, hk249⟩
       rintro _ w238 a237 ⟨s239, rfl, hm240, hS241, hz242, hg243⟩ h237
       have hz246 := hg243.size
       have hl247 := hm240.lt
       have hB248 := hb_at hB98 hg243 (by omega)
       have hk249 := hk99.kept hg243 (by simp; omega)
       refine dk0 6 (v := .int .i64 ((s239 : Nat) : Int)) h237 rfl rfl ⟨hB248, hk249⟩ fun a250 h250 => ?_; clear h237
       refine dr_many [3] (by kernel_rfl) (by simp) ⟨?_, trivial⟩
       ·
        have k251 : 0 ≤ twN (l.take i) y32.client y32.req ∧ twN (l.take i) y32.client y32.req ≤ i := by have := twN_pos (l.take i) y32.client y32.req; rw [List.length_take] at this; omega
        refine dr_opVal (i := 3) (v := .int .i64 (twN (l.take i) y32.client y32.req)) h250 rfl rfl rfl rfl (by kernel_rfl) rfl (rn_lookG (a := (y32.client, y32.req)) arr2_kl rfl rfl rfl Try.underlying165 int_z hm240) ⟨hB248, hk249⟩ (fun a252 h252 => ?_); clear h250
        refine dk 4 (v := .int .i64 ((twN (l.take i) y32.client y32.req) + 1)) h252 rfl rfl ⟨hB248, hk249⟩ (fun x hx => (rn_arith rfl rfl rfl rfl rfl rfl (IntWalk.i64_in _ (by omega)))) fun a253 h253 => ?_; clear h252
        refine d1D 7 h253 rfl rfl (op_entryStoreG (a := (y32.client, y32.req)) (v := ((twN (l.take i) y32.client y32.req) + 1)) (st := s239) arr2K_inj rfl rfl rfl rfl hm240 hS241) ?_ ?_; clear h253
        ·
         rintro _ w255 ⟨hm256, hz257, hg258⟩
         have hz259 := hg258.size
         have hl260 := hm256.lt
         have hB261 := hb_at hB248 hg258 (by omega)
         have hk262 := hk249.kept hg258 (by simp; omega)
         exact ⟨hB261, hk262⟩
        rintro _ w255 a254 ⟨hm256, hz257, hg258⟩ h254
        have hz259 := hg258.size
        have hl260 := hm256.lt
        refine dr_done (by kernel_rfl) ?_
        refine co_then ?_
        refine co_seq ?_
        refine dr_eq (by kernel_rfl) (fun w261 hg262 => ?_)
        have hz263 := hg262.size
        refine dk0 0 (v := pt N39 3) h254 rfl rfl rfl fun a264 h264 => ?_; clear h254
        have hk265 := hk249.kept hg258 (by simp; omega)
        have hk266 := hk265.kept hg262 (by simp)
        refine dk 1 (v := .int .u64 y32.ts) h264 rfl rfl rfl (fun x hx => by subst hx; exact (rn_load1 rfl rfl Try.isAgg45 (hk266.cell rfl))) fun a267 h267 => ?_; clear h264
        refine dk0 2 (v := .bool (y32.ts != 0)) h267 rfl rfl rfl fun a268 h268 => ?_; clear h267
        refine dk0 3 (v := .bool (y32.ts != 0)) h268 rfl rfl rfl fun a269 h269 => ?_; clear h268
        have hB271 := hb_at hB248 hg258 (by omega)
        have hB272 := hb_new hB271 hg262
        cases hc270 : (y32.ts != 0)
        ·
         rw [hc270] at h269
         have hp273 : ¬ (y32.ts ≠ 0) := by first | simpa using hc270 | simpa [and_assoc] using hc270
         clear hc270
         refine dsk 4 h269 rfl rfl rfl fun a274 h274 => ?_; clear h269
         refine dsk 5 h274 rfl rfl rfl fun a275 h275 => ?_; clear h274
         refine dk0 6 (v := .bool false) h275 rfl rfl rfl fun a276 h276 => ?_; clear h275
         refine dk0 7 (v := .bool false) h276 rfl rfl rfl fun a277 h277 => ?_; clear h276
         refine dsk 8 h277 rfl rfl rfl fun a278 h278 => ?_; clear h277
         refine dsk 9 h278 rfl rfl rfl fun a279 h279 => ?_; clear h278
         refine dsk 10 h279 rfl rfl rfl fun a280 h280 => ?_; clear h279
         refine dsk 11 h280 rfl rfl rfl fun a281 h281 => ?_; clear h280
         refine dsk 12 h281 rfl rfl rfl fun a282 h282 => ?_; clear h281
         refine dsk 13 h282 rfl rfl rfl fun a283 h283 => ?_; clear h282
         refine dsk 14 h283 rfl rfl rfl fun a284 h284 => ?_; clear h283
         refine dsk 15 h284 rfl rfl rfl fun a285 h285 => ?_; clear h284
         refine dsk 16 h285 rfl rfl rfl fun a286 h286 => ?_; clear h285
         refine dsk 17 h286 rfl rfl rfl fun a287 h287 => ?_; clear h286
         refine dsk 18 h287 rfl rfl rfl fun a288 h288 => ?_; clear h287
         refine dsk 19 h288 rfl rfl rfl fun a289 h289 => ?_; clear h288
         refine dsk 20 h289 rfl rfl rfl fun a290 h290 => ?_; clear h289
         refine dsk 21 h290 rfl rfl rfl fun a291 h291 => ?_; clear h290
         refine dsk 22 h291 rfl rfl rfl fun a292 h292 => ?_; clear h291
         refine dsk 23 h292 rfl rfl rfl fun a293 h293 => ?_; clear h292
         refine dsk 24 h293 rfl rfl rfl fun a294 h294 => ?_; clear h293
         refine dsk 25 h294 rfl rfl rfl fun a295 h295 => ?_; clear h294
         refine dk0 26 (v := .bool false) h295 rfl rfl rfl fun a296 h296 => ?_; clear h295
         refine dr_done (by kernel_rfl) ?_
         refine co_then ?_
         refine co_false h296 rfl ?_
         refine wp_skip ?_
         refine co_blockN ?_
         refine co_then ?_
         refine co_reg ?_
         refine pk (v := .int .i64 ((i + 1 : Nat) : Int)) h296 rfl (rn_arith' rfl rfl rfl rfl rfl rfl (IntWalk.i64_in _ (by omega)) (by omega)) fun a297 h297 => ?_; clear h296
         refine pk0 (v := .int .i64 ((i + 1 : Nat) : Int)) h297 rfl fun a298 h298 => ?_; clear h297
         refine pl_nil ?_
         refine co_then ?_
         refine ⟨(l.length - (i + 1)), by omega, ?_⟩
         have hbd : badT (l.take i) y32 = false := by first | exact bad_ts (by omega) | exact bad_0 (by omega)
         have hL' := rg_step (i := i) hL hy32 (by omega) (by omega) hbd
         have hI299 := hm256.kept hg262 (by simp)
         exact ⟨i + 1, h298.sub ⟨rfl, rfl, rfl, rfl, rfl, trivial⟩, rfl, by omega, by first | rfl | exact hL', (hI299.eq (tw_step hy32)), hB272⟩
        ·
         rw [hc270] at h269
         have hp300 : y32.ts ≠ 0 := by first | simpa using hc270 | simpa [and_assoc] using hc270
         clear hc270
         refine dk0 4 (v := .int .i64 ((i : Nat) : Int)) h269 rfl rfl rfl fun a301 h301 => ?_; clear h269
         refine dk0 5 (v := .bool (decide (((i : Nat) : Int) > 0))) h301 rfl rfl rfl fun a302 h302 => ?_; clear h301
         refine dk0 6 (v := .bool (decide (((i : Nat) : Int) > 0))) h302 rfl rfl rfl fun a303 h303 => ?_; clear h302
         refine dk0 7 (v := .bool (decide (((i : Nat) : Int) > 0))) h303 rfl rfl rfl fun a304 h304 => ?_; clear h303
         cases hc305 : (decide (((i : Nat) : Int) > 0))
         ·
          rw [hc305] at h304
          have hp306 : ¬ (((i : Nat) : Int) > 0) := of_decide_eq_false hc305
          clear hc305
          refine dsk 8 h304 rfl rfl rfl fun a307 h307 => ?_; clear h304
          refine dsk 9 h307 rfl rfl rfl fun a308 h308 => ?_; clear h307
          refine dsk 10 h308 rfl rfl rfl fun a309 h309 => ?_; clear h308
          refine dsk 11 h309 rfl rfl rfl fun a310 h310 => ?_; clear h309
          refine dsk 12 h310 rfl rfl rfl fun a311 h311 => ?_; clear h310
          refine dsk 13 h311 rfl rfl rfl fun a312 h312 => ?_; clear h311
          refine dsk 14 h312 rfl rfl rfl fun a313 h313 => ?_; clear h312
          refine dsk 15 h313 rfl rfl rfl fun a314 h314 => ?_; clear h313
          refine dsk 16 h314 rfl rfl rfl fun a315 h315 => ?_; clear h314
          refine dsk 17 h315 rfl rfl rfl fun a316 h316 => ?_; clear h315
          refine dsk 18 h316 rfl rfl rfl fun a317 h317 => ?_; clear h316
          refine dsk 19 h317 rfl rfl rfl fun a318 h318 => ?_; clear h317
          refine dsk 20 h318 rfl rfl rfl fun a319 h319 => ?_; clear h318
          refine dsk 21 h319 rfl rfl rfl fun a320 h320 => ?_; clear h319
          refine dsk 22 h320 rfl rfl rfl fun a321 h321 => ?_; clear h320
          refine dsk 23 h321 rfl rfl rfl fun a322 h322 => ?_; clear h321
          refine dsk 24 h322 rfl rfl rfl fun a323 h323 => ?_; clear h322
          refine dsk 25 h323 rfl rfl rfl fun a324 h324 => ?_; clear h323
          refine dk0 26 (v := .bool false) h324 rfl rfl rfl fun a325 h325 => ?_; clear h324
          refine dr_done (by kernel_rfl) ?_
          refine co_then ?_
          refine co_false h325 rfl ?_
          refine wp_skip ?_
          refine co_blockN ?_
          refine co_then ?_
          refine co_reg ?_
          refine pk (v := .int .i64 ((i + 1 : Nat) : Int)) h325 rfl (rn_arith' rfl rfl rfl rfl rfl rfl (IntWalk.i64_in _ (by omega)) (by omega)) fun a326 h326 => ?_; clear h325
          refine pk0 (v := .int .i64 ((i + 1 : Nat) : Int)) h326 rfl fun a327 h327 => ?_; clear h326
          refine pl_nil ?_
          refine co_then ?_
          refine ⟨(l.length - (i + 1)), by omega, ?_⟩
          have hbd : badT (l.take i) y32 = false := by first | exact bad_ts (by omega) | exact bad_0 (by omega)
          have hL' := rg_step (i := i) hL hy32 (by omega) (by omega) hbd
          have hI328 := hm256.kept hg262 (by simp)
          exact ⟨i + 1, h327.sub ⟨rfl, rfl, rfl, rfl, rfl, trivial⟩, rfl, by omega, by first | rfl | exact hL', (hI328.eq (tw_step hy32)), hB272⟩
         ·
          rw [hc305] at h304
          have hp329 : ((i : Nat) : Int) > 0 := of_decide_eq_true hc305
          clear hc305
          refine dk0 8 (v := v) h304 rfl rfl rfl fun a330 h330 => ?_; clear h304
          refine dk0 9 (v := .int .i64 ((i : Nat) : Int)) h330 rfl rfl rfl fun a331 h331 => ?_; clear h330
          refine dk 10 (v := .int .i64 (((i : Nat) : Int) - 1)) h331 rfl rfl rfl (fun x hx => by subst hx; exact (rn_arith rfl rfl rfl rfl rfl rfl (IntWalk.i64_in _ (by omega)))) fun a332 h332 => ?_; clear h331
          obtain ⟨y333, hy333⟩ : ∃ z, l[(((i : Nat) : Int) - 1).toNat]? = some z := ⟨_, List.getElem?_eq_getElem (by first | omega | (simp; done) | (simp; omega))⟩
          have oky333 := hok _ (List.mem_of_getElem? hy333)
          have k334 : 0 ≤ y333.ts := oky333.ts0
          have k335 : y333.ts < 18446744073709551616 := oky333.ts1
          refine dk 11 (v := pt (blkOf v) (offOf v + ((((i : Nat) : Int) - 1).toNat) * 4)) h332 rfl rfl rfl (fun x hx => by subst hx; exact (rn_index rfl rfl rfl Try.underlying39 Try.sizeOf47 (hs.below hB272) (by omega) (by first | omega | (simp; done) | (simp; omega)))) fun a336 h336 => ?_; clear h332
          refine dk0 12 (v := pt (blkOf v) (offOf v + ((((i : Nat) : Int) - 1).toNat) * 4 + 3)) h336 rfl rfl rfl fun a337 h337 => ?_; clear h336
          refine dk 13 (v := .int .u64 y333.ts) h337 rfl rfl rfl (fun x hx => by subst hx; exact (rn_load1 rfl rfl Try.isAgg45 ((sl_at (hs.below hB272) hy333) 3 _ rfl))) fun a338 h338 => ?_; clear h337
          refine dk0 14 (v := .bool (y333.ts == 0)) h338 rfl rfl rfl fun a339 h339 => ?_; clear h338
          refine dk0 15 (v := .bool (y333.ts == 0)) h339 rfl rfl rfl fun a340 h340 => ?_; clear h339
          cases hc341 : (y333.ts == 0)
          ·
           rw [hc341] at h340
           have hp342 : ¬ (y333.ts = 0) := by first | simpa using hc341 | simpa [and_assoc] using hc341
           clear hc341
           refine dk0 16 (v := v) h340 rfl rfl rfl fun a343 h343 => ?_; clear h340
           refine dk0 17 (v := .int .i64 ((i : Nat) : Int)) h343 rfl rfl rfl fun a344 h344 => ?_; clear h343
           refine dk 18 (v := .int .i64 (((i : Nat) : Int) - 1)) h344 rfl rfl rfl (fun x hx => by subst hx; exact (rn_arith rfl rfl rfl rfl rfl rfl (IntWalk.i64_in _ (by omega)))) fun a345 h345 => ?_; clear h344
           refine dk 19 (v := pt (blkOf v) (offOf v + ((((i : Nat) : Int) - 1).toNat) * 4)) h345 rfl rfl rfl (fun x hx => by subst hx; exact (rn_index rfl rfl rfl Try.underlying39 Try.sizeOf47 (hs.below hB272) (by omega) (by first | omega | (simp; done) | (simp; omega)))) fun a346 h346 => ?_; clear h345
           refine dk0 20 (v := pt (blkOf v) (offOf v + ((((i : Nat) : Int) - 1).toNat) * 4 + 3)) h346 rfl rfl rfl fun a347 h347 => ?_; clear h346
           refine dk 21 (v := .int .u64 y333.ts) h347 rfl rfl rfl (fun x hx => by subst hx; exact (rn_load1 rfl rfl Try.isAgg45 ((sl_at (hs.below hB272) hy333) 3 _ rfl))) fun a348 h348 => ?_; clear h347
           refine dk0 22 (v := pt N39 3) h348 rfl rfl rfl fun a349 h349 => ?_; clear h348
           refine dk 23 (v := .int .u64 y32.ts) h349 rfl rfl rfl (fun x hx => by subst hx; exact (rn_load1 rfl rfl Try.isAgg45 (hk266.cell rfl))) fun a350 h350 => ?_; clear h349
           refine dk0 24 (v := .bool (decide (y333.ts ≥ y32.ts))) h350 rfl rfl rfl fun a351 h351 => ?_; clear h350
           refine dk0 25 (v := .bool (decide (y333.ts ≥ y32.ts))) h351 rfl rfl rfl fun a352 h352 => ?_; clear h351
           refine dk0 26 (v := .bool (decide (y333.ts ≥ y32.ts))) h352 rfl rfl rfl fun a353 h353 => ?_; clear h352
           refine dr_done (by kernel_rfl) ?_
           refine co_then ?_
           cases hc354 : (decide (y333.ts ≥ y32.ts))
           ·
            rw [hc354] at h353
            have hp355 : ¬ (y333.ts ≥ y32.ts) := of_decide_eq_false hc354
            clear hc354
            refine co_false h353 rfl ?_
            refine wp_skip ?_
            refine co_blockN ?_
            refine co_then ?_
            refine co_reg ?_
            refine pk (v := .int .i64 ((i + 1 : Nat) : Int)) h353 rfl (rn_arith' rfl rfl rfl rfl rfl rfl (IntWalk.i64_in _ (by omega)) (by omega)) fun a356 h356 => ?_; clear h353
            refine pk0 (v := .int .i64 ((i + 1 : Nat) : Int)) h356 rfl fun a357 h357 => ?_; clear h356
            refine pl_nil ?_
            refine co_then ?_
            refine ⟨(l.length - (i + 1)), by omega, ?_⟩
            have hbd : badT (l.take i) y32 = false := by rw [bad_at (j := (((i : Nat) : Int) - 1).toNat) (by omega) (by omega) hy333]; exact decide_eq_false (by omega)
            have hL' := rg_step (i := i) hL hy32 (by omega) (by omega) hbd
            have hI358 := hm256.kept hg262 (by simp)
            exact ⟨i + 1, h357.sub ⟨rfl, rfl, rfl, rfl, rfl, trivial⟩, rfl, by omega, by first | rfl | exact hL', (hI358.eq (tw_step hy32)), hB272⟩
           ·
            rw [hc354] at h353
            have hp359 : y333.ts ≥ y32.ts := of_decide_eq_true hc354
            clear hc354
            refine co_true h353 rfl ?_
            refine co_seq ?_
            refine co_reg ?_
            refine pk0 (v := .int .i64 18) h353 rfl fun a360 h360 => ?_; clear h353
            refine pl_nil ?_
            refine co_then ?_
            refine wp_ret ?_
            refine co_blockR ?_
            refine co_thenR ?_
            refine co_thenR ?_
            refine co_blockR ?_
            refine co_thenR ?_
            refine co_ret1 h360 rfl rfl ?_
            have hbd : badT (l.take i) y32 = true := by rw [bad_at (j := (((i : Nat) : Int) - 1).toNat) (by omega) (by omega) hy333]; exact decide_eq_true (by omega)
            exact ⟨ret_int (rg_bad (i := i) hL hy32 (by omega) (by omega) hbd), hB272⟩
          ·
           rw [hc341] at h340
           have hp361 : y333.ts = 0 := by first | simpa using hc341 | simpa [and_assoc] using hc341
           clear hc341
           refine dsk 16 h340 rfl rfl rfl fun a362 h362 => ?_; clear h340
           refine dsk 17 h362 rfl rfl rfl fun a363 h363 => ?_; clear h362
           refine dsk 18 h363 rfl rfl rfl fun a364 h364 => ?_; clear h363
           refine dsk 19 h364 rfl rfl rfl fun a365 h365 => ?_; clear h364
           refine dsk 20 h365 rfl rfl rfl fun a366 h366 => ?_; clear h365
           refine dsk 21 h366 rfl rfl rfl fun a367 h367 => ?_; clear h366
           refine dsk 22 h367 rfl rfl rfl fun a368 h368 => ?_; clear h367
           refine dsk 23 h368 rfl rfl rfl fun a369 h369 => ?_; clear h368
           refine dsk 24 h369 rfl rfl rfl fun a370 h370 => ?_; clear h369
           refine dk0 25 (v := .bool true) h370 rfl rfl rfl fun a371 h371 => ?_; clear h370
           refine dk0 26 (v := .bool true) h371 rfl rfl rfl fun a372 h372 => ?_; clear h371
           refine dr_done (by kernel_rfl) ?_
           refine co_then ?_
           refine co_true h372 rfl ?_
           refine co_seq ?_
           refine co_reg ?_
           refine pk0 (v := .int .i64 18) h372 rfl fun a373 h373 => ?_; clear h372
           refine pl_nil ?_
           refine co_then ?_
           refine wp_ret ?_
           refine co_blockR ?_
           refine co_thenR ?_
           refine co_thenR ?_
           refine co_blockR ?_
           refine co_thenR ?_
           refine co_ret1 h373 rfl rfl ?_
           have hbd : badT (l.take i) y32 = true := by rw [bad_at (j := (((i : Nat) : Int) - 1).toNat) (by omega) (by omega) hy333]; exact decide_eq_true (by omega)
           exact ⟨ret_int (rg_bad (i := i) hL hy32 (by omega) (by omega) hbd), hB272⟩
     ·
      rw [hc79] at h78
      have hp374 : twN (l.take i) y32.client y32.req > 0 := of_decide_eq_true hc79
      clear hc79
      refine co_true h78 rfl ?_
      refine co_seq ?_
      refine co_reg ?_
      refine pk0 (v := .int .i64 18) h78 rfl fun a375 h375 => ?_; clear h78
      refine pl_nil ?_
      refine co_then ?_
      refine wp_ret ?_
      refine co_thenR ?_
      refine co_blockR ?_
      refine co_thenR ?_
      refine co_thenR ?_
      refine co_blockR ?_
      refine co_thenR ?_
      refine co_ret1 h375 rfl rfl ?_
      exact ⟨ret_int (rg_tw (i := i) hL hy32 (by omega) (by omega)), hB80⟩
    ·
     rw [hc62] at h61
     have hp376 : chkB y32.client y32.req y32.opl ≠ 0 := by first | simpa using hc62 | simpa [and_assoc] using hc62
     clear hc62
     refine co_true h61 rfl ?_
     refine co_seq ?_
     refine co_reg ?_
     refine pk0 (v := .int .i64 (chkB y32.client y32.req y32.opl)) h61 rfl fun a377 h377 => ?_; clear h61
     refine pk0 (v := .int .i64 (chkB y32.client y32.req y32.opl)) h377 rfl fun a378 h378 => ?_; clear h377
     refine pl_nil ?_
     refine co_then ?_
     refine wp_ret ?_
     refine co_thenR ?_
     refine co_blockR ?_
     refine co_thenR ?_
     refine co_thenR ?_
     refine co_blockR ?_
     refine co_thenR ?_
     refine co_ret1 h378 rfl rfl ?_
     exact ⟨ret_int (rg_chk (i := i) hL hy32 (by omega)), hB63⟩
set_option maxRecDepth 100000 in
theorem itemTwins_any (c : Int) (r : Int) (v : Value) (ts : Int) (c2 : Int) (r2 : Int) (v2 : Value) (ts2 : Int) (w : World)  :
    Calls Try.prog 94 #[.agg #[.int .i64 c, .int .i64 r, v, .int .u64 ts], .agg #[.int .i64 c2, .int .i64 r2, v2, .int .u64 ts2]] w fun e w' => e = .returned (.bool ((c == (c2 : Int)) && (r == (r2 : Int)))) ∧ Below w.heap.size w w' := by
 have hB0 := Below.refl w.heap.size w
 refine co_enter (n := 10) Try.func94 rfl rfl rfl [(0, .agg #[.int .i64 c, .int .i64 r, v, .int .u64 ts]), (1, .agg #[.int .i64 c2, .int .i64 r2, v2, .int .u64 ts2])] rfl (fun a h0 => ?_)
 refine co_seq ?_
 refine co_reg ?_
 refine pw h0 rfl (op_new (v := fun N => pt N 0) (T := 47) (cs := #[.int .i64 c, .int .i64 r, v, .int .u64 ts]) (by kernel_rfl) (by kernel_rfl) (by kernel_rfl)) ?_; clear h0
 rintro _ w2 a1 ⟨N3, rfl, hN6, hz7, hk5, hg4⟩ h1
 have hz8 := hg4.size
 try dsimp only at h1
 refine pw h1 rfl (op_new (v := fun N => pt N 0) (T := 47) (cs := #[.int .i64 c2, .int .i64 r2, v2, .int .u64 ts2]) (by kernel_rfl) (by kernel_rfl) (by kernel_rfl)) ?_; clear h1
 rintro _ w10 a9 ⟨N11, rfl, hN14, hz15, hk13, hg12⟩ h9
 have hz16 := hg12.size
 try dsimp only at h9
 refine pk0 (v := .bool false) h9 rfl fun a17 h17 => ?_; clear h9
 refine pl_nil ?_
 refine co_then ?_
 refine co_seq ?_
 refine dr_gen (fun x => Below w.heap.size w x ∧ Blk x N3 47 #[.int .i64 c, .int .i64 r, v, .int .u64 ts] ∧ Blk x N11 47 #[.int .i64 c2, .int .i64 r2, v2, .int .u64 ts2]) (by kernel_rfl) (fun w18 hg19 => ?_) (fun w18 hg19 => ?_)
 ·
  have hz20 := hg19.size
  have hB21 := hb_new hB0 hg4
  have hB22 := hb_new hB21 hg12
  have hB23 := hb_new hB22 hg19
  have hk24 := hk5.kept hg12 (by simp)
  have hk25 := hk24.kept hg19 (by simp)
  have hk26 := hk13.kept hg19 (by simp)
  exact ⟨hB23, hk25, hk26⟩
 have hz27 := hg19.size
 have hB28 := hb_new hB0 hg4
 have hB29 := hb_new hB28 hg12
 have hB30 := hb_new hB29 hg19
 have hk31 := hk5.kept hg12 (by simp)
 have hk32 := hk31.kept hg19 (by simp)
 have hk33 := hk13.kept hg19 (by simp)
 refine dk 0 (v := .agg #[.int .i64 c, .int .i64 r, v, .int .u64 ts]) h17 rfl rfl ⟨hB30, hk32, hk33⟩ (fun x hx => (rn_loadN rfl rfl Try.underlying47 rfl (by kernel_rfl) hx.2.1.all)) fun a34 h34 => ?_; clear h17
 refine dk 2 (v := .agg #[.int .i64 c2, .int .i64 r2, v2, .int .u64 ts2]) h34 rfl rfl ⟨hB30, hk32, hk33⟩ (fun x hx => (rn_loadN rfl rfl Try.underlying47 rfl (by kernel_rfl) hx.2.2.all)) fun a35 h35 => ?_; clear h34
 refine d1 1 h35 rfl rfl (op_call (args := #[.agg #[.int .i64 c, .int .i64 r, v, .int .u64 ts]]) (R := fun res xw => res = .agg #[.int .i64 c, .int .i64 r] ∧ Below w18.heap.size w18 xw) rfl rfl rfl (by kernel_rfl) (by kernel_rfl) (Try.call111 _ _) (itemWho_any c r v ts w18 ) (by rintro e x ⟨rfl, hb38⟩; exact ⟨_, rfl, ⟨rfl, hb38⟩⟩)) ?_ ?_; clear h35
 ·
  rintro _ w37 ⟨rfl, hb38⟩
  have hz39 := hb38.size
  have hB40 := hb_call hB30 hb38
  have hk41 := hk32.below hb38
  have hk42 := hk33.below hb38
  exact ⟨hB40, hk41, hk42⟩
 rintro _ w37 a36 ⟨rfl, hb38⟩ h36
 have hz39 := hb38.size
 have hB40 := hb_call hB30 hb38
 have hk41 := hk32.below hb38
 have hk42 := hk33.below hb38
 refine d1 3 h36 rfl rfl (op_call (args := #[.agg #[.int .i64 c2, .int .i64 r2, v2, .int .u64 ts2]]) (R := fun res xw => res = .agg #[.int .i64 c2, .int .i64 r2] ∧ Below w37.heap.size w37 xw) rfl rfl rfl (by kernel_rfl) (by kernel_rfl) (Try.call111 _ _) (itemWho_any c2 r2 v2 ts2 w37 ) (by rintro e x ⟨rfl, hb45⟩; exact ⟨_, rfl, ⟨rfl, hb45⟩⟩)) ?_ ?_; clear h36
 ·
  rintro _ w44 ⟨rfl, hb45⟩
  have hz46 := hb45.size
  have hB47 := hb_call hB40 hb45
  have hk48 := hk41.below hb45
  have hk49 := hk42.below hb45
  exact ⟨hB47, hk48, hk49⟩
 rintro _ w44 a43 ⟨rfl, hb45⟩ h43
 have hz46 := hb45.size
 have hB47 := hb_call hB40 hb45
 have hk48 := hk41.below hb45
 have hk49 := hk42.below hb45
 refine dk 4 (v := .bool (c == c2 && r == r2)) h43 rfl rfl ⟨hB47, hk48, hk49⟩ (fun x hx => (rn_eqS rfl rfl rfl Try.eqGuardType166 (eq_arr2 _ _ _ _ _))) fun a50 h50 => ?_; clear h43
 refine dk0 5 (v := .bool (c == c2 && r == r2)) h50 rfl rfl ⟨hB47, hk48, hk49⟩ fun a51 h51 => ?_; clear h50
 refine dr_done (by kernel_rfl) ?_
 refine co_then ?_
 refine wp_ret ?_
 refine co_ret1 h51 rfl rfl ?_
 exact ⟨ret_bool (by first | rfl | simp_all), hB47⟩
set_option maxRecDepth 100000 in
theorem adopted_any (h : EntT) (y : EntT) (w : World) (hsh : SliceOf opE 3 w h.ops h.opl) (hse : SliceOf opE 3 w y.ops y.opl) (hlh : h.opl.length ≤ 20) (hle : y.opl.length ≤ 20) :
    Calls Try.prog 93 #[.agg #[.int .i64 h.client, .int .i64 h.req, h.ops, .int .u64 h.ts], .agg #[.int .i64 y.client, .int .i64 y.req, y.ops, .int .u64 y.ts]] w fun e w' => ∃ (u : Value), e = .returned (.agg #[.int .i64 ((adE h y).client), .int .i64 ((adE h y).req), u, .int .u64 ((adE h y).ts)]) ∧ w'.ownsRow w.heap.size 127 3 u ((adE h y).opl).length (((adE h y).opl).flatMap opE) ∧ Below w.heap.size w w' := by
 have hB0 := Below.refl w.heap.size w
 have hl_hsh := sl_len hsh
 have hl_hse := sl_len hse
 refine co_enter (n := 21) Try.func93 rfl rfl rfl [(0, .agg #[.int .i64 h.client, .int .i64 h.req, h.ops, .int .u64 h.ts]), (1, .agg #[.int .i64 y.client, .int .i64 y.req, y.ops, .int .u64 y.ts])] rfl (fun a h0 => ?_)
 refine co_seq ?_
 refine co_reg ?_
 refine pw h0 rfl (op_new (v := fun N => pt N 0) (T := 47) (cs := #[.int .i64 h.client, .int .i64 h.req, h.ops, .int .u64 h.ts]) (by kernel_rfl) (by kernel_rfl) (by kernel_rfl)) ?_; clear h0
 rintro _ w2 a1 ⟨N3, rfl, hN6, hz7, hk5, hg4⟩ h1
 have hz8 := hg4.size
 try dsimp only at h1
 refine pw h1 rfl (op_new (v := fun N => pt N 0) (T := 47) (cs := #[.int .i64 y.client, .int .i64 y.req, y.ops, .int .u64 y.ts]) (by kernel_rfl) (by kernel_rfl) (by kernel_rfl)) ?_; clear h1
 rintro _ w10 a9 ⟨N11, rfl, hN14, hz15, hk13, hg12⟩ h9
 have hz16 := hg12.size
 try dsimp only at h9
 refine pw h9 rfl (op_new (v := fun N => pt N 0) (T := 47) (cs := #[.int .i64 0, .int .i64 0, .slice none 0 0, .int .u64 0]) (by kernel_rfl) (by kernel_rfl) (by kernel_rfl)) ?_; clear h9
 rintro _ w18 a17 ⟨N19, rfl, hN22, hz23, hk21, hg20⟩ h17
 have hz24 := hg20.size
 try dsimp only at h17
 refine pl_nil ?_
 refine co_then ?_
 refine co_seq ?_
 refine co_seq ?_
 refine co_reg ?_
 have hk25 := hk5.kept hg12 (by simp)
 have hk26 := hk25.kept hg20 (by simp)
 refine pk (v := .agg #[.int .i64 h.client, .int .i64 h.req, h.ops, .int .u64 h.ts]) h17 rfl (rn_loadN rfl rfl Try.underlying47 rfl (by kernel_rfl) hk26.all) fun a27 h27 => ?_; clear h17
 have hk28 := hk13.kept hg20 (by simp)
 refine pk (v := .agg #[.int .i64 y.client, .int .i64 y.req, y.ops, .int .u64 y.ts]) h27 rfl (rn_loadN rfl rfl Try.underlying47 rfl (by kernel_rfl) hk28.all) fun a29 h29 => ?_; clear h27
 refine pw h29 rfl (op_call (args := #[.agg #[.int .i64 h.client, .int .i64 h.req, h.ops, .int .u64 h.ts], .agg #[.int .i64 y.client, .int .i64 y.req, y.ops, .int .u64 y.ts]]) (R := fun res xw => res = .bool ((h.client == (y.client : Int)) && (h.req == (y.req : Int))) ∧ Below w18.heap.size w18 xw) rfl rfl rfl (by kernel_rfl) (by kernel_rfl) (Try.call94 _ _) (itemTwins_any h.client h.req h.ops h.ts y.client y.req y.ops y.ts w18 ) (by rintro e x ⟨rfl, hb32⟩; exact ⟨_, rfl, ⟨rfl, hb32⟩⟩)) ?_; clear h29
 rintro _ w31 a30 ⟨rfl, hb32⟩ h30
 have hz33 := hb32.size
 have hB35 := hb_new hB0 hg4
 have hB36 := hb_new hB35 hg12
 have hB37 := hb_new hB36 hg20
 have hB38 := hb_call hB37 hb32
 cases hc34 : (((h.client == (y.client : Int)) && (h.req == (y.req : Int))))
 ·
  rw [hc34] at h30
  have hp39 : ¬ (h.client = y.client ∧ h.req = y.req) := by first | simpa using hc34 | simpa [and_assoc] using hc34
  clear hc34
  refine pk0 (v := .bool true) h30 rfl fun a40 h40 => ?_; clear h30
  refine pl_nil ?_
  refine co_then ?_
  refine co_true h40 rfl ?_
  refine co_seq ?_
  refine co_reg ?_
  have hk41 := hk28.below hb32
  refine pk (v := .agg #[.int .i64 y.client, .int .i64 y.req, y.ops, .int .u64 y.ts]) h40 rfl (rn_loadN rfl rfl Try.underlying47 rfl (by kernel_rfl) hk41.all) fun a42 h42 => ?_; clear h40
  refine pw h42 rfl (op_call (args := #[.agg #[.int .i64 y.client, .int .i64 y.req, y.ops, .int .u64 y.ts]]) (R := fun res xw => ∃ u : Value, res = .agg #[.int .i64 y.client, .int .i64 y.req, u, .int .u64 y.ts] ∧ xw.ownsRow w31.heap.size 127 3 u y.opl.length (y.opl.flatMap opE) ∧ Below w31.heap.size w31 xw) rfl rfl rfl (by kernel_rfl) (by kernel_rfl) (Try.call81 _ _) (freshEntry_any y.client y.req y.ops y.opl y.ts w31 (hse.below hB38) (by first | omega | (simp; done) | (simp; omega))) (by rintro e x ⟨u, rfl, hq46, hb47⟩; exact ⟨_, rfl, ⟨u, rfl, hq46, hb47⟩⟩)) ?_; clear h42
  rintro _ w44 a43 ⟨u45, rfl, hq46, hb47⟩ h43
  have hz48 := hb47.size
  have hl49 := sl_len (row_sl hq46 opE_len)
  have hk55 := hk21.below hb32
  have hk56 := hk55.below hb47
  refine pwD h43 rfl (op_storeN rfl rfl rfl (all_cons rfl (all_cons rfl (all_cons (row_one hq46) (all_cons rfl all_nil)))) (by kernel_rfl) hk56 rfl) ?_; clear h43
  rintro _ w51 a50 ⟨hk52, hz53, hg54⟩ h50
  have hk52' : Blk w51 N19 47 #[.int .i64 y.client, .int .i64 y.req, u45, .int .u64 y.ts] := hk52; clear hk52
  have hz57 := hg54.size
  refine pl_nil ?_
  refine co_then ?_
  refine wp_ret ?_
  refine co_thenR ?_
  refine co_retC (Q := fun _ _ _ => True) h50 rfl rfl hk52' Try.underlying47 rfl (by kernel_rfl) ?_
  have hr58 := row_kept_at hq46 hg54 (row_ne_lt hq46 (by omega))
  have hB59 := hb_call hB38 hb47
  have hB60 := hb_at hB59 hg54 (by omega)
  have hA : adE h y = _ := adE_no (by omega)
  exact ⟨_, by rw [hA], by rw [hA]; exact (row_lows hr58 (by omega)), hB60⟩
 ·
  rw [hc34] at h30
  have hp61 : h.client = y.client ∧ h.req = y.req := by first | simpa using hc34 | simpa [and_assoc] using hc34
  clear hc34
  refine pk0 (v := .bool false) h30 rfl fun a62 h62 => ?_; clear h30
  refine pl_nil ?_
  refine co_then ?_
  refine co_false h62 rfl ?_
  refine wp_skip ?_
  refine co_then ?_
  refine co_seq ?_
  refine co_reg ?_
  have hk63 := hk26.below hb32
  refine pk (v := .agg #[.int .i64 h.client, .int .i64 h.req, h.ops, .int .u64 h.ts]) h62 rfl (rn_loadN rfl rfl Try.underlying47 rfl (by kernel_rfl) hk63.all) fun a64 h64 => ?_; clear h62
  refine pw h64 rfl (op_call (args := #[.agg #[.int .i64 h.client, .int .i64 h.req, h.ops, .int .u64 h.ts]]) (R := fun res xw => ∃ u : Value, res = .agg #[.int .i64 h.client, .int .i64 h.req, u, .int .u64 h.ts] ∧ xw.ownsRow w31.heap.size 127 3 u h.opl.length (h.opl.flatMap opE) ∧ Below w31.heap.size w31 xw) rfl rfl rfl (by kernel_rfl) (by kernel_rfl) (Try.call81 _ _) (freshEntry_any h.client h.req h.ops h.opl h.ts w31 (hsh.below hB38) (by first | omega | (simp; done) | (simp; omega))) (by rintro e x ⟨u, rfl, hq68, hb69⟩; exact ⟨_, rfl, ⟨u, rfl, hq68, hb69⟩⟩)) ?_; clear h64
  rintro _ w66 a65 ⟨u67, rfl, hq68, hb69⟩ h65
  have hz70 := hb69.size
  have hl71 := sl_len (row_sl hq68 opE_len)
  refine pw h65 rfl (op_new (v := fun N => pt N 0) (T := 47) (cs := #[.int .i64 0, .int .i64 0, .slice none 0 0, .int .u64 0]) (by kernel_rfl) (by kernel_rfl) (by kernel_rfl)) ?_; clear h65
  rintro _ w73 a72 ⟨N74, rfl, hN77, hz78, hk76, hg75⟩ h72
  have ha79 := row_fresh hq68 hN77
  have hz80 := hg75.size
  try dsimp only at h72
  have hr86 := row_kept_new hq68 hg75
  refine pwD h72 rfl (op_storeN rfl rfl rfl (all_cons rfl (all_cons rfl (all_cons (row_one hr86) (all_cons rfl all_nil)))) (by kernel_rfl) hk76 rfl) ?_; clear h72
  rintro _ w82 a81 ⟨hk83, hz84, hg85⟩ h81
  have hk83' : Blk w82 N74 47 #[.int .i64 h.client, .int .i64 h.req, u67, .int .u64 h.ts] := hk83; clear hk83
  have hz87 := hg85.size
  refine pl_nil ?_
  refine co_then ?_
  refine co_seq ?_
  refine co_seq ?_
  refine co_reg ?_
  refine pk0 (v := pt N11 3) h81 rfl fun a88 h88 => ?_; clear h81
  have hk89 := hk28.below hb32
  have hk90 := hk89.below hb69
  have hk91 := hk90.kept hg75 (by simp)
  have hk92 := hk91.kept hg85 (by simp; omega)
  refine pk (v := .int .u64 y.ts) h88 rfl (rn_load1 rfl rfl Try.isAgg45 (hk92.cell rfl)) fun a93 h93 => ?_; clear h88
  refine pk0 (v := .bool (y.ts != 0)) h93 rfl fun a94 h94 => ?_; clear h93
  refine pl_nil ?_
  refine co_then ?_
  have hB96 := hb_call hB38 hb69
  have hB97 := hb_new hB96 hg75
  have hB98 := hb_at hB97 hg85 (by omega)
  have hk99 := hk63.below hb69
  have hk100 := hk99.kept hg75 (by simp)
  have hk101 := hk100.kept hg85 (by simp; omega)
  have hk102 := hk21.below hb32
  have hk103 := hk102.below hb69
  have hk104 := hk103.kept hg75 (by simp)
  have hk105 := hk104.kept hg85 (by simp; omega)
  cases hc95 : (y.ts != 0)
  ·
   rw [hc95] at h94
   have hp106 : ¬ (y.ts ≠ 0) := by first | simpa using hc95 | simpa [and_assoc] using hc95
   clear hc95
   refine co_false h94 rfl ?_
   refine wp_skip ?_
   refine co_then ?_
   refine co_seq ?_
   refine co_reg ?_
   refine pk (v := .agg #[.int .i64 h.client, .int .i64 h.req, u67, .int .u64 h.ts]) h94 rfl (rn_loadN rfl rfl Try.underlying47 rfl (by kernel_rfl) hk83'.all) fun a107 h107 => ?_; clear h94
   have hr113 := row_kept_at hr86 hg85 (ha79)
   refine pwD h107 rfl (op_storeN rfl rfl rfl (all_cons rfl (all_cons rfl (all_cons (row_one hr113) (all_cons rfl all_nil)))) (by kernel_rfl) hk105 rfl) ?_; clear h107
   rintro _ w109 a108 ⟨hk110, hz111, hg112⟩ h108
   have hk110' : Blk w109 N19 47 #[.int .i64 h.client, .int .i64 h.req, u67, .int .u64 h.ts] := hk110; clear hk110
   have hz114 := hg112.size
   refine pl_nil ?_
   refine co_then ?_
   refine wp_ret ?_
   refine co_retC (Q := fun _ _ _ => True) h108 rfl rfl hk110' Try.underlying47 rfl (by kernel_rfl) ?_
   have hr115 := row_kept_at hr113 hg112 (row_ne_lt hr113 (by omega))
   have hB116 := hb_at hB98 hg112 (by omega)
   have hA : adE h y = _ := adE_keep (by omega) (by omega)
   exact ⟨_, by rw [hA], by rw [hA]; exact (row_lows hr115 (by omega)), hB116⟩
  ·
   rw [hc95] at h94
   have hp117 : y.ts ≠ 0 := by first | simpa using hc95 | simpa [and_assoc] using hc95
   clear hc95
   refine co_true h94 rfl ?_
   refine co_reg ?_
   refine pk0 (v := pt N11 3) h94 rfl fun a118 h118 => ?_; clear h94
   refine pk (v := .int .u64 y.ts) h118 rfl (rn_load1 rfl rfl Try.isAgg45 (hk92.cell rfl)) fun a119 h119 => ?_; clear h118
   refine pk0 (v := pt N74 3) h119 rfl fun a120 h120 => ?_; clear h119
   refine pwD h120 rfl (op_store1 rfl rfl rfl rfl Try.sizeOf45 hk83' rfl) ?_; clear h120
   rintro _ w122 a121 ⟨hk123, hz124, hg125⟩ h121
   have hk123' : Blk w122 N74 47 #[.int .i64 h.client, .int .i64 h.req, u67, .int .u64 y.ts] := hk123; clear hk123
   have hz126 := hg125.size
   refine pl_nil ?_
   refine co_then ?_
   refine co_seq ?_
   refine co_reg ?_
   refine pk (v := .agg #[.int .i64 h.client, .int .i64 h.req, u67, .int .u64 y.ts]) h121 rfl (rn_loadN rfl rfl Try.underlying47 rfl (by kernel_rfl) hk123'.all) fun a127 h127 => ?_; clear h121
   have hr133 := row_kept_at hr86 hg85 (ha79)
   have hr134 := row_kept_at hr133 hg125 (ha79)
   have hk135 := hk105.kept hg125 (by simp; omega)
   refine pwD h127 rfl (op_storeN rfl rfl rfl (all_cons rfl (all_cons rfl (all_cons (row_one hr134) (all_cons rfl all_nil)))) (by kernel_rfl) hk135 rfl) ?_; clear h127
   rintro _ w129 a128 ⟨hk130, hz131, hg132⟩ h128
   have hk130' : Blk w129 N19 47 #[.int .i64 h.client, .int .i64 h.req, u67, .int .u64 y.ts] := hk130; clear hk130
   have hz136 := hg132.size
   refine pl_nil ?_
   refine co_then ?_
   refine wp_ret ?_
   refine co_retC (Q := fun _ _ _ => True) h128 rfl rfl hk130' Try.underlying47 rfl (by kernel_rfl) ?_
   have hr137 := row_kept_at hr134 hg132 (row_ne_lt hr134 (by omega))
   have hB138 := hb_at hB98 hg125 (by omega)
   have hB139 := hb_at hB138 hg132 (by omega)
   have hA : adE h y = _ := adE_ts (by omega) (by omega)
   exact ⟨_, by rw [hA], by rw [hA]; exact (row_lows hr137 (by omega)), hB139⟩
set_option maxRecDepth 100000 in
set_option maxHeartbeats 1600000 in
theorem adoptLaid_any (v : Value) (l : List EntT) (w : World) (hs : SliceOf entE 4 w v l) (hok : ∀ z ∈ l, EntOk w z) (hl20 : ∀ z ∈ l, z.opl.length ≤ 20) (hRI : RI l) (hlen : l.length ≤ 100) :
    Calls Try.prog 92 #[v] w fun e w' => ∃ (N : Nat) (S' : Nat → Prop) (L2 : List EntT), e = .returned (pt N 0) ∧ TkO S' w' N L2 [] ∧ L2.map e0 = l.map e0 ∧ (∀ q, S' q → w.heap.size ≤ q) ∧ Below w.heap.size w w' := by
 have hB0 := Below.refl w.heap.size w
 have hl_hs := sl_len hs
 refine co_enter (n := 21) Try.func92 rfl rfl rfl [(0, v)] rfl (fun a h0 => ?_)
 refine co_seq ?_
 refine co_reg ?_
 refine pk0 (v := .pointer none) h0 rfl fun a1 h1 => ?_; clear h0
 refine pl_nil ?_
 refine co_then ?_
 refine co_seq ?_
 refine co_reg ?_
 refine pw h1 rfl (op_call (args := #[]) (R := fun res xw => ∃ N S, res = pt N 0 ∧ TkO S xw N [] [] ∧ (∀ q, S q → w.heap.size ≤ q) ∧ Below w.heap.size w xw) rfl rfl rfl (by kernel_rfl) (by kernel_rfl) (Try.call21 _ _) (kkNew w) (by rintro e x ⟨N, S, rfl, h⟩; exact ⟨_, rfl, N, S, rfl, h⟩)) ?_; clear h1
 rintro _ w3 a2 ⟨N4, S5, rfl, hO6, hlo7, hb8⟩ h2
 have hz9 := hb8.size
 have hlo10 : ∀ q, S5 q → w.heap.size ≤ q := fun q hq => by have := hlo7 q hq; omega
 refine pk0 (v := pt N4 0) h2 rfl fun a11 h11 => ?_; clear h2
 refine pl_nil ?_
 refine co_then ?_
 refine co_seq ?_
 refine co_seq ?_
 refine co_reg ?_
 refine pk0 (v := v) h11 rfl fun a12 h12 => ?_; clear h11
 have hB13 := hb_call hB0 hb8
 refine pk (v := .int .i64 ((l.length : Nat) : Int)) h12 rfl (rn_len rfl rfl Try.underlying39 (hs.below hB13)) fun a14 h14 => ?_; clear h12
 refine pk0 (v := .int .i64 0) h14 rfl fun a15 h15 => ?_; clear h14
 refine pl_nil ?_
 refine co_then ?_
 refine wp_block ?_
 have hll := hlo10
 have hle : ([] : List EntT).map e0 = (l.take 0).map e0 := rfl
 have h16 : Slots 21 [(3, pt N4 0), (7, v), (8, .int .i64 ((l.length : Nat) : Int)), (9, .int .i64 0)] _ := h15.sub ⟨rfl, rfl, rfl, rfl, trivial⟩; clear h15
 refine co_loop (fun mm a x => ∃ (k : Nat) (SL : Nat → Prop) (LL : List EntT), Slots 21 [(3, pt N4 0), (7, v), (8, .int .i64 ((l.length : Nat) : Int)), (9, .int .i64 ((k : Nat) : Int))] a ∧ mm = l.length - k ∧ (k ≤ l.length) ∧ (∀ q, SL q → w.heap.size ≤ q) ∧ (LL.map e0 = (l.take k).map e0) ∧ TkO SL x N4 LL [] ∧ Below w.heap.size w x) (l.length - 0) ?_ ?_
 · exact ⟨0, S5, [], h16.sub ⟨rfl, rfl, rfl, (slot_eq rfl (congrArg (Value.int .i64) (by first | rfl | omega))), trivial⟩, rfl, by omega, by exact hll, by exact hle, hO6, hB13⟩
 · rintro k17 a18 w19 ⟨k, SL, LL, h18, rfl, hi20, hi21, hi22, hf23, hB24⟩
   have hz25 := hB24.size
   have hlo26 : ∀ q, SL q → w.heap.size ≤ q := by assumption
   have hLe : LL.map e0 = (l.take k).map e0 := by assumption
   refine co_seq ?_
   refine co_reg ?_
   refine pk0 (v := .bool (decide (((k : Nat) : Int) < ((l.length : Nat) : Int)))) h18 rfl fun a27 h27 => ?_; clear h18
   refine pl_nil ?_
   refine co_then ?_
   refine co_seq ?_
   cases hc28 : (decide (((k : Nat) : Int) < ((l.length : Nat) : Int)))
   ·
    rw [hc28] at h27
    have hp29 : ¬ (((k : Nat) : Int) < ((l.length : Nat) : Int)) := of_decide_eq_false hc28
    clear hc28
    refine co_false h27 rfl ?_
    refine wp_exit ?_
    refine co_thenX ?_
    refine co_thenX ?_
    refine co_blockX ?_
    refine co_then ?_
    refine co_seq ?_
    refine co_reg ?_
    refine pk0 (v := pt N4 0) h27 rfl fun a30 h30 => ?_; clear h27
    refine pk0 (v := pt N4 0) h30 rfl fun a31 h31 => ?_; clear h30
    refine pl_nil ?_
    refine co_then ?_
    refine wp_ret ?_
    refine co_ret1 h31 rfl rfl ?_
    have hLf : LL.map e0 = l.map e0 := by have hq := hLe; rwa [List.take_of_length_le (by omega)] at hq
    exact ⟨_, _, _, rfl, hf23, hLf, hlo26, hB24⟩
   ·
    rw [hc28] at h27
    have hp32 : ((k : Nat) : Int) < ((l.length : Nat) : Int) := of_decide_eq_true hc28
    clear hc28
    refine co_true h27 rfl ?_
    refine wp_skip ?_
    refine co_then ?_
    refine co_seq ?_
    refine wp_block ?_
    refine co_seq ?_
    refine co_reg ?_
    refine pk0 (v := .int .i64 ((k : Nat) : Int)) h27 rfl fun a33 h33 => ?_; clear h27
    obtain ⟨y34, hy34⟩ : ∃ z, l[k]? = some z := ⟨_, List.getElem?_eq_getElem (by first | omega | (simp; done) | (simp; omega))⟩
    have oky34 := hok _ (List.mem_of_getElem? hy34)
    have k35 : 0 ≤ y34.ts := oky34.ts0
    have k36 : y34.ts < 18446744073709551616 := oky34.ts1
    have h20y34 := hl20 y34 (List.mem_of_getElem? hy34)
    refine pk (v := pt (blkOf v) (offOf v + k * 4)) h33 rfl (rn_index rfl rfl rfl Try.underlying39 Try.sizeOf47 (hs.below hB24) (by omega) (by first | omega | (simp; done) | (simp; omega))) fun a37 h37 => ?_; clear h33
    refine pk (v := .agg #[.int .i64 y34.client, .int .i64 y34.req, y34.ops, .int .u64 y34.ts]) h37 rfl (rn_loadN rfl rfl Try.underlying47 rfl (by kernel_rfl) (sl_at (hs.below hB24) hy34)) fun a38 h38 => ?_; clear h37
    refine pw h38 rfl (op_new (v := fun N => pt N 0) (T := 47) (cs := #[.int .i64 0, .int .i64 0, .slice none 0 0, .int .u64 0]) (by kernel_rfl) (by kernel_rfl) (by kernel_rfl)) ?_; clear h38
    rintro _ w40 a39 ⟨N41, rfl, hN44, hz45, hk43, hg42⟩ h39
    have hz46 := hg42.size
    have ho47 := off_new (TkO.ofS hf23) hN44
    try dsimp only at h39
    refine pk0 (v := .int .i64 ((k : Nat) : Int)) h39 rfl fun a48 h48 => ?_; clear h39
    have hB54 := hb_new hB24 hg42
    refine pwD h48 rfl (op_storeN rfl rfl rfl (all_cons rfl (all_cons rfl (all_cons (sl_one (oky34.ops.below hB54)) (all_cons rfl all_nil)))) (by kernel_rfl) hk43 rfl) ?_; clear h48
    rintro _ w50 a49 ⟨hk51, hz52, hg53⟩ h49
    have hk51' : Blk w50 N41 47 #[.int .i64 y34.client, .int .i64 y34.req, y34.ops, .int .u64 y34.ts] := hk51; clear hk51
    have hz55 := hg53.size
    refine pl_nil ?_
    refine co_then ?_
    refine co_seq ?_
    refine co_reg ?_
    refine pk0 (v := pt N4 0) h49 rfl fun a56 h56 => ?_; clear h49
    refine pk0 (v := .int .i64 ((k : Nat) : Int)) h56 rfl fun a57 h57 => ?_; clear h56
    refine pk (v := .agg #[.int .i64 y34.client, .int .i64 y34.req, y34.ops, .int .u64 y34.ts]) h57 rfl (rn_loadN rfl rfl Try.underlying47 rfl (by kernel_rfl) hk51'.all) fun a58 h58 => ?_; clear h57
    have hO62 := TkO.gr hf23 hg42 (fun k e => by cases e)
    have hO63 := TkO.gr hO62 hg53 (fun k e => by cases e; exact ho47)
    have ho61 := TkO.ofS hO63
    have hly := lay_ok hRI hlen hy34 hLe
    have hB64 := hb_at hB54 hg53 (by omega)
    refine pw h58 rfl (op_call (args := #[pt N4 0, .int .i64 ((k : Nat) : Int), .agg #[.int .i64 y34.client, .int .i64 y34.req, y34.ops, .int .u64 y34.ts]]) (R := fun res xw => ∃ L' : List EntT, ∃ S' : Nat → Prop, res = .int .i64 0 ∧ TkO S' xw N4 L' ([]) ∧ (SetR LL ((k : Nat) : Int) y34.client y34.req y34.opl y34.ts L') ∧ Grew SL S' w50 xw) rfl rfl rfl (by kernel_rfl) (by kernel_rfl) (Try.call39 _ _) (kkSet w50 ((k : Nat) : Int) y34.client y34.req (y34.ops) y34.opl y34.ts hO63 (oky34.ops.below hB64) (sl_off oky34.ops (opE_ne _) hlo26) (by omega) ⟨oky34.ts0, oky34.ts1⟩ ⟨oky34.each, oky34.cl, oky34.rq⟩) (by rintro e x ⟨L', S', h0, h⟩; rw [hly.1] at h0; exact ⟨_, h0, L', S', rfl, h⟩)) ?_; clear h58
    rintro _ w60 a59 ⟨L'65, S66, rfl, hO67, hq69, hx68⟩ h59
    have hlo71 : ∀ q, S66 q → w.heap.size ≤ q := hx68.lo hlo26 (by omega)
    have hB70 := hbL hB64 hlo26 hx68.but
    have hz72 := hB70.size
    have hz73 := hx68.but.size
    refine pk0 (v := .bool ((0 : Int) != 0)) h59 rfl fun a74 h74 => ?_; clear h59
    refine pl_nil ?_
    refine co_then ?_
    have hc75 : ((0 : Int) != 0) = false := by first | (simp; done) | (simp; omega) | exact beq_false_of_ne (by omega) | exact beq_iff_eq.2 (by omega)
    rw [hc75] at h74; clear hc75
    refine co_false h74 rfl ?_
    refine wp_skip ?_
    refine co_blockN ?_
    refine co_then ?_
    refine co_reg ?_
    refine pk (v := .int .i64 ((k + 1 : Nat) : Int)) h74 rfl (rn_arith' rfl rfl rfl rfl rfl rfl (IntWalk.i64_in _ (by omega)) (by omega)) fun a76 h76 => ?_; clear h74
    refine pk0 (v := .int .i64 ((k + 1 : Nat) : Int)) h76 rfl fun a77 h77 => ?_; clear h76
    refine pl_nil ?_
    refine co_then ?_
    refine ⟨(l.length - (k + 1)), by omega, ?_⟩
    have hll := hlo71
    have hle := hly.2 _ hq69
    exact ⟨k + 1, S66, L'65, h77.sub ⟨rfl, rfl, rfl, rfl, trivial⟩, rfl, by omega, by exact hll, by exact hle, hO67, hB70⟩
end Go.Proofs.Ythmnndbpadegnaa
