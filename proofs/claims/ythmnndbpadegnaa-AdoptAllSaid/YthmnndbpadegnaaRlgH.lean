/- The document's log: Copy, Stamp. Conditions: at most 100 entries, 20 operations each. -/
import Derived.Test.YthmnndbpadegnaaRlgE
namespace Go.Proofs.Ythmnndbpadegnaa
open Go.RowKit Go.PlainAid
set_option linter.unusedVariables false


/-- The document's log. -/
structure RgP (S : Nat → Prop) (n : Nat) (w : World) (b : Nat) (u : Value) (L : List EntT) : Prop where
  blk : Blk w b 41 #[u]
  row : w.ownsRow 0 47 4 u L.length (L.flatMap entE)
  ents : EntsK S n w L
  sb : S b ∨ n ≤ b
  su : InS S n u
  len : L.length ≤ 100
theorem EntsK.low {S : Nat → Prop} {n m : Nat} {w : World} {L : List EntT} (h : EntsK (fun _ => False) m w L) (hn : n ≤ m) : EntsK S n w L := fun e he =>
  ⟨(h e he).row, fun i hi => by rcases (h e he).ins i hi with q | q; exact absurd q id; exact .inr (by omega), (h e he).len, (h e he).each, (h e he).ts0, (h e he).ts1, (h e he).cl, (h e he).rq⟩
theorem e0_len {A B : List EntT} (h : A.map e0 = B.map e0) : A.length = B.length := by have := congrArg List.length h; simpa using this
theorem e0_at {A B : List EntT} {i : Nat} {y : EntT} (h : A.map e0 = B.map e0) (hy : A[i]? = some y) : ∃ z, B[i]? = some z ∧ e0 z = e0 y := by
  have := congrArg (·[i]?) h
  simp only [List.getElem?_map, hy, Option.map_some] at this
  rw [eq_comm, Option.map_eq_some_iff] at this
  exact this
theorem e0_f {α : Type} {f : EntT → α} (hf : ∀ e, f (e0 e) = f e) {A B : List EntT} (h : A.map e0 = B.map e0) : A.map f = B.map f := by
  have := congrArg (List.map f) h
  simp only [List.map_map] at this
  rwa [show f ∘ e0 = f from funext hf] at this
theorem e0_ts {y z : EntT} (h : e0 z = e0 y) : z.ts = y.ts ∧ z.client = y.client ∧ z.req = y.req ∧ z.opl = y.opl := by
  unfold e0 at h
  simp only [EntT.mk.injEq] at h
  exact ⟨h.2.2.2.2, h.1, h.2.1, h.2.2.2.1⟩
theorem e0_with {y z : EntT} {t : Int} (h : e0 z = e0 y) : e0 { z with ts := t } = e0 { y with ts := t } := by
  obtain ⟨_, h1, h2, h3⟩ := e0_ts h
  unfold e0; simp only [h1, h2, h3]
theorem e0_set {A B : List EntT} {i : Nat} {y z : EntT} (h : A.map e0 = B.map e0) (e : e0 y = e0 z) : (A.set i y).map e0 = (B.set i z).map e0 := by rw [List.map_set, List.map_set, h, e]
theorem e0_take {A B : List EntT} (h : A.map e0 = B.map e0) (i : Nat) : (A.take i).map e0 = (B.take i).map e0 := by rw [List.map_take, List.map_take, h]
theorem stL_e0 {X M : List EntT} {i ts : Int} {y : EntT} (hE : stE X i ts = 0) (h : M.map e0 = X.map e0) (hy : M[i.toNat]? = some y) : (M.set i.toNat { y with ts := ts }).map e0 = (stL X i ts).map e0 := by
  obtain ⟨z, hz, he⟩ := e0_at h hy
  rw [stL_ok hE hz]
  exact e0_set h (e0_with he.symm)

set_option maxRecDepth 100000 in
theorem rcopy17_any (v : Value) (l : List EntT) (w : World) (hs : SliceOf entE 4 w v l) (hok : ∀ z ∈ l, EntOk w z) (hl20 : ∀ z ∈ l, z.opl.length ≤ 20) (hlen : l.length ≤ 100) :
    Calls Try.prog 52 #[v] w fun e w' => ∃ (L2 : List EntT) (u : Value), e = .returned (u) ∧ w'.ownsRow w.heap.size 47 4 u L2.length (L2.flatMap entE) ∧ EntsK (fun _ => False) w.heap.size w' L2 ∧ L2.map e0 = l.map e0 ∧ Below w.heap.size w w' := by
 have hB0 := Below.refl w.heap.size w
 have hl_hs := sl_len hs
 refine co_enter (n := 31) Try.func52 rfl rfl rfl [(0, v)] rfl (fun a h0 => ?_)
 refine co_seq ?_
 refine co_reg ?_
 refine pk0 (v := .slice none 0 0) h0 rfl fun a1 h1 => ?_; clear h0
 refine pl_nil ?_
 refine co_then ?_
 refine co_seq ?_
 refine co_reg ?_
 refine pk0 (v := .slice none 0 0) h1 rfl fun a2 h2 => ?_; clear h1
 refine pl_nil ?_
 refine co_then ?_
 refine co_seq ?_
 refine co_seq ?_
 refine co_reg ?_
 refine pk0 (v := .int .i64 0) h2 rfl fun a3 h3 => ?_; clear h2
 refine pl_nil ?_
 refine co_then ?_
 refine wp_block ?_
 have h4 : Slots 31 [(0, v), (3, .slice none 0 0), (4, .int .i64 0)] _ := h3.sub ⟨rfl, rfl, rfl, trivial⟩; clear h3
 refine co_loop (fun mm a x => ∃ (k : Nat) (u1 : Value) (Lk : List EntT), Slots 31 [(0, v), (3, u1), (4, .int .i64 ((k : Nat) : Int))] a ∧ mm = l.length - k ∧ (k ≤ l.length) ∧ (Lk.map e0 = (l.take k).map e0) ∧ x.ownsRow w.heap.size 47 4 u1 Lk.length (Lk.flatMap entE) ∧ EntsK (fun _ => False) w.heap.size x Lk ∧ Below w.heap.size w x) (l.length - 0) ?_ ?_
 · exact ⟨0, (.slice none 0 0), [], h4.sub ⟨rfl, rfl, (slot_eq rfl (congrArg (Value.int .i64) (by first | rfl | omega))), trivial⟩, rfl, by omega, by first | rfl | exact he0, (row_nilL _ _ _ _ _), (fun e he => by cases he), hB0⟩
 · rintro k5 a6 w7 ⟨k, u1, Lk, h6, rfl, hi8, hi9, hf10, hf11, hB12⟩
   have hz13 := hB12.size
   have hLkl : Lk.length = k := by have hq := congrArg List.length (by assumption : Lk.map e0 = (l.take k).map e0); rw [List.length_map, List.length_map, List.length_take] at hq; omega
   refine co_seq ?_
   refine co_seq ?_
   refine co_reg ?_
   refine pk0 (v := .int .i64 ((k : Nat) : Int)) h6 rfl fun a14 h14 => ?_; clear h6
   refine pk0 (v := v) h14 rfl fun a15 h15 => ?_; clear h14
   refine pk (v := .int .i64 ((l.length : Nat) : Int)) h15 rfl (rn_len rfl rfl Try.underlying39 (hs.below hB12)) fun a16 h16 => ?_; clear h15
   refine pk0 (v := .bool (decide (((k : Nat) : Int) < ((l.length : Nat) : Int)))) h16 rfl fun a17 h17 => ?_; clear h16
   refine pl_nil ?_
   refine co_then ?_
   cases hc18 : (decide (((k : Nat) : Int) < ((l.length : Nat) : Int)))
   ·
    rw [hc18] at h17
    have hp19 : ¬ (((k : Nat) : Int) < ((l.length : Nat) : Int)) := of_decide_eq_false hc18
    clear hc18
    refine co_false h17 rfl ?_
    refine wp_exit ?_
    refine co_thenX ?_
    refine co_thenX ?_
    refine co_blockX ?_
    refine co_then ?_
    refine co_seq ?_
    refine co_reg ?_
    refine pk0 (v := u1) h17 rfl fun a20 h20 => ?_; clear h17
    refine pk0 (v := u1) h20 rfl fun a21 h21 => ?_; clear h20
    refine pl_nil ?_
    refine co_then ?_
    refine wp_ret ?_
    refine co_ret1 h21 rfl rfl ?_
    exact ⟨_, _, rfl, (row_lows hf10 (by omega)), hf11, by have hq := (by assumption : Lk.map e0 = (l.take k).map e0); rwa [List.take_of_length_le (by omega)] at hq, hB12⟩
   ·
    rw [hc18] at h17
    have hp22 : ((k : Nat) : Int) < ((l.length : Nat) : Int) := of_decide_eq_true hc18
    clear hc18
    refine co_true h17 rfl ?_
    refine wp_skip ?_
    refine co_then ?_
    refine co_seq ?_
    refine wp_block ?_
    refine co_seq ?_
    refine co_reg ?_
    refine pk0 (v := v) h17 rfl fun a23 h23 => ?_; clear h17
    refine pk0 (v := .int .i64 ((k : Nat) : Int)) h23 rfl fun a24 h24 => ?_; clear h23
    obtain ⟨y25, hy25⟩ : ∃ z, l[k]? = some z := ⟨_, List.getElem?_eq_getElem (by first | omega | (simp; done) | (simp; omega))⟩
    have oky25 := hok _ (List.mem_of_getElem? hy25)
    have k26 : 0 ≤ y25.ts := oky25.ts0
    have k27 : y25.ts < 18446744073709551616 := oky25.ts1
    have h20y25 := hl20 y25 (List.mem_of_getElem? hy25)
    refine pk (v := pt (blkOf v) (offOf v + k * 4)) h24 rfl (rn_index rfl rfl rfl Try.underlying39 Try.sizeOf47 (hs.below hB12) (by omega) (by first | omega | (simp; done) | (simp; omega))) fun a28 h28 => ?_; clear h24
    refine pk (v := .agg #[.int .i64 y25.client, .int .i64 y25.req, y25.ops, .int .u64 y25.ts]) h28 rfl (rn_loadN rfl rfl Try.underlying47 rfl (by kernel_rfl) (sl_at (hs.below hB12) hy25)) fun a29 h29 => ?_; clear h28
    refine pw h29 rfl (op_new (v := fun N => pt N 0) (T := 47) (cs := #[.int .i64 0, .int .i64 0, .slice none 0 0, .int .u64 0]) (by kernel_rfl) (by kernel_rfl) (by kernel_rfl)) ?_; clear h29
    rintro _ w31 a30 ⟨N32, rfl, hN35, hz36, hk34, hg33⟩ h30
    have ha37 := row_fresh hf10 hN35
    have hz38 := hg33.size
    try dsimp only at h30
    have hB44 := hb_new hB12 hg33
    refine pwD h30 rfl (op_storeN rfl rfl rfl (all_cons rfl (all_cons rfl (all_cons (sl_one (oky25.ops.below hB44)) (all_cons rfl all_nil)))) (by kernel_rfl) hk34 rfl) ?_; clear h30
    rintro _ w40 a39 ⟨hk41, hz42, hg43⟩ h39
    have hk41' : Blk w40 N32 47 #[.int .i64 y25.client, .int .i64 y25.req, y25.ops, .int .u64 y25.ts] := hk41; clear hk41
    have hz45 := hg43.size
    refine pl_nil ?_
    refine co_then ?_
    refine co_seq ?_
    refine co_reg ?_
    refine pw h39 rfl (op_new (v := fun N => .slice (some ⟨N, 0, none⟩) 0 0) (T := 127) (cs := #[]) (by kernel_rfl) (by kernel_rfl) (by kernel_rfl)) ?_; clear h39
    rintro _ w47 a46 ⟨N48, rfl, hN51, hz52, hk50, hg49⟩ h46
    have hr54 := row_kept_new hf10 hg33
    have hr55 := row_kept_at hr54 hg43 (ha37)
    have ha53 := row_fresh hr55 hN51
    have hz56 := hg49.size
    have hE58 := hf11.new hg33
    have hE59 := hE58.blk hk34 (by decide) hg43
    have hu57 := EntsK.under hE59 hN51
    try dsimp only at h46
    refine pk0 (v := v) h46 rfl fun a60 h60 => ?_; clear h46
    refine pk0 (v := .int .i64 ((k : Nat) : Int)) h60 rfl fun a61 h61 => ?_; clear h60
    have hB62 := hb_at hB44 hg43 (by omega)
    have hB63 := hb_new hB62 hg49
    refine pk (v := pt (blkOf v) (offOf v + k * 4)) h61 rfl (rn_index rfl rfl rfl Try.underlying39 Try.sizeOf47 (hs.below hB63) (by omega) (by first | omega | (simp; done) | (simp; omega))) fun a64 h64 => ?_; clear h61
    refine pk0 (v := pt (blkOf v) (offOf v + k * 4)) h64 rfl fun a65 h65 => ?_; clear h64
    refine pk0 (v := pt (blkOf v) (offOf v + k * 4 + 2)) h65 rfl fun a66 h66 => ?_; clear h65
    refine pk (v := y25.ops) h66 rfl (rn_load1 rfl rfl Try.isAgg42 ((sl_at (hs.below hB63) hy25) 2 _ rfl)) fun a67 h67 => ?_; clear h66
    have hr70 := row_of_blkL hk50 (Nat.le_refl _) 3 opE
    refine pw h67 rfl (op_appendSrc rfl N48 127 (z := .agg #[.string (⟨#[]⟩), .string (⟨#[]⟩), .bool false]) (size := 3) (bytes := 40) Try.underlying42 (by kernel_rfl) rfl rfl rfl hr70 rfl (oky25.ops.below hB63) (fun y hy => ⟨opE_len y, opE_one y⟩) (by first | omega | (simp only [List.length_nil, List.length_append, List.length_cons, List.length_take, List.length_drop]; omega)) (by first | omega | (simp only [List.length_nil, List.length_append, List.length_cons, List.length_take, List.length_drop]; omega)) (by omega)) ?_; clear h67
    rintro v71 w69 a68 ⟨hr72, hg73⟩ h68
    have hr72' : w69.ownsRow N48 127 3 v71 y25.opl.length (y25.opl.flatMap opE) := row_app (l := []) hr72; clear hr72
    have hz75 := hg73.size
    refine pk0 (v := pt N32 0) h68 rfl fun a76 h76 => ?_; clear h68
    refine pk0 (v := pt N32 2) h76 rfl fun a77 h77 => ?_; clear h76
    have hk83 := hk41'.kept hg49 (by simp)
    have hk84 := hk83.kept hg73 (row_ne_lt hr70 (by omega))
    refine pwD h77 rfl (op_store1 rfl rfl rfl (row_one hr72') Try.sizeOf42 hk84 rfl) ?_; clear h77
    rintro _ w79 a78 ⟨hk80, hz81, hg82⟩ h78
    have hk80' : Blk w79 N32 47 #[.int .i64 y25.client, .int .i64 y25.req, v71, .int .u64 y25.ts] := hk80; clear hk80
    have hz85 := hg82.size
    refine pl_nil ?_
    refine co_then ?_
    refine co_reg ?_
    refine pk0 (v := u1) h78 rfl fun a86 h86 => ?_; clear h78
    refine pk (v := .agg #[.int .i64 y25.client, .int .i64 y25.req, v71, .int .u64 y25.ts]) h86 rfl (rn_loadN rfl rfl Try.underlying47 rfl (by kernel_rfl) hk80'.all) fun a87 h87 => ?_; clear h86
    refine pw h87 rfl (op_new (v := fun N => .slice (some ⟨N, 0, none⟩) 1 1) (T := 47) (cs := #[.int .i64 y25.client, .int .i64 y25.req, v71, .int .u64 y25.ts]) (by kernel_rfl) (by kernel_rfl) (by kernel_rfl)) ?_; clear h87
    rintro _ w89 a88 ⟨N90, rfl, hN93, hz94, hk92, hg91⟩ h88
    have hr96 := row_kept_new hr55 hg49
    have hr97 := row_kept_row hr96 hr70 hg73 (by decide)
    have hr98 := row_kept_at hr97 hg82 (ha37)
    have ha95 := row_fresh hr98 hN93
    have hr100 := row_kept_at hr72' hg82 (row_ne_lt hr72' (by omega))
    have ha99 := row_fresh hr100 hN93
    have hz101 := hg91.size
    try dsimp only at h88
    have hr108 := row_kept_new hr98 hg91
    have hr109 := row_kept_new hr100 hg91
    refine pw h88 rfl (op_append rfl w.heap.size 47 (z := .agg #[.int .i64 0, .int .i64 0, .slice none 0 0, .int .u64 0]) (size := 4) (bytes := 48) Try.underlying39 (by kernel_rfl) rfl rfl rfl hr108 rfl hk92 rfl (all_cons rfl (all_cons rfl (all_cons (row_one hr109) (all_cons rfl all_nil)))) (by first | omega | (simp only [List.length_nil, List.length_append, List.length_cons, List.length_take, List.length_drop]; omega)) (by first | omega | (simp only [List.length_nil, List.length_append, List.length_cons, List.length_take, List.length_drop]; omega)) (by omega)) ?_; clear h88
    rintro v104 w103 a102 ⟨hr105, hg106⟩ h102
    have hr105' : w103.ownsRow w.heap.size 47 4 v104 ((Lk ++ [(EntT.mk y25.client y25.req v71 y25.opl y25.ts)]).length) ((Lk ++ [(EntT.mk y25.client y25.req v71 y25.opl y25.ts)]).flatMap entE) := row_push (y := (EntT.mk y25.client y25.req v71 y25.opl y25.ts)) hr105 rfl rfl; clear hr105
    have hz110 := hg106.size
    refine pk0 (v := v104) h102 rfl fun a111 h111 => ?_; clear h102
    refine pl_nil ?_
    refine co_blockN ?_
    refine co_then ?_
    refine co_reg ?_
    refine pk0 (v := .int .i64 ((k : Nat) : Int)) h111 rfl fun a112 h112 => ?_; clear h111
    refine pk (v := .int .i64 ((k + 1 : Nat) : Int)) h112 rfl (rn_arith' rfl rfl rfl rfl rfl rfl (IntWalk.i64_in _ (by omega)) (by omega)) fun a113 h113 => ?_; clear h112
    refine pk0 (v := .int .i64 ((k + 1 : Nat) : Int)) h113 rfl fun a114 h114 => ?_; clear h113
    refine pl_nil ?_
    refine co_then ?_
    refine ⟨(l.length - (k + 1)), by omega, ?_⟩
    have he0 := e0_snoc (by assumption : Lk.map e0 = _) hy25 (z := (EntT.mk y25.client y25.req v71 y25.opl y25.ts)) rfl
    have hE115 := hE59.new hg49
    have hE116 := hE115.rowU hu57 hr70 hg73
    have hE117 := hE116.blk hk84 (by decide) hg82
    have hE118 := hE117.new hg91
    have hE119 := hE118.row hr108 (by decide) hg106
    have hr120 := row_kept_row hr109 hr108 hg106 (by decide)
    have hB121 := hb_row hB63 hr70 (by omega) hg73
    have hB122 := hb_at hB121 hg82 (by omega)
    have hB123 := hb_new hB122 hg91
    have hB124 := hb_row hB123 hr108 (by omega) hg106
    exact ⟨k + 1, v104, (Lk ++ [(EntT.mk y25.client y25.req v71 y25.opl y25.ts)]), h114.sub ⟨rfl, rfl, rfl, trivial⟩, rfl, by omega, by first | rfl | exact he0, (row_eq hr105' (rfl)), (EntsK.snoc hE119 (e := EntT.mk y25.client y25.req v71 y25.opl y25.ts) ⟨row_lows hr120 (Nat.zero_le _), InS.low hr120 (by omega), by omega, oky25.each, oky25.ts0, oky25.ts1, oky25.cl, oky25.rq⟩), hB124⟩
set_option maxRecDepth 100000 in
theorem rStamp17_any (w0 : World) (S : Nat → Prop) (b : Nat) (u : Value) (X : List EntT) (i : Int) (ts : Int) (w : World) (hbw : But S w0 w) (hO : RgP S w0.heap.size w b u X) (hts : 0 ≤ ts ∧ ts < 18446744073709551616) :
    Calls Try.prog 54 #[pt b 0, .int .i64 i, .int .u64 ts] w fun e w' => ∃ (u' : Value) (X' : List EntT), e = .returned (.int .i64 (stE X i ts)) ∧ RgP S w0.heap.size w' b u' X' ∧ X'.map e0 = (stL X i ts).map e0 ∧ But (S) w0 w' := by
 have hst := stN_le X
 have hB0 := hbw
 have hz0 := hbw.size
 have hz0 := hbw.size
 have hl1 := hO.blk.lt; have hln2 := hO.len
 refine co_enter (n := 51) Try.func54 rfl rfl rfl [(0, pt b 0), (1, .int .i64 i), (2, .int .u64 ts)] rfl (fun a h0 => ?_)
 refine co_seq ?_
 refine co_reg ?_
 refine pk0 (v := .int .i64 0) h0 rfl fun a3 h3 => ?_; clear h0
 refine pl_nil ?_
 refine co_then ?_
 refine co_seq ?_
 refine co_seq ?_
 refine co_reg ?_
 refine pk0 (v := .int .i64 i) h3 rfl fun a4 h4 => ?_; clear h3
 refine pk0 (v := .bool (decide (i < 0))) h4 rfl fun a5 h5 => ?_; clear h4
 refine pk0 (v := .bool (decide (i < 0))) h5 rfl fun a6 h6 => ?_; clear h5
 cases hc7 : (decide (i < 0))
 ·
  rw [hc7] at h6
  have hp8 : ¬ (i < 0) := of_decide_eq_false hc7
  clear hc7
  refine pk0 (v := .int .i64 i) h6 rfl fun a9 h9 => ?_; clear h6
  refine pk0 (v := pt b 0) h9 rfl fun a10 h10 => ?_; clear h9
  refine pk0 (v := pt b 0) h10 rfl fun a11 h11 => ?_; clear h10
  refine pk0 (v := pt b 0) h11 rfl fun a12 h12 => ?_; clear h11
  refine pk (v := u) h12 rfl (rn_load1 rfl rfl Try.isAgg39 (hO.blk.cell rfl)) fun a13 h13 => ?_; clear h12
  refine pk (v := .int .i64 ((X.length : Nat) : Int)) h13 rfl (rn_lenOwn rfl rfl Try.underlying39 hO.row) fun a14 h14 => ?_; clear h13
  refine pk0 (v := .bool (decide (i ≥ ((X.length : Nat) : Int)))) h14 rfl fun a15 h15 => ?_; clear h14
  refine pk0 (v := .bool (decide (i ≥ ((X.length : Nat) : Int)))) h15 rfl fun a16 h16 => ?_; clear h15
  refine pl_nil ?_
  refine co_then ?_
  cases hc17 : (decide (i ≥ ((X.length : Nat) : Int)))
  ·
   rw [hc17] at h16
   have hp18 : ¬ (i ≥ ((X.length : Nat) : Int)) := of_decide_eq_false hc17
   clear hc17
   refine co_false h16 rfl ?_
   refine wp_skip ?_
   refine co_then ?_
   refine co_seq ?_
   refine co_seq ?_
   refine co_reg ?_
   refine pk0 (v := .int .u64 ts) h16 rfl fun a19 h19 => ?_; clear h16
   refine pk0 (v := .bool (ts == 0)) h19 rfl fun a20 h20 => ?_; clear h19
   refine pl_nil ?_
   refine co_then ?_
   cases hc21 : (ts == 0)
   ·
    rw [hc21] at h20
    have hp22 : ¬ (ts = 0) := by first | simpa using hc21 | simpa [and_assoc] using hc21
    clear hc21
    refine co_false h20 rfl ?_
    refine wp_skip ?_
    refine co_then ?_
    refine co_seq ?_
    refine co_seq ?_
    refine co_reg ?_
    refine pk0 (v := .int .i64 i) h20 rfl fun a23 h23 => ?_; clear h20
    refine pk0 (v := pt b 0) h23 rfl fun a24 h24 => ?_; clear h23
    refine pk0 (v := pt b 0) h24 rfl fun a25 h25 => ?_; clear h24
    refine pk0 (v := pt b 0) h25 rfl fun a26 h26 => ?_; clear h25
    refine pk (v := u) h26 rfl (rn_load1 rfl rfl Try.isAgg39 (hO.blk.cell rfl)) fun a27 h27 => ?_; clear h26
    refine pw h27 rfl (op_call (args := #[u]) (R := fun res xw => res = .int .i64 ((stN X : Nat) : Int) ∧ Below w.heap.size w xw) rfl rfl rfl (by kernel_rfl) (by kernel_rfl) (Try.call27 _ _) (ritemStamped_any u X w (row_sl hO.row entE_len) (entsK_got hO.ents)) (by rintro e x ⟨rfl, hb30⟩; exact ⟨_, rfl, ⟨rfl, hb30⟩⟩)) ?_; clear h27
    rintro _ w29 a28 ⟨rfl, hb30⟩ h28
    have hz31 := hb30.size
    refine pk0 (v := .bool (i != ((stN X : Nat) : Int))) h28 rfl fun a32 h32 => ?_; clear h28
    refine pk0 (v := .bool (i != ((stN X : Nat) : Int))) h32 rfl fun a33 h33 => ?_; clear h32
    have hB35 := fbU_call hB0 hb30
    cases hc34 : (i != ((stN X : Nat) : Int))
    ·
     rw [hc34] at h33
     have hp36 : ¬ (i ≠ ((stN X : Nat) : Int)) := by first | simpa using hc34 | simpa [and_assoc] using hc34
     clear hc34
     refine pk0 (v := .int .u64 ts) h33 rfl fun a37 h37 => ?_; clear h33
     refine pk0 (v := pt b 0) h37 rfl fun a38 h38 => ?_; clear h37
     refine pk0 (v := pt b 0) h38 rfl fun a39 h39 => ?_; clear h38
     refine pk0 (v := pt b 0) h39 rfl fun a40 h40 => ?_; clear h39
     have hk41 := hO.blk.below hb30
     refine pk (v := u) h40 rfl (rn_load1 rfl rfl Try.isAgg39 (hk41.cell rfl)) fun a42 h42 => ?_; clear h40
     have hE45 := hO.ents.new (below_grown hb30)
     have hr46 := row_kept_new hO.row (below_grown hb30)
     refine pw h42 rfl (op_call (args := #[u]) (R := fun res xw => res = .int .u64 (lastT X) ∧ Below w29.heap.size w29 xw) rfl rfl rfl (by kernel_rfl) (by kernel_rfl) (Try.call55 _ _) (ritemLast_any u X w29 (row_sl hr46 entE_len) (entsK_got hE45)) (by rintro e x ⟨rfl, hb47⟩; exact ⟨_, rfl, ⟨rfl, hb47⟩⟩)) ?_; clear h42
     rintro _ w44 a43 ⟨rfl, hb47⟩ h43
     have hz48 := hb47.size
     refine pk0 (v := .bool (decide (ts ≤ lastT X))) h43 rfl fun a49 h49 => ?_; clear h43
     refine pk0 (v := .bool (decide (ts ≤ lastT X))) h49 rfl fun a50 h50 => ?_; clear h49
     refine pl_nil ?_
     refine co_then ?_
     have hB52 := fbU_call hB35 hb47
     cases hc51 : (decide (ts ≤ lastT X))
     ·
      rw [hc51] at h50
      have hp53 : ¬ (ts ≤ lastT X) := of_decide_eq_false hc51
      clear hc51
      refine co_false h50 rfl ?_
      refine wp_skip ?_
      refine co_then ?_
      refine co_seq ?_
      refine co_reg ?_
      refine pk0 (v := pt b 0) h50 rfl fun a54 h54 => ?_; clear h50
      refine pk0 (v := pt b 0) h54 rfl fun a55 h55 => ?_; clear h54
      refine pk0 (v := pt b 0) h55 rfl fun a56 h56 => ?_; clear h55
      have hk57 := hk41.below hb47
      refine pk (v := u) h56 rfl (rn_load1 rfl rfl Try.isAgg39 (hk57.cell rfl)) fun a58 h58 => ?_; clear h56
      have hE61 := hE45.new (below_grown hb47)
      have hr62 := row_kept_new hr46 (below_grown hb47)
      refine pw h58 rfl (op_call (args := #[u]) (R := fun res xw => ∃ L2 : List EntT, ∃ u : Value, res = u ∧ xw.ownsRow w44.heap.size 47 4 u L2.length (L2.flatMap entE) ∧ EntsK (fun _ => False) w44.heap.size xw L2 ∧ L2.map e0 = X.map e0 ∧ Below w44.heap.size w44 xw) rfl rfl rfl (by kernel_rfl) (by kernel_rfl) (Try.call52 _ _) (rcopy17_any u X w44 (row_sl hr62 entE_len) (entsK_got hE61) (fun z hz => (hE61 z hz).len) hO.len) (by rintro e x ⟨L2, u, rfl, hq65, hq66, hq67, hb68⟩; exact ⟨_, rfl, ⟨L2, u, rfl, hq65, hq66, hq67, hb68⟩⟩)) ?_; clear h58
      rintro u64 w60 a59 ⟨L263, _, rfl, hq65, hq66, hq67, hb68⟩ h59
      have hu69 := row_under hr62 (rfl : w44.heap.size = _)
      have hz70 := hb68.size
      have hl71 := sl_len (row_sl hq65 entE_len)
      have hE72 : EntsK S w0.heap.size w60 L263 := EntsK.low hq66 (by omega)
      have hl73 := e0_len hq67
      refine pk0 (v := u64) h59 rfl fun a74 h74 => ?_; clear h59
      refine pl_nil ?_
      refine co_then ?_
      refine co_seq ?_
      refine co_reg ?_
      refine pk0 (v := u64) h74 rfl fun a75 h75 => ?_; clear h74
      refine pk0 (v := .int .i64 i) h75 rfl fun a76 h76 => ?_; clear h75
      refine pk0 (v := .int .u64 ts) h76 rfl fun a77 h77 => ?_; clear h76
      obtain ⟨y78, hy78⟩ : ∃ z, L263[(i).toNat]? = some z := ⟨_, List.getElem?_eq_getElem (by first | omega | (simp; done) | (simp; omega))⟩
      have oky78 := (fun (z : EntT) (_ : z ∈ L263) => trivial) _ (List.mem_of_getElem? hy78)
      have hy79 := hE72.at hy78
      have hq80 := hy79.ts0; have hq81 := hy79.ts1; have hq82 := hy79.len; have hq83 := wf_i64 hy79.cl; have hq84 := wf_i64 hy79.rq
      refine pk (v := pt (blkOf u64) (offOf u64 + ((i).toNat) * 4)) h77 rfl (rn_index rfl rfl rfl Try.underlying39 Try.sizeOf47 (row_sl hq65 entE_len) (by omega) (by first | omega | (simp; done) | (simp; omega))) fun a85 h85 => ?_; clear h77
      refine pk0 (v := pt (blkOf u64) (offOf u64 + ((i).toNat) * 4 + 3)) h85 rfl fun a86 h86 => ?_; clear h85
      refine pwD h86 rfl (op_storeRow (c := ((i).toNat) * 4 + 3) rfl rfl rfl rfl Try.sizeOf45 hq65 (flat_lt entE_len (by first | omega | (simp; omega)) (by omega)) (by first | rfl | omega)) ?_; clear h86
      rintro _ w88 a87 ⟨hr89, hz90, hg91⟩ h87
      have hr89' := row_set (y' := (EntT.mk y78.client y78.req (y78.ops) y78.opl ts)) hr89 entE_len hy78 (by omega) rfl; clear hr89
      have hz92 := hg91.size
      have hk93 := hk57.below hb68
      have hE95 := hE72.row hq65 (by decide) hg91
      have hE94 := EntsK.set (i := ((i).toNat)) hE95 (EntK.ts (t := ts) (EntsK.at hE95 hy78) (by omega))
      refine pl_nil ?_
      refine co_then ?_
      refine co_seq ?_
      refine co_reg ?_
      refine pk0 (v := pt b 0) h87 rfl fun a96 h96 => ?_; clear h87
      refine pk0 (v := u64) h96 rfl fun a97 h97 => ?_; clear h96
      refine pk0 (v := pt b 0) h97 rfl fun a98 h98 => ?_; clear h97
      refine pk0 (v := pt b 0) h98 rfl fun a99 h99 => ?_; clear h98
      have hk105 := hk93.kept hg91 (own_neT hq65 hk93 (by decide))
      refine pwD h99 rfl (op_store1 rfl rfl rfl (row_one hr89') Try.sizeOf39 hk105 rfl) ?_; clear h99
      rintro _ w101 a100 ⟨hk102, hz103, hg104⟩ h100
      have hk102' : Blk w101 b 41 #[u64] := hk102; clear hk102
      have hz106 := hg104.size
      refine pl_nil ?_
      refine co_then ?_
      refine co_seq ?_
      refine co_reg ?_
      refine pk0 (v := .int .i64 0) h100 rfl fun a107 h107 => ?_; clear h100
      refine pl_nil ?_
      refine co_then ?_
      refine wp_ret ?_
      refine co_ret1 h107 rfl rfl ?_
      have hr108 := row_kept_at hr89' hg104 (own_neT hr89' hk105 (by decide))
      have hE109 := hE94.blk hk105 (by decide) hg104
      have hB110 := fbU_call hB52 hb68
      have hB111 := fbU_row hB110 (InS.low hq65 (by omega)) hg91
      have hB112 := fbU_at hB111 hg104 (fun hlt => by rcases hO.sb with hq | hq; exact hq; omega)
      have hE : stE X i ts = 0 := stE_d (by omega) (by omega) (by omega)
      exact ⟨_, _, ret_int hE.symm, ⟨hk102', (row_lows hr108 (Nat.zero_le _)), hE109, hO.sb, (InS.low hq65 (by omega)), (by rw [List.length_set]; omega)⟩, stL_e0 hE hq67 hy78, hB112⟩
     ·
      rw [hc51] at h50
      have hp113 : ts ≤ lastT X := of_decide_eq_true hc51
      clear hc51
      refine co_true h50 rfl ?_
      refine co_seq ?_
      refine co_reg ?_
      refine pk0 (v := .int .i64 18) h50 rfl fun a114 h114 => ?_; clear h50
      refine pl_nil ?_
      refine co_then ?_
      refine wp_ret ?_
      refine co_thenR ?_
      refine co_ret1 h114 rfl rfl ?_
      have hr115 := row_kept_new hr46 (below_grown hb47)
      have hE116 := hE45.new (below_grown hb47)
      have hk117 := hk41.below hb47
      have hE : stE X i ts = 18 := stE_c (by omega) (by omega) (by omega)
      exact ⟨_, _, ret_int hE.symm, ⟨hk117, hr115, hE116, hO.sb, hO.su, hO.len⟩, by rw [stL_no (by rw [hE]; omega)], hB52⟩
    ·
     rw [hc34] at h33
     have hp118 : i ≠ ((stN X : Nat) : Int) := by first | simpa using hc34 | simpa [and_assoc] using hc34
     clear hc34
     refine psk h33 rfl fun a119 h119 => ?_; clear h33
     refine psk h119 rfl fun a120 h120 => ?_; clear h119
     refine psk h120 rfl fun a121 h121 => ?_; clear h120
     refine psk h121 rfl fun a122 h122 => ?_; clear h121
     refine psk h122 rfl fun a123 h123 => ?_; clear h122
     refine psk h123 rfl fun a124 h124 => ?_; clear h123
     refine psk h124 rfl fun a125 h125 => ?_; clear h124
     refine pk0 (v := .bool true) h125 rfl fun a126 h126 => ?_; clear h125
     refine pl_nil ?_
     refine co_then ?_
     refine co_true h126 rfl ?_
     refine co_seq ?_
     refine co_reg ?_
     refine pk0 (v := .int .i64 18) h126 rfl fun a127 h127 => ?_; clear h126
     refine pl_nil ?_
     refine co_then ?_
     refine wp_ret ?_
     refine co_thenR ?_
     refine co_ret1 h127 rfl rfl ?_
     have hr128 := row_kept_new hO.row (below_grown hb30)
     have hE129 := hO.ents.new (below_grown hb30)
     have hk130 := hO.blk.below hb30
     have hE : stE X i ts = 18 := stE_c (by omega) (by omega) (by omega)
     exact ⟨_, _, ret_int hE.symm, ⟨hk130, hr128, hE129, hO.sb, hO.su, hO.len⟩, by rw [stL_no (by rw [hE]; omega)], hB35⟩
   ·
    rw [hc21] at h20
    have hp131 : ts = 0 := by first | simpa using hc21 | simpa [and_assoc] using hc21
    clear hc21
    refine co_true h20 rfl ?_
    refine co_seq ?_
    refine co_reg ?_
    refine pk0 (v := .int .i64 5) h20 rfl fun a132 h132 => ?_; clear h20
    refine pl_nil ?_
    refine co_then ?_
    refine wp_ret ?_
    refine co_thenR ?_
    refine co_ret1 h132 rfl rfl ?_
    have hE : stE X i ts = 5 := stE_b (by omega) (by omega)
    exact ⟨_, _, ret_int hE.symm, ⟨hO.blk, hO.row, hO.ents, hO.sb, hO.su, hO.len⟩, by rw [stL_no (by rw [hE]; omega)], hB0⟩
  ·
   rw [hc17] at h16
   have hp133 : i ≥ ((X.length : Nat) : Int) := of_decide_eq_true hc17
   clear hc17
   refine co_true h16 rfl ?_
   refine co_seq ?_
   refine co_reg ?_
   refine pk0 (v := .int .i64 1) h16 rfl fun a134 h134 => ?_; clear h16
   refine pl_nil ?_
   refine co_then ?_
   refine wp_ret ?_
   refine co_thenR ?_
   refine co_ret1 h134 rfl rfl ?_
   have hE : stE X i ts = 1 := stE_a (by omega)
   exact ⟨_, _, ret_int hE.symm, ⟨hO.blk, hO.row, hO.ents, hO.sb, hO.su, hO.len⟩, by rw [stL_no (by rw [hE]; omega)], hB0⟩
 ·
  rw [hc7] at h6
  have hp135 : i < 0 := of_decide_eq_true hc7
  clear hc7
  refine psk h6 rfl fun a136 h136 => ?_; clear h6
  refine psk h136 rfl fun a137 h137 => ?_; clear h136
  refine psk h137 rfl fun a138 h138 => ?_; clear h137
  refine psk h138 rfl fun a139 h139 => ?_; clear h138
  refine psk h139 rfl fun a140 h140 => ?_; clear h139
  refine psk h140 rfl fun a141 h141 => ?_; clear h140
  refine psk h141 rfl fun a142 h142 => ?_; clear h141
  refine pk0 (v := .bool true) h142 rfl fun a143 h143 => ?_; clear h142
  refine pl_nil ?_
  refine co_then ?_
  refine co_true h143 rfl ?_
  refine co_seq ?_
  refine co_reg ?_
  refine pk0 (v := .int .i64 1) h143 rfl fun a144 h144 => ?_; clear h143
  refine pl_nil ?_
  refine co_then ?_
  refine wp_ret ?_
  refine co_thenR ?_
  refine co_ret1 h144 rfl rfl ?_
  have hE : stE X i ts = 1 := stE_a (by omega)
  exact ⟨_, _, ret_int hE.symm, ⟨hO.blk, hO.row, hO.ents, hO.sb, hO.su, hO.len⟩, by rw [stL_no (by rw [hE]; omega)], hB0⟩
end Go.Proofs.Ythmnndbpadegnaa
