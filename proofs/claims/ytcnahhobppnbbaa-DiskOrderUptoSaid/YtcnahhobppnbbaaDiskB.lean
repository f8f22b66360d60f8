/- Package disk: forget, Pending, Sync, Data, Serial, Boots. Conditions: sums of less than 10^12. -/
import Derived.Test.YtcnahhobppnbbaaDiskA
namespace Go.Proofs.Ytcnahhobppnbbaa
open Go.RowKit Go.PlainAid
set_option linter.unusedVariables false


def sumP (l : List PcT) : Int := l.foldl (fun n p => n + p.2) 0
theorem takeD_at {α : Type} {l : List α} {i : Nat} {y : α} (h : l[i]? = some y) : l.take (i + 1) = l.take i ++ [y] := by rw [List.take_add_one, h]; rfl
theorem sumP_snoc (l : List PcT) (p : PcT) : sumP (l ++ [p]) = sumP l + p.2 := by unfold sumP; rw [List.foldl_append]; rfl
theorem sumP_at {l : List PcT} {i : Nat} {y : PcT} (h : l[i]? = some y) : sumP (l.take (i + 1)) = sumP (l.take i) + y.2 := by rw [takeD_at h, sumP_snoc]
def synF (fm : Int → Option FileM) (ps : List PcT) : Int → Option FileM := ps.foldl (fun fm p => putF fm p.1 ((getF fm p.1).1, ((getF fm p.1).1.length : Int), true)) fm
theorem synF_at {fm : Int → Option FileM} {l : List PcT} {i : Nat} {y : PcT} (h : l[i]? = some y) : synF fm (l.take (i + 1)) = putF (synF fm (l.take i)) y.1 ((getF (synF fm (l.take i)) y.1).1, ((getF (synF fm (l.take i)) y.1).1.length : Int), true) := by
  rw [takeD_at h]; unfold synF; rw [List.foldl_append]; rfl
def synS (s : DkS) : DkS := ⟨synF s.fm s.ps, [], s.ser, s.boots⟩
def forS (s : DkS) : DkS := ⟨s.fm, [], s.ser, s.boots⟩
def datF (fm : Int → Option FileM) (k : Int) : ByteArray := ⟨(getF fm k).1.toArray⟩
/-- ys are the files' numbers, rising. -/
def KeysF (fm : Int → Option FileM) (ys : List Int) : Prop := ys.Pairwise (· < ·) ∧ ∀ k, k ∈ ys ↔ (fm k).isSome = true
theorem fun_eq {g g2 : Int → Option FileG} {w : World} {M c c2 : Nat} (h : MapO intK fileV w M g c) (e : g = g2) (hc : c ≤ c2) : MapO intK fileV w M g2 c2 := h.eq e hc
theorem perm_snoc {α : Type} {A L1 L2 : List α} {p : α} {lt : List α} {ls : List α} (h : (A ++ ls).Perm lt) (e : ls = L1 ++ p :: L2) : ((A ++ [p]) ++ (L1 ++ L2)).Perm lt := by
  subst e
  refine List.Perm.trans ?_ h
  rw [List.append_assoc]
  exact List.Perm.append_left A (by rw [List.singleton_append]; exact List.perm_middle.symm)
theorem keys_of {g : Int → Option FileG} {fm : Int → Option FileM} (hr : ∀ k, (g k).map (·.2) = fm k) {lt : List (Int × FileG)} (hf : Full g lt) {ks : List Int} (hp : (ks ++ ([] : List (Int × FileG)).map (·.1)).Perm (lt.map (·.1))) : KeysF fm (srt ks) := by
  have hp' : ks.Perm (lt.map (·.1)) := by simpa using hp
  constructor
  · have hn : (srt ks).Nodup := (srt_perm ks).symm.nodup (hp'.symm.nodup hf.1)
    exact List.Pairwise.imp₂ (fun {a b} h1 h2 => by have h3 : a ≤ b := h1; have h4 : a ≠ b := h2; omega) (srt_up ks) hn
  · intro k
    rw [srt_mem, hp'.mem_iff, List.mem_map]
    rw [← hr k]
    constructor
    · rintro ⟨q, hq, rfl⟩
      have := (hf.2 q.1 q.2).2 hq
      rw [this]; rfl
    · intro h
      cases hg : g k with
      | none => rw [hg] at h; cases h
      | some f => exact ⟨(k, f), (hf.2 k f).1 hg, rfl⟩

set_option maxRecDepth 100000 in
theorem dforget_any (w0 : World) (S : Nat → Prop) (d : Nat) (M : Nat) (pv : Value) (g : Int → Option FileG) (c : Nat) (s : DkS) (w : World) (hbw : But S w0 w) (hO : DkP S w0.heap.size w d M pv g c s) :
    Calls Try.prog 81 #[pt d 0] w fun e w' => ∃ (pv' : Value), e = .returned (.tuple #[]) ∧ DkP S w0.heap.size w' d M pv' g c (forS s) ∧ But (S) w0 w' := by
 have hB0 := hbw
 have hz0 := hbw.size
 have hz0 := hbw.size
 have hl1 := hO.blk.lt
 have hl2 := hO.map.lt
 have hne3 := blk_ne_map hO.blk hO.map
 have hl4 := sl_len (row_sl hO.row pieceE_len)
 refine co_enter (n := 14) Try.func81 rfl rfl rfl [(0, pt d 0)] rfl (fun a h0 => ?_)
 refine co_seq ?_
 refine co_reg ?_
 refine pk0 (v := pt d 0) h0 rfl fun a5 h5 => ?_; clear h0
 refine pk0 (v := pt d 0) h5 rfl fun a6 h6 => ?_; clear h5
 refine pk0 (v := pt d 2) h6 rfl fun a7 h7 => ?_; clear h6
 refine pk (v := pv) h7 rfl (rn_load1 rfl rfl Try.isAgg45 (hO.blk.cell rfl)) fun a8 h8 => ?_; clear h7
 refine pwD h8 rfl (op_clearRow (z := .agg #[.int .i64 0, .int .i64 0]) rfl rfl Try.underlying45 (fun w => by kernel_rfl) (by rfl) zone_pieceE hO.row) ?_; clear h8
 rintro _ w10 a9 ⟨hr11, hg12⟩ h9
 have hz13 := hg12.size
 have hr14 := zrow_pieceE hr11
 refine pl_nil ?_
 refine co_then ?_
 refine co_reg ?_
 refine pk0 (v := pt d 0) h9 rfl fun a15 h15 => ?_; clear h9
 refine pk0 (v := pt d 0) h15 rfl fun a16 h16 => ?_; clear h15
 refine pk0 (v := pt d 0) h16 rfl fun a17 h17 => ?_; clear h16
 refine pk0 (v := pt d 2) h17 rfl fun a18 h18 => ?_; clear h17
 have hk19 := hO.blk.kept hg12 (own_neT hO.row hO.blk (by decide))
 refine pk (v := pv) h18 rfl (rn_load1 rfl rfl Try.isAgg45 (hk19.cell rfl)) fun a20 h20 => ?_; clear h18
 have hr21 := row_cut hr14 pieceE_len 0 (by omega) (.inr trivial)
 refine pk (v := subV pv 0 0 2) h20 rfl (rn_sliceTo rfl rfl rfl Try.underlying45 Try.sizeOf124 (row_sl hr14 pieceE_len) (by omega) (by omega)) fun a22 h22 => ?_; clear h20
 refine pk0 (v := pt d 0) h22 rfl fun a23 h23 => ?_; clear h22
 refine pk0 (v := pt d 2) h23 rfl fun a24 h24 => ?_; clear h23
 refine pwD h24 rfl (op_store1 rfl rfl rfl (row_one hr21) Try.sizeOf45 hk19 rfl) ?_; clear h24
 rintro _ w26 a25 ⟨hk27, hz28, hg29⟩ h25
 have hk27' : Blk w26 d 47 #[.bool true, .map (some M), subV pv 0 0 2, .int .i64 s.ser, .int .i64 s.boots] := hk27; clear hk27
 have hz30 := hg29.size
 refine pl_nil ?_
 refine co_ret0n h25 rfl ?_
 have hM31 := hO.map.kept hg12 (hO.map.row hO.row)
 have hM32 := hM31.kept hg29 (by simp; omega)
 have hr33 := row_kept_at hr21 hg29 (own_neT hr21 hk19 (by decide))
 have hF34 := hO.fam.row hO.row (by decide) hg12
 have hF35 := hF34.blk hk19 (by decide) hg29
 have hB36 := fbU_row hB0 hO.sp hg12
 have hB37 := fbU_at hB36 hg29 (fun hlt => by rcases hO.sd with hq | hq; exact hq; omega)
 exact ⟨_, rfl, ⟨hk27', hM32, (row_eq hr33 (show _ = ([] : List PcT) from by simp)), hF35, hO.sd, hO.sM, (fun i hi => hO.sp i ((cut_block hr14 0) ▸ hi)), hO.rel⟩, hB37⟩
set_option maxRecDepth 100000 in
theorem dPending_any (d : Nat) (M : Nat) (pv : Value) (ser : Int) (boots : Int) (l : List PcT) (w : World) (hD : Blk w d 47 #[.bool true, .map (some M), pv, .int .i64 ser, .int .i64 boots]) (hs : SliceOf pieceE 2 w pv l) (hyy : ∀ z ∈ l, (fun _ => True) z) (hsb : ∀ i, 0 ≤ sumP (l.take i) ∧ sumP (l.take i) ≤ 1000000000000) :
    Calls Try.prog 24 #[pt d 0] w fun e w' => e = .returned (.int .i64 (sumP l)) ∧ Below w.heap.size w w' := by
 have hB0 := Below.refl w.heap.size w
 have hl_hD := hD.lt
 have hl_hs := sl_len hs
 refine co_enter (n := 23) Try.func24 rfl rfl rfl [(0, pt d 0)] rfl (fun a h0 => ?_)
 refine co_seq ?_
 refine co_reg ?_
 refine pk0 (v := .int .i64 0) h0 rfl fun a1 h1 => ?_; clear h0
 refine pl_nil ?_
 refine co_then ?_
 refine co_seq ?_
 refine co_seq ?_
 refine co_reg ?_
 refine pk0 (v := pt d 0) h1 rfl fun a2 h2 => ?_; clear h1
 refine pw h2 rfl (op_call (args := #[pt d 0]) (R := fun res xw => res = .bool false ∧ w = xw) rfl rfl rfl (by kernel_rfl) (by kernel_rfl) (Try.call80 _ _) (dzero_any d M pv ser boots w hD) (by rintro e x ⟨rfl, rfl⟩; exact ⟨_, rfl, ⟨rfl, rfl⟩⟩)) ?_; clear h2
 rintro _ _ a3 ⟨rfl, rfl⟩ h3
 refine pl_nil ?_
 refine co_then ?_
 refine co_false h3 rfl ?_
 refine wp_skip ?_
 refine co_then ?_
 refine co_seq ?_
 refine co_reg ?_
 refine pk0 (v := .int .i64 0) h3 rfl fun a6 h6 => ?_; clear h3
 refine pl_nil ?_
 refine co_then ?_
 refine co_seq ?_
 refine co_seq ?_
 refine co_reg ?_
 refine pk0 (v := pt d 0) h6 rfl fun a7 h7 => ?_; clear h6
 refine pk0 (v := pt d 0) h7 rfl fun a8 h8 => ?_; clear h7
 refine pk0 (v := pt d 2) h8 rfl fun a9 h9 => ?_; clear h8
 refine pk (v := pv) h9 rfl (rn_load1 rfl rfl Try.isAgg45 (hD.cell rfl)) fun a10 h10 => ?_; clear h9
 refine pk (v := .int .i64 ((l.length : Nat) : Int)) h10 rfl (rn_len rfl rfl Try.underlying45 hs) fun a11 h11 => ?_; clear h10
 refine pk0 (v := .int .i64 0) h11 rfl fun a12 h12 => ?_; clear h11
 refine pl_nil ?_
 refine co_then ?_
 refine wp_block ?_
 have h13 : Slots 23 [(0, pt d 0), (3, .int .i64 0), (11, pv), (12, .int .i64 ((l.length : Nat) : Int)), (13, .int .i64 0)] _ := h12.sub ⟨rfl, rfl, rfl, rfl, rfl, trivial⟩; clear h12
 refine co_loop (fun mm a x => ∃ (i : Nat), Slots 23 [(0, pt d 0), (3, .int .i64 (sumP (l.take i))), (11, pv), (12, .int .i64 ((l.length : Nat) : Int)), (13, .int .i64 ((i : Nat) : Int))] a ∧ mm = l.length - i ∧ (i ≤ l.length) ∧ Below w.heap.size w x ∧ Blk x d 47 #[.bool true, .map (some M), pv, .int .i64 ser, .int .i64 boots]) (l.length - 0) ?_ ?_
 · exact ⟨0, h13.sub ⟨rfl, (slot_eq rfl (congrArg (Value.int .i64) (by first | rfl | (rw [sumP_at (by assumption)])))), rfl, rfl, (slot_eq rfl (congrArg (Value.int .i64) (by first | rfl | omega))), trivial⟩, rfl, by omega, hB0, hD⟩
 · rintro k14 a15 w16 ⟨i, h15, rfl, hi17, hB18, hk19⟩
   have hz20 := hB18.size
   have hl21 := hk19.lt
   have hsb1 := hsb i
   have hsb2 := hsb (i + 1)
   refine co_seq ?_
   refine co_reg ?_
   refine pk0 (v := .bool (decide (((i : Nat) : Int) < ((l.length : Nat) : Int)))) h15 rfl fun a22 h22 => ?_; clear h15
   refine pl_nil ?_
   refine co_then ?_
   refine co_seq ?_
   cases hc23 : (decide (((i : Nat) : Int) < ((l.length : Nat) : Int)))
   ·
    rw [hc23] at h22
    have hp24 : ¬ (((i : Nat) : Int) < ((l.length : Nat) : Int)) := of_decide_eq_false hc23
    clear hc23
    refine co_false h22 rfl ?_
    refine wp_exit ?_
    refine co_thenX ?_
    refine co_thenX ?_
    refine co_blockX ?_
    refine co_then ?_
    refine co_seq ?_
    refine co_reg ?_
    refine pk0 (v := .int .i64 (sumP (l.take i))) h22 rfl fun a25 h25 => ?_; clear h22
    refine pk0 (v := .int .i64 (sumP (l.take i))) h25 rfl fun a26 h26 => ?_; clear h25
    refine pl_nil ?_
    refine co_then ?_
    refine wp_ret ?_
    refine co_ret1 h26 rfl rfl ?_
    exact ⟨by rw [List.take_of_length_le (by omega)], hB18⟩
   ·
    rw [hc23] at h22
    have hp27 : ((i : Nat) : Int) < ((l.length : Nat) : Int) := of_decide_eq_true hc23
    clear hc23
    refine co_true h22 rfl ?_
    refine wp_skip ?_
    refine co_then ?_
    refine co_seq ?_
    refine wp_block ?_
    refine co_seq ?_
    refine co_reg ?_
    obtain ⟨y28, hy28⟩ : ∃ z, l[i]? = some z := ⟨_, List.getElem?_eq_getElem (by first | omega | (simp; done) | (simp; omega))⟩
    have oky28 := hyy _ (List.mem_of_getElem? hy28)
    have hsa := sumP_at hy28
    refine pk (v := pt (blkOf pv) (offOf pv + i * 2)) h22 rfl (rn_index rfl rfl rfl Try.underlying45 Try.sizeOf124 (hs.below hB18) (by omega) (by first | omega | (simp; done) | (simp; omega))) fun a29 h29 => ?_; clear h22
    refine pk (v := .agg #[.int .i64 y28.1, .int .i64 y28.2]) h29 rfl (rn_loadN rfl rfl Try.underlying124 rfl (by kernel_rfl) (sl_at (hs.below hB18) hy28)) fun a30 h30 => ?_; clear h29
    refine pw h30 rfl (op_new (v := fun N => pt N 0) (T := 124) (cs := #[.int .i64 0, .int .i64 0]) (by kernel_rfl) (by kernel_rfl) (by kernel_rfl)) ?_; clear h30
    rintro _ w32 a31 ⟨N33, rfl, hN36, hz37, hk35, hg34⟩ h31
    have hz38 := hg34.size
    try dsimp only at h31
    refine pwD h31 rfl (op_storeN rfl rfl rfl (by kernel_rfl) (by kernel_rfl) hk35 rfl) ?_; clear h31
    rintro _ w40 a39 ⟨hk41, hz42, hg43⟩ h39
    have hk41' : Blk w40 N33 124 #[.int .i64 y28.1, .int .i64 y28.2] := hk41; clear hk41
    have hz44 := hg43.size
    refine pl_nil ?_
    refine co_then ?_
    refine co_reg ?_
    refine pk0 (v := .int .i64 (sumP (l.take i))) h39 rfl fun a45 h45 => ?_; clear h39
    refine pk0 (v := pt N33 1) h45 rfl fun a46 h46 => ?_; clear h45
    refine pk (v := .int .i64 y28.2) h46 rfl (rn_load1 rfl rfl Try.isAgg3 (hk41'.cell rfl)) fun a47 h47 => ?_; clear h46
    refine pk (v := .int .i64 ((sumP (l.take i)) + y28.2)) h47 rfl (rn_arith rfl rfl rfl rfl rfl rfl (IntWalk.i64_in _ (by omega))) fun a48 h48 => ?_; clear h47
    refine pk0 (v := .int .i64 ((sumP (l.take i)) + y28.2)) h48 rfl fun a49 h49 => ?_; clear h48
    refine pl_nil ?_
    refine co_blockN ?_
    refine co_then ?_
    refine co_reg ?_
    refine pk (v := .int .i64 ((i + 1 : Nat) : Int)) h49 rfl (rn_arith' rfl rfl rfl rfl rfl rfl (IntWalk.i64_in _ (by omega)) (by omega)) fun a50 h50 => ?_; clear h49
    refine pk0 (v := .int .i64 ((i + 1 : Nat) : Int)) h50 rfl fun a51 h51 => ?_; clear h50
    refine pl_nil ?_
    refine co_then ?_
    refine ⟨(l.length - (i + 1)), by omega, ?_⟩
    have hB52 := hb_new hB18 hg34
    have hB53 := hb_at hB52 hg43 (by omega)
    have hk54 := hk19.kept hg34 (by simp)
    have hk55 := hk54.kept hg43 (by simp; omega)
    exact ⟨i + 1, h51.sub ⟨rfl, (slot_eq rfl (congrArg (Value.int .i64) (by first | rfl | (rw [sumP_at (by assumption)])))), rfl, rfl, rfl, trivial⟩, rfl, by omega, hB53, hk55⟩
set_option maxRecDepth 100000 in
theorem dSync_any (w0 : World) (S : Nat → Prop) (d : Nat) (M : Nat) (pv : Value) (g : Int → Option FileG) (c : Nat) (s : DkS) (w : World) (hbw : But S w0 w) (hO : DkP S w0.heap.size w d M pv g c s) (hsb : ∀ i, 0 ≤ sumP (s.ps.take i) ∧ sumP (s.ps.take i) ≤ 1000000000000) :
    Calls Try.prog 22 #[pt d 0] w fun e w' => ∃ (pv' : Value) (g' : Int → Option FileG) (c' : Nat), e = .returned (.int .i64 (sumP s.ps)) ∧ DkP S w0.heap.size w' d M pv' g' c' (synS s) ∧ c' ≤ c + s.ps.length ∧ But (S) w0 w' := by
 have hB0 := hbw
 have hz0 := hbw.size
 have hz0 := hbw.size
 have hl1 := hO.blk.lt
 have hl2 := hO.map.lt
 have hne3 := blk_ne_map hO.blk hO.map
 have hl4 := sl_len (row_sl hO.row pieceE_len)
 refine co_enter (n := 43) Try.func22 rfl rfl rfl [(0, pt d 0)] rfl (fun a h0 => ?_)
 refine co_seq ?_
 refine co_reg ?_
 refine pk0 (v := .int .i64 0) h0 rfl fun a5 h5 => ?_; clear h0
 refine pl_nil ?_
 refine co_then ?_
 refine co_seq ?_
 refine co_seq ?_
 refine co_reg ?_
 refine pk0 (v := pt d 0) h5 rfl fun a6 h6 => ?_; clear h5
 refine pw h6 rfl (op_call (args := #[pt d 0]) (R := fun res xw => res = .bool false ∧ w = xw) rfl rfl rfl (by kernel_rfl) (by kernel_rfl) (Try.call80 _ _) (dzero_any d M pv s.ser s.boots w hO.blk) (by rintro e x ⟨rfl, rfl⟩; exact ⟨_, rfl, ⟨rfl, rfl⟩⟩)) ?_; clear h6
 rintro _ _ a7 ⟨rfl, rfl⟩ h7
 refine pl_nil ?_
 refine co_then ?_
 refine co_false h7 rfl ?_
 refine wp_skip ?_
 refine co_then ?_
 refine co_seq ?_
 refine co_reg ?_
 refine pk0 (v := pt d 0) h7 rfl fun a10 h10 => ?_; clear h7
 refine pw h10 rfl (op_call (args := #[pt d 0]) (R := fun res xw => res = .int .i64 (sumP s.ps) ∧ Below w.heap.size w xw) rfl rfl rfl (by kernel_rfl) (by kernel_rfl) (Try.call24 _ _) (dPending_any d M pv s.ser s.boots s.ps w hO.blk (row_sl hO.row pieceE_len) (fun _ _ => trivial) hsb) (by rintro e x ⟨rfl, hb13⟩; exact ⟨_, rfl, ⟨rfl, hb13⟩⟩)) ?_; clear h10
 rintro _ w12 a11 ⟨rfl, hb13⟩ h11
 have hz14 := hb13.size
 refine pk0 (v := .int .i64 (sumP s.ps)) h11 rfl fun a15 h15 => ?_; clear h11
 refine pl_nil ?_
 refine co_then ?_
 refine co_seq ?_
 refine co_seq ?_
 refine co_reg ?_
 refine pk0 (v := pt d 0) h15 rfl fun a16 h16 => ?_; clear h15
 refine pk0 (v := pt d 0) h16 rfl fun a17 h17 => ?_; clear h16
 refine pk0 (v := pt d 2) h17 rfl fun a18 h18 => ?_; clear h17
 have hk19 := hO.blk.below hb13
 refine pk (v := pv) h18 rfl (rn_load1 rfl rfl Try.isAgg45 (hk19.cell rfl)) fun a20 h20 => ?_; clear h18
 have hr21 := row_kept_new hO.row (below_grown hb13)
 refine pk (v := .int .i64 ((s.ps.length : Nat) : Int)) h20 rfl (rn_lenOwn rfl rfl Try.underlying45 hr21) fun a22 h22 => ?_; clear h20
 refine pk0 (v := .int .i64 0) h22 rfl fun a23 h23 => ?_; clear h22
 refine pl_nil ?_
 refine co_then ?_
 refine wp_block ?_
 have h24 : Slots 43 [(0, pt d 0), (3, .int .i64 (sumP s.ps)), (14, pv), (15, .int .i64 ((s.ps.length : Nat) : Int)), (16, .int .i64 0)] _ := h23.sub ⟨rfl, rfl, rfl, rfl, rfl, trivial⟩; clear h23
 refine co_loop (fun mm a x => ∃ (i : Nat) (g1 : Int → Option FileG) (c1 : Nat), Slots 43 [(0, pt d 0), (3, .int .i64 (sumP s.ps)), (14, pv), (15, .int .i64 ((s.ps.length : Nat) : Int)), (16, .int .i64 ((i : Nat) : Int))] a ∧ mm = s.ps.length - i ∧ (i ≤ s.ps.length) ∧ (c1 ≤ c + i) ∧ (∀ k, (g1 k).map (·.2) = synF s.fm (s.ps.take i) k) ∧ MapO intK fileV x M g1 c1 ∧ x.ownsRow 0 124 2 pv s.ps.length (s.ps.flatMap pieceE) ∧ Fam S w0.heap.size x g1 ∧ But (S) w0 x ∧ Blk x d 47 #[.bool true, .map (some M), pv, .int .i64 s.ser, .int .i64 s.boots]) (s.ps.length - 0) ?_ ?_
 have hM25 := hO.map.kept (below_grown hb13) (by simp)
 have hF26 := hO.fam.new (below_grown hb13)
 have hB27 := fbU_call hB0 hb13
 · exact ⟨0, g, c, h24.sub ⟨rfl, rfl, rfl, rfl, (slot_eq rfl (congrArg (Value.int .i64) (by first | rfl | omega))), trivial⟩, rfl, by omega, by omega, by first | exact hrl' | exact hO.rel, (fun_eq hM25 (by first | rfl | (funext b; rfl)) (by omega)), hr21, hF26, hB27, hk19⟩
 · rintro k28 a29 w30 ⟨i, g1, c1, h29, rfl, hi31, hi32, hi33, hf34, hf35, hf36, hB37, hk38⟩
   have hz39 := hB37.size
   have hl40 := hk38.lt
   have hl41 := hf34.lt
   have hrl : ∀ k, (g1 k).map (·.2) = synF s.fm (s.ps.take i) k := by assumption
   refine co_seq ?_
   refine co_reg ?_
   refine pk0 (v := .bool (decide (((i : Nat) : Int) < ((s.ps.length : Nat) : Int)))) h29 rfl fun a42 h42 => ?_; clear h29
   refine pl_nil ?_
   refine co_then ?_
   refine co_seq ?_
   cases hc43 : (decide (((i : Nat) : Int) < ((s.ps.length : Nat) : Int)))
   ·
    rw [hc43] at h42
    have hp44 : ¬ (((i : Nat) : Int) < ((s.ps.length : Nat) : Int)) := of_decide_eq_false hc43
    clear hc43
    refine co_false h42 rfl ?_
    refine wp_exit ?_
    refine co_thenX ?_
    refine co_thenX ?_
    refine co_blockX ?_
    refine co_then ?_
    refine co_seq ?_
    refine co_reg ?_
    refine pk0 (v := pt d 0) h42 rfl fun a45 h45 => ?_; clear h42
    have hrz : ∀ k, (g1 k).map (·.2) = synF s.fm s.ps k := by have := hrl; rwa [List.take_of_length_le (by omega)] at this
    refine pw h45 rfl (op_call (args := #[pt d 0]) (R := fun res xw => res = .tuple #[] ∧ ∃ (pv : Value), DkP S w0.heap.size xw d M pv g1 c1 (forS (⟨synF s.fm s.ps, s.ps, s.ser, s.boots⟩ : DkS)) ∧ But (S) w0 xw) rfl rfl rfl (by kernel_rfl) (by kernel_rfl) (Try.call81 _ _) (dforget_any w0 S d M pv g1 c1 (⟨synF s.fm s.ps, s.ps, s.ser, s.boots⟩ : DkS) w30 hB37 ⟨hk38, hf34, hf35, hf36, hO.sd, hO.sM, hO.sp, hrz⟩) (by rintro e x ⟨pv, rfl, h1, h2⟩; exact ⟨_, rfl, rfl, pv, h1, h2⟩)) ?_; clear h45
    rintro _ w47 a46 ⟨rfl, pv50, hO48, hB49⟩ h46
    have hz51 := hB49.size
    have hl52 := hO48.blk.lt
    have hl53 := hO48.map.lt
    have hne54 := blk_ne_map hO48.blk hO48.map
    have hl55 := sl_len (row_sl hO48.row pieceE_len)
    refine pl_nil ?_
    refine co_then ?_
    refine co_seq ?_
    refine co_reg ?_
    refine pk0 (v := .int .i64 (sumP s.ps)) h46 rfl fun a56 h56 => ?_; clear h46
    refine pk0 (v := .int .i64 (sumP s.ps)) h56 rfl fun a57 h57 => ?_; clear h56
    refine pl_nil ?_
    refine co_then ?_
    refine wp_ret ?_
    refine co_ret1 h57 rfl rfl ?_
    exact ⟨_, _, _, rfl, hO48, by omega, hB49⟩
   ·
    rw [hc43] at h42
    have hp58 : ((i : Nat) : Int) < ((s.ps.length : Nat) : Int) := of_decide_eq_true hc43
    clear hc43
    refine co_true h42 rfl ?_
    refine wp_skip ?_
    refine co_then ?_
    refine co_seq ?_
    refine wp_block ?_
    refine co_seq ?_
    refine co_reg ?_
    obtain ⟨y59, hy59⟩ : ∃ z, s.ps[i]? = some z := ⟨_, List.getElem?_eq_getElem (by first | omega | (simp; done) | (simp; omega))⟩
    refine pk (v := pt (blkOf pv) (offOf pv + i * 2)) h42 rfl (rn_index rfl rfl rfl Try.underlying45 Try.sizeOf124 (row_sl hf35 pieceE_len) (by omega) (by first | omega | (simp; done) | (simp; omega))) fun a60 h60 => ?_; clear h42
    refine pk (v := .agg #[.int .i64 y59.1, .int .i64 y59.2]) h60 rfl (rn_loadN rfl rfl Try.underlying124 rfl (by kernel_rfl) (sl_at (row_sl hf35 pieceE_len) hy59)) fun a61 h61 => ?_; clear h60
    refine pw h61 rfl (op_new (v := fun N => pt N 0) (T := 124) (cs := #[.int .i64 0, .int .i64 0]) (by kernel_rfl) (by kernel_rfl) (by kernel_rfl)) ?_; clear h61
    rintro _ w63 a62 ⟨N64, rfl, hN67, hz68, hk66, hg65⟩ h62
    have ha69 := row_fresh hf35 hN67
    have hu70 := row_under hf35 hN67
    have hz71 := hg65.size
    try dsimp only at h62
    refine pwD h62 rfl (op_storeN rfl rfl rfl (by kernel_rfl) (by kernel_rfl) hk66 rfl) ?_; clear h62
    rintro _ w73 a72 ⟨hk74, hz75, hg76⟩ h72
    have hk74' : Blk w73 N64 124 #[.int .i64 y59.1, .int .i64 y59.2] := hk74; clear hk74
    have hz77 := hg76.size
    refine pl_nil ?_
    refine co_then ?_
    refine co_seq ?_
    refine dr_gen (fun x => But (S) w0 x ∧ Blk x d 47 #[.bool true, .map (some M), pv, .int .i64 s.ser, .int .i64 s.boots] ∧ Blk x N64 124 #[.int .i64 y59.1, .int .i64 y59.2]) (by kernel_rfl) (fun w78 hg79 => ?_) (fun w78 hg79 => ?_)
    ·
     have hz80 := hg79.size
     have hB81 := fbU_new hB37 hg65
     have hB82 := fbU_at hB81 hg76 (fun hlt => absurd hlt (by omega))
     have hB83 := fbU_new hB82 hg79
     have hk84 := hk38.kept hg65 (by simp)
     have hk85 := hk84.kept hg76 (by simp; omega)
     have hk86 := hk85.kept hg79 (by simp)
     have hk87 := hk74'.kept hg79 (by simp)
     exact ⟨hB83, hk86, hk87⟩
    have hz88 := hg79.size
    have hB89 := fbU_new hB37 hg65
    have hB90 := fbU_at hB89 hg76 (fun hlt => absurd hlt (by omega))
    have hB91 := fbU_new hB90 hg79
    have hk92 := hk38.kept hg65 (by simp)
    have hk93 := hk92.kept hg76 (by simp; omega)
    have hk94 := hk93.kept hg79 (by simp)
    have hk95 := hk74'.kept hg79 (by simp)
    refine dk0 0 (v := pt d 0) h72 rfl rfl ⟨hB91, hk94, hk95⟩ fun a96 h96 => ?_; clear h72
    refine dk0 1 (v := pt d 0) h96 rfl rfl ⟨hB91, hk94, hk95⟩ fun a97 h97 => ?_; clear h96
    refine dk0 2 (v := pt d 1) h97 rfl rfl ⟨hB91, hk94, hk95⟩ fun a98 h98 => ?_; clear h97
    refine dk 3 (v := .map (some M)) h98 rfl rfl ⟨hB91, hk94, hk95⟩ (fun x hx => (rn_load1 rfl rfl Try.isAgg44 (hx.2.1.cell rfl))) fun a99 h99 => ?_; clear h98
    refine dk0 4 (v := pt N64 0) h99 rfl rfl ⟨hB91, hk94, hk95⟩ fun a100 h100 => ?_; clear h99
    refine dk 5 (v := .int .i64 y59.1) h100 rfl rfl ⟨hB91, hk94, hk95⟩ (fun x hx => (rn_load1 rfl rfl Try.isAgg3 (hx.2.2.cell rfl))) fun a101 h101 => ?_; clear h100
    refine dr_many [6, 7] (by kernel_rfl) (by simp) ⟨?_, ?_, trivial⟩
    ·
     have hF105 := hf36.new hg65
     have hF106 := hF105.blk hk66 (by decide) hg76
     have hF107 := hF106.new hg79
     have hM112 := hf34.kept hg65 (by simp)
     have hM113 := hM112.kept hg76 (by simp; omega)
     have hM114 := hM113.kept hg79 (by simp)
     obtain ⟨f102, hf103⟩ : ∃ z, (g1 y59.1).getD fz = z := ⟨_, rfl⟩
     have hA104 := hF107.at hf103
     have hl108 := sl_len (row_sl hA104.1 u8E_len)
     have hgf109 := getF_eq hrl hf103
     have hgl110 : f102.2.1.length = (getF (synF s.fm (s.ps.take i)) y59.1).1.length := by rw [hgf109]
     have hgs111 : f102.2.2.1 = (getF (synF s.fm (s.ps.take i)) y59.1).2.1 := by rw [hgf109]
     refine dr_opVal (i := 6) (v := .agg #[f102.1, .int .i64 f102.2.2.1, .bool f102.2.2.2]) h101 rfl rfl rfl rfl (by kernel_rfl) rfl (rn_lookO (a := y59.1) (f := f102) (intKL Try.underlying3) rfl rfl rfl Try.underlying44 filez hM114 hf103) ⟨hB91, hk94, hk95⟩ (fun a115 h115 => ?_); clear h101
     refine d1 7 h115 rfl rfl (op_new (v := fun N => pt N 0) (T := 122) (cs := #[.slice none 0 0, .int .i64 0, .bool false]) (by kernel_rfl) (by kernel_rfl) (by kernel_rfl)) ?_ ?_; clear h115
     ·
      rintro _ w117 ⟨N118, rfl, hN121, hz122, hk120, hg119⟩
      have hr124 := row_kept_new hf35 hg65
      have hr125 := row_kept_at hr124 hg76 (ha69)
      have hr126 := row_kept_new hr125 hg79
      have ha123 := row_fresh hr126 hN121
      have hu127 := row_under hr126 hN121
      have ha128 := row_fresh hA104.1 hN121
      have hu129 := row_under hA104.1 hN121
      have hz130 := hg119.size
      have hB131 := fbU_new hB91 hg119
      have hk132 := hk94.kept hg119 (by simp)
      have hk133 := hk95.kept hg119 (by simp)
      exact ⟨hB131, hk132, hk133⟩
     rintro _ w117 a116 ⟨N118, rfl, hN121, hz122, hk120, hg119⟩ h116
     have hr124 := row_kept_new hf35 hg65
     have hr125 := row_kept_at hr124 hg76 (ha69)
     have hr126 := row_kept_new hr125 hg79
     have ha123 := row_fresh hr126 hN121
     have hu127 := row_under hr126 hN121
     have ha128 := row_fresh hA104.1 hN121
     have hu129 := row_under hA104.1 hN121
     have hz130 := hg119.size
     try dsimp only at h116
     have hB131 := fbU_new hB91 hg119
     have hk132 := hk94.kept hg119 (by simp)
     have hk133 := hk95.kept hg119 (by simp)
     have hr139 := row_kept_new hA104.1 hg119
     refine d1D 8 h116 rfl rfl (op_storeN rfl rfl rfl (all_cons (row_one hr139) (all_cons rfl (all_cons rfl all_nil))) (by kernel_rfl) hk120 rfl) ?_ ?_; clear h116
     ·
      rintro _ w135 ⟨hk136, hz137, hg138⟩
      have hk136' : Blk w135 N118 122 #[f102.1, .int .i64 f102.2.2.1, .bool f102.2.2.2] := hk136; clear hk136
      have hz140 := hg138.size
      have hB141 := fbU_at hB131 hg138 (fun hlt => absurd hlt (by omega))
      have hk142 := hk132.kept hg138 (by simp; omega)
      have hk143 := hk133.kept hg138 (by simp; omega)
      exact ⟨hB141, hk142, hk143⟩
     rintro _ w135 a134 ⟨hk136, hz137, hg138⟩ h134
     have hk136' : Blk w135 N118 122 #[f102.1, .int .i64 f102.2.2.1, .bool f102.2.2.2] := hk136; clear hk136
     have hz140 := hg138.size
     refine dr_done (by kernel_rfl) ?_
     refine co_then ?_
     refine co_seq ?_
     refine co_reg ?_
     refine pk0 (v := pt N118 0) h134 rfl fun a141 h141 => ?_; clear h134
     refine pk (v := f102.1) h141 rfl (rn_load1 rfl rfl Try.isAgg120 (hk136'.cell rfl)) fun a142 h142 => ?_; clear h141
     have hr143 := row_kept_at hr139 hg138 (ha128)
     refine pk (v := .int .i64 ((f102.2.1.length : Nat) : Int)) h142 rfl (rn_lenOwn rfl rfl Try.underlying120 hr143) fun a144 h144 => ?_; clear h142
     refine pk0 (v := pt N118 1) h144 rfl fun a145 h145 => ?_; clear h144
     refine pwD h145 rfl (op_store1 rfl rfl rfl rfl Try.sizeOf3 hk136' rfl) ?_; clear h145
     rintro _ w147 a146 ⟨hk148, hz149, hg150⟩ h146
     have hk148' : Blk w147 N118 122 #[f102.1, .int .i64 ((f102.2.1.length : Nat) : Int), .bool f102.2.2.2] := hk148; clear hk148
     have hz151 := hg150.size
     refine pk0 (v := pt N118 2) h146 rfl fun a152 h152 => ?_; clear h146
     refine pwD h152 rfl (op_store1 rfl rfl rfl rfl Try.sizeOf4 hk148' rfl) ?_; clear h152
     rintro _ w154 a153 ⟨hk155, hz156, hg157⟩ h153
     have hk155' : Blk w154 N118 122 #[f102.1, .int .i64 ((f102.2.1.length : Nat) : Int), .bool true] := hk155; clear hk155
     have hz158 := hg157.size
     refine pl_nil ?_
     refine co_then ?_
     refine dr_gen (fun x => But (S) w0 x ∧ Blk x d 47 #[.bool true, .map (some M), pv, .int .i64 s.ser, .int .i64 s.boots] ∧ Blk x N64 124 #[.int .i64 y59.1, .int .i64 y59.2] ∧ Blk x N118 122 #[f102.1, .int .i64 ((f102.2.1.length : Nat) : Int), .bool true]) (by kernel_rfl) (fun w159 hg160 => ?_) (fun w159 hg160 => ?_)
     ·
      have hz161 := hg160.size
      have hB162 := fbU_at hB131 hg138 (fun hlt => absurd hlt (by omega))
      have hB163 := fbU_at hB162 hg150 (fun hlt => absurd hlt (by omega))
      have hB164 := fbU_at hB163 hg157 (fun hlt => absurd hlt (by omega))
      have hB165 := fbU_new hB164 hg160
      have hk166 := hk132.kept hg138 (by simp; omega)
      have hk167 := hk166.kept hg150 (by simp; omega)
      have hk168 := hk167.kept hg157 (by simp; omega)
      have hk169 := hk168.kept hg160 (by simp)
      have hk170 := hk133.kept hg138 (by simp; omega)
      have hk171 := hk170.kept hg150 (by simp; omega)
      have hk172 := hk171.kept hg157 (by simp; omega)
      have hk173 := hk172.kept hg160 (by simp)
      have hk174 := hk155'.kept hg160 (by simp)
      exact ⟨hB165, hk169, hk173, hk174⟩
     have hz175 := hg160.size
     have hB176 := fbU_at hB131 hg138 (fun hlt => absurd hlt (by omega))
     have hB177 := fbU_at hB176 hg150 (fun hlt => absurd hlt (by omega))
     have hB178 := fbU_at hB177 hg157 (fun hlt => absurd hlt (by omega))
     have hB179 := fbU_new hB178 hg160
     have hk180 := hk132.kept hg138 (by simp; omega)
     have hk181 := hk180.kept hg150 (by simp; omega)
     have hk182 := hk181.kept hg157 (by simp; omega)
     have hk183 := hk182.kept hg160 (by simp)
     have hk184 := hk133.kept hg138 (by simp; omega)
     have hk185 := hk184.kept hg150 (by simp; omega)
     have hk186 := hk185.kept hg157 (by simp; omega)
     have hk187 := hk186.kept hg160 (by simp)
     have hk188 := hk155'.kept hg160 (by simp)
     refine dk0 0 (v := pt d 0) h153 rfl rfl ⟨hB179, hk183, hk187, hk188⟩ fun a189 h189 => ?_; clear h153
     refine dk0 1 (v := pt d 0) h189 rfl rfl ⟨hB179, hk183, hk187, hk188⟩ fun a190 h190 => ?_; clear h189
     refine dk0 2 (v := pt d 1) h190 rfl rfl ⟨hB179, hk183, hk187, hk188⟩ fun a191 h191 => ?_; clear h190
     refine dk 3 (v := .map (some M)) h191 rfl rfl ⟨hB179, hk183, hk187, hk188⟩ (fun x hx => (rn_load1 rfl rfl Try.isAgg44 (hx.2.1.cell rfl))) fun a192 h192 => ?_; clear h191
     refine dk0 4 (v := pt N64 0) h192 rfl rfl ⟨hB179, hk183, hk187, hk188⟩ fun a193 h193 => ?_; clear h192
     refine dk 5 (v := .int .i64 y59.1) h193 rfl rfl ⟨hB179, hk183, hk187, hk188⟩ (fun x hx => (rn_load1 rfl rfl Try.isAgg3 (hx.2.2.1.cell rfl))) fun a194 h194 => ?_; clear h193
     refine dk 6 (v := .agg #[f102.1, .int .i64 ((f102.2.1.length : Nat) : Int), .bool true]) h194 rfl rfl ⟨hB179, hk183, hk187, hk188⟩ (fun x hx => (rn_loadN rfl rfl Try.underlying122 rfl (by kernel_rfl) hx.2.2.2.all)) fun a195 h195 => ?_; clear h194
     have hM201 := hM114.kept hg119 (by simp)
     have hM202 := hM201.kept hg138 (by simp; omega)
     have hM203 := hM202.kept hg150 (by simp; omega)
     have hM204 := hM203.kept hg157 (by simp; omega)
     have hM205 := hM204.kept hg160 (by simp)
     refine d1D 7 h195 rfl rfl (op_updateO (a := y59.1) (v := (f102.1, f102.2.1, ((f102.2.1.length : Nat) : Int), true)) (intKL Try.underlying3) rfl rfl rfl rfl Try.underlying44 hM205) ?_ ?_; clear h195
     ·
      rintro _ w197 ⟨hm198, hz199, hg200⟩
      have hF207 := hF107.new hg119
      have hF208 := hF207.blk hk120 (by decide) hg138
      have hF209 := hF208.blk hk136' (by decide) hg150
      have hF210 := hF209.blk hk148' (by decide) hg157
      have hF211 := hF210.new hg160
      have hr212 := row_kept_at hr143 hg150 (ha128)
      have hr213 := row_kept_at hr212 hg157 (ha128)
      have hr214 := row_kept_new hr213 hg160
      have hF206 := Fam.put (u := (f102.1)) (l := f102.2.1) (sf := ((f102.2.1.length : Nat) : Int)) (b0 := true) hF211 hf103 hr214 rfl
      have hz215 := hg200.size
      have hl216 := hm198.lt
      have hB217 := fbU_at hB179 hg200 (fun hlt => by rcases hO.sM with hq | hq; exact hq; omega)
      have hk218 := hk183.kept hg200 (by simp; omega)
      have hk219 := hk187.kept hg200 (by simp; omega)
      have hk220 := hk188.kept hg200 (by simp; omega)
      exact ⟨hB217, hk218, hk219, hk220⟩
     rintro _ w197 a196 ⟨hm198, hz199, hg200⟩ h196
     have hF207 := hF107.new hg119
     have hF208 := hF207.blk hk120 (by decide) hg138
     have hF209 := hF208.blk hk136' (by decide) hg150
     have hF210 := hF209.blk hk148' (by decide) hg157
     have hF211 := hF210.new hg160
     have hr212 := row_kept_at hr143 hg150 (ha128)
     have hr213 := row_kept_at hr212 hg157 (ha128)
     have hr214 := row_kept_new hr213 hg160
     have hF206 := Fam.put (u := (f102.1)) (l := f102.2.1) (sf := ((f102.2.1.length : Nat) : Int)) (b0 := true) hF211 hf103 hr214 rfl
     have hz215 := hg200.size
     have hl216 := hm198.lt
     refine dr_done (by kernel_rfl) ?_
     refine co_blockN ?_
     refine co_then ?_
     refine co_reg ?_
     refine pk (v := .int .i64 ((i + 1 : Nat) : Int)) h196 rfl (rn_arith' rfl rfl rfl rfl rfl rfl (IntWalk.i64_in _ (by omega)) (by omega)) fun a217 h217 => ?_; clear h196
     refine pk0 (v := .int .i64 ((i + 1 : Nat) : Int)) h217 rfl fun a218 h218 => ?_; clear h217
     refine pl_nil ?_
     refine co_then ?_
     refine ⟨(s.ps.length - (i + 1)), by omega, ?_⟩
     have hrl' : ∀ k, ((fun b => if b = y59.1 then some (f102.1, f102.2.1, ((f102.2.1.length : Nat) : Int), true) else g1 b) k).map (·.2) = synF s.fm (s.ps.take (i + 1)) k := by rw [synF_at hy59, ← hgf109]; exact putF_eq hrl
     have hr219 := row_kept_new hr126 hg119
     have hr220 := row_kept_at hr219 hg138 (ha123)
     have hr221 := row_kept_at hr220 hg150 (ha123)
     have hr222 := row_kept_at hr221 hg157 (ha123)
     have hr223 := row_kept_new hr222 hg160
     have hr224 := row_kept_at hr223 hg200 (hM205.row hr223)
     have hF225 := hF206.map hM205 hg200
     have hB226 := fbU_at hB179 hg200 (fun hlt => by rcases hO.sM with hq | hq; exact hq; omega)
     have hk227 := hk183.kept hg200 (by simp; omega)
     exact ⟨i + 1, (fun b => if b = y59.1 then some (f102.1, f102.2.1, ((f102.2.1.length : Nat) : Int), true) else g1 b), c1 + 1, h218.sub ⟨rfl, rfl, rfl, rfl, rfl, trivial⟩, rfl, by omega, by omega, by first | exact hrl' | exact hO.rel, (fun_eq hm198 (by first | rfl | (funext b; rfl)) (by omega)), hr224, hF225, hB226, hk227⟩
    ·
     refine dr_op (i := 7) h101 rfl rfl rfl rfl (op_new (v := fun N => pt N 0) (T := 122) (cs := #[.slice none 0 0, .int .i64 0, .bool false]) (by kernel_rfl) (by kernel_rfl) (by kernel_rfl)) ?_ ?_; clear h101
     ·
      rintro _ w229 ⟨N230, rfl, hN233, hz234, hk232, hg231⟩
      have hr236 := row_kept_new hf35 hg65
      have hr237 := row_kept_at hr236 hg76 (ha69)
      have hr238 := row_kept_new hr237 hg79
      have ha235 := row_fresh hr238 hN233
      have hu239 := row_under hr238 hN233
      have hz240 := hg231.size
      have hB241 := fbU_new hB91 hg231
      have hk242 := hk94.kept hg231 (by simp)
      have hk243 := hk95.kept hg231 (by simp)
      exact ⟨hB241, hk242, hk243⟩
     rintro _ w229 a228 ⟨N230, rfl, hN233, hz234, hk232, hg231⟩ h228
     have hr236 := row_kept_new hf35 hg65
     have hr237 := row_kept_at hr236 hg76 (ha69)
     have hr238 := row_kept_new hr237 hg79
     have ha235 := row_fresh hr238 hN233
     have hu239 := row_under hr238 hN233
     have hz240 := hg231.size
     try dsimp only at h228
     have hB241 := fbU_new hB91 hg231
     have hk242 := hk94.kept hg231 (by simp)
     have hk243 := hk95.kept hg231 (by simp)
     refine dr_many [6] (by kernel_rfl) (by simp) ⟨?_, trivial⟩
     ·
      have hF247 := hf36.new hg65
      have hF248 := hF247.blk hk66 (by decide) hg76
      have hF249 := hF248.new hg79
      have hF250 := hF249.new hg231
      have hM255 := hf34.kept hg65 (by simp)
      have hM256 := hM255.kept hg76 (by simp; omega)
      have hM257 := hM256.kept hg79 (by simp)
      have hM258 := hM257.kept hg231 (by simp)
      obtain ⟨f244, hf245⟩ : ∃ z, (g1 y59.1).getD fz = z := ⟨_, rfl⟩
      have hA246 := hF250.at hf245
      have hl251 := sl_len (row_sl hA246.1 u8E_len)
      have hgf252 := getF_eq hrl hf245
      have hgl253 : f244.2.1.length = (getF (synF s.fm (s.ps.take i)) y59.1).1.length := by rw [hgf252]
      have hgs254 : f244.2.2.1 = (getF (synF s.fm (s.ps.take i)) y59.1).2.1 := by rw [hgf252]
      refine dr_opVal (i := 6) (v := .agg #[f244.1, .int .i64 f244.2.2.1, .bool f244.2.2.2]) h228 rfl rfl rfl rfl (by kernel_rfl) rfl (rn_lookO (a := y59.1) (f := f244) (intKL Try.underlying3) rfl rfl rfl Try.underlying44 filez hM258 hf245) ⟨hB241, hk242, hk243⟩ (fun a259 h259 => ?_); clear h228
      refine d1D 8 h259 rfl rfl (op_storeN rfl rfl rfl (all_cons (row_one hA246.1) (all_cons rfl (all_cons rfl all_nil))) (by kernel_rfl) hk232 rfl) ?_ ?_; clear h259
      ·
       rintro _ w261 ⟨hk262, hz263, hg264⟩
       have hk262' : Blk w261 N230 122 #[f244.1, .int .i64 f244.2.2.1, .bool f244.2.2.2] := hk262; clear hk262
       have hz265 := hg264.size
       have hB266 := fbU_at hB241 hg264 (fun hlt => absurd hlt (by omega))
       have hk267 := hk242.kept hg264 (by simp; omega)
       have hk268 := hk243.kept hg264 (by simp; omega)
       exact ⟨hB266, hk267, hk268⟩
      rintro _ w261 a260 ⟨hk262, hz263, hg264⟩ h260
      have hk262' : Blk w261 N230 122 #[f244.1, .int .i64 f244.2.2.1, .bool f244.2.2.2] := hk262; clear hk262
      have hz265 := hg264.size
      refine dr_done (by kernel_rfl) ?_
      refine co_then ?_
      refine co_seq ?_
      refine co_reg ?_
      refine pk0 (v := pt N230 0) h260 rfl fun a266 h266 => ?_; clear h260
      refine pk (v := f244.1) h266 rfl (rn_load1 rfl rfl Try.isAgg120 (hk262'.cell rfl)) fun a267 h267 => ?_; clear h266
      have hr268 := row_kept_at hA246.1 hg264 (own_neT hA246.1 hk232 (by decide))
      refine pk (v := .int .i64 ((f244.2.1.length : Nat) : Int)) h267 rfl (rn_lenOwn rfl rfl Try.underlying120 hr268) fun a269 h269 => ?_; clear h267
      refine pk0 (v := pt N230 1) h269 rfl fun a270 h270 => ?_; clear h269
      refine pwD h270 rfl (op_store1 rfl rfl rfl rfl Try.sizeOf3 hk262' rfl) ?_; clear h270
      rintro _ w272 a271 ⟨hk273, hz274, hg275⟩ h271
      have hk273' : Blk w272 N230 122 #[f244.1, .int .i64 ((f244.2.1.length : Nat) : Int), .bool f244.2.2.2] := hk273; clear hk273
      have hz276 := hg275.size
      refine pk0 (v := pt N230 2) h271 rfl fun a277 h277 => ?_; clear h271
      refine pwD h277 rfl (op_store1 rfl rfl rfl rfl Try.sizeOf4 hk273' rfl) ?_; clear h277
      rintro _ w279 a278 ⟨hk280, hz281, hg282⟩ h278
      have hk280' : Blk w279 N230 122 #[f244.1, .int .i64 ((f244.2.1.length : Nat) : Int), .bool true] := hk280; clear hk280
      have hz283 := hg282.size
      refine pl_nil ?_
      refine co_then ?_
      refine dr_gen (fun x => But (S) w0 x ∧ Blk x d 47 #[.bool true, .map (some M), pv, .int .i64 s.ser, .int .i64 s.boots] ∧ Blk x N64 124 #[.int .i64 y59.1, .int .i64 y59.2] ∧ Blk x N230 122 #[f244.1, .int .i64 ((f244.2.1.length : Nat) : Int), .bool true]) (by kernel_rfl) (fun w284 hg285 => ?_) (fun w284 hg285 => ?_)
      ·
       have hz286 := hg285.size
       have hB287 := fbU_at hB241 hg264 (fun hlt => absurd hlt (by omega))
       have hB288 := fbU_at hB287 hg275 (fun hlt => absurd hlt (by omega))
       have hB289 := fbU_at hB288 hg282 (fun hlt => absurd hlt (by omega))
       have hB290 := fbU_new hB289 hg285
       have hk291 := hk242.kept hg264 (by simp; omega)
       have hk292 := hk291.kept hg275 (by simp; omega)
       have hk293 := hk292.kept hg282 (by simp; omega)
       have hk294 := hk293.kept hg285 (by simp)
       have hk295 := hk243.kept hg264 (by simp; omega)
       have hk296 := hk295.kept hg275 (by simp; omega)
       have hk297 := hk296.kept hg282 (by simp; omega)
       have hk298 := hk297.kept hg285 (by simp)
       have hk299 := hk280'.kept hg285 (by simp)
       exact ⟨hB290, hk294, hk298, hk299⟩
      have hz300 := hg285.size
      have hB301 := fbU_at hB241 hg264 (fun hlt => absurd hlt (by omega))
      have hB302 := fbU_at hB301 hg275 (fun hlt => absurd hlt (by omega))
      have hB303 := fbU_at hB302 hg282 (fun hlt => absurd hlt (by omega))
      have hB304 := fbU_new hB303 hg285
      have hk305 := hk242.kept hg264 (by simp; omega)
      have hk306 := hk305.kept hg275 (by simp; omega)
      have hk307 := hk306.kept hg282 (by simp; omega)
      have hk308 := hk307.kept hg285 (by simp)
      have hk309 := hk243.kept hg264 (by simp; omega)
      have hk310 := hk309.kept hg275 (by simp; omega)
      have hk311 := hk310.kept hg282 (by simp; omega)
      have hk312 := hk311.kept hg285 (by simp)
      have hk313 := hk280'.kept hg285 (by simp)
      refine dk0 0 (v := pt d 0) h278 rfl rfl ⟨hB304, hk308, hk312, hk313⟩ fun a314 h314 => ?_; clear h278
      refine dk0 1 (v := pt d 0) h314 rfl rfl ⟨hB304, hk308, hk312, hk313⟩ fun a315 h315 => ?_; clear h314
      refine dk0 2 (v := pt d 1) h315 rfl rfl ⟨hB304, hk308, hk312, hk313⟩ fun a316 h316 => ?_; clear h315
      refine dk 3 (v := .map (some M)) h316 rfl rfl ⟨hB304, hk308, hk312, hk313⟩ (fun x hx => (rn_load1 rfl rfl Try.isAgg44 (hx.2.1.cell rfl))) fun a317 h317 => ?_; clear h316
      refine dk0 4 (v := pt N64 0) h317 rfl rfl ⟨hB304, hk308, hk312, hk313⟩ fun a318 h318 => ?_; clear h317
      refine dk 5 (v := .int .i64 y59.1) h318 rfl rfl ⟨hB304, hk308, hk312, hk313⟩ (fun x hx => (rn_load1 rfl rfl Try.isAgg3 (hx.2.2.1.cell rfl))) fun a319 h319 => ?_; clear h318
      refine dk 6 (v := .agg #[f244.1, .int .i64 ((f244.2.1.length : Nat) : Int), .bool true]) h319 rfl rfl ⟨hB304, hk308, hk312, hk313⟩ (fun x hx => (rn_loadN rfl rfl Try.underlying122 rfl (by kernel_rfl) hx.2.2.2.all)) fun a320 h320 => ?_; clear h319
      have hM326 := hM258.kept hg264 (by simp; omega)
      have hM327 := hM326.kept hg275 (by simp; omega)
      have hM328 := hM327.kept hg282 (by simp; omega)
      have hM329 := hM328.kept hg285 (by simp)
      refine d1D 7 h320 rfl rfl (op_updateO (a := y59.1) (v := (f244.1, f244.2.1, ((f244.2.1.length : Nat) : Int), true)) (intKL Try.underlying3) rfl rfl rfl rfl Try.underlying44 hM329) ?_ ?_; clear h320
      ·
       rintro _ w322 ⟨hm323, hz324, hg325⟩
       have hF331 := hF250.blk hk232 (by decide) hg264
       have hF332 := hF331.blk hk262' (by decide) hg275
       have hF333 := hF332.blk hk273' (by decide) hg282
       have hF334 := hF333.new hg285
       have hr335 := row_kept_at hr268 hg275 (own_neT hr268 hk262' (by decide))
       have hr336 := row_kept_at hr335 hg282 (own_neT hr335 hk273' (by decide))
       have hr337 := row_kept_new hr336 hg285
       have hF330 := Fam.put (u := (f244.1)) (l := f244.2.1) (sf := ((f244.2.1.length : Nat) : Int)) (b0 := true) hF334 hf245 hr337 rfl
       have hz338 := hg325.size
       have hl339 := hm323.lt
       have hB340 := fbU_at hB304 hg325 (fun hlt => by rcases hO.sM with hq | hq; exact hq; omega)
       have hk341 := hk308.kept hg325 (by simp; omega)
       have hk342 := hk312.kept hg325 (by simp; omega)
       have hk343 := hk313.kept hg325 (by simp; omega)
       exact ⟨hB340, hk341, hk342, hk343⟩
      rintro _ w322 a321 ⟨hm323, hz324, hg325⟩ h321
      have hF331 := hF250.blk hk232 (by decide) hg264
      have hF332 := hF331.blk hk262' (by decide) hg275
      have hF333 := hF332.blk hk273' (by decide) hg282
      have hF334 := hF333.new hg285
      have hr335 := row_kept_at hr268 hg275 (own_neT hr268 hk262' (by decide))
      have hr336 := row_kept_at hr335 hg282 (own_neT hr335 hk273' (by decide))
      have hr337 := row_kept_new hr336 hg285
      have hF330 := Fam.put (u := (f244.1)) (l := f244.2.1) (sf := ((f244.2.1.length : Nat) : Int)) (b0 := true) hF334 hf245 hr337 rfl
      have hz338 := hg325.size
      have hl339 := hm323.lt
      refine dr_done (by kernel_rfl) ?_
      refine co_blockN ?_
      refine co_then ?_
      refine co_reg ?_
      refine pk (v := .int .i64 ((i + 1 : Nat) : Int)) h321 rfl (rn_arith' rfl rfl rfl rfl rfl rfl (IntWalk.i64_in _ (by omega)) (by omega)) fun a340 h340 => ?_; clear h321
      refine pk0 (v := .int .i64 ((i + 1 : Nat) : Int)) h340 rfl fun a341 h341 => ?_; clear h340
      refine pl_nil ?_
      refine co_then ?_
      refine ⟨(s.ps.length - (i + 1)), by omega, ?_⟩
      have hrl' : ∀ k, ((fun b => if b = y59.1 then some (f244.1, f244.2.1, ((f244.2.1.length : Nat) : Int), true) else g1 b) k).map (·.2) = synF s.fm (s.ps.take (i + 1)) k := by rw [synF_at hy59, ← hgf252]; exact putF_eq hrl
      have hr342 := row_kept_new hr238 hg231
      have hr343 := row_kept_at hr342 hg264 (ha235)
      have hr344 := row_kept_at hr343 hg275 (ha235)
      have hr345 := row_kept_at hr344 hg282 (ha235)
      have hr346 := row_kept_new hr345 hg285
      have hr347 := row_kept_at hr346 hg325 (hM329.row hr346)
      have hF348 := hF330.map hM329 hg325
      have hB349 := fbU_at hB304 hg325 (fun hlt => by rcases hO.sM with hq | hq; exact hq; omega)
      have hk350 := hk308.kept hg325 (by simp; omega)
      exact ⟨i + 1, (fun b => if b = y59.1 then some (f244.1, f244.2.1, ((f244.2.1.length : Nat) : Int), true) else g1 b), c1 + 1, h341.sub ⟨rfl, rfl, rfl, rfl, rfl, trivial⟩, rfl, by omega, by omega, by first | exact hrl' | exact hO.rel, (fun_eq hm323 (by first | rfl | (funext b; rfl)) (by omega)), hr347, hF348, hB349, hk350⟩
set_option maxRecDepth 100000 in
theorem dData_any (w0 : World) (S : Nat → Prop) (d : Nat) (M : Nat) (pv : Value) (g : Int → Option FileG) (c : Nat) (s : DkS) (number : Int) (w : World) (hbw : But S w0 w) (hO : DkP S w0.heap.size w d M pv g c s) :
    Calls Try.prog 19 #[pt d 0, .int .i64 number] w fun e w' => e = .returned (.string (datF s.fm number)) ∧ DkP S w0.heap.size w' d M pv g c s ∧ But (S) w0 w' := by
 have hB0 := hbw
 have hz0 := hbw.size
 have hz0 := hbw.size
 have hl1 := hO.blk.lt
 have hl2 := hO.map.lt
 have hne3 := blk_ne_map hO.blk hO.map
 have hl4 := sl_len (row_sl hO.row pieceE_len)
 refine co_enter (n := 15) Try.func19 rfl rfl rfl [(0, pt d 0), (1, .int .i64 number)] rfl (fun a h0 => ?_)
 refine co_seq ?_
 refine co_reg ?_
 refine pk0 (v := .string (⟨#[]⟩)) h0 rfl fun a5 h5 => ?_; clear h0
 refine pl_nil ?_
 refine co_then ?_
 refine co_seq ?_
 refine co_seq ?_
 refine co_reg ?_
 refine pk0 (v := pt d 0) h5 rfl fun a6 h6 => ?_; clear h5
 refine pw h6 rfl (op_call (args := #[pt d 0]) (R := fun res xw => res = .bool false ∧ w = xw) rfl rfl rfl (by kernel_rfl) (by kernel_rfl) (Try.call80 _ _) (dzero_any d M pv s.ser s.boots w hO.blk) (by rintro e x ⟨rfl, rfl⟩; exact ⟨_, rfl, ⟨rfl, rfl⟩⟩)) ?_; clear h6
 rintro _ _ a7 ⟨rfl, rfl⟩ h7
 refine pl_nil ?_
 refine co_then ?_
 refine co_false h7 rfl ?_
 refine wp_skip ?_
 refine co_then ?_
 refine co_seq ?_
 refine co_reg ?_
 refine pk0 (v := pt d 0) h7 rfl fun a10 h10 => ?_; clear h7
 refine pk0 (v := pt d 0) h10 rfl fun a11 h11 => ?_; clear h10
 refine pk0 (v := pt d 1) h11 rfl fun a12 h12 => ?_; clear h11
 refine pk (v := .map (some M)) h12 rfl (rn_load1 rfl rfl Try.isAgg44 (hO.blk.cell rfl)) fun a13 h13 => ?_; clear h12
 refine pk0 (v := .int .i64 number) h13 rfl fun a14 h14 => ?_; clear h13
 obtain ⟨f15, hf16⟩ : ∃ z, (g number).getD fz = z := ⟨_, rfl⟩
 have hA17 := hO.fam.at hf16
 have hl18 := sl_len (row_sl hA17.1 u8E_len)
 have hgf19 := getF_eq hO.rel hf16
 have hgl20 : f15.2.1.length = (getF s.fm number).1.length := by rw [hgf19]
 have hgs21 : f15.2.2.1 = (getF s.fm number).2.1 := by rw [hgf19]
 refine pk (v := .agg #[f15.1, .int .i64 f15.2.2.1, .bool f15.2.2.2]) h14 rfl (rn_lookO (a := number) (f := f15) (intKL Try.underlying3) rfl rfl rfl Try.underlying44 filez hO.map hf16) fun a22 h22 => ?_; clear h14
 refine pk0 (v := f15.1) h22 rfl fun a23 h23 => ?_; clear h22
 refine pk (v := .string (⟨f15.2.1.toArray⟩)) h23 rfl (rn_convOwn rfl rfl Try.underlying120 Try.underlying5 Try.underlying9 hA17.1) fun a24 h24 => ?_; clear h23
 refine pk0 (v := .string (⟨f15.2.1.toArray⟩)) h24 rfl fun a25 h25 => ?_; clear h24
 refine pl_nil ?_
 refine co_then ?_
 refine wp_ret ?_
 refine co_ret1 h25 rfl rfl ?_
 exact ⟨by unfold datF; rw [← hgf19], ⟨hO.blk, hO.map, hO.row, hO.fam, hO.sd, hO.sM, hO.sp, hO.rel⟩, hB0⟩
set_option maxRecDepth 100000 in
theorem dSerial_any (d : Nat) (M : Nat) (pv : Value) (ser : Int) (boots : Int) (w : World) (hD : Blk w d 47 #[.bool true, .map (some M), pv, .int .i64 ser, .int .i64 boots]) :
    Calls Try.prog 30 #[pt d 0] w fun e w' => e = .returned (.int .i64 ser) ∧ w = w' := by
 have hB0 := Below.refl w.heap.size w
 have hl_hD := hD.lt
 refine co_enter (n := 9) Try.func30 rfl rfl rfl [(0, pt d 0)] rfl (fun a h0 => ?_)
 refine co_seq ?_
 refine co_reg ?_
 refine pk0 (v := .int .i64 0) h0 rfl fun a1 h1 => ?_; clear h0
 refine pl_nil ?_
 refine co_then ?_
 refine co_seq ?_
 refine co_seq ?_
 refine co_reg ?_
 refine pk0 (v := pt d 0) h1 rfl fun a2 h2 => ?_; clear h1
 refine pw h2 rfl (op_call (args := #[pt d 0]) (R := fun res xw => res = .bool false ∧ w = xw) rfl rfl rfl (by kernel_rfl) (by kernel_rfl) (Try.call80 _ _) (dzero_any d M pv ser boots w hD) (by rintro e x ⟨rfl, rfl⟩; exact ⟨_, rfl, ⟨rfl, rfl⟩⟩)) ?_; clear h2
 rintro _ _ a3 ⟨rfl, rfl⟩ h3
 refine pl_nil ?_
 refine co_then ?_
 refine co_false h3 rfl ?_
 refine wp_skip ?_
 refine co_then ?_
 refine co_seq ?_
 refine co_reg ?_
 refine pk0 (v := pt d 0) h3 rfl fun a6 h6 => ?_; clear h3
 refine pk0 (v := pt d 0) h6 rfl fun a7 h7 => ?_; clear h6
 refine pk0 (v := pt d 3) h7 rfl fun a8 h8 => ?_; clear h7
 refine pk (v := .int .i64 ser) h8 rfl (rn_load1 rfl rfl Try.isAgg3 (hD.cell rfl)) fun a9 h9 => ?_; clear h8
 refine pk0 (v := .int .i64 ser) h9 rfl fun a10 h10 => ?_; clear h9
 refine pl_nil ?_
 refine co_then ?_
 refine wp_ret ?_
 refine co_ret1 h10 rfl rfl ?_
 exact ⟨rfl, rfl⟩
set_option maxRecDepth 100000 in
theorem dBoots_any (d : Nat) (M : Nat) (pv : Value) (ser : Int) (boots : Int) (w : World) (hD : Blk w d 47 #[.bool true, .map (some M), pv, .int .i64 ser, .int .i64 boots]) :
    Calls Try.prog 31 #[pt d 0] w fun e w' => e = .returned (.int .i64 boots) ∧ w = w' := by
 have hB0 := Below.refl w.heap.size w
 have hl_hD := hD.lt
 refine co_enter (n := 9) Try.func31 rfl rfl rfl [(0, pt d 0)] rfl (fun a h0 => ?_)
 refine co_seq ?_
 refine co_reg ?_
 refine pk0 (v := .int .i64 0) h0 rfl fun a1 h1 => ?_; clear h0
 refine pl_nil ?_
 refine co_then ?_
 refine co_seq ?_
 refine co_seq ?_
 refine co_reg ?_
 refine pk0 (v := pt d 0) h1 rfl fun a2 h2 => ?_; clear h1
 refine pw h2 rfl (op_call (args := #[pt d 0]) (R := fun res xw => res = .bool false ∧ w = xw) rfl rfl rfl (by kernel_rfl) (by kernel_rfl) (Try.call80 _ _) (dzero_any d M pv ser boots w hD) (by rintro e x ⟨rfl, rfl⟩; exact ⟨_, rfl, ⟨rfl, rfl⟩⟩)) ?_; clear h2
 rintro _ _ a3 ⟨rfl, rfl⟩ h3
 refine pl_nil ?_
 refine co_then ?_
 refine co_false h3 rfl ?_
 refine wp_skip ?_
 refine co_then ?_
 refine co_seq ?_
 refine co_reg ?_
 refine pk0 (v := pt d 0) h3 rfl fun a6 h6 => ?_; clear h3
 refine pk0 (v := pt d 0) h6 rfl fun a7 h7 => ?_; clear h6
 refine pk0 (v := pt d 4) h7 rfl fun a8 h8 => ?_; clear h7
 refine pk (v := .int .i64 boots) h8 rfl (rn_load1 rfl rfl Try.isAgg3 (hD.cell rfl)) fun a9 h9 => ?_; clear h8
 refine pk0 (v := .int .i64 boots) h9 rfl fun a10 h10 => ?_; clear h9
 refine pl_nil ?_
 refine co_then ?_
 refine wp_ret ?_
 refine co_ret1 h10 rfl rfl ?_
 exact ⟨rfl, rfl⟩
end Go.Proofs.Ytcnahhobppnbbaa
