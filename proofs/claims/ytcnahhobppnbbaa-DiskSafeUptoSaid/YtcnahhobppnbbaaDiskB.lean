/- Package disk: forget, Pending, Sync, Data, Serial, Boots. Conditions: sums of less than 10^12. -/
import Derived.Test.YtcnahhobppnbbaaDiskA
namespace Go.Proofs.Ytcnahhobppnbbaa
open Go.RowKit Go.PlainAid
set_option linter.unusedVariables false


def sumP (l : List PcT) : Int := l.foldl (fun n p => n + p.2) 0
theorem takeD_at {α : Type} {l : List α} {i : Nat} {y : α} (h : l[i]? = some y) : l.take (i + 1) = l.take i ++ [y] := by rw [List.take_add_one, h]; rfl
theorem sumP_snoc (l : List PcT) (p : PcT) : sumP (l ++ [p]) = sumP l + p.2 := by unfold sumP; rw [List.foldl_append]; rfl
theorem sumP_at {l : List PcT} {i : Nat} {y : PcT} (h : l[i]? = some y) : sumP (l.take (i + 1)) = sumP (l.take i) + y.2 := by rw [takeD_at h, sumP_snoc]
def synF (fm : Int → Option FileM) (ps : List PcT) : Int → Option FileM := ps.foldl (fun fm p => putF fm p.1 ((getF fm p.1).1, ((getF fm p.1).1.length : Int), true)) fm
theorem synF_at {fm : Int → Option FileM} {l : List PcT} {i : Nat} {y : PcT} (h : l[i]? = some y) : synF fm (l.take (i + 1)) = putF (synF fm (l.take i)) y.1 ((getF (synF fm (l.take i)) y.1).1, ((getF (synF fm (l.take i)) y.1).1.length : Int), true) := by
  rw [takeD_at h]; unfold synF; rw [List.foldl_append]; rfl
def synS (s : DkS) : DkS := ⟨synF s.fm s.ps, [], s.ser, s.boots⟩
def forS (s : DkS) : DkS := ⟨s.fm, [], s.ser, s.boots⟩
def datF (fm : Int → Option FileM) (k : Int) : ByteArray := ⟨(getF fm k).1.toArray⟩
/-- ys are the files' numbers, rising. -/
def KeysF (fm : Int → Option FileM) (ys : List Int) : Prop := ys.Pairwise (· < ·) ∧ ∀ k, k ∈ ys ↔ (fm k).isSome = true
theorem fun_eq {g g2 : Int → Option FileG} {w : World} {M c c2 : Nat} (h : MapO intK fileV w M g c) (e : g = g2) (hc : c ≤ c2) : MapO intK fileV w M g2 c2 := h.eq e hc
theorem perm_snoc {α : Type} {A L1 L2 : List α} {p : α} {lt : List α} {ls : List α} (h : (A ++ ls).Perm lt) (e : ls = L1 ++ p :: L2) : ((A ++ [p]) ++ (L1 ++ L2)).Perm lt := by
  subst e
  refine List.Perm.trans ?_ h
  rw [List.append_assoc]
  exact List.Perm.append_left A (by rw [List.singleton_append]; exact List.perm_middle.symm)
theorem keys_of {g : Int → Option FileG} {fm : Int → Option FileM} (hr : ∀ k, (g k).map (·.2) = fm k) {lt : List (Int × FileG)} (hf : Full g lt) {ks : List Int} (hp : (ks ++ ([] : List (Int × FileG)).map (·.1)).Perm (lt.map (·.1))) : KeysF fm (srt ks) := by
  have hp' : ks.Perm (lt.map (·.1)) := by simpa using hp
  constructor
  · have hn : (srt ks).Nodup := (srt_perm ks).symm.nodup (hp'.symm.nodup hf.1)
    exact List.Pairwise.imp₂ (fun {a b} h1 h2 => by have h3 : a ≤ b := h1; have h4 : a ≠ b := h2; omega) (srt_up ks) hn
  · intro k
    rw [srt_mem, hp'.mem_iff, List.mem_map]
    rw [← hr k]
    constructor
    · rintro ⟨q, hq, rfl⟩
      have := (hf.2 q.1 q.2).2 hq
      rw [this]; rfl
    · intro h
      cases hg : g k with
      | none => rw [hg] at h; cases h
      | some f => exact ⟨(k, f), (hf.2 k f).1 hg, rfl⟩

set_option maxRecDepth 100000 in
theorem dforget_any (w0 : World) (S : Nat → Prop) (d : Nat) (M : Nat) (pv : Value) (g : Int → Option FileG) (c : Nat) (s : DkS) (w : World) (hbw : But S w0 w) (hO : DkP S w0.heap.size w d M pv g c s) :
    Calls Try.prog 81 #[pt d 0] w fun e w' => ∃ (pv' : Value), e = .returned (.tuple #[]) ∧ DkP S w0.heap.size w' d M pv' g c (forS s) ∧ But (S) w0 w' := by
 have hB0 := hbw
 have hz0 := hbw.size
 have hz0 := hbw.size
 have hl1 := hO.blk.lt
 have hl2 := hO.map.lt
 have hne3 := blk_ne_map hO.blk hO.map
 have hl4 := sl_len (row_sl hO.row pieceE_len)
 refine co_enter (n := 14) Try.func81 rfl rfl rfl [(0, pt d 0)] rfl (fun a h0 => ?_)
 refine co_seq ?_
 refine co_reg ?_
 refine pk0 (v := pt d 0) h0 rfl fun a5 h5 => ?_; clear h0
 refine pk0 (v := pt d 0) h5 rfl fun a6 h6 => ?_; clear h5
 refine pk0 (v := pt d 2) h6 rfl fun a7 h7 => ?_; clear h6
 refine pk (v := pv) h7 rfl (rn_load1 rfl rfl Try.isAgg45 (hO.blk.cell rfl)) fun a8 h8 => ?_; clear h7
 refine pwD h8 rfl (op_clearRow (z := .agg #[.int .i64 0, .int .i64 0]) rfl rfl Try.underlying45 (fun w => by kernel_rfl) (by rfl) zone_pieceE hO.row) ?_; clear h8
 rintro _ w10 a9 ⟨hr11, hg12⟩ h9
 have hz13 := hg12.size
 have hr14 := zrow_pieceE hr11
 refine pl_nil ?_
 refine co_then ?_
 refine co_reg ?_
 refine pk0 (v := pt d 0) h9 rfl fun a15 h15 => ?_; clear h9
 refine pk0 (v := pt d 0) h15 rfl fun a16 h16 => ?_; clear h15
 refine pk0 (v := pt d 0) h16 rfl fun a17 h17 => ?_; clear h16
 refine pk0 (v := pt d 2) h17 rfl fun a18 h18 => ?_; clear h17
 have hk19 := hO.blk.kept hg12 (own_neT hO.row hO.blk (by decide))
 refine pk (v := pv) h18 rfl (rn_load1 rfl rfl Try.isAgg45 (hk19.cell rfl)) fun a20 h20 => ?_; clear h18
 have hr21 := row_cut hr14 pieceE_len 0 (by omega) (.inr trivial)
 refine pk (v := subV pv 0 0 2) h20 rfl (rn_sliceTo rfl rfl rfl Try.underlying45 Try.sizeOf124 (row_sl hr14 pieceE_len) (by omega) (by omega)) fun a22 h22 => ?_; clear h20
 refine pk0 (v := pt d 0) h22 rfl fun a23 h23 => ?_; clear h22
 refine pk0 (v := pt d 2) h23 rfl fun a24 h24 => ?_; clear h23
 refine pwD h24 rfl (op_store1 rfl rfl rfl (row_one hr21) Try.sizeOf45 hk19 rfl) ?_; clear h24
 rintro _ w26 a25 ⟨hk27, hz28, hg29⟩ h25
 have hk27' : Blk w26 d 47 #[.bool true, .map (some M), subV pv 0 0 2, .int .i64 s.ser, .int .i64 s.boots] := hk27; clear hk27
 have hz30 := hg29.size
 refine pl_nil ?_
 refine co_ret0n h25 rfl ?_
 have hM31 := hO.map.kept hg12 (hO.map.row hO.row)
 have hM32 := hM31.kept hg29 (by simp; omega)
 have hr33 := row_kept_at hr21 hg29 (own_neT hr21 hk19 (by decide))
 have hF34 := hO.fam.row hO.row (by decide) hg12
 have hF35 := hF34.blk hk19 (by decide) hg29
 have hB36 := fbU_row hB0 hO.sp hg12
 have hB37 := fbU_at hB36 hg29 (fun hlt => by rcases hO.sd with hq | hq; exact hq; omega)
 exact ⟨_, rfl, ⟨hk27', hM32, (row_eq hr33 (show _ = ([] : List PcT) from by simp)), hF35, hO.sd, hO.sM, (fun i hi => hO.sp i ((cut_block hr14 0) ▸ hi)), hO.rel⟩, hB37⟩
set_option maxRecDepth 100000 in
theorem dPending_any (d : Nat) (M : Nat) (pv : Value) (ser : Int) (boots : Int) (l : List PcT) (w : World) (hD : Blk w d 47 #[.bool true, .map (some M), pv, .int .i64 ser, .int .i64 boots]) (hs : SliceOf pieceE 2 w pv l) (hyy : ∀ z ∈ l, (fun _ => True) z) (hsb : ∀ i, 0 ≤ sumP (l.take i) ∧ sumP (l.take i) ≤ 1000000000000) :
    Calls Try.prog 24 #[pt d 0] w fun e w' => e = .returned (.int .i64 (sumP l)) ∧ Below w.heap.size w w' := by
 have hB0 := Below.refl w.heap.size w
 have hl_hD := hD.lt
 have hl_hs := sl_len hs
 refine co_enter (n := 23) Try.func24 rfl rfl rfl [(0, pt d 0)] rfl (fun a h0 => ?_)
 refine co_seq ?_
 refine co_reg ?_
 refine pk0 (v := .int .i64 0) h0 rfl fun a1 h1 => ?_; clear h0
 refine pl_nil ?_
 refine co_then ?_
 refine co_seq ?_
 refine co_seq ?_
 refine co_reg ?_
 refine pk0 (v := pt d 0) h1 rfl fun a2 h2 => ?_; clear h1
 refine pw h2 rfl (op_call (args := #[pt d 0]) (R := fun res xw => res = .bool false ∧ w = xw) rfl rfl rfl (by kernel_rfl) (by kernel_rfl) (Try.call80 _ _) (dzero_any d M pv ser boots w hD) (by rintro e x ⟨rfl, rfl⟩; exact ⟨_, rfl, ⟨rfl, rfl⟩⟩)) ?_; clear h2
 rintro _ _ a3 ⟨rfl, rfl⟩ h3
 refine pl_nil ?_
 refine co_then ?_
 refine co_false h3 rfl ?_
 refine wp_skip ?_
 refine co_then ?_
 refine co_seq ?_
 refine co_reg ?_
 refine pk0 (v := .int .i64 0) h3 rfl fun a6 h6 => ?_; clear h3
 refine pl_nil ?_
 refine co_then ?_
 refine co_seq ?_
 refine co_seq ?_
 refine co_reg ?_
 refine pk0 (v := pt d 0) h6 rfl fun a7 h7 => ?_; clear h6
 refine pk0 (v := pt d 0) h7 rfl fun a8 h8 => ?_; clear h7
 refine pk0 (v := pt d 2) h8 rfl fun a9 h9 => ?_; clear h8
 refine pk (v := pv) h9 rfl (rn_load1 rfl rfl Try.isAgg45 (hD.cell rfl)) fun a10 h10 => ?_; clear h9
 refine pk (v := .int .i64 ((l.length : Nat) : Int)) h10 rfl (rn_len rfl rfl Try.underlying45 hs) fun a11 h11 => ?_; clear h10
 refine pk0 (v := .int .i64 0) h11 rfl fun a12 h12 => ?_; clear h11
 refine pl_nil ?_
 refine co_then ?_
 refine wp_block ?_
 have h13 : Slots 23 [(0, pt d 0), (3, .int .i64 0), (11, pv), (12, .int .i64 ((l.length : Nat) : Int)), (13, .int .i64 0)] _ := h12.sub ⟨rfl, rfl, rfl, rfl, rfl, trivial⟩; clear h12
 refine co_loop (fun mm a x => ∃ (i : Nat), Slots 23 [(0, pt d 0), (3, .int .i64 (sumP (l.take i))), (11, pv), (12, .int .i64 ((l.length : Nat) : Int)), (13, .int .i64 ((i : Nat) : Int))] a ∧ mm = l.length - i ∧ (i ≤ l.length) ∧ Below w.heap.size w x ∧ Blk x d 47 #[.bool true, .map (some M), pv, .int .i64 ser, .int .i64 boots]) (l.length - 0) ?_ ?_
 · exact ⟨0, h13.sub ⟨rfl, (slot_eq rfl (congrArg (Value.int .i64) (by first | rfl | (rw [sumP_at (by assumption)])))), rfl, rfl, (slot_eq rfl (congrArg (Value.int .i64) (by first | rfl | omega))), trivial⟩, rfl, by omega, hB0, hD⟩
 · rintro k14 a15 w16 ⟨i, h15, rfl, hi17, hB18, hk19⟩
   have hz20 := hB18.size
   have hl21 := hk19.lt
   have hsb1 := hsb i
   have hsb2 := hsb (i + 1)
   refine co_seq ?_
   refine co_reg ?_
   refine pk0 (v := .bool (decide (((i : Nat) : Int) < ((l.length : Nat) : Int)))) h15 rfl fun a22 h22 => ?_; clear h15
   refine pl_nil ?_
   refine co_then ?_
   refine co_seq ?_
   cases hc23 : (decide (((i : Nat) : Int) < ((l.length : Nat) : Int)))
   ·
    rw [hc23] at h22
    have hp24 : ¬ (((i : Nat) : Int) < ((l.length : Nat) : Int)) := of_decide_eq_false hc23
    clear hc23
    refine co_false h22 rfl ?_
    refine wp_exit ?_
    refine co_thenX ?_
    refine co_thenX ?_
    refine co_blockX ?_
    refine co_then ?_
    refine co_seq ?_
    refine co_reg ?_
    refine pk0 (v := .int .i64 (sumP (l.take i))) h22 rfl fun a25 h25 => ?_; clear h22
    refine pk0 (v := .int .i64 (sumP (l.take i))) h25 rfl fun a26 h26 => ?_; clear h25
    refine pl_nil ?_
    refine co_then ?_
    refine wp_ret ?_
    refine co_ret1 h26 rfl rfl ?_
    exact ⟨by rw [List.take_of_length_le (by omega)], hB18⟩
   ·
    rw [hc23] at h22
    have hp27 : ((i : Nat) : Int) < ((l.length : Nat) : Int) := of_decide_eq_true hc23
    clear hc23
    refine co_true h22 rfl ?_
    refine wp_skip ?_
    refine co_then ?_
    refine co_seq ?_
    refine wp_block ?_
    refine co_seq ?_
    refine co_reg ?_
    obtain ⟨y28, hy28⟩ : ∃ z, l[i]? = some z := ⟨_, List.getElem?_eq_getElem (by first | omega | (simp; done) | (simp; omega))⟩
    have oky28 := hyy _ (List.mem_of_getElem? hy28)
    have hsa := sumP_at hy28
    refine pk (v := pt (blkOf pv) (offOf pv + i * 2)) h22 rfl (rn_index rfl rfl rfl Try.underlying45 Try.sizeOf124 (hs.below hB18) (by omega) (by first | omega | (simp; done) | (simp; omega))) fun a29 h29 => ?_; clear h22
    refine pk (v := .agg #[.int .i64 y28.1, .int .i64 y28.2]) h29 rfl (rn_loadN rfl rfl Try.underlying124 rfl (by kernel_rfl) (sl_at (hs.below hB18) hy28)) fun a30 h30 => ?_; clear h29
    refine pw h30 rfl (op_new (v := fun N => pt N 0) (T := 124) (cs := #[.int .i64 0, .int .i64 0]) (by kernel_rfl) (by kernel_rfl) (by kernel_rfl)) ?_; clear h30
    rintro _ w32 a31 ⟨N33, rfl, hN36, hz37, hk35, hg34⟩ h31
    have hz38 := hg34.size
    try dsimp only at h31
    refine pwD h31 rfl (op_storeN rfl rfl rfl (by kernel_rfl) (by kernel_rfl) hk35 rfl) ?_; clear h31
    rintro _ w40 a39 ⟨hk41, hz42, hg43⟩ h39
    have hk41' : Blk w40 N33 124 #[.int .i64 y28.1, .int .i64 y28.2] := hk41; clear hk41
    have hz44 := hg43.size
    refine pl_nil ?_
    refine co_then ?_
    refine co_reg ?_
    refine pk0 (v := .int .i64 (sumP (l.take i))) h39 rfl fun a45 h45 => ?_; clear h39
    refine pk0 (v := pt N33 1) h45 rfl fun a46 h46 => ?_; clear h45
    refine pk (v := .int .i64 y28.2) h46 rfl (rn_load1 rfl rfl Try.isAgg3 (hk41'.cell rfl)) fun a47 h47 => ?_; clear h46
    refine pk (v := .int .i64 ((sumP (l.take i)) + y28.2)) h47 rfl (rn_arith rfl rfl rfl rfl rfl rfl (IntWalk.i64_in _ (by omega))) fun a48 h48 => ?_; clear h47
    refine pk0 (v := .int .i64 ((sumP (l.take i)) + y28.2)) h48 rfl fun a49 h49 => ?_; clear h48
    refine pl_nil ?_
    refine co_blockN ?_
    refine co_then ?_
    refine co_reg ?_
    refine pk (v := .int .i64 ((i + 1 : Nat) : Int)) h49 rfl (rn_arith' rfl rfl rfl rfl rfl rfl (IntWalk.i64_in _ (by omega)) (by omega)) fun a50 h50 => ?_; clear h49
    refine pk0 (v := .int .i64 ((i + 1 : Nat) : Int)) h50 rfl fun a51 h51 => ?_; clear h50
    refine pl_nil ?_
    refine co_then ?_
    refine ⟨(l.length - (i + 1)), by omega, ?_⟩
    have hB52 := hb_new hB18 hg34
    have hB53 := hb_at hB52 hg43 (by omega)
    have hk54 := hk19.kept hg34 (by simp)
    have hk55 := hk54.kept hg43 (by simp; omega)
    exact ⟨i + 1, h51.sub ⟨rfl, (slot_eq rfl (congrArg (Value.int .i64) (by first | rfl | (rw [sumP_at (by assumption)])))), rfl, rfl, rfl, trivial⟩, rfl, by omega, hB53, hk55⟩
set_option maxRecDepth 100000 in
theorem dSync_any (w0 : World) (S : Nat → Prop) (d : Nat) (M : Nat) (pv : Value) (g : Int → Option FileG) (c : Nat) (s : DkS) (w : World) (hbw : But S w0 w) (hO : DkP S w0.heap.size w d M pv g c s) (hsb : ∀ i, 0 ≤ sumP (s.ps.take i) ∧ sumP (s.ps.take i) ≤ 1000000000000) :
    Calls Try.prog 22 #[pt d 0] w fun e w' => ∃ (pv' : Value) (g' : Int → Option FileG) (c' : Nat), e = .returned (.int .i64 (sumP s.ps)) ∧ DkP S w0.heap.size w' d M pv' g' c' (synS s) ∧ c' ≤ c + s.ps.length ∧ But (S) w0 w' := by
 have hB0 := hbw
 have hz0 := hbw.size
 have hz0 := hbw.size
 have hl1 := hO.blk.lt
 have hl2 := hO.map.lt
 have hne3 := blk_ne_map hO.blk hO.map
 have hl4 := sl_len (row_sl hO.row pieceE_len)
 refine co_enter (n := 43) Try.func22 rfl rfl rfl [(0, pt d 0)] rfl (fun a h0 => ?_)
 refine co_seq ?_
 refine co_reg ?_
 refine pk0 (v := .int .i64 0) h0 rfl fun a5 h5 => ?_; clear h0
 refine pl_nil ?_
 refine co_then ?_
 refine co_seq ?_
 refine co_seq ?_
 refine co_reg ?_
 refine pk0 (v := pt d 0) h5 rfl fun a6 h6 => ?_; clear h5
 refine pw h6 rfl (op_call (args := #[pt d 0]) (R := fun res xw => res = .bool false ∧ w = xw) rfl rfl rfl (by kernel_rfl) (by kernel_rfl) (Try.call80 _ _) (dzero_any d M pv s.ser s.boots w hO.blk) (by rintro e x ⟨rfl, rfl⟩; exact ⟨_, rfl, ⟨rfl, rfl⟩⟩)) ?_; clear h6
 rintro _ _ a7 ⟨rfl, rfl⟩ h7
 refine pl_nil ?_
 refine co_then ?_
 refine co_false h7 rfl ?_
 refine wp_skip ?_
 refine co_then ?_
 refine co_seq ?_
 refine co_reg ?_
 refine pk0 (v := pt d 0) h7 rfl fun a10 h10 => ?_; clear h7
 refine pw h10 rfl (op_call (args := #[pt d 0]) (R := fun res xw => res = .int .i64 (sumP s.ps) ∧ Below w.heap.size w xw) rfl rfl rfl (by kernel_rfl) (by kernel_rfl) (Try.call24 _ _) (dPending_any d M pv s.ser s.boots s.ps w hO.blk (row_sl hO.row pieceE_len) (fun _ _ => trivial) hsb) (by rintro e x ⟨rfl, hb13⟩; exact ⟨_, rfl, ⟨rfl, hb13⟩⟩)) ?_; clear h10
 rintro _ w12 a11 ⟨rfl, hb13⟩ h11
 have hz14 := hb13.size
 refine pk0 (v := .int .i64 (sumP s.ps)) h11 rfl fun a15 h15 => ?_; clear h11
 refine pl_nil ?_
 refine co_then ?_
 refine co_seq ?_
 refine co_seq ?_
 refine co_reg ?_
 refine pk0 (v := pt d 0) h15 rfl fun a16 h16 => ?_; clear h15
 refine pk0 (v := pt d 0) h16 rfl fun a17 h17 => ?_; clear h16
 refine pk0 (v := pt d 2) h17 rfl fun a18 h18 => ?_; clear h17
 have hk19 := hO.blk.below hb13
 refine pk (v := pv) h18 rfl (rn_load1 rfl rfl Try.isAgg45 (hk19.cell rfl)) fun a20 h20 => ?_; clear h18
 have hr21 := row_kept_new hO.row (below_grown hb13)
 refine pk (v := .int .i64 ((s.ps.length : Nat) : Int)) h20 rfl (rn_lenOwn rfl rfl Try.underlying45 hr21) fun a22 h22 => ?_; clear h20
 refine pk0 (v := .int .i64 0) h22 rfl fun a23 h23 => ?_; clear h22
 refine pl_nil ?_
 refine co_then ?_
 refine wp_block ?_
 have h24 : Slots 43 [(0, pt d 0), (3, .int .i64 (sumP s.ps)), (14, pv), (15, .int .i64 ((s.ps.length : Nat) : Int)), (16, .int .i64 0)] _ := h23.sub ⟨rfl, rfl, rfl, rfl, rfl, trivial⟩; clear h23
 refine co_loop (fun mm a x => ∃ (i : Nat) (g1 : Int → Option FileG) (c1 : Nat), Slots 43 [(0, pt d 0), (3, .int .i64 (sumP s.ps)), (14, pv), (15, .int .i64 ((s.ps.length : Nat) : Int)), (16, .int .i64 ((i : Nat) : Int))] a ∧ mm = s.ps.length - i ∧ (i ≤ s.ps.length) ∧ (c1 ≤ c + i) ∧ (∀ k, (g1 k).map (·.2) = synF s.fm (s.ps.take i) k) ∧ MapO intK fileV x M g1 c1 ∧ x.ownsRow 0 124 2 pv s.ps.length (s.ps.flatMap pieceE) ∧ Fam S w0.heap.size x g1 ∧ But (S) w0 x ∧ Blk x d 47 #[.bool true, .map (some M), pv, .int .i64 s.ser, .int .i64 s.boots]) (s.ps.length - 0) ?_ ?_
 have hM25 := hO.map.kept (below_grown hb13) (by simp)
 have hF26 := hO.fam.new (below_grown hb13)
 have hB27 := fbU_call hB0 hb13
 · exact ⟨0, g, c, h24.sub ⟨rfl, rfl, rfl, rfl, (slot_eq rfl (congrArg (Value.int .i64) (by first | rfl | omega))), trivial⟩, rfl, by omega, by omega, by first | exact hrl' | exact hO.rel, (fun_eq hM25 (by first | rfl | (funext b; rfl)) (by omega)), hr21, hF26, hB27, hk19⟩
 · rintro k28 a29 w30 ⟨i, g1, c1, h29, rfl, hi31, hi32, hi33, hf34, hf35, hf36, hB37, hk38⟩
   have hz39 := hB37.size
   have hl40 := hk38.lt
   have hl41 := hf34.lt
   have hrl : ∀ k, (g1 k).map (·.2) = synF s.fm (s.ps.take i) k := by assumption
   refine co_seq ?_
   refine co_reg ?_
   refine pk0 (v := .bool (decide (((i : Nat) : Int) < ((s.ps.length : Nat) : Int)))) h29 rfl fun a42 h42 => ?_; clear h29
   refine pl_nil ?_
   refine co_then ?_
   refine co_seq ?_
   cases hc43 : (decide (((i : Nat) : Int) < ((s.ps.length : Nat) : Int)))
   ·
    rw [hc43] at h42
    have hp44 : ¬ (((i : Nat) : Int) < ((s.ps.length : Nat) : Int)) := of_decide_eq_false hc43
    clear hc43
    refine co_false h42 rfl ?_
    refine wp_exit ?_
    refine co_thenX ?_
    refine co_thenX ?_
    refine co_blockX ?_
    refine co_then ?_
    refine co_seq ?_
    refine co_reg ?_
    refine pk0 (v := pt d 0) h42 rfl fun a45 h45 => ?_; clear h42
    have hrz : ∀ k, (g1 k).map (·.2) = synF s.fm s.ps k := by have := hrl; rwa [List.take_of_length_le (by omega)] at this
    refine pw h45 rfl (op_call (args := #[pt d 0]) (R := fun res xw => res = .tuple #[] ∧ ∃ (pv : Value), DkP S w0.heap.size xw d M pv g1 c1 (forS (⟨synF s.fm s.ps, s.ps, s.ser, s.boots⟩ : DkS)) ∧ But (S) w0 xw) rfl rfl rfl (by kernel_rfl) (by kernel_rfl) (Try.call81 _ _) (dforget_any w0 S d M pv g1 c1 (⟨synF s.fm s.ps, s.ps, s.ser, s.boots⟩ : DkS) w30 hB37 ⟨hk38, hf34, hf35, hf36, hO.sd, hO.sM, hO.sp, hrz⟩) (by rintro e x ⟨pv, rfl, h1, h2⟩; exact ⟨_, rfl, rfl, pv, h1, h2⟩)) ?_; clear h45
    rintro _ w47 a46 ⟨rfl, pv50, hO48, hB49⟩ h46
    have hz51 := hB49.size
    have hl52 := hO48.blk.lt
    have hl53 := hO48.map.lt
    have hne54 := blk_ne_map hO48.blk hO48.map
    have hl55 := sl_len (row_sl hO48.row pieceE_len)
    refine pl_nil ?_
    refine co_then ?_
    refine co_seq ?_
    refine co_reg ?_
    refine pk0 (v := .int .i64 (sumP s.ps)) h46 rfl fun a56 h56 => ?_; clear h46
    refine pk0 (v := .int .i64 (sumP s.ps)) h56 rfl fun a57 h57 => ?_; clear h56
    refine pl_nil ?_
    refine co_then ?_
    refine wp_ret ?_
    refine co_ret1 h57 rfl rfl ?_
    exact ⟨_, _, _, rfl, hO48, by omega, hB49⟩
   ·
    rw [hc43] at h42
    have hp58 : ((i : Nat) : Int) < ((s.ps.length : Nat) : Int) := of_decide_eq_true hc43
    clear hc43
    refine co_true h42 rfl ?_
    refine wp_skip ?_
    refine co_then ?_
    refine co_seq ?_
    refine wp_block ?_
    refine co_seq ?_
    refine co_reg ?_
    obtain ⟨y59, hy59⟩ : ∃ z, s.ps[i]? = some z := ⟨_, List.getElem?_eq_getElem (by first | omega | (simp; done) | (simp; omega))⟩
    refine pk (v := pt (blkOf pv) (offOf pv + i * 2)) h42 rfl (rn_index rfl rfl rfl Try.underlying45 Try.sizeOf124 (row_sl hf35 pieceE_len) (by omega) (by first | omega | (simp; done) | (simp; omega))) fun a60 h60 => ?_; clear h42
    refine pk (v := .agg #[.int .i64 y59.1, .int .i64 y59.2]) h60 rfl (rn_loadN rfl rfl Try.underlying124 rfl (by kernel_rfl) (sl_at (row_sl hf35 pieceE_len) hy59)) fun a61 h61 => ?_; clear h60
    refine pw h61 rfl (op_new (v := fun N => pt N 0) (T := 124) (cs := #[.int .i64 0, .int .i64 0]) (by kernel_rfl) (by kernel_rfl) (by kernel_rfl)) ?_; clear h61
    rintro _ w63 a62 ⟨N64, rfl, hN67, hz68, hk66, hg65⟩ h62
    have ha69 := row_fresh hf35 hN67
    have hz70 := hg65.size
    try dsimp only at h62
    refine pwD h62 rfl (op_storeN rfl rfl rfl (by kernel_rfl) (by kernel_rfl) hk66 rfl) ?_; clear h62
    rintro _ w72 a71 ⟨hk73, hz74, hg75⟩ h71
    have hk73' : Blk w72 N64 124 #[.int .i64 y59.1, .int .i64 y59.2] := hk73; clear hk73
    have hz76 := hg75.size
    refine pl_nil ?_
    refine co_then ?_
    refine co_seq ?_
    refine dr_gen (fun x => But (S) w0 x ∧ Blk x d 47 #[.bool true, .map (some M), pv, .int .i64 s.ser, .int .i64 s.boots] ∧ Blk x N64 124 #[.int .i64 y59.1, .int .i64 y59.2]) (by kernel_rfl) (fun w77 hg78 => ?_) (fun w77 hg78 => ?_)
    ·
     have hz79 := hg78.size
     have hB80 := fbU_new hB37 hg65
     have hB81 := fbU_at hB80 hg75 (fun hlt => absurd hlt (by omega))
     have hB82 := fbU_new hB81 hg78
     have hk83 := hk38.kept hg65 (by simp)
     have hk84 := hk83.kept hg75 (by simp; omega)
     have hk85 := hk84.kept hg78 (by simp)
     have hk86 := hk73'.kept hg78 (by simp)
     exact ⟨hB82, hk85, hk86⟩
    have hz87 := hg78.size
    have hB88 := fbU_new hB37 hg65
    have hB89 := fbU_at hB88 hg75 (fun hlt => absurd hlt (by omega))
    have hB90 := fbU_new hB89 hg78
    have hk91 := hk38.kept hg65 (by simp)
    have hk92 := hk91.kept hg75 (by simp; omega)
    have hk93 := hk92.kept hg78 (by simp)
    have hk94 := hk73'.kept hg78 (by simp)
    refine dk0 0 (v := pt d 0) h71 rfl rfl ⟨hB90, hk93, hk94⟩ fun a95 h95 => ?_; clear h71
    refine dk0 1 (v := pt d 0) h95 rfl rfl ⟨hB90, hk93, hk94⟩ fun a96 h96 => ?_; clear h95
    refine dk0 2 (v := pt d 1) h96 rfl rfl ⟨hB90, hk93, hk94⟩ fun a97 h97 => ?_; clear h96
    refine dk 3 (v := .map (some M)) h97 rfl rfl ⟨hB90, hk93, hk94⟩ (fun x hx => (rn_load1 rfl rfl Try.isAgg44 (hx.2.1.cell rfl))) fun a98 h98 => ?_; clear h97
    refine dk0 4 (v := pt N64 0) h98 rfl rfl ⟨hB90, hk93, hk94⟩ fun a99 h99 => ?_; clear h98
    refine dk 5 (v := .int .i64 y59.1) h99 rfl rfl ⟨hB90, hk93, hk94⟩ (fun x hx => (rn_load1 rfl rfl Try.isAgg3 (hx.2.2.cell rfl))) fun a100 h100 => ?_; clear h99
    refine dr_many [6, 7] (by kernel_rfl) (by simp) ⟨?_, ?_, trivial⟩
    ·
     have hF104 := hf36.new hg65
     have hF105 := hF104.blk hk66 (by decide) hg75
     have hF106 := hF105.new hg78
     have hM111 := hf34.kept hg65 (by simp)
     have hM112 := hM111.kept hg75 (by simp; omega)
     have hM113 := hM112.kept hg78 (by simp)
     obtain ⟨f101, hf102⟩ : ∃ z, (g1 y59.1).getD fz = z := ⟨_, rfl⟩
     have hA103 := hF106.at hf102
     have hl107 := sl_len (row_sl hA103.1 u8E_len)
     have hgf108 := getF_eq hrl hf102
     have hgl109 : f101.2.1.length = (getF (synF s.fm (s.ps.take i)) y59.1).1.length := by rw [hgf108]
     have hgs110 : f101.2.2.1 = (getF (synF s.fm (s.ps.take i)) y59.1).2.1 := by rw [hgf108]
     refine dr_opVal (i := 6) (v := .agg #[f101.1, .int .i64 f101.2.2.1, .bool f101.2.2.2]) h100 rfl rfl rfl rfl (by kernel_rfl) rfl (rn_lookO (a := y59.1) (f := f101) (intKL Try.underlying3) rfl rfl rfl Try.underlying44 filez hM113 hf102) ⟨hB90, hk93, hk94⟩ (fun a114 h114 => ?_); clear h100
     refine d1 7 h114 rfl rfl (op_new (v := fun N => pt N 0) (T := 122) (cs := #[.slice none 0 0, .int .i64 0, .bool false]) (by kernel_rfl) (by kernel_rfl) (by kernel_rfl)) ?_ ?_; clear h114
     ·
      rintro _ w116 ⟨N117, rfl, hN120, hz121, hk119, hg118⟩
      have hr123 := row_kept_new hf35 hg65
      have hr124 := row_kept_at hr123 hg75 (ha69)
      have hr125 := row_kept_new hr124 hg78
      have ha122 := row_fresh hr125 hN120
      have ha126 := row_fresh hA103.1 hN120
      have hz127 := hg118.size
      have hB128 := fbU_new hB90 hg118
      have hk129 := hk93.kept hg118 (by simp)
      have hk130 := hk94.kept hg118 (by simp)
      exact ⟨hB128, hk129, hk130⟩
     rintro _ w116 a115 ⟨N117, rfl, hN120, hz121, hk119, hg118⟩ h115
     have hr123 := row_kept_new hf35 hg65
     have hr124 := row_kept_at hr123 hg75 (ha69)
     have hr125 := row_kept_new hr124 hg78
     have ha122 := row_fresh hr125 hN120
     have ha126 := row_fresh hA103.1 hN120
     have hz127 := hg118.size
     try dsimp only at h115
     have hB128 := fbU_new hB90 hg118
     have hk129 := hk93.kept hg118 (by simp)
     have hk130 := hk94.kept hg118 (by simp)
     have hr136 := row_kept_new hA103.1 hg118
     refine d1D 8 h115 rfl rfl (op_storeN rfl rfl rfl (all_cons (row_one hr136) (all_cons rfl (all_cons rfl all_nil))) (by kernel_rfl) hk119 rfl) ?_ ?_; clear h115
     ·
      rintro _ w132 ⟨hk133, hz134, hg135⟩
      have hk133' : Blk w132 N117 122 #[f101.1, .int .i64 f101.2.2.1, .bool f101.2.2.2] := hk133; clear hk133
      have hz137 := hg135.size
      have hB138 := fbU_at hB128 hg135 (fun hlt => absurd hlt (by omega))
      have hk139 := hk129.kept hg135 (by simp; omega)
      have hk140 := hk130.kept hg135 (by simp; omega)
      exact ⟨hB138, hk139, hk140⟩
     rintro _ w132 a131 ⟨hk133, hz134, hg135⟩ h131
     have hk133' : Blk w132 N117 122 #[f101.1, .int .i64 f101.2.2.1, .bool f101.2.2.2] := hk133; clear hk133
     have hz137 := hg135.size
     refine dr_done (by kernel_rfl) ?_
     refine co_then ?_
     refine co_seq ?_
     refine co_reg ?_
     refine pk0 (v := pt N117 0) h131 rfl fun a138 h138 => ?_; clear h131
     refine pk (v := f101.1) h138 rfl (rn_load1 rfl rfl Try.isAgg120 (hk133'.cell rfl)) fun a139 h139 => ?_; clear h138
     have hr140 := row_kept_at hr136 hg135 (ha126)
     refine pk (v := .int .i64 ((f101.2.1.length : Nat) : Int)) h139 rfl (rn_lenOwn rfl rfl Try.underlying120 hr140) fun a141 h141 => ?_; clear h139
     refine pk0 (v := pt N117 1) h141 rfl fun a142 h142 => ?_; clear h141
     refine pwD h142 rfl (op_store1 rfl rfl rfl rfl Try.sizeOf3 hk133' rfl) ?_; clear h142
     rintro _ w144 a143 ⟨hk145, hz146, hg147⟩ h143
     have hk145' : Blk w144 N117 122 #[f101.1, .int .i64 ((f101.2.1.length : Nat) : Int), .bool f101.2.2.2] := hk145; clear hk145
     have hz148 := hg147.size
     refine pk0 (v := pt N117 2) h143 rfl fun a149 h149 => ?_; clear h143
     refine pwD h149 rfl (op_store1 rfl rfl rfl rfl Try.sizeOf4 hk145' rfl) ?_; clear h149
     rintro _ w151 a150 ⟨hk152, hz153, hg154⟩ h150
     have hk152' : Blk w151 N117 122 #[f101.1, .int .i64 ((f101.2.1.length : Nat) : Int), .bool true] := hk152; clear hk152
     have hz155 := hg154.size
     refine pl_nil ?_
     refine co_then ?_
     refine dr_gen (fun x => But (S) w0 x ∧ Blk x d 47 #[.bool true, .map (some M), pv, .int .i64 s.ser, .int .i64 s.boots] ∧ Blk x N64 124 #[.int .i64 y59.1, .int .i64 y59.2] ∧ Blk x N117 122 #[f101.1, .int .i64 ((f101.2.1.length : Nat) : Int), .bool true]) (by kernel_rfl) (fun w156 hg157 => ?_) (fun w156 hg157 => ?_)
     ·
      have hz158 := hg157.size
      have hB159 := fbU_at hB128 hg135 (fun hlt => absurd hlt (by omega))
      have hB160 := fbU_at hB159 hg147 (fun hlt => absurd hlt (by omega))
      have hB161 := fbU_at hB160 hg154 (fun hlt => absurd hlt (by omega))
      have hB162 := fbU_new hB161 hg157
      have hk163 := hk129.kept hg135 (by simp; omega)
      have hk164 := hk163.kept hg147 (by simp; omega)
      have hk165 := hk164.kept hg154 (by simp; omega)
      have hk166 := hk165.kept hg157 (by simp)
      have hk167 := hk130.kept hg135 (by simp; omega)
      have hk168 := hk167.kept hg147 (by simp; omega)
      have hk169 := hk168.kept hg154 (by simp; omega)
      have hk170 := hk169.kept hg157 (by simp)
      have hk171 := hk152'.kept hg157 (by simp)
      exact ⟨hB162, hk166, hk170, hk171⟩
     have hz172 := hg157.size
     have hB173 := fbU_at hB128 hg135 (fun hlt => absurd hlt (by omega))
     have hB174 := fbU_at hB173 hg147 (fun hlt => absurd hlt (by omega))
     have hB175 := fbU_at hB174 hg154 (fun hlt => absurd hlt (by omega))
     have hB176 := fbU_new hB175 hg157
     have hk177 := hk129.kept hg135 (by simp; omega)
     have hk178 := hk177.kept hg147 (by simp; omega)
     have hk179 := hk178.kept hg154 (by simp; omega)
     have hk180 := hk179.kept hg157 (by simp)
     have hk181 := hk130.kept hg135 (by simp; omega)
     have hk182 := hk181.kept hg147 (by simp; omega)
     have hk183 := hk182.kept hg154 (by simp; omega)
     have hk184 := hk183.kept hg157 (by simp)
     have hk185 := hk152'.kept hg157 (by simp)
     refine dk0 0 (v := pt d 0) h150 rfl rfl ⟨hB176, hk180, hk184, hk185⟩ fun a186 h186 => ?_; clear h150
     refine dk0 1 (v := pt d 0) h186 rfl rfl ⟨hB176, hk180, hk184, hk185⟩ fun a187 h187 => ?_; clear h186
     refine dk0 2 (v := pt d 1) h187 rfl rfl ⟨hB176, hk180, hk184, hk185⟩ fun a188 h188 => ?_; clear h187
     refine dk 3 (v := .map (some M)) h188 rfl rfl ⟨hB176, hk180, hk184, hk185⟩ (fun x hx => (rn_load1 rfl rfl Try.isAgg44 (hx.2.1.cell rfl))) fun a189 h189 => ?_; clear h188
     refine dk0 4 (v := pt N64 0) h189 rfl rfl ⟨hB176, hk180, hk184, hk185⟩ fun a190 h190 => ?_; clear h189
     refine dk 5 (v := .int .i64 y59.1) h190 rfl rfl ⟨hB176, hk180, hk184, hk185⟩ (fun x hx => (rn_load1 rfl rfl Try.isAgg3 (hx.2.2.1.cell rfl))) fun a191 h191 => ?_; clear h190
     refine dk 6 (v := .agg #[f101.1, .int .i64 ((f101.2.1.length : Nat) : Int), .bool true]) h191 rfl rfl ⟨hB176, hk180, hk184, hk185⟩ (fun x hx => (rn_loadN rfl rfl Try.underlying122 rfl (by kernel_rfl) hx.2.2.2.all)) fun a192 h192 => ?_; clear h191
     have hM198 := hM113.kept hg118 (by simp)
     have hM199 := hM198.kept hg135 (by simp; omega)
     have hM200 := hM199.kept hg147 (by simp; omega)
     have hM201 := hM200.kept hg154 (by simp; omega)
     have hM202 := hM201.kept hg157 (by simp)
     refine d1D 7 h192 rfl rfl (op_updateO (a := y59.1) (v := (f101.1, f101.2.1, ((f101.2.1.length : Nat) : Int), true)) (intKL Try.underlying3) rfl rfl rfl rfl Try.underlying44 hM202) ?_ ?_; clear h192
     ·
      rintro _ w194 ⟨hm195, hz196, hg197⟩
      have hF204 := hF106.new hg118
      have hF205 := hF204.blk hk119 (by decide) hg135
      have hF206 := hF205.blk hk133' (by decide) hg147
      have hF207 := hF206.blk hk145' (by decide) hg154
      have hF208 := hF207.new hg157
      have hr209 := row_kept_at hr140 hg147 (ha126)
      have hr210 := row_kept_at hr209 hg154 (ha126)
      have hr211 := row_kept_new hr210 hg157
      have hF203 := Fam.put (u := (f101.1)) (l := f101.2.1) (sf := ((f101.2.1.length : Nat) : Int)) (b0 := true) hF208 hf102 hr211 rfl
      have hz212 := hg197.size
      have hl213 := hm195.lt
      have hB214 := fbU_at hB176 hg197 (fun hlt => by rcases hO.sM with hq | hq; exact hq; omega)
      have hk215 := hk180.kept hg197 (by simp; omega)
      have hk216 := hk184.kept hg197 (by simp; omega)
      have hk217 := hk185.kept hg197 (by simp; omega)
      exact ⟨hB214, hk215, hk216, hk217⟩
     rintro _ w194 a193 ⟨hm195, hz196, hg197⟩ h193
     have hF204 := hF106.new hg118
     have hF205 := hF204.blk hk119 (by decide) hg135
     have hF206 := hF205.blk hk133' (by decide) hg147
     have hF207 := hF206.blk hk145' (by decide) hg154
     have hF208 := hF207.new hg157
     have hr209 := row_kept_at hr140 hg147 (ha126)
     have hr210 := row_kept_at hr209 hg154 (ha126)
     have hr211 := row_kept_new hr210 hg157
     have hF203 := Fam.put (u := (f101.1)) (l := f101.2.1) (sf := ((f101.2.1.length : Nat) : Int)) (b0 := true) hF208 hf102 hr211 rfl
     have hz212 := hg197.size
     have hl213 := hm195.lt
     refine dr_done (by kernel_rfl) ?_
     refine co_blockN ?_
     refine co_then ?_
     refine co_reg ?_
     refine pk (v := .int .i64 ((i + 1 : Nat) : Int)) h193 rfl (rn_arith' rfl rfl rfl rfl rfl rfl (IntWalk.i64_in _ (by omega)) (by omega)) fun a214 h214 => ?_; clear h193
     refine pk0 (v := .int .i64 ((i + 1 : Nat) : Int)) h214 rfl fun a215 h215 => ?_; clear h214
     refine pl_nil ?_
     refine co_then ?_
     refine ⟨(s.ps.length - (i + 1)), by omega, ?_⟩
     have hrl' : ∀ k, ((fun b => if b = y59.1 then some (f101.1, f101.2.1, ((f101.2.1.length : Nat) : Int), true) else g1 b) k).map (·.2) = synF s.fm (s.ps.take (i + 1)) k := by rw [synF_at hy59, ← hgf108]; exact putF_eq hrl
     have hr216 := row_kept_new hr125 hg118
     have hr217 := row_kept_at hr216 hg135 (ha122)
     have hr218 := row_kept_at hr217 hg147 (ha122)
     have hr219 := row_kept_at hr218 hg154 (ha122)
     have hr220 := row_kept_new hr219 hg157
     have hr221 := row_kept_at hr220 hg197 (hM202.row hr220)
     have hF222 := hF203.map hM202 hg197
     have hB223 := fbU_at hB176 hg197 (fun hlt => by rcases hO.sM with hq | hq; exact hq; omega)
     have hk224 := hk180.kept hg197 (by simp; omega)
     exact ⟨i + 1, (fun b => if b = y59.1 then some (f101.1, f101.2.1, ((f101.2.1.length : Nat) : Int), true) else g1 b), c1 + 1, h215.sub ⟨rfl, rfl, rfl, rfl, rfl, trivial⟩, rfl, by omega, by omega, by first | exact hrl' | exact hO.rel, (fun_eq hm195 (by first | rfl | (funext b; rfl)) (by omega)), hr221, hF222, hB223, hk224⟩
    ·
     refine dr_op (i := 7) h100 rfl rfl rfl rfl (op_new (v := fun N => pt N 0) (T := 122) (cs := #[.slice none 0 0, .int .i64 0, .bool false]) (by kernel_rfl) (by kernel_rfl) (by kernel_rfl)) ?_ ?_; clear h100
     ·
      rintro _ w226 ⟨N227, rfl, hN230, hz231, hk229, hg228⟩
      have hr233 := row_kept_new hf35 hg65
      have hr234 := row_kept_at hr233 hg75 (ha69)
      have hr235 := row_kept_new hr234 hg78
      have ha232 := row_fresh hr235 hN230
      have hz236 := hg228.size
      have hB237 := fbU_new hB90 hg228
      have hk238 := hk93.kept hg228 (by simp)
      have hk239 := hk94.kept hg228 (by simp)
      exact ⟨hB237, hk238, hk239⟩
     rintro _ w226 a225 ⟨N227, rfl, hN230, hz231, hk229, hg228⟩ h225
     have hr233 := row_kept_new hf35 hg65
     have hr234 := row_kept_at hr233 hg75 (ha69)
     have hr235 := row_kept_new hr234 hg78
     have ha232 := row_fresh hr235 hN230
     have hz236 := hg228.size
     try dsimp only at h225
     have hB237 := fbU_new hB90 hg228
     have hk238 := hk93.kept hg228 (by simp)
     have hk239 := hk94.kept hg228 (by simp)
     refine dr_many [6] (by kernel_rfl) (by simp) ⟨?_, trivial⟩
     ·
      have hF243 := hf36.new hg65
      have hF244 := hF243.blk hk66 (by decide) hg75
      have hF245 := hF244.new hg78
      have hF246 := hF245.new hg228
      have hM251 := hf34.kept hg65 (by simp)
      have hM252 := hM251.kept hg75 (by simp; omega)
      have hM253 := hM252.kept hg78 (by simp)
      have hM254 := hM253.kept hg228 (by simp)
      obtain ⟨f240, hf241⟩ : ∃ z, (g1 y59.1).getD fz = z := ⟨_, rfl⟩
      have hA242 := hF246.at hf241
      have hl247 := sl_len (row_sl hA242.1 u8E_len)
      have hgf248 := getF_eq hrl hf241
      have hgl249 : f240.2.1.length = (getF (synF s.fm (s.ps.take i)) y59.1).1.length := by rw [hgf248]
      have hgs250 : f240.2.2.1 = (getF (synF s.fm (s.ps.take i)) y59.1).2.1 := by rw [hgf248]
      refine dr_opVal (i := 6) (v := .agg #[f240.1, .int .i64 f240.2.2.1, .bool f240.2.2.2]) h225 rfl rfl rfl rfl (by kernel_rfl) rfl (rn_lookO (a := y59.1) (f := f240) (intKL Try.underlying3) rfl rfl rfl Try.underlying44 filez hM254 hf241) ⟨hB237, hk238, hk239⟩ (fun a255 h255 => ?_); clear h225
      refine d1D 8 h255 rfl rfl (op_storeN rfl rfl rfl (all_cons (row_one hA242.1) (all_cons rfl (all_cons rfl all_nil))) (by kernel_rfl) hk229 rfl) ?_ ?_; clear h255
      ·
       rintro _ w257 ⟨hk258, hz259, hg260⟩
       have hk258' : Blk w257 N227 122 #[f240.1, .int .i64 f240.2.2.1, .bool f240.2.2.2] := hk258; clear hk258
       have hz261 := hg260.size
       have hB262 := fbU_at hB237 hg260 (fun hlt => absurd hlt (by omega))
       have hk263 := hk238.kept hg260 (by simp; omega)
       have hk264 := hk239.kept hg260 (by simp; omega)
       exact ⟨hB262, hk263, hk264⟩
      rintro _ w257 a256 ⟨hk258, hz259, hg260⟩ h256
      have hk258' : Blk w257 N227 122 #[f240.1, .int .i64 f240.2.2.1, .bool f240.2.2.2] := hk258; clear hk258
      have hz261 := hg260.size
      refine dr_done (by kernel_rfl) ?_
      refine co_then ?_
      refine co_seq ?_
      refine co_reg ?_
      refine pk0 (v := pt N227 0) h256 rfl fun a262 h262 => ?_; clear h256
      refine pk (v := f240.1) h262 rfl (rn_load1 rfl rfl Try.isAgg120 (hk258'.cell rfl)) fun a263 h263 => ?_; clear h262
      have hr264 := row_kept_at hA242.1 hg260 (own_neT hA242.1 hk229 (by decide))
      refine pk (v := .int .i64 ((f240.2.1.length : Nat) : Int)) h263 rfl (rn_lenOwn rfl rfl Try.underlying120 hr264) fun a265 h265 => ?_; clear h263
      refine pk0 (v := pt N227 1) h265 rfl fun a266 h266 => ?_; clear h265
      refine pwD h266 rfl (op_store1 rfl rfl rfl rfl Try.sizeOf3 hk258' rfl) ?_; clear h266
      rintro _ w268 a267 ⟨hk269, hz270, hg271⟩ h267
      have hk269' : Blk w268 N227 122 #[f240.1, .int .i64 ((f240.2.1.length : Nat) : Int), .bool f240.2.2.2] := hk269; clear hk269
      have hz272 := hg271.size
      refine pk0 (v := pt N227 2) h267 rfl fun a273 h273 => ?_; clear h267
      refine pwD h273 rfl (op_store1 rfl rfl rfl rfl Try.sizeOf4 hk269' rfl) ?_; clear h273
      rintro _ w275 a274 ⟨hk276, hz277, hg278⟩ h274
      have hk276' : Blk w275 N227 122 #[f240.1, .int .i64 ((f240.2.1.length : Nat) : Int), .bool true] := hk276; clear hk276
      have hz279 := hg278.size
      refine pl_nil ?_
      refine co_then ?_
      refine dr_gen (fun x => But (S) w0 x ∧ Blk x d 47 #[.bool true, .map (some M), pv, .int .i64 s.ser, .int .i64 s.boots] ∧ Blk x N64 124 #[.int .i64 y59.1, .int .i64 y59.2] ∧ Blk x N227 122 #[f240.1, .int .i64 ((f240.2.1.length : Nat) : Int), .bool true]) (by kernel_rfl) (fun w280 hg281 => ?_) (fun w280 hg281 => ?_)
      ·
       have hz282 := hg281.size
       have hB283 := fbU_at hB237 hg260 (fun hlt => absurd hlt (by omega))
       have hB284 := fbU_at hB283 hg271 (fun hlt => absurd hlt (by omega))
       have hB285 := fbU_at hB284 hg278 (fun hlt => absurd hlt (by omega))
       have hB286 := fbU_new hB285 hg281
       have hk287 := hk238.kept hg260 (by simp; omega)
       have hk288 := hk287.kept hg271 (by simp; omega)
       have hk289 := hk288.kept hg278 (by simp; omega)
       have hk290 := hk289.kept hg281 (by simp)
       have hk291 := hk239.kept hg260 (by simp; omega)
       have hk292 := hk291.kept hg271 (by simp; omega)
       have hk293 := hk292.kept hg278 (by simp; omega)
       have hk294 := hk293.kept hg281 (by simp)
       have hk295 := hk276'.kept hg281 (by simp)
       exact ⟨hB286, hk290, hk294, hk295⟩
      have hz296 := hg281.size
      have hB297 := fbU_at hB237 hg260 (fun hlt => absurd hlt (by omega))
      have hB298 := fbU_at hB297 hg271 (fun hlt => absurd hlt (by omega))
      have hB299 := fbU_at hB298 hg278 (fun hlt => absurd hlt (by omega))
      have hB300 := fbU_new hB299 hg281
      have hk301 := hk238.kept hg260 (by simp; omega)
      have hk302 := hk301.kept hg271 (by simp; omega)
      have hk303 := hk302.kept hg278 (by simp; omega)
      have hk304 := hk303.kept hg281 (by simp)
      have hk305 := hk239.kept hg260 (by simp; omega)
      have hk306 := hk305.kept hg271 (by simp; omega)
      have hk307 := hk306.kept hg278 (by simp; omega)
      have hk308 := hk307.kept hg281 (by simp)
      have hk309 := hk276'.kept hg281 (by simp)
      refine dk0 0 (v := pt d 0) h274 rfl rfl ⟨hB300, hk304, hk308, hk309⟩ fun a310 h310 => ?_; clear h274
      refine dk0 1 (v := pt d 0) h310 rfl rfl ⟨hB300, hk304, hk308, hk309⟩ fun a311 h311 => ?_; clear h310
      refine dk0 2 (v := pt d 1) h311 rfl rfl ⟨hB300, hk304, hk308, hk309⟩ fun a312 h312 => ?_; clear h311
      refine dk 3 (v := .map (some M)) h312 rfl rfl ⟨hB300, hk304, hk308, hk309⟩ (fun x hx => (rn_load1 rfl rfl Try.isAgg44 (hx.2.1.cell rfl))) fun a313 h313 => ?_; clear h312
      refine dk0 4 (v := pt N64 0) h313 rfl rfl ⟨hB300, hk304, hk308, hk309⟩ fun a314 h314 => ?_; clear h313
      refine dk 5 (v := .int .i64 y59.1) h314 rfl rfl ⟨hB300, hk304, hk308, hk309⟩ (fun x hx => (rn_load1 rfl rfl Try.isAgg3 (hx.2.2.1.cell rfl))) fun a315 h315 => ?_; clear h314
      refine dk 6 (v := .agg #[f240.1, .int .i64 ((f240.2.1.length : Nat) : Int), .bool true]) h315 rfl rfl ⟨hB300, hk304, hk308, hk309⟩ (fun x hx => (rn_loadN rfl rfl Try.underlying122 rfl (by kernel_rfl) hx.2.2.2.all)) fun a316 h316 => ?_; clear h315
      have hM322 := hM254.kept hg260 (by simp; omega)
      have hM323 := hM322.kept hg271 (by simp; omega)
      have hM324 := hM323.kept hg278 (by simp; omega)
      have hM325 := hM324.kept hg281 (by simp)
      refine d1D 7 h316 rfl rfl (op_updateO (a := y59.1) (v := (f240.1, f240.2.1, ((f240.2.1.length : Nat) : Int), true)) (intKL Try.underlying3) rfl rfl rfl rfl Try.underlying44 hM325) ?_ ?_; clear h316
      ·
       rintro _ w318 ⟨hm319, hz320, hg321⟩
       have hF327 := hF246.blk hk229 (by decide) hg260
       have hF328 := hF327.blk hk258' (by decide) hg271
       have hF329 := hF328.blk hk269' (by decide) hg278
       have hF330 := hF329.new hg281
       have hr331 := row_kept_at hr264 hg271 (own_neT hr264 hk258' (by decide))
       have hr332 := row_kept_at hr331 hg278 (own_neT hr331 hk269' (by decide))
       have hr333 := row_kept_new hr332 hg281
       have hF326 := Fam.put (u := (f240.1)) (l := f240.2.1) (sf := ((f240.2.1.length : Nat) : Int)) (b0 := true) hF330 hf241 hr333 rfl
       have hz334 := hg321.size
       have hl335 := hm319.lt
       have hB336 := fbU_at hB300 hg321 (fun hlt => by rcases hO.sM with hq | hq; exact hq; omega)
       have hk337 := hk304.kept hg321 (by simp; omega)
       have hk338 := hk308.kept hg321 (by simp; omega)
       have hk339 := hk309.kept hg321 (by simp; omega)
       exact ⟨hB336, hk337, hk338, hk339⟩
      rintro _ w318 a317 ⟨hm319, hz320, hg321⟩ h317
      have hF327 := hF246.blk hk229 (by decide) hg260
      have hF328 := hF327.blk hk258' (by decide) hg271
      have hF329 := hF328.blk hk269' (by decide) hg278
      have hF330 := hF329.new hg281
      have hr331 := row_kept_at hr264 hg271 (own_neT hr264 hk258' (by decide))
      have hr332 := row_kept_at hr331 hg278 (own_neT hr331 hk269' (by decide))
      have hr333 := row_kept_new hr332 hg281
      have hF326 := Fam.put (u := (f240.1)) (l := f240.2.1) (sf := ((f240.2.1.length : Nat) : Int)) (b0 := true) hF330 hf241 hr333 rfl
      have hz334 := hg321.size
      have hl335 := hm319.lt
      refine dr_done (by kernel_rfl) ?_
      refine co_blockN ?_
      refine co_then ?_
      refine co_reg ?_
      refine pk (v := .int .i64 ((i + 1 : Nat) : Int)) h317 rfl (rn_arith' rfl rfl rfl rfl rfl rfl (IntWalk.i64_in _ (by omega)) (by omega)) fun a336 h336 => ?_; clear h317
      refine pk0 (v := .int .i64 ((i + 1 : Nat) : Int)) h336 rfl fun a337 h337 => ?_; clear h336
      refine pl_nil ?_
      refine co_then ?_
      refine ⟨(s.ps.length - (i + 1)), by omega, ?_⟩
      have hrl' : ∀ k, ((fun b => if b = y59.1 then some (f240.1, f240.2.1, ((f240.2.1.length : Nat) : Int), true) else g1 b) k).map (·.2) = synF s.fm (s.ps.take (i + 1)) k := by rw [synF_at hy59, ← hgf248]; exact putF_eq hrl
      have hr338 := row_kept_new hr235 hg228
      have hr339 := row_kept_at hr338 hg260 (ha232)
      have hr340 := row_kept_at hr339 hg271 (ha232)
      have hr341 := row_kept_at hr340 hg278 (ha232)
      have hr342 := row_kept_new hr341 hg281
      have hr343 := row_kept_at hr342 hg321 (hM325.row hr342)
      have hF344 := hF326.map hM325 hg321
      have hB345 := fbU_at hB300 hg321 (fun hlt => by rcases hO.sM with hq | hq; exact hq; omega)
      have hk346 := hk304.kept hg321 (by simp; omega)
      exact ⟨i + 1, (fun b => if b = y59.1 then some (f240.1, f240.2.1, ((f240.2.1.length : Nat) : Int), true) else g1 b), c1 + 1, h337.sub ⟨rfl, rfl, rfl, rfl, rfl, trivial⟩, rfl, by omega, by omega, by first | exact hrl' | exact hO.rel, (fun_eq hm319 (by first | rfl | (funext b; rfl)) (by omega)), hr343, hF344, hB345, hk346⟩
set_option maxRecDepth 100000 in
theorem dData_any (w0 : World) (S : Nat → Prop) (d : Nat) (M : Nat) (pv : Value) (g : Int → Option FileG) (c : Nat) (s : DkS) (number : Int) (w : World) (hbw : But S w0 w) (hO : DkP S w0.heap.size w d M pv g c s) :
    Calls Try.prog 19 #[pt d 0, .int .i64 number] w fun e w' => e = .returned (.string (datF s.fm number)) ∧ DkP S w0.heap.size w' d M pv g c s ∧ But (S) w0 w' := by
 have hB0 := hbw
 have hz0 := hbw.size
 have hz0 := hbw.size
 have hl1 := hO.blk.lt
 have hl2 := hO.map.lt
 have hne3 := blk_ne_map hO.blk hO.map
 have hl4 := sl_len (row_sl hO.row pieceE_len)
 refine co_enter (n := 15) Try.func19 rfl rfl rfl [(0, pt d 0), (1, .int .i64 number)] rfl (fun a h0 => ?_)
 refine co_seq ?_
 refine co_reg ?_
 refine pk0 (v := .string (⟨#[]⟩)) h0 rfl fun a5 h5 => ?_; clear h0
 refine pl_nil ?_
 refine co_then ?_
 refine co_seq ?_
 refine co_seq ?_
 refine co_reg ?_
 refine pk0 (v := pt d 0) h5 rfl fun a6 h6 => ?_; clear h5
 refine pw h6 rfl (op_call (args := #[pt d 0]) (R := fun res xw => res = .bool false ∧ w = xw) rfl rfl rfl (by kernel_rfl) (by kernel_rfl) (Try.call80 _ _) (dzero_any d M pv s.ser s.boots w hO.blk) (by rintro e x ⟨rfl, rfl⟩; exact ⟨_, rfl, ⟨rfl, rfl⟩⟩)) ?_; clear h6
 rintro _ _ a7 ⟨rfl, rfl⟩ h7
 refine pl_nil ?_
 refine co_then ?_
 refine co_false h7 rfl ?_
 refine wp_skip ?_
 refine co_then ?_
 refine co_seq ?_
 refine co_reg ?_
 refine pk0 (v := pt d 0) h7 rfl fun a10 h10 => ?_; clear h7
 refine pk0 (v := pt d 0) h10 rfl fun a11 h11 => ?_; clear h10
 refine pk0 (v := pt d 1) h11 rfl fun a12 h12 => ?_; clear h11
 refine pk (v := .map (some M)) h12 rfl (rn_load1 rfl rfl Try.isAgg44 (hO.blk.cell rfl)) fun a13 h13 => ?_; clear h12
 refine pk0 (v := .int .i64 number) h13 rfl fun a14 h14 => ?_; clear h13
 obtain ⟨f15, hf16⟩ : ∃ z, (g number).getD fz = z := ⟨_, rfl⟩
 have hA17 := hO.fam.at hf16
 have hl18 := sl_len (row_sl hA17.1 u8E_len)
 have hgf19 := getF_eq hO.rel hf16
 have hgl20 : f15.2.1.length = (getF s.fm number).1.length := by rw [hgf19]
 have hgs21 : f15.2.2.1 = (getF s.fm number).2.1 := by rw [hgf19]
 refine pk (v := .agg #[f15.1, .int .i64 f15.2.2.1, .bool f15.2.2.2]) h14 rfl (rn_lookO (a := number) (f := f15) (intKL Try.underlying3) rfl rfl rfl Try.underlying44 filez hO.map hf16) fun a22 h22 => ?_; clear h14
 refine pk0 (v := f15.1) h22 rfl fun a23 h23 => ?_; clear h22
 refine pk (v := .string (⟨f15.2.1.toArray⟩)) h23 rfl (rn_convOwn rfl rfl Try.underlying120 Try.underlying5 Try.underlying9 hA17.1) fun a24 h24 => ?_; clear h23
 refine pk0 (v := .string (⟨f15.2.1.toArray⟩)) h24 rfl fun a25 h25 => ?_; clear h24
 refine pl_nil ?_
 refine co_then ?_
 refine wp_ret ?_
 refine co_ret1 h25 rfl rfl ?_
 exact ⟨by unfold datF; rw [← hgf19], ⟨hO.blk, hO.map, hO.row, hO.fam, hO.sd, hO.sM, hO.sp, hO.rel⟩, hB0⟩
set_option maxRecDepth 100000 in
theorem dSerial_any (d : Nat) (M : Nat) (pv : Value) (ser : Int) (boots : Int) (w : World) (hD : Blk w d 47 #[.bool true, .map (some M), pv, .int .i64 ser, .int .i64 boots]) :
    Calls Try.prog 30 #[pt d 0] w fun e w' => e = .returned (.int .i64 ser) ∧ w = w' := by
 have hB0 := Below.refl w.heap.size w
 have hl_hD := hD.lt
 refine co_enter (n := 9) Try.func30 rfl rfl rfl [(0, pt d 0)] rfl (fun a h0 => ?_)
 refine co_seq ?_
 refine co_reg ?_
 refine pk0 (v := .int .i64 0) h0 rfl fun a1 h1 => ?_; clear h0
 refine pl_nil ?_
 refine co_then ?_
 refine co_seq ?_
 refine co_seq ?_
 refine co_reg ?_
 refine pk0 (v := pt d 0) h1 rfl fun a2 h2 => ?_; clear h1
 refine pw h2 rfl (op_call (args := #[pt d 0]) (R := fun res xw => res = .bool false ∧ w = xw) rfl rfl rfl (by kernel_rfl) (by kernel_rfl) (Try.call80 _ _) (dzero_any d M pv ser boots w hD) (by rintro e x ⟨rfl, rfl⟩; exact ⟨_, rfl, ⟨rfl, rfl⟩⟩)) ?_; clear h2
 rintro _ _ a3 ⟨rfl, rfl⟩ h3
 refine pl_nil ?_
 refine co_then ?_
 refine co_false h3 rfl ?_
 refine wp_skip ?_
 refine co_then ?_
 refine co_seq ?_
 refine co_reg ?_
 refine pk0 (v := pt d 0) h3 rfl fun a6 h6 => ?_; clear h3
 refine pk0 (v := pt d 0) h6 rfl fun a7 h7 => ?_; clear h6
 refine pk0 (v := pt d 3) h7 rfl fun a8 h8 => ?_; clear h7
 refine pk (v := .int .i64 ser) h8 rfl (rn_load1 rfl rfl Try.isAgg3 (hD.cell rfl)) fun a9 h9 => ?_; clear h8
 refine pk0 (v := .int .i64 ser) h9 rfl fun a10 h10 => ?_; clear h9
 refine pl_nil ?_
 refine co_then ?_
 refine wp_ret ?_
 refine co_ret1 h10 rfl rfl ?_
 exact ⟨rfl, rfl⟩
set_option maxRecDepth 100000 in
theorem dBoots_any (d : Nat) (M : Nat) (pv : Value) (ser : Int) (boots : Int) (w : World) (hD : Blk w d 47 #[.bool true, .map (some M), pv, .int .i64 ser, .int .i64 boots]) :
    Calls Try.prog 31 #[pt d 0] w fun e w' => e = .returned (.int .i64 boots) ∧ w = w' := by
 have hB0 := Below.refl w.heap.size w
 have hl_hD := hD.lt
 refine co_enter (n := 9) Try.func31 rfl rfl rfl [(0, pt d 0)] rfl (fun a h0 => ?_)
 refine co_seq ?_
 refine co_reg ?_
 refine pk0 (v := .int .i64 0) h0 rfl fun a1 h1 => ?_; clear h0
 refine pl_nil ?_
 refine co_then ?_
 refine co_seq ?_
 refine co_seq ?_
 refine co_reg ?_
 refine pk0 (v := pt d 0) h1 rfl fun a2 h2 => ?_; clear h1
 refine pw h2 rfl (op_call (args := #[pt d 0]) (R := fun res xw => res = .bool false ∧ w = xw) rfl rfl rfl (by kernel_rfl) (by kernel_rfl) (Try.call80 _ _) (dzero_any d M pv ser boots w hD) (by rintro e x ⟨rfl, rfl⟩; exact ⟨_, rfl, ⟨rfl, rfl⟩⟩)) ?_; clear h2
 rintro _ _ a3 ⟨rfl, rfl⟩ h3
 refine pl_nil ?_
 refine co_then ?_
 refine co_false h3 rfl ?_
 refine wp_skip ?_
 refine co_then ?_
 refine co_seq ?_
 refine co_reg ?_
 refine pk0 (v := pt d 0) h3 rfl fun a6 h6 => ?_; clear h3
 refine pk0 (v := pt d 0) h6 rfl fun a7 h7 => ?_; clear h6
 refine pk0 (v := pt d 4) h7 rfl fun a8 h8 => ?_; clear h7
 refine pk (v := .int .i64 boots) h8 rfl (rn_load1 rfl rfl Try.isAgg3 (hD.cell rfl)) fun a9 h9 => ?_; clear h8
 refine pk0 (v := .int .i64 boots) h9 rfl fun a10 h10 => ?_; clear h9
 refine pl_nil ?_
 refine co_then ?_
 refine wp_ret ?_
 refine co_ret1 h10 rfl rfl ?_
 exact ⟨rfl, rfl⟩
end Go.Proofs.Ytcnahhobppnbbaa
