/- Package conf and the document's own: the bytes of a configuration. Conditions: none. -/
import Derived.Test.YtghjhkojehlfmaaConfF
import Derived.Test.YtghjhkojehlfmaaWireN
namespace Go.Proofs.Ytghjhkojehlfmaa
open Go.RowKit Go.PlainAid

def putM (l : List MemT) : List UInt8 := l.flatMap fun m => putL m.1 ++ putL m.2
theorem putM_snoc (l : List MemT) (m : MemT) : putM (l ++ [m]) = putM l ++ putL m.1 ++ putL m.2 := by simp [putM]
theorem putM_len (l : List MemT) : (putM l).length ≤ 18 * l.length := by
  induction l with
  | nil => simp [putM]
  | cons m r ih =>
    have h1 := putL_le m.1; have h2 := putL_le m.2
    have e : putM (m :: r) = putL m.1 ++ putL m.2 ++ putM r := by simp [putM]
    rw [e]; simp only [List.length_append, List.length_cons]; omega
def putC (ep : Int) (ms : List MemT) (fl : Int) : List UInt8 := putL ep ++ putL (ms.length : Int) ++ putM ms ++ putL fl
/-- What a configuration that may be is like. -/
theorem chkM_ok : ∀ (pre r : List MemT), chkM pre r = 0 → ∀ m ∈ r, (0 ≤ m.1 ∧ m.1 < 4) ∧ (1 ≤ m.2 ∧ m.2 ≤ 1073741824)
  | _, [], _ => by simp
  | pre, m :: r, h => by
    unfold chkM at h
    split at h
    · omega
    rename_i h1
    split at h
    · omega
    rename_i h2
    split at h
    · omega
    intro o ho
    rcases List.mem_cons.1 ho with rfl | ho
    · unfold badId at h1; unfold badSer at h2; exact ⟨by omega, by omega⟩
    · exact chkM_ok _ r h o ho
theorem chkC_ok {ep : Int} {ms : List MemT} (h : chkC ep ms = 0) : (1 ≤ ep ∧ ep ≤ 1073741824) ∧ (0 < ms.length ∧ ms.length ≤ 4) ∧ chkM [] ms = 0 ∧ ∀ m ∈ ms, (0 ≤ m.1 ∧ m.1 < 4) ∧ (1 ≤ m.2 ∧ m.2 ≤ 1073741824) := by
  unfold chkC at h
  split at h
  · omega
  split at h
  · omega
  split at h
  · omega
  exact ⟨by omega, by omega, h, chkM_ok _ _ h⟩
theorem wNum_good {n : Int} {l : List UInt8} (h : 0 ≤ n) : wNum n (l, 0) = (l ++ putL n, 0) := by unfold wNum; rw [if_neg (by simp), if_neg (by omega)]
theorem wBig_good {n : Int} {l : List UInt8} : wBig n (l, 0) = (l ++ putL n, 0) := by unfold wBig; rw [if_neg (by simp)]
/-- A member's own box. -/
def MB (bm : Nat) (m : MemT) (w : World) : Prop := w.heap[bm]? = some (.cells #[.int .i64 m.1, .int .i64 m.2] 45)
theorem MB.cells {bm : Nat} {m : MemT} {w : World} (h : MB bm m w) : w.cell? ⟨bm, 0, none⟩ = some (.int .i64 m.1) ∧ w.cell? ⟨bm, 1, none⟩ = some (.int .i64 m.2) := by
  unfold MB at h
  exact ⟨cell_of_row w bm 0 _ _ _ h, cell_of_row w bm 1 _ _ _ h⟩
theorem MB.lt {bm : Nat} {m : MemT} {w : World} (h : MB bm m w) : bm < w.heap.size := (Array.getElem?_eq_some_iff.1 h).1
theorem MB.below {bm : Nat} {m : MemT} {w w' : World} (h : MB bm m w) (hb : Below w.heap.size w w') : MB bm m w' := by
  unfold MB at h ⊢; rw [hb.block bm (Array.getElem?_eq_some_iff.1 h).1]; exact h
theorem MB.rw {bm : Nat} {m : MemT} {w w' : World} {b B : Nat} {l : List UInt8} {e : Int} (h : MB bm m w) (hw : Wr w b B l e) (hne : bm ≠ b) (hb : But (Rw w b) w w') : MB bm m w' := by
  unfold MB at h ⊢
  rw [hb.block bm (Array.getElem?_eq_some_iff.1 h).1 ?_]
  · exact h
  · rintro (hk | hk)
    · exact hne hk
    · obtain ⟨v, hc, ho⟩ := hw.buf
      rw [rowOf_cell hc] at hk
      rcases ho.2 with ⟨hv, _⟩ | ⟨g, cap, cur, hv, _, hh, _⟩
      · rw [hv] at hk; cases hk
      · rw [hv] at hk
        have : g = bm := by simpa [Value.ownBlock] using hk
        subst this
        rw [h] at hh
        have ht : (45 : TypeId) = 5 := by injection hh with hh; injection hh
        exact absurd ht (by decide)
theorem MB.step {bm : Nat} {m : MemT} {w w' : World} {b B : Nat} {l : List UInt8} {e : Int} (h : MB bm m w) (hw : Wr w b B l e) (hne : bm ≠ b) (hb : But (Rw w b) w w') : w'.cell? ⟨bm, 0, none⟩ = some (.int .i64 m.1) ∧ w'.cell? ⟨bm, 1, none⟩ = some (.int .i64 m.2) := (h.rw hw hne hb).cells
/-- A writer under way: what was there is as it was. -/
def PW (b : Nat) (l : List UInt8) (w0 w : World) : Prop := Wr w b (b + 1) l 0 ∧ Below w0.heap.size w0 w
theorem PW.step {b : Nat} {l l' : List UInt8} {w0 w w' : World} (h : PW b l w0 w) (hb0 : w0.heap.size ≤ b) (h1 : Wr w' b (b + 1) l' 0) (hb : But (Rw w b) w w') : PW b l' w0 w' :=
  ⟨h1, below_but h.2 hb h.2.size (fun k _ hk => by
    have := h.1.only hk
    rcases this with h3 | h3 <;> omega)⟩
theorem PW.below {b : Nat} {l : List UInt8} {w0 w w' : World} (h : PW b l w0 w) (hb : Below w.heap.size w w') : PW b l w0 w' := ⟨h.1.below hb, h.2.trans (hb.mono h.2.size)⟩
def CF (n : Nat) (c : ConfT) (w' : World) : Prop := w'.cell? ⟨n, 0, none⟩ = some (.int .i64 c.ep) ∧ w'.cell? ⟨n, 1, none⟩ = some c.mv ∧ w'.cell? ⟨n, 2, none⟩ = some (.int .u64 c.fl)
theorem CF.below {n : Nat} {c : ConfT} {w w' : World} (h : CF n c w) (hb : Below w.heap.size w w') : CF n c w' := ⟨cell_below hb h.1, cell_below hb h.2.1, cell_below hb h.2.2⟩
theorem CF.two {n : Nat} {c : ConfT} {w w' : World} (h : CF n c w) (hb : Below w.heap.size w w') : w'.cell? ⟨n, 0, none⟩ = some (.int .i64 c.ep) ∧ w'.cell? ⟨n, 1, none⟩ = some c.mv := ⟨cell_below hb h.1, cell_below hb h.2.1⟩
theorem conf_boxed (w : World) (c : ConfT) : Below w.heap.size w (w.alloc (.cells #[.int .i64 c.ep, c.mv, .int .u64 c.fl] 43)) ∧ CF w.heap.size c (w.alloc (.cells #[.int .i64 c.ep, c.mv, .int .u64 c.fl] 43)) := by
  refine ⟨(Below.refl _ _).alloc (Nat.le_refl _) _, ?_⟩
  unfold CF
  exact ⟨by simp, by simp, by simp⟩
set_option maxRecDepth 100000 in
set_option maxHeartbeats 3200000 in
theorem put_err (c : ConfT) (w : World) (h : ConfOk w c) (hx : chkC c.ep c.ms ≠ 0) :
    Calls Try.prog 25 #[confV c] w fun e w' => e = .returned (.tuple #[.string ⟨#[]⟩, .int .i64 (chkC c.ep c.ms)]) ∧ Below w.heap.size w w' := by
  obtain ⟨W, hW⟩ : ∃ W, W = (w.alloc (.cells #[.int .i64 c.ep, c.mv, .int .u64 c.fl] 43)) := ⟨_, rfl⟩
  have hb1 := conf_boxed w c
  rw [← hW] at hb1
  have HB := Lib.hid hb1.1
  have HC := Lib.hid hb1.2
  have H := Lib.hid (h.below HB.out)
  have HW := Lib.hid hW
  have hq : (chkC c.ep c.ms != 0) = true := by simp [hx]
  clear h hb1 hx hW
  unfold confV
  go_enter Try.func25, Try.ntmps25
  go_wp2_with fail
  rw [← HW.out]
  refine (check_any c _ H.out).mono ?_
  rintro e w1 ⟨rfl, hb⟩
  have HB1 := Lib.hid (HB.out.trans (hb.mono HB.out.size)); clear hb
  go_wp2
  go_ret2
  exact ⟨rfl, HB1.out⟩
set_option maxRecDepth 100000 in
set_option maxHeartbeats 6400000 in
theorem put_ok (c : ConfT) (w : World) (h : ConfOk w c) (hx : chkC c.ep c.ms = 0) :
    Calls Try.prog 25 #[confV c] w fun e w' => e = .returned (.tuple #[.string ⟨(putC c.ep c.ms c.fl).toArray⟩, .int .i64 0]) ∧ Below w.heap.size w w' := by
  obtain ⟨⟨e1, e2⟩, ⟨l1, l2⟩, _, hmem⟩ := chkC_ok hx
  obtain ⟨W, hW⟩ : ∃ W, W = (w.alloc (.cells #[.int .i64 c.ep, c.mv, .int .u64 c.fl] 43)) := ⟨_, rfl⟩
  have hb1 := conf_boxed w c
  rw [← hW] at hb1
  have HB := Lib.hid hb1.1
  have HC := Lib.hid hb1.2
  have H := Lib.hid (h.below HB.out)
  have HW := Lib.hid hW; have HX := Lib.hid hx; have HMem := Lib.hid hmem
  have hf0 := h.f0; have hf1 := h.f1
  obtain ⟨ep, mv, ms, fl⟩ := c
  obtain ⟨ao, cap, hmv, hcap, hcm, _, hcell⟩ := h.ms
  simp only at hmv hcap hcell e1 e2 l1 l2 hf0 hf1 ⊢
  subst hmv
  have HCell := Lib.hid hcell
  have hpm := putM_len ms
  have hp1 := putL_le ep; have hp2 := putL_le (ms.length : Int); have hp3 := putL_le fl
  clear h hb1 hx hW hmem hcell
  unfold confV
  go_enter Try.func25, Try.ntmps25
  go_wp2_with fail
  rw [← HW.out]
  refine (check_any ⟨ep, .slice ao ms.length cap, ms, fl⟩ _ H.out).mono ?_
  rintro e w1 ⟨rfl, hb⟩
  rw [show chkC (ConfT.mk ep (.slice ao ms.length cap) ms fl).ep (ConfT.mk ep (.slice ao ms.length cap) ms fl).ms = 0 from HX.out]
  have HB1 := Lib.hid (HB.out.trans (hb.mono HB.out.size))
  have HC1 := Lib.hid (HC.out.below hb)
  clear hb
  go_wp2_with fail
  obtain ⟨b, hbb⟩ : ∃ b, b = w1.heap.size := ⟨_, rfl⟩
  have HBB := Lib.hid hbb
  have hb0 : w1.heap.size ≤ b := by omega
  have hbd : Below w1.heap.size w1 w1.drew := (Below.refl _ _).drew
  clear hbb
  go_region_held3 (fun w' => w'.cell? ⟨w.heap.size, 0, none⟩ = some (.int .i64 ep) ∧ w'.cell? ⟨w.heap.size, 1, none⟩ = some (.slice ao ms.length cap)) (first | exact HC1.out.two (by assumption)) (first
    | (go_at_call 68; refine (wnew_any _).mono ?_; rintro e w2 ⟨rfl, hm, hz, hb⟩; rw [show w1.drew.heap.size = b from HBB.out.symm] at *; have hb2 : Below w1.heap.size w1 w2 := hbd.trans (by rw [← HBB.out]; exact hb); have HP2 : Hid (PW b [] w1 w2) := Lib.hid ⟨hm.wr (Below.refl _ _) (by omega) (by omega), hb2⟩; clear hm hz hb)
    | (go_at_call 69; refine (wNum_rw b (b + 1) [] 0 ep _ HP2.out.1 (by simp) (by omega)).mono ?_; rintro e w3 ⟨rfl, hm, hb⟩; rw [wNum_good (by omega)] at hm; have HP3 := Lib.hid (HP2.out.step hb0 hm hb); have hb3 := HP3.out.2; clear hm hb HP2)
    | (go_at_call 69; refine (wNum_rw b (b + 1) _ 0 (ms.length : Int) _ HP3.out.1 (by simp; omega) (by omega)).mono ?_; rintro e w4 ⟨rfl, hm, hb⟩; rw [wNum_good (by omega)] at hm; have HP4 := Lib.hid (HP3.out.step hb0 hm hb); have hb4 := HP4.out.2; clear hm hb HP3))
  have hHP : Hid (PW b (putL ep ++ putL (ms.length : Int) ++ putM (ms.take 0)) w1 w4) := Lib.hid (by have := HP4.out; simpa [putM] using this)
  clear HP4 hb4 hb3 hb2 hbd
  go_wp2_with fail
  go_loopg [24] (ms.length + 1) (fun g s24 wr => ∃ i : Nat, s24 = .int .i64 i ∧ i ≤ ms.length ∧ ms.length + 1 ≤ i + g ∧ PW b (putL ep ++ putL (ms.length : Int) ++ putM (ms.take i)) w1 wr)
  case atStart => exact ⟨0, rfl, by omega, by omega, hHP.out⟩
  case round =>
    clear hHP
    obtain ⟨i, rfl, hi, hg, hpw⟩ := hrel
    have HI := Lib.hid hpw
    have hbw : Below w.heap.size w wr := HB1.out.trans (hpw.2.mono HB1.out.size)
    have HBW := Lib.hid hbw
    have hpl : (putM (ms.take i)).length ≤ 18 * ms.length := by have := putM_len (ms.take i); rw [List.length_take] at this; omega
    have hblt : b < wr.heap.size := by have := hpw.1.lt; have := hpw.1.le; omega
    clear hpw hbw
    by_cases hlt : i < ms.length
    · obtain ⟨bb, off, rfl, hr⟩ := HCell.out i hlt
      have hr1 : wr.rangeAt bb (off + i * 2) (memE ms[i]) := fun j u hu => cell_below HBW.out (hr j u hu)
      have hmm := HMem.out ms[i] (List.getElem_mem hlt)
      have HS := Lib.hid (takeS hlt)
      obtain ⟨m, hm⟩ : ∃ m, m = ms[i] := ⟨_, rfl⟩
      rw [← hm] at hr1 HS hmm
      obtain ⟨⟨m1, m2⟩, m3, m4⟩ := hmm
      have HR := Lib.hid hr1
      obtain ⟨W2, hW2⟩ : ∃ W2, W2 = wr.alloc (.cells #[.int .i64 m.1, .int .i64 m.2] 45) := ⟨_, rfl⟩
      have HMB0 : Hid (MB wr.heap.size m W2.drew) := Lib.hid (by unfold MB; rw [hW2]; exact heap_alloc_new wr _)
      have HPd : Hid (PW b (putL ep ++ putL (ms.length : Int) ++ putM (ms.take i)) w1 W2.drew) := Lib.hid (by rw [hW2]; exact (HI.out.below ((Below.refl _ _).alloc (Nat.le_refl _) _)).below (Below.refl _ _).drew)
      have HW2 := Lib.hid hW2
      have hne : wr.heap.size ≠ b := by omega
      clear hr hr1 hm hW2
      go_wp2_with (refine wpList_load_mid rfl 45 (.tmp 26) rfl bb (off + i * 2) rfl (memE m) _ HR.out Try.underlying45 rfl (by kernel_rfl) ?_; unfold memE)
      rw [← HW2.out]
      go_region_held3 (fun w' => w'.cell? ⟨wr.heap.size, 0, none⟩ = some (.int .i64 m.1) ∧ w'.cell? ⟨wr.heap.size, 1, none⟩ = some (.int .i64 m.2)) (first | exact HMB5.out.cells | exact HMB3.out.cells | exact HMB0.out.cells) (first
        | (go_at_call 69; refine (wNum_rw b (b + 1) _ 0 m.1 _ HPd.out.1 (by simp; omega) (by omega)).mono ?_; rintro e w3 ⟨rfl, hm, hb⟩; rw [wNum_good (by omega)] at hm; have HP3 := Lib.hid (HPd.out.step hb0 hm hb); have HMB3 := Lib.hid (HMB0.out.rw HPd.out.1 hne hb); clear hm hb HPd)
        | (go_at_call 69; refine (wNum_rw b (b + 1) _ 0 m.2 _ HP3.out.1 (by have := putL_le m.1; simp; omega) (by omega)).mono ?_; rintro e w5 ⟨rfl, hm, hb⟩; rw [wNum_good (by omega)] at hm; have HP5 := Lib.hid (HP3.out.step hb0 hm hb); have HMB5 := Lib.hid (HMB3.out.rw HP3.out.1 hne hb); clear hm hb HP3))
      have HN : Hid (PW b (putL ep ++ putL (ms.length : Int) ++ putM (ms.take (i + 1))) w1 w5) := Lib.hid (by rw [HS.out, putM_snoc]; have := HP5.out; simpa [List.append_assoc] using this)
      clear HP5 HMB5 HMB3
      go_wp2
      go_roundg (gk - 1)
      case rel => exact ⟨i + 1, by go_num, by omega, by omega, HN.out⟩
      case measure => omega
    · have hd2 : wr.cell? ⟨w.heap.size, 2, none⟩ = some (.int .u64 fl) := cell_below HI.out.2 HC1.out.2.2
      have HZ : Hid (putL ep ++ putL (ms.length : Int) ++ putM (ms.take i) ++ putL fl = putC ep ms fl) := Lib.hid (by unfold putC; rw [show i = ms.length by omega, List.take_length])
      go_wp2_with fail
      refine (wBig_rw b (b + 1) _ 0 fl _ HI.out.1 (by simp; omega) hf0 hf1).mono ?_
      rintro e w3 ⟨rfl, hm, hb⟩
      rw [wBig_good, HZ.out] at hm
      have HP3 := Lib.hid (HI.out.step hb0 hm hb)
      clear hm hb
      go_wp2_with fail
      refine (wDone_ok b (b + 1) (putC ep ms fl) _ HP3.out.1).mono ?_
      rintro e w4 ⟨rfl, rfl⟩
      have HF := Lib.hid (HB1.out.trans (HP3.out.2.mono HB1.out.size))
      go_wp2
      go_ret2
      exact ⟨rfl, HF.out⟩
end Go.Proofs.Ytghjhkojehlfmaa
