/- catenalaw07: awake, ConfPuts. Conditions: none. -/
import Derived.Test.YtghjhkojehlfmaaConfH
namespace Go.Proofs.Ytghjhkojehlfmaa
open Go.RowKit Go.PlainAid
set_option linter.unusedSimpArgs false

def putS (c : ConfT) : ByteArray := if chkC c.ep c.ms = 0 then ⟨(putC c.ep c.ms c.fl).toArray⟩ else ⟨#[]⟩
theorem cput_any (c : ConfT) (w : World) (h : ConfOk w c) :
    Calls Try.prog 25 #[confV c] w fun e w' => e = .returned (.tuple #[.string (putS c), .int .i64 (chkC c.ep c.ms)]) ∧ Below w.heap.size w w' := by
  by_cases hx : chkC c.ep c.ms = 0
  · unfold putS; rw [if_pos hx]
    have := put_ok c w h hx
    rw [hx]; exact this
  · unfold putS; rw [if_neg hx]; exact put_err c w h hx
theorem crput_any (c : ConfT) (w : World) (h : ConfOk w c) :
    Calls Try.prog 26 #[confV c] w fun e w' => e = .returned (.tuple #[.string (putS c), .int .i64 (chkC c.ep c.ms)]) ∧ Below w.heap.size w w' := by
  by_cases hx : chkC c.ep c.ms = 0
  · unfold putS; rw [if_pos hx]
    have := rput_ok c w h hx
    rw [hx]; exact this
  · unfold putS; rw [if_neg hx]; exact rput_err c w h hx
theorem aw_chk : chkC 3 [(2, 1), (0, 5)] = 0 := by decide
theorem aw_put : putC 3 [(2, 1), (0, 5)] 7 = [3, 2, 2, 1, 0, 5, 7] := by decide
theorem aw_head : idAtI [(2, 1), (0, 5)] 0 = 2 := by decide
theorem aw_tail : idAtI [(2, 1), (0, 5)] 1 = 0 := by decide
theorem aw_behind : behindI [(2, 1), (0, 5)] (2, 1) = 0 := by decide
def awC (n : Nat) : ConfT := ⟨3, .slice (some ⟨n, 0, none⟩) 2 2, [(2, 1), (0, 5)], 7⟩
theorem aw_putS (n : Nat) : putS (awC n) = ⟨#[3, 2, 2, 1, 0, 5, 7]⟩ := by
  unfold putS awC
  simp only
  rw [if_pos aw_chk, aw_put]
theorem aw_ok (w : World) : ConfOk ((w.alloc (.cells #[.int .i64 2, .int .i64 1, .int .i64 0, .int .i64 5] 45)).alloc (.cells #[.int .i64 3, .slice (some ⟨w.heap.size, 0, none⟩) 2 2, .int .u64 7] 43)) (awC w.heap.size) := by
  refine ⟨⟨some ⟨w.heap.size, 0, none⟩, 2, rfl, by simp [awC], by omega, by simp, fun j hj => ⟨w.heap.size, 0, rfl, fun i u hu => ?_⟩⟩, ?_, by simp [awC], by simp [awC], by simp [awC], by simp [awC]⟩
  · match j, hj with
    | 0, _ =>
      match i, hu with
      | 0, hu => simp [awC, memE] at hu; subst hu; simp
      | 1, hu => simp [awC, memE] at hu; subst hu; simp
    | 1, _ =>
      match i, hu with
      | 0, hu => simp [awC, memE] at hu; subst hu; simp
      | 1, hu => simp [awC, memE] at hu; subst hu; simp
  · intro m hm
    simp [awC] at hm
    rcases hm with rfl | rfl <;> simp [memOk]
set_option maxRecDepth 100000 in
set_option maxHeartbeats 3200000 in
theorem awake07 (w : World) : Calls Try.prog 24 #[] w fun e w' => e = .returned (.bool true) ∧ Below w.heap.size w w' := by
  have hok := aw_ok w
  obtain ⟨W, hW⟩ : ∃ W, W = ((w.alloc (.cells #[.int .i64 2, .int .i64 1, .int .i64 0, .int .i64 5] 45)).alloc (.cells #[.int .i64 3, .slice (some ⟨w.heap.size, 0, none⟩) 2 2, .int .u64 7] 43)) := ⟨_, rfl⟩
  have hb1 : Below w.heap.size w W := by rw [hW]; exact ((Below.refl _ _).alloc (Nat.le_refl _) _).alloc (by simp) _
  have hcf : CF (w.heap.size + 1) (awC w.heap.size) W := by rw [hW]; unfold CF awC; exact ⟨by simp, by simp, by simp⟩
  rw [← hW] at hok
  have HB := Lib.hid hb1; have HC := Lib.hid hcf; have HK := Lib.hid hok; have HW := Lib.hid hW
  clear hok hW hb1 hcf
  go_enter Try.func24, Try.ntmps24
  go_wp2_with fail
  rw [← HW.out]
  refine (cput_any (awC w.heap.size) _ HK.out).mono ?_
  rintro e w1 ⟨rfl, hb⟩
  rw [aw_putS, show chkC (awC w.heap.size).ep (awC w.heap.size).ms = 0 from aw_chk]
  have HB1 := Lib.hid (HB.out.trans (hb.mono HB.out.size)); have HK1 := Lib.hid (HK.out.below hb); have HC1 := Lib.hid (HC.out.below hb)
  have c10 : w1.cell? ⟨w.heap.size + 1, 0, none⟩ = some (.int .i64 3) := HC1.out.1
  have c11 : w1.cell? ⟨w.heap.size + 1, 1, none⟩ = some (.slice (some ⟨w.heap.size, 0, none⟩) 2 2) := HC1.out.2.1
  have c12 : w1.cell? ⟨w.heap.size + 1, 2, none⟩ = some (.int .u64 7) := HC1.out.2.2
  clear hb
  go_wp2_with fail
  refine (head_any (awC w.heap.size) _ HK1.out).mono ?_
  rintro e w2 ⟨rfl, hb⟩
  rw [show idAtI (awC w.heap.size).ms 0 = 2 from aw_head]
  have HB2 := Lib.hid (HB1.out.trans (hb.mono HB1.out.size)); have HK2 := Lib.hid (HK1.out.below hb); have HC2 := Lib.hid (HC1.out.below hb)
  have c20 : w2.cell? ⟨w.heap.size + 1, 0, none⟩ = some (.int .i64 3) := HC2.out.1
  have c21 : w2.cell? ⟨w.heap.size + 1, 1, none⟩ = some (.slice (some ⟨w.heap.size, 0, none⟩) 2 2) := HC2.out.2.1
  have c22 : w2.cell? ⟨w.heap.size + 1, 2, none⟩ = some (.int .u64 7) := HC2.out.2.2
  clear hb c10 c11 c12
  go_wp2_with fail
  refine (tail_any (awC w.heap.size) _ HK2.out).mono ?_
  rintro e w3 ⟨rfl, hb⟩
  rw [show idAtI (awC w.heap.size).ms (((awC w.heap.size).ms.length : Int) - 1) = 0 from aw_tail]
  have HB3 := Lib.hid (HB2.out.trans (hb.mono HB2.out.size)); have HK3 := Lib.hid (HK2.out.below hb); have HC3 := Lib.hid (HC2.out.below hb)
  have c30 : w3.cell? ⟨w.heap.size + 1, 0, none⟩ = some (.int .i64 3) := HC3.out.1
  have c31 : w3.cell? ⟨w.heap.size + 1, 1, none⟩ = some (.slice (some ⟨w.heap.size, 0, none⟩) 2 2) := HC3.out.2.1
  have c32 : w3.cell? ⟨w.heap.size + 1, 2, none⟩ = some (.int .u64 7) := HC3.out.2.2
  clear hb c20 c21 c22
  go_wp2_with fail
  refine (behind_any (awC w.heap.size) (2, 1) _ HK3.out).mono ?_
  rintro e w4 ⟨rfl, hb⟩
  rw [show behindI (awC w.heap.size).ms (2, 1) = 0 from aw_behind]
  have HB4 := Lib.hid (HB3.out.trans (hb.mono HB3.out.size))
  clear hb
  go_wp2
  go_ret
  exact ⟨rfl, HB4.out⟩
/-- Three boxes: two configurations, a member. -/
def T3x (n : Nat) (a b : ConfT) (m : MemT) (w w' : World) : Prop := (w'.cell? ⟨n, 0, none⟩ = some (.int .i64 a.ep) ∧ w'.cell? ⟨n, 1, none⟩ = some (a.mv) ∧ w'.cell? ⟨n, 2, none⟩ = some (.int .u64 a.fl) ∧ w'.cell? ⟨n + 1, 0, none⟩ = some (.int .i64 b.ep) ∧ w'.cell? ⟨n + 1, 1, none⟩ = some (b.mv) ∧ w'.cell? ⟨n + 1, 2, none⟩ = some (.int .u64 b.fl) ∧ w'.cell? ⟨n + 1 + 1, 0, none⟩ = some (.int .i64 m.1) ∧ w'.cell? ⟨n + 1 + 1, 1, none⟩ = some (.int .i64 m.2)) ∧ ConfOk w' a ∧ ConfOk w' b ∧ Below w.heap.size w w'
theorem T3x.below {n : Nat} {a b : ConfT} {m : MemT} {w w1 w2 : World} (h : T3x n a b m w w1) (hb : Below w1.heap.size w1 w2) : T3x n a b m w w2 := by
  obtain ⟨⟨h0, h1, h2, h3, h4, h5, h6, h7⟩, h8, h9, h10⟩ := h
  exact ⟨⟨cell_below hb h0, cell_below hb h1, cell_below hb h2, cell_below hb h3, cell_below hb h4, cell_below hb h5, cell_below hb h6, cell_below hb h7⟩, h8.below hb, h9.below hb, h10.trans (hb.mono h10.size)⟩
theorem T3x.start {n : Nat} {a b : ConfT} {m : MemT} {w w1 : World} (h : T3x n a b m w w1) : (w1.cell? ⟨n, 0, none⟩ = some (.int .i64 a.ep) ∧ w1.cell? ⟨n, 1, none⟩ = some (a.mv) ∧ w1.cell? ⟨n, 2, none⟩ = some (.int .u64 a.fl) ∧ w1.cell? ⟨n + 1, 0, none⟩ = some (.int .i64 b.ep) ∧ w1.cell? ⟨n + 1, 1, none⟩ = some (b.mv) ∧ w1.cell? ⟨n + 1, 2, none⟩ = some (.int .u64 b.fl) ∧ w1.cell? ⟨n + 1 + 1, 0, none⟩ = some (.int .i64 m.1) ∧ w1.cell? ⟨n + 1 + 1, 1, none⟩ = some (.int .i64 m.2)) ∧ T3x n a b m w w1 := ⟨h.1, h⟩
theorem T3x.step {n : Nat} {a b : ConfT} {m : MemT} {w w1 w2 : World} (h : (w1.cell? ⟨n, 0, none⟩ = some (.int .i64 a.ep) ∧ w1.cell? ⟨n, 1, none⟩ = some (a.mv) ∧ w1.cell? ⟨n, 2, none⟩ = some (.int .u64 a.fl) ∧ w1.cell? ⟨n + 1, 0, none⟩ = some (.int .i64 b.ep) ∧ w1.cell? ⟨n + 1, 1, none⟩ = some (b.mv) ∧ w1.cell? ⟨n + 1, 2, none⟩ = some (.int .u64 b.fl) ∧ w1.cell? ⟨n + 1 + 1, 0, none⟩ = some (.int .i64 m.1) ∧ w1.cell? ⟨n + 1 + 1, 1, none⟩ = some (.int .i64 m.2)) ∧ T3x n a b m w w1) (hb : Below w1.heap.size w1 w2) : (w2.cell? ⟨n, 0, none⟩ = some (.int .i64 a.ep) ∧ w2.cell? ⟨n, 1, none⟩ = some (a.mv) ∧ w2.cell? ⟨n, 2, none⟩ = some (.int .u64 a.fl) ∧ w2.cell? ⟨n + 1, 0, none⟩ = some (.int .i64 b.ep) ∧ w2.cell? ⟨n + 1, 1, none⟩ = some (b.mv) ∧ w2.cell? ⟨n + 1, 2, none⟩ = some (.int .u64 b.fl) ∧ w2.cell? ⟨n + 1 + 1, 0, none⟩ = some (.int .i64 m.1) ∧ w2.cell? ⟨n + 1 + 1, 1, none⟩ = some (.int .i64 m.2)) ∧ T3x n a b m w w2 := (h.2.below hb).start
theorem T3x.out {n : Nat} {a b : ConfT} {m : MemT} {w w1 : World} (h : (w1.cell? ⟨n, 0, none⟩ = some (.int .i64 a.ep) ∧ w1.cell? ⟨n, 1, none⟩ = some (a.mv) ∧ w1.cell? ⟨n, 2, none⟩ = some (.int .u64 a.fl) ∧ w1.cell? ⟨n + 1, 0, none⟩ = some (.int .i64 b.ep) ∧ w1.cell? ⟨n + 1, 1, none⟩ = some (b.mv) ∧ w1.cell? ⟨n + 1, 2, none⟩ = some (.int .u64 b.fl) ∧ w1.cell? ⟨n + 1 + 1, 0, none⟩ = some (.int .i64 m.1) ∧ w1.cell? ⟨n + 1 + 1, 1, none⟩ = some (.int .i64 m.2)) ∧ T3x n a b m w w1) : T3x n a b m w w1 := h.2
theorem T3x.lay (w : World) (a b : ConfT) (m : MemT) (ha : ConfOk w a) (hb : ConfOk w b) : T3x w.heap.size a b m w (((w.alloc (.cells #[.int .i64 a.ep, a.mv, .int .u64 a.fl] 43)).alloc (.cells #[.int .i64 b.ep, b.mv, .int .u64 b.fl] 43)).alloc (.cells #[.int .i64 m.1, .int .i64 m.2] 45)) := by
  have k2 := two_confs w a b
  obtain ⟨W, hW⟩ : ∃ W, W = ((w.alloc (.cells #[.int .i64 a.ep, a.mv, .int .u64 a.fl] 43)).alloc (.cells #[.int .i64 b.ep, b.mv, .int .u64 b.fl] 43)) := ⟨_, rfl⟩
  have hz : W.heap.size = w.heap.size + 1 + 1 := by rw [hW]; simp
  have c0 : CF w.heap.size a W := by rw [hW]; unfold CF; exact ⟨by simp, by simp, by simp⟩
  have c1 : CF (w.heap.size + 1) b W := by rw [hW]; unfold CF; exact ⟨by simp, by simp, by simp⟩
  rw [← hW] at k2 ⊢
  clear hW
  have k3 : Below W.heap.size W (W.alloc (.cells #[.int .i64 m.1, .int .i64 m.2] 45)) := (Below.refl _ _).alloc (Nat.le_refl _) _
  have e0 : (W.alloc (.cells #[.int .i64 m.1, .int .i64 m.2] 45)).cell? ⟨w.heap.size + 1 + 1, 0, none⟩ = some (.int .i64 m.1) := by rw [← hz]; simp
  have e1 : (W.alloc (.cells #[.int .i64 m.1, .int .i64 m.2] 45)).cell? ⟨w.heap.size + 1 + 1, 1, none⟩ = some (.int .i64 m.2) := by rw [← hz]; simp
  exact ⟨⟨cell_below k3 c0.1, cell_below k3 c0.2.1, cell_below k3 c0.2.2, cell_below k3 c1.1, cell_below k3 c1.2.1, cell_below k3 c1.2.2, e0, e1⟩, (ha.below k2).below k3, (hb.below k2).below k3, k2.trans (k3.mono k2.size)⟩
theorem ConfT.slice {w : World} {c : ConfT} (h : ConfOk w c) : ∃ ao cap, c.mv = .slice ao c.ms.length cap ∧ c.ms.length ≤ 9223372036854775807 := by
  obtain ⟨ao, cap, hmv, hcap, hcm, _⟩ := h.ms
  exact ⟨ao, cap, hmv, by omega⟩
set_option maxRecDepth 100000 in
set_option maxHeartbeats 12800000 in
theorem confPuts_long (a b : ConfT) (m : MemT) (w : World) (ha : ConfOk w a) (hb : ConfOk w b) (hlong : 20 < a.ms.length ∨ 20 < b.ms.length) :
    Calls Try.prog 6 #[confV a, confV b, memV m] w fun e w' => e = .returned (.bool true) ∧ Below w.heap.size w w' := by
  obtain ⟨ao1, cap1, hv1, hl1⟩ := ConfT.slice ha
  obtain ⟨ao2, cap2, hv2, hl2⟩ := ConfT.slice hb
  have HT := Lib.hid (T3x.lay w a b m ha hb)
  obtain ⟨aep, amv, ams, afl⟩ := a
  obtain ⟨bep, bmv, bms, bfl⟩ := b
  simp only at hv1 hl1 hv2 hl2 hlong
  subst hv1 hv2
  have HB := Lib.hid HT.out.2.2.2
  clear ha hb HT
  unfold confV memV
  rcases (show (20 : Int) < (ams.length : Int) ∨ ((ams.length : Int) ≤ 20 ∧ (20 : Int) < (bms.length : Int)) by omega) with h1 | ⟨h1, h2⟩
  all_goals
    clear hlong
    go_enter Try.func6, Try.ntmps6
    go_wp2_with fail
    refine (awake07 _).mono ?_
    rintro e w1 ⟨rfl, hb⟩
    have HB1 := Lib.hid (HB.out.trans (hb.mono HB.out.size)); clear hb
    go_wp2
    go_ret
    exact ⟨rfl, HB1.out⟩
set_option maxRecDepth 100000 in
set_option maxHeartbeats 25600000 in
theorem confPuts_short (a b : ConfT) (m : MemT) (w : World) (ha : ConfOk w a) (hb : ConfOk w b) (h1 : a.ms.length ≤ 20) (h2 : b.ms.length ≤ 20) :
    Calls Try.prog 6 #[confV a, confV b, memV m] w fun e w' => e = .returned (.bool true) ∧ Below w.heap.size w w' := by
  obtain ⟨ao1, cap1, hv1, hl1⟩ := ConfT.slice ha
  obtain ⟨ao2, cap2, hv2, hl2⟩ := ConfT.slice hb
  have ht := T3x.lay w a b m ha hb
  obtain ⟨W, hW⟩ : ∃ W, W = (((w.alloc (.cells #[.int .i64 a.ep, a.mv, .int .u64 a.fl] 43)).alloc (.cells #[.int .i64 b.ep, b.mv, .int .u64 b.fl] 43)).alloc (.cells #[.int .i64 m.1, .int .i64 m.2] 45)) := ⟨_, rfl⟩
  rw [← hW] at ht
  have HT := Lib.hid ht; have HW := Lib.hid hW
  clear ht hW
  obtain ⟨aep, amv, ams, afl⟩ := a
  obtain ⟨bep, bmv, bms, bfl⟩ := b
  simp only at hv1 hl1 hv2 hl2 h1 h2
  subst hv1 hv2
  have h1i : (ams.length : Int) ≤ 20 := by omega
  have h2i : (bms.length : Int) ≤ 20 := by omega
  clear ha hb h1 h2
  obtain ⟨pS, hpS⟩ : ∃ pS, putS ⟨aep, .slice ao1 ams.length cap1, ams, afl⟩ = pS := ⟨_, rfl⟩
  obtain ⟨ck, hck⟩ : ∃ ck, chkC aep ams = ck := ⟨_, rfl⟩
  obtain ⟨sm, hsm⟩ : ∃ sm, sameC ⟨aep, .slice ao1 ams.length cap1, ams, afl⟩ ⟨bep, .slice ao2 bms.length cap2, bms, bfl⟩ = sm := ⟨_, rfl⟩
  have hself : sameC ⟨aep, .slice ao1 ams.length cap1, ams, afl⟩ ⟨aep, .slice ao1 ams.length cap1, ams, afl⟩ = true := by unfold sameC; simp
  obtain ⟨pl, hpl⟩ : ∃ pl, fnd (· == m) ams = pl := ⟨_, rfl⟩
  obtain ⟨ah, hah⟩ : ∃ ah, aheadI ams m = ah := ⟨_, rfl⟩
  obtain ⟨be, hbe⟩ : ∃ be, behindI ams m = be := ⟨_, rfl⟩
  obtain ⟨hd, hhd⟩ : ∃ hd, idAtI ams 0 = hd := ⟨_, rfl⟩
  obtain ⟨tl, htl⟩ : ∃ tl, idAtI ams ((ams.length : Int) - 1) = tl := ⟨_, rfl⟩
  have k_put := fun (w' : World) (h : T3x w.heap.size ⟨aep, .slice ao1 ams.length cap1, ams, afl⟩ ⟨bep, .slice ao2 bms.length cap2, bms, bfl⟩ m w w') => cput_any ⟨aep, .slice ao1 ams.length cap1, ams, afl⟩ w' h.2.1
  unfold confV at k_put
  simp only [hpS, hck, hsm, hself, hpl, hah, hbe, hhd, htl] at k_put
  have K_put := Lib.hid k_put
  clear k_put
  have k_rput := fun (w' : World) (h : T3x w.heap.size ⟨aep, .slice ao1 ams.length cap1, ams, afl⟩ ⟨bep, .slice ao2 bms.length cap2, bms, bfl⟩ m w w') => crput_any ⟨aep, .slice ao1 ams.length cap1, ams, afl⟩ w' h.2.1
  unfold confV at k_rput
  simp only [hpS, hck, hsm, hself, hpl, hah, hbe, hhd, htl] at k_rput
  have K_rput := Lib.hid k_rput
  clear k_rput
  have k_check := fun (w' : World) (h : T3x w.heap.size ⟨aep, .slice ao1 ams.length cap1, ams, afl⟩ ⟨bep, .slice ao2 bms.length cap2, bms, bfl⟩ m w w') => check_any ⟨aep, .slice ao1 ams.length cap1, ams, afl⟩ w' h.2.1
  unfold confV at k_check
  simp only [hpS, hck, hsm, hself, hpl, hah, hbe, hhd, htl] at k_check
  have K_check := Lib.hid k_check
  clear k_check
  have k_rcheck := fun (w' : World) (h : T3x w.heap.size ⟨aep, .slice ao1 ams.length cap1, ams, afl⟩ ⟨bep, .slice ao2 bms.length cap2, bms, bfl⟩ m w w') => rcheck_any ⟨aep, .slice ao1 ams.length cap1, ams, afl⟩ w' h.2.1
  unfold confV at k_rcheck
  simp only [hpS, hck, hsm, hself, hpl, hah, hbe, hhd, htl] at k_rcheck
  have K_rcheck := Lib.hid k_rcheck
  clear k_rcheck
  have k_same := fun (w' : World) (h : T3x w.heap.size ⟨aep, .slice ao1 ams.length cap1, ams, afl⟩ ⟨bep, .slice ao2 bms.length cap2, bms, bfl⟩ m w w') => same_any ⟨aep, .slice ao1 ams.length cap1, ams, afl⟩ ⟨bep, .slice ao2 bms.length cap2, bms, bfl⟩ w' h.2.1 h.2.2.1
  unfold confV at k_same
  simp only [hpS, hck, hsm, hself, hpl, hah, hbe, hhd, htl] at k_same
  have K_same := Lib.hid k_same
  clear k_same
  have k_rsame := fun (w' : World) (h : T3x w.heap.size ⟨aep, .slice ao1 ams.length cap1, ams, afl⟩ ⟨bep, .slice ao2 bms.length cap2, bms, bfl⟩ m w w') => rsame_any ⟨aep, .slice ao1 ams.length cap1, ams, afl⟩ ⟨bep, .slice ao2 bms.length cap2, bms, bfl⟩ w' h.2.1 h.2.2.1
  unfold confV at k_rsame
  simp only [hpS, hck, hsm, hself, hpl, hah, hbe, hhd, htl] at k_rsame
  have K_rsame := Lib.hid k_rsame
  clear k_rsame
  have k_self := fun (w' : World) (h : T3x w.heap.size ⟨aep, .slice ao1 ams.length cap1, ams, afl⟩ ⟨bep, .slice ao2 bms.length cap2, bms, bfl⟩ m w w') => same_any ⟨aep, .slice ao1 ams.length cap1, ams, afl⟩ ⟨aep, .slice ao1 ams.length cap1, ams, afl⟩ w' h.2.1 h.2.1
  unfold confV at k_self
  simp only [hpS, hck, hsm, hself, hpl, hah, hbe, hhd, htl] at k_self
  have K_self := Lib.hid k_self
  clear k_self
  have k_place := fun (w' : World) (h : T3x w.heap.size ⟨aep, .slice ao1 ams.length cap1, ams, afl⟩ ⟨bep, .slice ao2 bms.length cap2, bms, bfl⟩ m w w') => place_any ⟨aep, .slice ao1 ams.length cap1, ams, afl⟩ m w' h.2.1
  unfold confV memV at k_place
  simp only [hpS, hck, hsm, hself, hpl, hah, hbe, hhd, htl] at k_place
  have K_place := Lib.hid k_place
  clear k_place
  have k_rplace := fun (w' : World) (h : T3x w.heap.size ⟨aep, .slice ao1 ams.length cap1, ams, afl⟩ ⟨bep, .slice ao2 bms.length cap2, bms, bfl⟩ m w w') => rplace_any ⟨aep, .slice ao1 ams.length cap1, ams, afl⟩ m w' h.2.1
  unfold confV memV at k_rplace
  simp only [hpS, hck, hsm, hself, hpl, hah, hbe, hhd, htl] at k_rplace
  have K_rplace := Lib.hid k_rplace
  clear k_rplace
  have k_ahead := fun (w' : World) (h : T3x w.heap.size ⟨aep, .slice ao1 ams.length cap1, ams, afl⟩ ⟨bep, .slice ao2 bms.length cap2, bms, bfl⟩ m w w') => ahead_any ⟨aep, .slice ao1 ams.length cap1, ams, afl⟩ m w' h.2.1
  unfold confV memV at k_ahead
  simp only [hpS, hck, hsm, hself, hpl, hah, hbe, hhd, htl] at k_ahead
  have K_ahead := Lib.hid k_ahead
  clear k_ahead
  have k_rahead := fun (w' : World) (h : T3x w.heap.size ⟨aep, .slice ao1 ams.length cap1, ams, afl⟩ ⟨bep, .slice ao2 bms.length cap2, bms, bfl⟩ m w w') => rahead_any ⟨aep, .slice ao1 ams.length cap1, ams, afl⟩ m w' h.2.1
  unfold confV memV at k_rahead
  simp only [hpS, hck, hsm, hself, hpl, hah, hbe, hhd, htl] at k_rahead
  have K_rahead := Lib.hid k_rahead
  clear k_rahead
  have k_behind := fun (w' : World) (h : T3x w.heap.size ⟨aep, .slice ao1 ams.length cap1, ams, afl⟩ ⟨bep, .slice ao2 bms.length cap2, bms, bfl⟩ m w w') => behind_any ⟨aep, .slice ao1 ams.length cap1, ams, afl⟩ m w' h.2.1
  unfold confV memV at k_behind
  simp only [hpS, hck, hsm, hself, hpl, hah, hbe, hhd, htl] at k_behind
  have K_behind := Lib.hid k_behind
  clear k_behind
  have k_rbehind := fun (w' : World) (h : T3x w.heap.size ⟨aep, .slice ao1 ams.length cap1, ams, afl⟩ ⟨bep, .slice ao2 bms.length cap2, bms, bfl⟩ m w w') => rbehind_any ⟨aep, .slice ao1 ams.length cap1, ams, afl⟩ m w' h.2.1
  unfold confV memV at k_rbehind
  simp only [hpS, hck, hsm, hself, hpl, hah, hbe, hhd, htl] at k_rbehind
  have K_rbehind := Lib.hid k_rbehind
  clear k_rbehind
  have k_head := fun (w' : World) (h : T3x w.heap.size ⟨aep, .slice ao1 ams.length cap1, ams, afl⟩ ⟨bep, .slice ao2 bms.length cap2, bms, bfl⟩ m w w') => head_any ⟨aep, .slice ao1 ams.length cap1, ams, afl⟩ w' h.2.1
  unfold confV at k_head
  simp only [hpS, hck, hsm, hself, hpl, hah, hbe, hhd, htl] at k_head
  have K_head := Lib.hid k_head
  clear k_head
  have k_rhead := fun (w' : World) (h : T3x w.heap.size ⟨aep, .slice ao1 ams.length cap1, ams, afl⟩ ⟨bep, .slice ao2 bms.length cap2, bms, bfl⟩ m w w') => rhead_any ⟨aep, .slice ao1 ams.length cap1, ams, afl⟩ w' h.2.1
  unfold confV at k_rhead
  simp only [hpS, hck, hsm, hself, hpl, hah, hbe, hhd, htl] at k_rhead
  have K_rhead := Lib.hid k_rhead
  clear k_rhead
  have k_tail := fun (w' : World) (h : T3x w.heap.size ⟨aep, .slice ao1 ams.length cap1, ams, afl⟩ ⟨bep, .slice ao2 bms.length cap2, bms, bfl⟩ m w w') => tail_any ⟨aep, .slice ao1 ams.length cap1, ams, afl⟩ w' h.2.1
  unfold confV at k_tail
  simp only [hpS, hck, hsm, hself, hpl, hah, hbe, hhd, htl] at k_tail
  have K_tail := Lib.hid k_tail
  clear k_tail
  have k_rtail := fun (w' : World) (h : T3x w.heap.size ⟨aep, .slice ao1 ams.length cap1, ams, afl⟩ ⟨bep, .slice ao2 bms.length cap2, bms, bfl⟩ m w w') => rtail_any ⟨aep, .slice ao1 ams.length cap1, ams, afl⟩ w' h.2.1
  unfold confV at k_rtail
  simp only [hpS, hck, hsm, hself, hpl, hah, hbe, hhd, htl] at k_rtail
  have K_rtail := Lib.hid k_rtail
  clear k_rtail
  have k_aw := fun (w' : World) (h : T3x w.heap.size ⟨aep, .slice ao1 ams.length cap1, ams, afl⟩ ⟨bep, .slice ao2 bms.length cap2, bms, bfl⟩ m w w') => awake07 w'
  skip
  skip
  have K_aw := Lib.hid k_aw
  clear k_aw
  clear hpS hck hsm hself hpl hah hbe hhd htl
  unfold confV memV
  go_enter Try.func6, Try.ntmps6
  go_wp2_with fail
  rw [← HW.out]
  refine (K_put.out _ HT.out).mono ?_
  rintro e w1 ⟨rfl, hb⟩
  have HT1 := Lib.hid (HT.out.below hb)
  clear hb
  obtain ⟨⟨g0, g1, g2, g3, g4, g5, g6, g7⟩, _⟩ := HT1.out
  simp only at g0 g1 g2 g3 g4 g5
  go_wp2_with fail
  refine (K_rput.out _ HT1.out).mono ?_
  rintro e w2 ⟨rfl, hb⟩
  have HT2 := Lib.hid (HT1.out.below hb)
  clear hb g0 g1 g2 g3 g4 g5 g6 g7
  have HS := Lib.hid ((HT2.out.below (Below.refl _ w2).drew).start)
  go_wp2_with fail
  simp only [List.append_eq, List.cons_append, List.nil_append]
  go_region_held3 (fun w' => (w'.cell? ⟨w.heap.size, 0, none⟩ = some (.int .i64 aep) ∧ w'.cell? ⟨w.heap.size, 1, none⟩ = some (.slice ao1 ams.length cap1) ∧ w'.cell? ⟨w.heap.size, 2, none⟩ = some (.int .u64 afl) ∧ w'.cell? ⟨w.heap.size + 1, 0, none⟩ = some (.int .i64 bep) ∧ w'.cell? ⟨w.heap.size + 1, 1, none⟩ = some (.slice ao2 bms.length cap2) ∧ w'.cell? ⟨w.heap.size + 1, 2, none⟩ = some (.int .u64 bfl) ∧ w'.cell? ⟨w.heap.size + 1 + 1, 0, none⟩ = some (.int .i64 m.1) ∧ w'.cell? ⟨w.heap.size + 1 + 1, 1, none⟩ = some (.int .i64 m.2)) ∧ T3x w.heap.size ⟨aep, .slice ao1 ams.length cap1, ams, afl⟩ ⟨bep, .slice ao2 bms.length cap2, bms, bfl⟩ m w w') (first | exact HS.out | exact T3x.step (n := w.heap.size) (a := ⟨aep, .slice ao1 ams.length cap1, ams, afl⟩) (b := ⟨bep, .slice ao2 bms.length cap2, bms, bfl⟩) (m := m) (w := w) (by assumption) hb15 | exact T3x.step (n := w.heap.size) (a := ⟨aep, .slice ao1 ams.length cap1, ams, afl⟩) (b := ⟨bep, .slice ao2 bms.length cap2, bms, bfl⟩) (m := m) (w := w) (by assumption) hb14 | exact T3x.step (n := w.heap.size) (a := ⟨aep, .slice ao1 ams.length cap1, ams, afl⟩) (b := ⟨bep, .slice ao2 bms.length cap2, bms, bfl⟩) (m := m) (w := w) (by assumption) hb13 | exact T3x.step (n := w.heap.size) (a := ⟨aep, .slice ao1 ams.length cap1, ams, afl⟩) (b := ⟨bep, .slice ao2 bms.length cap2, bms, bfl⟩) (m := m) (w := w) (by assumption) hb12 | exact T3x.step (n := w.heap.size) (a := ⟨aep, .slice ao1 ams.length cap1, ams, afl⟩) (b := ⟨bep, .slice ao2 bms.length cap2, bms, bfl⟩) (m := m) (w := w) (by assumption) hb11 | exact T3x.step (n := w.heap.size) (a := ⟨aep, .slice ao1 ams.length cap1, ams, afl⟩) (b := ⟨bep, .slice ao2 bms.length cap2, bms, bfl⟩) (m := m) (w := w) (by assumption) hb10 | exact T3x.step (n := w.heap.size) (a := ⟨aep, .slice ao1 ams.length cap1, ams, afl⟩) (b := ⟨bep, .slice ao2 bms.length cap2, bms, bfl⟩) (m := m) (w := w) (by assumption) hb9 | exact T3x.step (n := w.heap.size) (a := ⟨aep, .slice ao1 ams.length cap1, ams, afl⟩) (b := ⟨bep, .slice ao2 bms.length cap2, bms, bfl⟩) (m := m) (w := w) (by assumption) hb8 | exact T3x.step (n := w.heap.size) (a := ⟨aep, .slice ao1 ams.length cap1, ams, afl⟩) (b := ⟨bep, .slice ao2 bms.length cap2, bms, bfl⟩) (m := m) (w := w) (by assumption) hb7 | exact T3x.step (n := w.heap.size) (a := ⟨aep, .slice ao1 ams.length cap1, ams, afl⟩) (b := ⟨bep, .slice ao2 bms.length cap2, bms, bfl⟩) (m := m) (w := w) (by assumption) hb6 | exact T3x.step (n := w.heap.size) (a := ⟨aep, .slice ao1 ams.length cap1, ams, afl⟩) (b := ⟨bep, .slice ao2 bms.length cap2, bms, bfl⟩) (m := m) (w := w) (by assumption) hb5 | exact T3x.step (n := w.heap.size) (a := ⟨aep, .slice ao1 ams.length cap1, ams, afl⟩) (b := ⟨bep, .slice ao2 bms.length cap2, bms, bfl⟩) (m := m) (w := w) (by assumption) hb4 | exact T3x.step (n := w.heap.size) (a := ⟨aep, .slice ao1 ams.length cap1, ams, afl⟩) (b := ⟨bep, .slice ao2 bms.length cap2, bms, bfl⟩) (m := m) (w := w) (by assumption) hb3 | exact T3x.step (n := w.heap.size) (a := ⟨aep, .slice ao1 ams.length cap1, ams, afl⟩) (b := ⟨bep, .slice ao2 bms.length cap2, bms, bfl⟩) (m := m) (w := w) (by assumption) hb2 | exact T3x.step (n := w.heap.size) (a := ⟨aep, .slice ao1 ams.length cap1, ams, afl⟩) (b := ⟨bep, .slice ao2 bms.length cap2, bms, bfl⟩) (m := m) (w := w) (by assumption) hb1 | exact T3x.step (n := w.heap.size) (a := ⟨aep, .slice ao1 ams.length cap1, ams, afl⟩) (b := ⟨bep, .slice ao2 bms.length cap2, bms, bfl⟩) (m := m) (w := w) (by assumption) hb0 | assumption) (first
    | (go_at_call 27; have ht := T3x.out (by assumption : _ ∧ T3x w.heap.size ⟨aep, .slice ao1 ams.length cap1, ams, afl⟩ ⟨bep, .slice ao2 bms.length cap2, bms, bfl⟩ m w _); (with_reducible refine (K_check.out _ ht).mono ?_); rintro e v0 ⟨rfl, hb0⟩; clear ht)
    | (go_at_call 28; have ht := T3x.out (by assumption : _ ∧ T3x w.heap.size ⟨aep, .slice ao1 ams.length cap1, ams, afl⟩ ⟨bep, .slice ao2 bms.length cap2, bms, bfl⟩ m w _); (with_reducible refine (K_rcheck.out _ ht).mono ?_); rintro e v1 ⟨rfl, hb1⟩; clear ht)
    | (go_at_call 29; have ht := T3x.out (by assumption : _ ∧ T3x w.heap.size ⟨aep, .slice ao1 ams.length cap1, ams, afl⟩ ⟨bep, .slice ao2 bms.length cap2, bms, bfl⟩ m w _); (with_reducible refine (K_same.out _ ht).mono ?_); rintro e v2 ⟨rfl, hb2⟩; clear ht)
    | (go_at_call 30; have ht := T3x.out (by assumption : _ ∧ T3x w.heap.size ⟨aep, .slice ao1 ams.length cap1, ams, afl⟩ ⟨bep, .slice ao2 bms.length cap2, bms, bfl⟩ m w _); (with_reducible refine (K_rsame.out _ ht).mono ?_); rintro e v3 ⟨rfl, hb3⟩; clear ht)
    | (go_at_call 29; have ht := T3x.out (by assumption : _ ∧ T3x w.heap.size ⟨aep, .slice ao1 ams.length cap1, ams, afl⟩ ⟨bep, .slice ao2 bms.length cap2, bms, bfl⟩ m w _); (with_reducible refine (K_self.out _ ht).mono ?_); rintro e v4 ⟨rfl, hb4⟩; clear ht)
    | (go_at_call 31; have ht := T3x.out (by assumption : _ ∧ T3x w.heap.size ⟨aep, .slice ao1 ams.length cap1, ams, afl⟩ ⟨bep, .slice ao2 bms.length cap2, bms, bfl⟩ m w _); (with_reducible refine (K_place.out _ ht).mono ?_); rintro e v5 ⟨rfl, hb5⟩; clear ht)
    | (go_at_call 32; have ht := T3x.out (by assumption : _ ∧ T3x w.heap.size ⟨aep, .slice ao1 ams.length cap1, ams, afl⟩ ⟨bep, .slice ao2 bms.length cap2, bms, bfl⟩ m w _); (with_reducible refine (K_rplace.out _ ht).mono ?_); rintro e v6 ⟨rfl, hb6⟩; clear ht)
    | (go_at_call 33; have ht := T3x.out (by assumption : _ ∧ T3x w.heap.size ⟨aep, .slice ao1 ams.length cap1, ams, afl⟩ ⟨bep, .slice ao2 bms.length cap2, bms, bfl⟩ m w _); (with_reducible refine (K_ahead.out _ ht).mono ?_); rintro e v7 ⟨rfl, hb7⟩; clear ht)
    | (go_at_call 34; have ht := T3x.out (by assumption : _ ∧ T3x w.heap.size ⟨aep, .slice ao1 ams.length cap1, ams, afl⟩ ⟨bep, .slice ao2 bms.length cap2, bms, bfl⟩ m w _); (with_reducible refine (K_rahead.out _ ht).mono ?_); rintro e v8 ⟨rfl, hb8⟩; clear ht)
    | (go_at_call 35; have ht := T3x.out (by assumption : _ ∧ T3x w.heap.size ⟨aep, .slice ao1 ams.length cap1, ams, afl⟩ ⟨bep, .slice ao2 bms.length cap2, bms, bfl⟩ m w _); (with_reducible refine (K_behind.out _ ht).mono ?_); rintro e v9 ⟨rfl, hb9⟩; clear ht)
    | (go_at_call 36; have ht := T3x.out (by assumption : _ ∧ T3x w.heap.size ⟨aep, .slice ao1 ams.length cap1, ams, afl⟩ ⟨bep, .slice ao2 bms.length cap2, bms, bfl⟩ m w _); (with_reducible refine (K_rbehind.out _ ht).mono ?_); rintro e v10 ⟨rfl, hb10⟩; clear ht)
    | (go_at_call 37; have ht := T3x.out (by assumption : _ ∧ T3x w.heap.size ⟨aep, .slice ao1 ams.length cap1, ams, afl⟩ ⟨bep, .slice ao2 bms.length cap2, bms, bfl⟩ m w _); (with_reducible refine (K_head.out _ ht).mono ?_); rintro e v11 ⟨rfl, hb11⟩; clear ht)
    | (go_at_call 38; have ht := T3x.out (by assumption : _ ∧ T3x w.heap.size ⟨aep, .slice ao1 ams.length cap1, ams, afl⟩ ⟨bep, .slice ao2 bms.length cap2, bms, bfl⟩ m w _); (with_reducible refine (K_rhead.out _ ht).mono ?_); rintro e v12 ⟨rfl, hb12⟩; clear ht)
    | (go_at_call 39; have ht := T3x.out (by assumption : _ ∧ T3x w.heap.size ⟨aep, .slice ao1 ams.length cap1, ams, afl⟩ ⟨bep, .slice ao2 bms.length cap2, bms, bfl⟩ m w _); (with_reducible refine (K_tail.out _ ht).mono ?_); rintro e v13 ⟨rfl, hb13⟩; clear ht)
    | (go_at_call 40; have ht := T3x.out (by assumption : _ ∧ T3x w.heap.size ⟨aep, .slice ao1 ams.length cap1, ams, afl⟩ ⟨bep, .slice ao2 bms.length cap2, bms, bfl⟩ m w _); (with_reducible refine (K_rtail.out _ ht).mono ?_); rintro e v14 ⟨rfl, hb14⟩; clear ht)
    | (go_at_call 24; have ht := T3x.out (by assumption : _ ∧ T3x w.heap.size ⟨aep, .slice ao1 ams.length cap1, ams, afl⟩ ⟨bep, .slice ao2 bms.length cap2, bms, bfl⟩ m w _); (with_reducible refine (K_aw.out _ ht).mono ?_); rintro e v15 ⟨rfl, hb15⟩; clear ht))
  have HF := Lib.hid (T3x.out (by assumption : _ ∧ T3x w.heap.size ⟨aep, .slice ao1 ams.length cap1, ams, afl⟩ ⟨bep, .slice ao2 bms.length cap2, bms, bfl⟩ m w _)).2.2.2
  go_wp2
  go_ret
  exact ⟨rfl, HF.out⟩
theorem confPuts_law (a b : ConfT) (m : MemT) (w : World) (ha : ConfOk w a) (hb : ConfOk w b) :
    Calls Try.prog 6 #[confV a, confV b, memV m] w fun e w' => e = .returned (.bool true) ∧ Below w.heap.size w w' := by
  by_cases h : 20 < a.ms.length ∨ 20 < b.ms.length
  · exact confPuts_long a b m w ha hb h
  · exact confPuts_short a b m w ha hb (by omega) (by omega)
end Go.Proofs.Ytghjhkojehlfmaa
