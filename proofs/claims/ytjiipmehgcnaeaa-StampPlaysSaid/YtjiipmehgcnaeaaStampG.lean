/- stamp.Ended, catenaref19.Ended; catenalaw19's awake and StampPlays. Conditions: the entries read as l, within the form's reach. -/
import Derived.Test.YtjiipmehgcnaeaaStampF
import Derived.Test.YtjiipmehgcnaeaaEntrySz
import Derived.BigQuiet
namespace Go.Proofs.Ytjiipmehgcnaeaa
open Go.RowKit Go.PlainAid

def endB (l : List EntT) (n : Int) : Bool := decide (1 ≤ n ∧ n ≤ (l.length : Int) ∧ tsAt l (n - 1).toNat = topT)
theorem endB_no {l : List EntT} {n : Int} (h : ¬ (1 ≤ n ∧ n ≤ (l.length : Int))) : endB l n = false := decide_eq_false fun k => h ⟨k.1, k.2.1⟩
theorem endB_in {l : List EntT} {n : Int} (h : 1 ≤ n ∧ n ≤ (l.length : Int)) : endB l n = decide (tsAt l (n - 1).toNat = 18446744073709551615) := by
  unfold endB topT
  simp [h.1, h.2]

set_option maxRecDepth 100000 in
set_option maxHeartbeats 800000 in
theorem sended_any (v : Value) (l : List EntT) (n : Int) (w : World) (hs : SliceOf entE 4 w v l) :
    Calls Try.prog 44 #[v, .int .i64 n] w fun e w' => e = .returned (.bool (endB l n)) ∧ w = w' := by
  obtain ⟨ao, cap, rfl, hcap, hcm, _, hcell⟩ := hs
  by_cases h1 : 1 ≤ n
  · by_cases h2 : n ≤ (l.length : Int)
    · obtain ⟨j, hj⟩ : ∃ j, (n - 1).toNat = j := ⟨_, rfl⟩
      have hjl : j < l.length := by omega
      have hin := endB_in ⟨h1, h2⟩
      obtain ⟨b, off, rfl, hr⟩ := hcell j hjl
      have k3 : w.cell? ⟨b, off + j * 4 + 3, none⟩ = some (.int .u64 l[j].ts) := hr 3 _ rfl
      rw [← tsAt_get hjl] at k3
      rw [hj] at hin
      obtain ⟨t, ht⟩ : ∃ t, t = tsAt l j := ⟨_, rfl⟩
      rw [← ht] at k3 hin
      have hsub : IntKind.i64.wrap (n - 1) = (j : Int) := by rw [show n - 1 = (j : Int) by omega]; exact IntWalk.i64_in _ ⟨by omega, by omega⟩
      have hd1 : decide (1 ≤ n) = true := decide_eq_true h1
      have hd2 : decide (n ≤ (l.length : Int)) = true := decide_eq_true h2
      have HIN := Lib.hid hin
      clear hr ht hj hcell hin
      by_cases he : t = 18446744073709551615
      · subst he
        go_enter Try.func44, Try.ntmps44
        go_wp2
        go_ret
        exact ⟨by rw [HIN.out]; rfl, rfl⟩
      · have hne : (t == 18446744073709551615) = false := by simpa using he
        go_enter Try.func44, Try.ntmps44
        go_wp2
        go_ret
        exact ⟨by rw [HIN.out, decide_eq_false he]; rfl, rfl⟩
    · have hd1 : decide (1 ≤ n) = true := decide_eq_true h1
      have hd2 : decide (n ≤ (l.length : Int)) = false := decide_eq_false h2
      have HIN := Lib.hid (endB_no (l := l) (n := n) (fun h => h2 h.2))
      clear hcell
      go_enter Try.func44, Try.ntmps44
      go_wp2
      go_ret
      exact ⟨by rw [HIN.out]; rfl, rfl⟩
  · have hd1 : decide (1 ≤ n) = false := decide_eq_false h1
    have HIN := Lib.hid (endB_no (l := l) (n := n) (fun h => h1 h.1))
    clear hcell
    go_enter Try.func44, Try.ntmps44
    go_wp2
    go_ret
    exact ⟨by rw [HIN.out]; rfl, rfl⟩
set_option maxRecDepth 100000 in
set_option maxHeartbeats 800000 in
theorem rended_any (v : Value) (l : List EntT) (n : Int) (w : World) (hs : SliceOf entE 4 w v l) :
    Calls Try.prog 45 #[v, .int .i64 n] w fun e w' => e = .returned (.bool (endB l n)) ∧ w = w' := by
  obtain ⟨ao, cap, rfl, hcap, hcm, _, hcell⟩ := hs
  by_cases h1 : 1 ≤ n
  · by_cases h2 : n ≤ (l.length : Int)
    · obtain ⟨j, hj⟩ : ∃ j, (n - 1).toNat = j := ⟨_, rfl⟩
      have hjl : j < l.length := by omega
      have hin := endB_in ⟨h1, h2⟩
      obtain ⟨b, off, rfl, hr⟩ := hcell j hjl
      have k3 : w.cell? ⟨b, off + j * 4 + 3, none⟩ = some (.int .u64 l[j].ts) := hr 3 _ rfl
      rw [← tsAt_get hjl] at k3
      rw [hj] at hin
      obtain ⟨t, ht⟩ : ∃ t, t = tsAt l j := ⟨_, rfl⟩
      rw [← ht] at k3 hin
      have hsub : IntKind.i64.wrap (n - 1) = (j : Int) := by rw [show n - 1 = (j : Int) by omega]; exact IntWalk.i64_in _ ⟨by omega, by omega⟩
      have hd1 : decide (1 ≤ n) = true := decide_eq_true h1
      have hd2 : decide (n ≤ (l.length : Int)) = true := decide_eq_true h2
      have HIN := Lib.hid hin
      clear hr ht hj hcell hin
      by_cases he : t = 18446744073709551615
      · subst he
        go_enter Try.func45, Try.ntmps45
        go_wp2
        go_ret
        exact ⟨by rw [HIN.out]; rfl, rfl⟩
      · have hne : (t == 18446744073709551615) = false := by simpa using he
        go_enter Try.func45, Try.ntmps45
        go_wp2
        go_ret
        exact ⟨by rw [HIN.out, decide_eq_false he]; rfl, rfl⟩
    · have hd1 : decide (1 ≤ n) = true := decide_eq_true h1
      have hd2 : decide (n ≤ (l.length : Int)) = false := decide_eq_false h2
      have HIN := Lib.hid (endB_no (l := l) (n := n) (fun h => h2 h.2))
      clear hcell
      go_enter Try.func45, Try.ntmps45
      go_wp2
      go_ret
      exact ⟨by rw [HIN.out]; rfl, rfl⟩
  · have hd1 : decide (1 ≤ n) = false := decide_eq_false h1
    have HIN := Lib.hid (endB_no (l := l) (n := n) (fun h => h1 h.1))
    clear hcell
    go_enter Try.func45, Try.ntmps45
    go_wp2
    go_ret
    exact ⟨by rw [HIN.out]; rfl, rfl⟩
set_option maxRecDepth 100000 in
set_option maxHeartbeats 800000 in
theorem awake19 (w : World) :
    Calls Try.prog 39 #[] w fun e w' => e = .returned (.bool true) ∧ w = w' := by
  go_enter Try.func39, Try.ntmps39
  go_wp2_with fail
  refine (snext_any _ _ _ (by decide) (by unfold topT; decide)).mono ?_
  rintro e w1 ⟨rfl, rfl⟩
  rw [show nxT 5 3 = (6, 0) from rfl]
  go_wp2_with fail
  refine (snext_any _ _ _ (by decide) (by unfold topT; decide)).mono ?_
  rintro e w1 ⟨rfl, rfl⟩
  rw [show nxT 5 9 = (9, 0) from rfl]
  go_wp2_with fail
  refine (snext_any _ _ _ (by decide) (by unfold topT; decide)).mono ?_
  rintro e w1 ⟨rfl, rfl⟩
  rw [show nxT 18446744073709551615 0 = (0, 16) from rfl]
  go_wp2
  go_ret
  exact ⟨rfl, rfl⟩
theorem lastR_bd {w : World} {l : List EntT} (h : ∀ e ∈ l, EntOkS w e) : 0 ≤ lastR l ∧ lastR l ≤ topT := by
  unfold lastR topT
  have hle := stN_le l
  split
  · omega
  · have hj : stN l - 1 < l.length := by omega
    rw [tsAt_get hj]
    have := (h _ (List.getElem_mem hj)).1
    exact ⟨this.ts0, by have := this.ts1; omega⟩
theorem allS_det {l : List EntT} {n f : Int} {a b : List Stp} (h : AllS l n f a) (k : AllS l n f b) : a = b := by
  obtain ⟨i, x, h1, h2⟩ := h
  obtain ⟨j, y, k1, k2⟩ := k
  exact srun_det h1 h2 k1 k2

set_option maxRecDepth 100000 in
set_option maxHeartbeats 3200000 in
theorem stampPlays_any (v : Value) (l : List EntT) (n f a : Int) (w : World) (hs : SliceOf entE 4 w v l) (hok : (∀ e ∈ l, EntOkS w e) ∧ l.length ≤ 2932031007403) (_ : (Lit.int .i64 n).wf = true) (hf : (Lit.int .u64 f).wf = true) (ha : (Lit.int .u64 a).wf = true) :
    Calls Try.prog 6 #[v, .int .i64 n, .int .u64 f, .int .u64 a] w fun e w' => e = .returned (.bool true) ∧ Below w.heap.size w w' := by
  obtain ⟨hf0, hf1⟩ := wf_u64 hf
  obtain ⟨ha0, ha1⟩ := wf_u64 ha
  have HS := Lib.hid hs; have HO := Lib.hid hok.1
  have hl := hok.2
  have HLB := Lib.hid (lastR_bd hok.1)
  clear hok hf ha
  obtain ⟨ao, cap, rfl, _, _, _, _⟩ := hs
  go_enter Try.func6, Try.ntmps6
  go_wp2_with fail
  refine (much_sz _ l _ HS.out HO.out hl).mono ?_
  rintro e w1 ⟨m, rfl, hm, rfl⟩
  by_cases hbig : 80 < m
  · have hd : decide (80 < m) = true := decide_eq_true hbig
    go_wp2_with (go_at_call 39; refine (awake19 _).mono ?_; rintro e w3 ⟨rfl, rfl⟩)
    go_ret
    exact ⟨rfl, Below.refl _ _⟩
  · have hd : decide (80 < m) = false := decide_eq_false hbig
    have hl8 : l.length ≤ 80 := by omega
    clear hl hm
    obtain ⟨⟨ts, er⟩, hr⟩ : ∃ r, nxT a f = r := ⟨_, rfl⟩
    have HR := Lib.hid hr; clear hr
    go_wp2_with fail
    refine (snext_any a f _ ha0 (by unfold topT; omega)).mono ?_
    rintro e w1 ⟨rfl, rfl⟩
    rw [HR.out]
    go_wp2_with fail
    refine (rsnext_any a f _ ha0 (by unfold topT; omega)).mono ?_
    rintro e w1 ⟨rfl, rfl⟩
    rw [HR.out]
    go_wp2_with fail
    refine (sall_any _ l n f _ HS.out (by omega) hf0 (by unfold topT; omega) HLB.out).mono ?_
    rintro e w1 ⟨u1, ys, rfl, hall1, hown1, hb1⟩
    have HA1 := Lib.hid hall1; have HB1 := Lib.hid hb1
    have HU1 := Lib.hid (SliceOf.own (enc := noteE) (sz := 18) hown1 (fun _ _ => rfl))
    clear hall1 hb1 hown1
    go_wp2_with fail
    refine (rsall_any _ l n f _ (HS.out.below HB1.out) (by omega) hf0 (by unfold topT; omega) HLB.out).mono ?_
    rintro e w2 ⟨u2, zs, rfl, hall2, hown2, hb2⟩
    obtain rfl : ys = zs := allS_det HA1.out hall2
    have HU2 := Lib.hid (SliceOf.own (enc := noteE) (sz := 18) hown2 (fun _ _ => rfl))
    have HU1' := Lib.hid (HU1.out.below hb2)
    have HB2 := Lib.hid (HB1.out.trans (hb2.mono HB1.out.size))
    clear hall2 hb2 hown2
    have HS2 := Lib.hid (HS.out.below HB2.out)
    obtain ⟨a1, c1, rfl, hc1, hm1, _, _⟩ := HU1'.out
    obtain ⟨a2, c2, rfl, hc2, hm2, _, _⟩ := HU2.out
    obtain ⟨bb, hbb⟩ : ∃ bb, endB l n = bb := ⟨_, rfl⟩
    have HE := Lib.hid hbb; clear hbb
    go_wp2_with (first
      | (go_at_call 44; refine (sended_any _ l n _ HS2.out).mono ?_; rintro e w3 ⟨rfl, rfl⟩; rw [HE.out])
      | (go_at_call 45; refine (rended_any _ l n _ HS2.out).mono ?_; rintro e w3 ⟨rfl, rfl⟩; rw [HE.out]))
    go_loopg [15] (ys.length + 1) (fun g s15 wr => ∃ i : Nat, s15 = .int .i64 i ∧ i ≤ ys.length ∧ ys.length + 1 ≤ i + g ∧ Hid (SliceOf noteE 18 wr (.slice a1 ys.length c1) ys) ∧ Hid (SliceOf noteE 18 wr (.slice a2 ys.length c2) ys) ∧ Hid (Below w.heap.size w wr))
    case atStart => exact ⟨0, rfl, by omega, by omega, HU1', HU2, HB2⟩
    case round =>
      obtain ⟨i, rfl, hi, hg, H1, H2, HB⟩ := hrel
      by_cases hlt : i < ys.length
      · obtain ⟨a1', c1', e1, _, _, _, hx1⟩ := H1.out
        obtain ⟨a2', c2', e2, _, _, _, hx2⟩ := H2.out
        simp only [Value.slice.injEq] at e1 e2
        obtain ⟨rfl, _, rfl⟩ := e1
        obtain ⟨rfl, _, rfl⟩ := e2
        obtain ⟨b, off, rfl, r1⟩ := hx1 i hlt
        obtain ⟨b', off', rfl, r2⟩ := hx2 i hlt
        obtain ⟨p, hp⟩ : ∃ p, ys[i] = p := ⟨_, rfl⟩
        rw [hp] at r1 r2
        have x0 : wr.cell? ⟨b, off + i * 18, none⟩ = some (.int .i64 3) := r1 0 _ rfl
        have x1 : wr.cell? ⟨b, off + i * 18 + 1, none⟩ = some (.int .i64 p.1) := r1 1 _ rfl
        have x2 : wr.cell? ⟨b, off + i * 18 + 2, none⟩ = some (.int .u64 p.2) := r1 2 _ rfl
        have y1 : wr.cell? ⟨b', off' + i * 18 + 1, none⟩ = some (.int .i64 p.1) := r2 1 _ rfl
        have y2 : wr.cell? ⟨b', off' + i * 18 + 2, none⟩ = some (.int .u64 p.2) := r2 2 _ rfl
        clear hx1 hx2 r1 r2 hp
        go_wp2_with fail
        go_quiet (fail)
        obtain ⟨k, hk⟩ : ∃ k, k = nq := ⟨_, rfl⟩
        rw [← hk]; clear hk
        go_wp2
        go_roundg (gk - 1)
        case rel => exact ⟨i + 1, by go_num, by omega, by omega, Lib.hid (H1.out.below (below_draws (Below.refl _ _) k)), Lib.hid (H2.out.below (below_draws (Below.refl _ _) k)), Lib.hid (below_draws HB.out k)⟩
        case measure => omega
      · go_wp2_with (go_at_call 39; refine (awake19 _).mono ?_; rintro e w3 ⟨rfl, rfl⟩)
        go_ret
        exact ⟨rfl, HB.out⟩
end Go.Proofs.Ytjiipmehgcnaeaa
