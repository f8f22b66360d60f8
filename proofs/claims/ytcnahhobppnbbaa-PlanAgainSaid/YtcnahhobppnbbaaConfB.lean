/- Package conf and the document's own: places, who stands ahead and behind. Conditions: none. -/
import Derived.Test.YtcnahhobppnbbaaConfA
import Derived.Deep.RegionHeld3
namespace Go.Proofs.Ytcnahhobppnbbaa
open Go.RowKit Go.PlainAid

/-- The Id at a place. -/
def idAtI (l : List MemT) (i : Int) : Int := if 0 ≤ i ∧ i < l.length then (l.getD i.toNat (0, 0)).1 else -1
theorem idAtI_at {l : List MemT} {k : Nat} (h : k < l.length) : idAtI l k = l[k].1 := by
  unfold idAtI; rw [if_pos (by omega), Int.toNat_natCast]; simp [List.getD, h]
theorem idAtI_no {l : List MemT} {i : Int} (h : i < 0 ∨ (l.length : Int) ≤ i) : idAtI l i = -1 := by
  unfold idAtI; rw [if_neg (by omega)]
def aheadI (l : List MemT) (m : MemT) : Int := idAtI l (fnd (· == m) l - 1)
def behindI (l : List MemT) (m : MemT) : Int := if fnd (· == m) l < 0 then -1 else idAtI l (fnd (· == m) l + 1)
-- left out here







































set_option maxRecDepth 100000 in
set_option maxHeartbeats 1600000 in
theorem rat_any (c : ConfT) (i : Int) (w : World) (h : ConfOk w c) (h0 : -9223372036854775808 ≤ i) (h1 : i ≤ 9223372036854775807) :
    Calls Try.prog 107 #[confV c, .int .i64 i] w fun e w' => e = .returned (.int .i64 (idAtI c.ms i)) ∧ Below w.heap.size w w' := by
  obtain ⟨ep, mv, ms, fl⟩ := c
  obtain ⟨ao, cap, hmv, hcap, hcm, _, hcell⟩ := h.ms
  simp only at hmv hcap hcell ⊢
  subst hmv
  unfold confV
  clear h
  have HB := Lib.hid ((Below.refl w.heap.size w).alloc (Nat.le_refl _) (.cells #[.int .i64 ep, .slice ao ms.length cap, .int .u64 fl] 91))
  by_cases hn : i < 0
  · rw [idAtI_no (Or.inl hn)]
    clear hcell
    go_enter Try.func107, Try.ntmps107
    go_wp2
    go_ret
    exact ⟨rfl, HB.out⟩
  · by_cases hg : (ms.length : Int) ≤ i
    · rw [idAtI_no (Or.inr hg)]
      clear hcell
      go_enter Try.func107, Try.ntmps107
      go_wp2
      go_ret
      exact ⟨rfl, HB.out⟩
    · obtain ⟨k, rfl⟩ := Int.eq_ofNat_of_zero_le (show 0 ≤ i by omega)
      have hk : k < ms.length := by omega
      rw [idAtI_at hk]
      obtain ⟨b, off, rfl, hr⟩ := hcell k hk
      have hc := hr 0 _ rfl
      rw [Nat.add_zero] at hc
      have hbs : b < w.heap.size := World.block_lt_of_cell? w _ hc
      obtain ⟨x, hx⟩ : ∃ x, x = ms[k].1 := ⟨_, rfl⟩
      rw [← hx] at hc
      rw [← hx]
      clear hr hcell hx
      go_enter Try.func107, Try.ntmps107
      go_wp2
      go_ret
      exact ⟨rfl, HB.out⟩
def HA (n : Nat) (c : ConfT) (m : MemT) (w' : World) : Prop := w'.cell? ⟨n, 0, none⟩ = some (.int .i64 c.ep) ∧ w'.cell? ⟨n, 1, none⟩ = some c.mv ∧ w'.cell? ⟨n, 2, none⟩ = some (.int .u64 c.fl) ∧ w'.cell? ⟨n + 1, 0, none⟩ = some (.int .i64 m.1) ∧ w'.cell? ⟨n + 1, 1, none⟩ = some (.int .i64 m.2)
theorem HA.step {n : Nat} {c : ConfT} {m : MemT} {w1 w2 : World} (h : w1.cell? ⟨n, 0, none⟩ = some (.int .i64 c.ep) ∧ w1.cell? ⟨n, 1, none⟩ = some c.mv ∧ w1.cell? ⟨n, 2, none⟩ = some (.int .u64 c.fl) ∧ w1.cell? ⟨n + 1, 0, none⟩ = some (.int .i64 m.1) ∧ w1.cell? ⟨n + 1, 1, none⟩ = some (.int .i64 m.2)) (hb : Below w1.heap.size w1 w2) : HA n c m w2 :=
  ⟨cell_below hb h.1, cell_below hb h.2.1, cell_below hb h.2.2.1, cell_below hb h.2.2.2.1, cell_below hb h.2.2.2.2⟩
-- left out here















-- left out here




















set_option maxRecDepth 100000 in
set_option maxHeartbeats 1600000 in
theorem rhead_any (c : ConfT) (w : World) (h : ConfOk w c) :
    Calls Try.prog 71 #[confV c] w fun e w' => e = .returned (.int .i64 (idAtI c.ms 0)) ∧ Below w.heap.size w w' := by
  have HB := Lib.hid ((Below.refl w.heap.size w).alloc (Nat.le_refl _) (.cells #[.int .i64 c.ep, c.mv, .int .u64 c.fl] 91))
  have H := Lib.hid (h.below HB.out)
  clear h
  unfold confV
  go_enter Try.func71, Try.ntmps71
  go_wp2_with fail
  refine (rat_any c 0 _ H.out (by omega) (by omega)).mono ?_
  rintro e w2 ⟨rfl, hb⟩
  have HB2 := Lib.hid (HB.out.trans (hb.mono HB.out.size)); clear hb
  go_wp2
  go_ret
  exact ⟨rfl, HB2.out⟩
-- left out here




















set_option maxRecDepth 100000 in
set_option maxHeartbeats 1600000 in
theorem rplace_any (c : ConfT) (m : MemT) (w : World) (h : ConfOk w c) :
    Calls Try.prog 72 #[confV c, memV m] w fun e w' => e = .returned (.int .i64 (fnd (· == m) c.ms)) ∧ Below w.heap.size w w' := by
  obtain ⟨ep, mv, ms, fl⟩ := c
  obtain ⟨ao, cap, hmv, hcap, hcm, _, hcell⟩ := h.ms
  simp only at hmv hcap hcell ⊢
  subst hmv
  have heq := fun o => eq_mem o m
  unfold confV memV at *
  obtain ⟨W, hW⟩ : ∃ W, W = ((w.alloc (.cells #[.int .i64 ep, .slice ao ms.length cap, .int .u64 fl] 91)).alloc (.cells #[.int .i64 m.1, .int .i64 m.2] 114)) := ⟨_, rfl⟩
  have hb1 : Below w.heap.size w W := by rw [hW]; exact ((Below.refl _ _).alloc (Nat.le_refl _) _).alloc (by simp) _
  have q1 : W.cell? ⟨w.heap.size, 1, none⟩ = some (.slice ao ms.length cap) := by rw [hW]; simp
  have c0 : W.cell? ⟨w.heap.size + 1, 0, none⟩ = some (.int .i64 m.1) := by rw [hW]; simp
  have c1 : W.cell? ⟨w.heap.size + 1, 1, none⟩ = some (.int .i64 m.2) := by rw [hW]; simp
  have Q1 := Lib.hid q1; have C0 := Lib.hid c0; have C1 := Lib.hid c1
  have HB := Lib.hid hb1; have HW := Lib.hid hW; have HC := Lib.hid hcell; have HEq := Lib.hid heq
  clear h hb1 c0 c1 hW hcell heq q1
  go_enter Try.func72, Try.ntmps72
  go_wp2_with fail
  rw [← HW.out]
  go_loopg [5] (ms.length + 1) (fun g s5 wr => ∃ i : Nat, s5 = .int .i64 i ∧ i ≤ ms.length ∧ ms.length + 1 ≤ i + g ∧ fnd (· == m) ms = fndF (· == m) (ms.drop i) i ∧ Below W.heap.size W wr)
  case atStart => exact ⟨0, rfl, by omega, by omega, rfl, Below.refl _ _⟩
  case round =>
    obtain ⟨i, rfl, hi, hg, hf, hwr⟩ := hrel
    have hbw : Below w.heap.size w wr := HB.out.trans (hwr.mono HB.out.size)
    have q1 : wr.cell? ⟨w.heap.size, 1, none⟩ = some (.slice ao ms.length cap) := cell_below hwr Q1.out
    have c0 : wr.cell? ⟨w.heap.size + 1, 0, none⟩ = some (.int .i64 m.1) := cell_below hwr C0.out
    have c1 : wr.cell? ⟨w.heap.size + 1, 1, none⟩ = some (.int .i64 m.2) := cell_below hwr C1.out
    have HFD := Lib.hid hf; have HBw := Lib.hid hbw; have HWr := Lib.hid hwr
    clear hf hbw hwr
    by_cases hlt : i < ms.length
    · obtain ⟨b, off, rfl, hr⟩ := HC.out i hlt
      have d0 := cell_below HBw.out (hr 0 _ rfl)
      have d1 := cell_below HBw.out (hr 1 _ rfl)
      rw [Nat.add_zero] at d0
      have HS := Lib.hid (fndF_cons (P := (· == m)) hlt)
      obtain ⟨o, ho⟩ : ∃ o, o = ms[i] := ⟨_, rfl⟩
      rw [← ho] at d0 d1 HS
      have he := HEq.out o
      clear hr ho
      by_cases hP : (o == m) = true
      · have HS2 : Hid (fnd (· == m) ms = i) := Lib.hid (by rw [HFD.out, HS.out, if_pos hP])
        rw [hP] at he
        clear hP
        go_wp2_with fail
        go_quiet (fail)
        go_wp2
        go_ret
        exact ⟨ret_int HS2.out.symm, below_draws HBw.out _⟩
      · have HS2 : Hid (fnd (· == m) ms = fndF (· == m) (ms.drop (i + 1)) (i + 1)) := Lib.hid (by rw [HFD.out, HS.out, if_neg hP])
        have hP2 : (o == m) = false := by simpa using hP
        rw [hP2] at he
        clear hP hP2
        go_wp2_with fail
        go_quiet (fail)
        go_wp2
        go_roundg (gk - 1)
        case rel => exact ⟨i + 1, by go_num, by omega, by omega, HS2.out, below_draws HWr.out _⟩
        case measure => omega
    · have HS2 : Hid (fnd (· == m) ms = -1) := Lib.hid (by rw [HFD.out, fndF_end (by omega)])
      go_wp2
      go_ret
      exact ⟨ret_int HS2.out.symm, HBw.out⟩
end Go.Proofs.Ytcnahhobppnbbaa
