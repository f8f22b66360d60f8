/- The document's own conf: what is wrong with a configuration. Conditions: none. -/
import Derived.Test.YtlbemlodcdgakaaConfDSh
namespace Go.Proofs.Ytlbemlodcdgakaa
open Go.RowKit Go.PlainAid

set_option maxRecDepth 100000 in
set_option maxHeartbeats 3200000 in
theorem rcheck_any (c : ConfT) (w : World) (h : ConfOk w c) :
    Calls Try.prog 111 #[confV c] w fun e w' => e = .returned (.int .i64 (chkC c.ep c.ms)) ∧ Below w.heap.size w w' := by
  have hmf : ∀ (fn : Fn) (first cap : Array Value) (w : World), (Instr.makeFunc fn first cap).run Try.prog w = .ok (.func fn first cap) w := fun _ _ _ _ => rfl
  obtain ⟨ep, mv, ms, fl⟩ := c
  have hms := h.ms
  obtain ⟨ao, cap, hmv, hcap, hcm, _, hcell⟩ := h.ms
  simp only at hmv hcap hcell hms ⊢
  subst hmv
  unfold confV
  obtain ⟨W, hW⟩ : ∃ W, W = (w.alloc (.cells #[.int .i64 ep, .slice ao ms.length cap, .int .u64 fl] 32)) := ⟨_, rfl⟩
  have hb1 : Below w.heap.size w W := by rw [hW]; exact (Below.refl _ _).alloc (Nat.le_refl _) _
  have q0 : W.cell? ⟨w.heap.size, 0, none⟩ = some (.int .i64 ep) := by rw [hW]; simp
  have q1 : W.cell? ⟨w.heap.size, 1, none⟩ = some (.slice ao ms.length cap) := by rw [hW]; simp
  have Q1 := Lib.hid q1
  have HB := Lib.hid hb1; have HW := Lib.hid hW; have HC := Lib.hid hcell; have HMS := Lib.hid hms
  clear h hb1 hW hcell hms
  by_cases he : ep < 1 ∨ 1073741824 < ep
  · have HZ : Hid (chkC ep ms = 5) := Lib.hid (by unfold chkC; rw [if_pos he])
    rcases (show ep < 1 ∨ (1 ≤ ep ∧ 1073741824 < ep) by omega) with h1 | ⟨h1, h2⟩
    all_goals
      clear he
      go_enter Try.func111, Try.ntmps111
      go_wp2_with fail
      go_ret
      exact ⟨ret_int HZ.out.symm, by have := HB.out; rw [HW.out] at this; exact this⟩
  · have h1 : 1 ≤ ep := by omega
    have h2 : ep ≤ 1073741824 := by omega
    by_cases hl0 : ms.length = 0
    · have HZ : Hid (chkC ep ms = 7) := Lib.hid (by unfold chkC; rw [if_neg he, if_pos hl0])
      have hl1 : ((ms.length : Int) == 0) = true := by simp [hl0]
      clear he hl0
      go_enter Try.func111, Try.ntmps111
      go_wp2_with fail
      go_ret
      exact ⟨ret_int HZ.out.symm, by have := HB.out; rw [HW.out] at this; exact this⟩
    · have hl1 : ((ms.length : Int) == 0) = false := beq_eq_false_iff_ne.2 (by omega)
      by_cases hl4 : 4 < ms.length
      · have HZ : Hid (chkC ep ms = 6) := Lib.hid (by unfold chkC; rw [if_neg he, if_neg hl0, if_pos hl4])
        clear he hl0
        go_enter Try.func111, Try.ntmps111
        go_wp2_with fail
        go_ret
        exact ⟨ret_int HZ.out.symm, by have := HB.out; rw [HW.out] at this; exact this⟩
      · have HZ : Hid (chkC ep ms = chkM (ms.take 0) (ms.drop 0)) := Lib.hid (by unfold chkC; rw [if_neg he, if_neg hl0, if_neg hl4]; rfl)
        clear he hl0
        go_enter Try.func111, Try.ntmps111
        go_wp2_with fail
        rw [← HW.out]
        go_loopg [3] (ms.length + 1) (fun g s3 wr => ∃ i : Nat, s3 = .int .i64 i ∧ i ≤ ms.length ∧ ms.length + 1 ≤ i + g ∧ chkC ep ms = chkM (ms.take i) (ms.drop i) ∧ Below W.heap.size W wr)
        case atStart => exact ⟨0, rfl, by omega, by omega, HZ.out, Below.refl _ _⟩
        case round =>
          clear HZ
          obtain ⟨i, rfl, hi, hg, hf, hwr⟩ := hrel
          have HF := Lib.hid hf; have HWR := Lib.hid hwr
          have hbw : Below w.heap.size w wr := HB.out.trans (hwr.mono HB.out.size)
          have HBW := Lib.hid hbw
          have q1 := cell_below hwr Q1.out
          have hsz := hbw.size
          have hszW : w.heap.size < wr.heap.size := World.block_lt_of_cell? wr _ q1
          clear hf hwr hbw
          by_cases hlt : i < ms.length
          · obtain ⟨b, off, rfl, hr⟩ := HC.out i hlt
            have hr1 : wr.rangeAt b (off + i * 2) (memE ms[i]) := fun j u hu => cell_below HBW.out (hr j u hu)
            have HS := Lib.hid (chkM_at hlt)
            obtain ⟨m, hm⟩ : ∃ m, m = ms[i] := ⟨_, rfl⟩
            rw [← hm] at hr1 HS
            have HR := Lib.hid hr1; have HR0 := Lib.hid hr1
            obtain ⟨W2, hW2⟩ : ∃ W2, W2 = wr.alloc (.cells #[.int .i64 m.1, .int .i64 m.2] 158) := ⟨_, rfl⟩
            have hb2 : Below wr.heap.size wr W2 := by rw [hW2]; exact (Below.refl _ _).alloc (Nat.le_refl _) _
            have c0 : W2.cell? ⟨wr.heap.size, 0, none⟩ = some (.int .i64 m.1) := by rw [hW2]; simp
            have c1 : W2.cell? ⟨wr.heap.size, 1, none⟩ = some (.int .i64 m.2) := by rw [hW2]; simp
            have C0 := Lib.hid c0; have C1 := Lib.hid c1
            have HB2 := Lib.hid (HBW.out.trans (hb2.mono hsz))
            have HBW2 := Lib.hid (HWR.out.trans (hb2.mono HWR.out.size))
            have HT := Lib.hid ((HMS.out.takeN i hi).below HB2.out)
            have HW2 := Lib.hid hW2
            clear hr hr1 hm hW2 hb2 c0 c1
            by_cases hbi : badId m
            · have HZ : Hid (chkC ep ms = 1) := Lib.hid (by rw [HF.out, HS.out, if_pos hbi])
              unfold badId at hbi
              rcases (show m.1 < 0 ∨ (0 ≤ m.1 ∧ 4 ≤ m.1) by omega) with k1 | ⟨k1, k2⟩
              all_goals
                clear hbi
                go_wp2_with (refine wpList_load_mid rfl 158 (.tmp 32) rfl b (off + i * 2) rfl (memE m) _ HR.out Try.underlying158 rfl (by kernel_rfl) ?_; unfold memE)
                go_ret
                exact ⟨ret_int HZ.out.symm, by have := HB2.out; rw [HW2.out] at this; exact this⟩
            · by_cases hbs : badSer m
              · have HZ : Hid (chkC ep ms = 5) := Lib.hid (by rw [HF.out, HS.out, if_neg hbi, if_pos hbs])
                unfold badId at hbi
                unfold badSer at hbs
                have k1 : 0 ≤ m.1 := by omega
                have k2 : m.1 < 4 := by omega
                rcases (show m.2 < 1 ∨ (1 ≤ m.2 ∧ 1073741824 < m.2) by omega) with k3 | ⟨k3, k4⟩
                all_goals
                  clear hbi hbs
                  go_wp2_with (refine wpList_load_mid rfl 158 (.tmp 32) rfl b (off + i * 2) rfl (memE m) _ HR.out Try.underlying158 rfl (by kernel_rfl) ?_; unfold memE)
                  go_ret
                  exact ⟨ret_int HZ.out.symm, by have := HB2.out; rw [HW2.out] at this; exact this⟩
              · have HZ2 : Hid (0 ≤ fnd (fun o => o.1 == m.1) (ms.take i) → chkC ep ms = 18) := Lib.hid (fun h => by rw [HF.out, HS.out, if_neg hbi, if_neg hbs, if_pos h])
                have HZ3 : Hid (¬ 0 ≤ fnd (fun o => o.1 == m.1) (ms.take i) → chkC ep ms = chkM (ms.take (i + 1)) (ms.drop (i + 1))) := Lib.hid (fun h => by rw [HF.out, HS.out, if_neg hbi, if_neg hbs, if_neg h])
                unfold badId at hbi
                unfold badSer at hbs
                have k1 : 0 ≤ m.1 := by omega
                have k2 : m.1 < 4 := by omega
                have k3 : 1 ≤ m.2 := by omega
                have k4 : m.2 ≤ 1073741824 := by omega
                have hzW2 : W2.heap.size = wr.heap.size + 1 := by rw [HW2.out]; simp
                have HQ2 := Lib.hid (cell_below HBW2.out Q1.out)
                clear hbi hbs HF HS HR hzW2
                obtain ⟨bm, hbm⟩ : ∃ bm, bm = wr.heap.size := ⟨_, rfl⟩
                go_wp2_with (refine wpList_load_mid rfl 158 (.tmp 32) rfl b (off + i * 2) rfl (memE m) _ (fun j u hu => HR0.out j u hu) Try.underlying158 rfl (by kernel_rfl) ?_; unfold memE)
                rw [← HW2.out]
                rw [← hbm] at C0 C1 ⊢
                obtain ⟨gO, hgO⟩ : ∃ gO, gO = gk := ⟨_, rfl⟩
                rw [← hgO] at hg
                have HGO := Lib.hid hgO
                obtain ⟨wo, hwo⟩ : ∃ wo : World, wo = wr := ⟨_, rfl⟩
                clear hbm hszW hsz hgO q1 hwo
                go_loopg [5] (i + 1) (fun g s5 wr => ∃ k : Nat, s5 = .int .i64 k ∧ k ≤ i ∧ i + 1 ≤ k + g ∧ fnd (fun o => o.1 == m.1) (ms.take i) = fndF (fun o => o.1 == m.1) ((ms.take i).drop k) k ∧ Below W2.heap.size W2 wr)
                case atStart => exact ⟨0, rfl, by omega, by omega, rfl, Below.refl _ _⟩
                case round =>
                  obtain ⟨k, rfl, hk, hg2, hf2, hwq⟩ := hrel
                  have hbq : Below w.heap.size w wr := HB2.out.trans (hwq.mono HB2.out.size)
                  have hbQ : Below W.heap.size W wr := HBW2.out.trans (hwq.mono HBW2.out.size)
                  have q1 := cell_below hwq HQ2.out
                  have e0 := cell_below hwq C0.out
                  have HBQ := Lib.hid hbq; have HBQW := Lib.hid hbQ; have HF2 := Lib.hid hf2; have HWQ := Lib.hid hwq
                  clear hf2 hwq hbQ
                  by_cases hlt2 : k < i
                  · obtain ⟨b2, off2, he2, hr2⟩ := HC.out k (by omega)
                    have hkl : k < (ms.take i).length := by rw [List.length_take]; omega
                    have HS2 := Lib.hid (fndF_cons (P := fun o => o.1 == m.1) hkl)
                    have hge : (ms.take i)[k] = ms[k] := by rw [List.getElem_take]
                    rw [hge] at HS2
                    injection he2 with he3
                    injection he3 with h31 h32 h33
                    subst h31 h32
                    have d0 := cell_below hbq (hr2 0 _ rfl)
                    rw [Nat.add_zero] at d0
                    obtain ⟨o, ho⟩ : ∃ o, o = ms[k] := ⟨_, rfl⟩
                    rw [← ho] at d0 HS2
                    have hkm : k < ms.length := by omega
                    clear hr2 ho hge hbq hkl
                    by_cases hP : (o.1 == m.1) = true
                    · have HS3 : Hid (chkC ep ms = 18) := Lib.hid (HZ2.out (by rw [HF2.out, HS2.out]; simp only [hP, if_true]; omega))
                      go_wp2_with fail
                      go_quiet (fail)
                      go_wp2
                      go_ret
                      exact ⟨ret_int HS3.out.symm, below_draws HBQ.out _⟩
                    · have hP2 : (o.1 == m.1) = false := by simpa using hP
                      have HS3 : Hid (fnd (fun o => o.1 == m.1) (ms.take i) = fndF (fun o => o.1 == m.1) ((ms.take i).drop (k + 1)) (k + 1)) := Lib.hid (by rw [HF2.out, HS2.out]; simp only [hP2]; rfl)
                      clear hP
                      go_wp2_with fail
                      go_quiet (fail)
                      go_wp2
                      go_roundg (gk - 1)
                      case rel => exact ⟨k + 1, by go_num, by omega, by omega, HS3.out, below_draws HWQ.out _⟩
                      case measure => omega
                  · have HS3 : Hid (fnd (fun o => o.1 == m.1) (ms.take i) = -1) := Lib.hid (by rw [HF2.out, fndF_end (by rw [List.length_take]; omega)])
                    have HZ4 := Lib.hid (HZ3.out (by rw [HS3.out]; omega))
                    clear hbq
                    go_wp2
                    go_roundg (gO - 1)
                    case rel => exact ⟨i + 1, by go_num, by omega, by omega, HZ4.out, HBQW.out⟩
                    case measure => have := HGO.out; omega
          · have HZ : Hid (chkC ep ms = 0) := Lib.hid (by rw [HF.out, chkM_end (by omega)])
            go_wp2
            go_ret
            exact ⟨ret_int HZ.out.symm, HBW.out⟩
end Go.Proofs.Ytlbemlodcdgakaa
