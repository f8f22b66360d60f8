/- Package conf and the document's own: are two configurations the same? Conditions: none. -/
import Derived.Test.YtcnahhobppnbbaaConfE
namespace Go.Proofs.Ytcnahhobppnbbaa
open Go.RowKit Go.PlainAid

def sameC (a b : ConfT) : Bool := decide (a.ep = b.ep ∧ a.fl = b.fl ∧ a.ms = b.ms)
theorem ne_of_at {l k : List MemT} {i : Nat} (h1 : i < l.length) (h2 : i < k.length) (h : l[i] ≠ k[i]) : l ≠ k := by
  intro e; subst e; exact h rfl
theorem eq_of_takes {l k : List MemT} (hl : l.length = k.length) (h : l.take l.length = k.take l.length) : l = k := by
  rw [List.take_length, hl, List.take_length] at h; exact h
set_option maxRecDepth 100000 in
set_option maxHeartbeats 1600000 in
theorem equal_any (v1 v2 : Value) (l k : List MemT) (w : World) (hs1 : SliceOf memE 2 w v1 l) (hs2 : SliceOf memE 2 w v2 k) :
    Calls Try.prog 105 #[v1, v2] w fun e w' => e = .returned (.bool (decide (l = k))) ∧ Below w.heap.size w w' := by
  obtain ⟨ao1, cap1, rfl, hcap1, hcm1, _, hcell1⟩ := hs1
  obtain ⟨ao2, cap2, rfl, hcap2, hcm2, _, hcell2⟩ := hs2
  have HC1 := Lib.hid hcell1; have HC2 := Lib.hid hcell2
  have heq := fun o m => neq_mem o m
  unfold memV at heq
  have HEq := Lib.hid heq
  clear hcell1 hcell2 heq
  by_cases hl : l.length = k.length
  · have hlt : ((l.length : Int) == (k.length : Int)) = true := by simp [hl]
    have hlt2 : ((l.length : Int) != (k.length : Int)) = false := by simp [hl]
    have HL := Lib.hid hl
    have hle : l.length ≤ k.length := by omega
    have hge : k.length ≤ l.length := by omega
    clear hl
    go_enter Try.func105, Try.ntmps105
    go_wp2
    go_loopg [13] (l.length + 1) (fun g s13 wr => ∃ i : Nat, s13 = .int .i64 i ∧ i ≤ l.length ∧ l.length + 1 ≤ i + g ∧ l.take i = k.take i ∧ Below w.heap.size w wr)
    case atStart => exact ⟨0, rfl, by omega, by omega, rfl, Below.refl _ _⟩
    case round =>
      obtain ⟨i, rfl, hi, hg, ht, hbel⟩ := hrel
      have HT := Lib.hid ht; have HB := Lib.hid hbel
      clear ht hbel
      by_cases hlt : i < l.length
      · have hlt2 : i < k.length := by omega
        obtain ⟨b1, off1, rfl, hr1⟩ := HC1.out i hlt
        obtain ⟨b2, off2, rfl, hr2⟩ := HC2.out i hlt2
        have d0 := cell_below HB.out (hr1 0 _ rfl)
        have d1 := cell_below HB.out (hr1 1 _ rfl)
        have e0 := cell_below HB.out (hr2 0 _ rfl)
        have e1 := cell_below HB.out (hr2 1 _ rfl)
        rw [Nat.add_zero] at d0 e0
        obtain ⟨o, ho⟩ : ∃ o, o = l[i] := ⟨_, rfl⟩
        obtain ⟨m, hm⟩ : ∃ m, m = k[i] := ⟨_, rfl⟩
        have HO := Lib.hid ho; have HM := Lib.hid hm
        rw [← ho] at d0 d1
        rw [← hm] at e0 e1
        have he := HEq.out o m
        clear hr1 hr2 ho hm
        by_cases hP : o = m
        · have HT2 : Hid (l.take (i + 1) = k.take (i + 1)) := Lib.hid (by rw [takeS hlt, takeS hlt2, HT.out, ← HO.out, ← HM.out, hP])
          rw [show (!(o == m)) = false by simp [hP]] at he
          clear hP
          go_wp2_with fail
          go_quiet (fail)
          go_wp2
          go_roundg (gk - 1)
          case rel => exact ⟨i + 1, by go_num, by omega, by omega, HT2.out, below_draws HB.out _⟩
          case measure => omega
        · have HF : Hid (decide (l = k) = false) := Lib.hid (decide_eq_false (ne_of_at hlt hlt2 (by rw [← HO.out, ← HM.out]; exact hP)))
          rw [show (!(o == m)) = true by simp [hP]] at he
          clear hP
          go_wp2_with fail
          go_quiet (fail)
          go_wp2
          go_ret
          exact ⟨ret_bool HF.out.symm, below_draws HB.out _⟩
      · have HF : Hid (decide (l = k) = true) := Lib.hid (decide_eq_true (eq_of_takes HL.out (by have := HT.out; rw [show i = l.length by omega] at this; exact this)))
        go_wp2
        go_ret
        exact ⟨ret_bool HF.out.symm, HB.out⟩
  · have HF : Hid (decide (l = k) = false) := Lib.hid (decide_eq_false (fun e => hl (by rw [e])))
    have hlt : ((l.length : Int) == (k.length : Int)) = false := beq_eq_false_iff_ne.2 (by omega)
    have hlt2 : ((l.length : Int) != (k.length : Int)) = true := by rw [bne, hlt]; rfl
    clear hl
    go_enter Try.func105, Try.ntmps105
    go_wp2
    go_ret
    exact ⟨ret_bool HF.out.symm, Below.refl _ _⟩
theorem two_confs (w : World) (a b : ConfT) : Below w.heap.size w ((w.alloc (.cells #[.int .i64 a.ep, a.mv, .int .u64 a.fl] 91)).alloc (.cells #[.int .i64 b.ep, b.mv, .int .u64 b.fl] 91)) :=
  ((Below.refl _ _).alloc (Nat.le_refl _) _).alloc (by simp) _
-- left out here


































set_option maxRecDepth 100000 in
set_option maxHeartbeats 3200000 in
theorem rsame_any (a b : ConfT) (w : World) (ha : ConfOk w a) (hb : ConfOk w b) :
    Calls Try.prog 65 #[confV a, confV b] w fun e w' => e = .returned (.bool (sameC a b)) ∧ Below w.heap.size w w' := by
  obtain ⟨W, hW⟩ : ∃ W, W = ((w.alloc (.cells #[.int .i64 a.ep, a.mv, .int .u64 a.fl] 91)).alloc (.cells #[.int .i64 b.ep, b.mv, .int .u64 b.fl] 91)) := ⟨_, rfl⟩
  have hb1 := two_confs w a b
  rw [← hW] at hb1
  have HB := Lib.hid hb1
  obtain ⟨aep, amv, l, afl⟩ := a
  obtain ⟨bep, bmv, k, bfl⟩ := b
  obtain ⟨ao1, cap1, hv1, hcap1, hcm1, _, hcell1⟩ := ha.ms
  obtain ⟨ao2, cap2, hv2, hcap2, hcm2, _, hcell2⟩ := hb.ms
  simp only at hv1 hcap1 hcell1 hv2 hcap2 hcell2 hW ⊢
  subst hv1 hv2
  have q1 : W.cell? ⟨w.heap.size, 1, none⟩ = some (.slice ao1 l.length cap1) := by rw [hW]; simp
  have q2 : W.cell? ⟨w.heap.size + 1, 1, none⟩ = some (.slice ao2 k.length cap2) := by rw [hW]; simp
  have Q1 := Lib.hid q1; have Q2 := Lib.hid q2; have HW := Lib.hid hW
  have HC1 := Lib.hid hcell1; have HC2 := Lib.hid hcell2
  have heq := fun o m => neq_mem o m
  unfold memV at heq
  have HEq := Lib.hid heq
  clear ha hb hb1 q1 q2 hcell1 hcell2 heq hW
  unfold confV
  have no : ∀ {x : Bool}, sameC ⟨aep, .slice ao1 l.length cap1, l, afl⟩ ⟨bep, .slice ao2 k.length cap2, k, bfl⟩ = x → True := fun _ => trivial
  by_cases h1 : aep = bep
  · by_cases h2 : afl = bfl
    · by_cases hl : l.length = k.length
      · have HF : Hid (sameC ⟨aep, .slice ao1 l.length cap1, l, afl⟩ ⟨bep, .slice ao2 k.length cap2, k, bfl⟩ = decide (l = k)) := Lib.hid (by unfold sameC; simp [h1, h2])
        have h1b : (aep != bep) = false := by simp [h1]
        have h2b : (afl != bfl) = false := by simp [h2]
        have hlb : ((l.length : Int) != (k.length : Int)) = false := by simp [hl]
        have HL := Lib.hid hl
        have hle : l.length ≤ k.length := by omega
        have hge : k.length ≤ l.length := by omega
        clear h1 h2 hl no
        go_enter Try.func65, Try.ntmps65
        go_wp2
        rw [← HW.out]
        go_loopg [5] (l.length + 1) (fun g s5 wr => ∃ i : Nat, s5 = .int .i64 i ∧ i ≤ l.length ∧ l.length + 1 ≤ i + g ∧ l.take i = k.take i ∧ Below W.heap.size W wr)
        case atStart => exact ⟨0, rfl, by omega, by omega, rfl, Below.refl _ _⟩
        case round =>
          obtain ⟨i, rfl, hi, hg, ht, hwr⟩ := hrel
          have HT := Lib.hid ht; have HWR := Lib.hid hwr
          have HBW := Lib.hid (HB.out.trans (hwr.mono HB.out.size))
          have q1 := cell_below hwr Q1.out
          have q2 := cell_below hwr Q2.out
          clear ht hwr
          by_cases hlt : i < l.length
          · have hlt2 : i < k.length := by omega
            obtain ⟨b1, off1, rfl, hr1⟩ := HC1.out i hlt
            obtain ⟨b2, off2, rfl, hr2⟩ := HC2.out i hlt2
            have d0 := cell_below HBW.out (hr1 0 _ rfl)
            have d1 := cell_below HBW.out (hr1 1 _ rfl)
            have e0 := cell_below HBW.out (hr2 0 _ rfl)
            have e1 := cell_below HBW.out (hr2 1 _ rfl)
            rw [Nat.add_zero] at d0 e0
            obtain ⟨o, ho⟩ : ∃ o, o = l[i] := ⟨_, rfl⟩
            obtain ⟨m, hm⟩ : ∃ m, m = k[i] := ⟨_, rfl⟩
            have HO := Lib.hid ho; have HM := Lib.hid hm
            rw [← ho] at d0 d1
            rw [← hm] at e0 e1
            have he := HEq.out o m
            clear hr1 hr2 ho hm
            by_cases hP : o = m
            · have HT2 : Hid (l.take (i + 1) = k.take (i + 1)) := Lib.hid (by rw [takeS hlt, takeS hlt2, HT.out, ← HO.out, ← HM.out, hP])
              rw [show (!(o == m)) = false by simp [hP]] at he
              clear hP
              go_wp2_with fail
              go_quiet (fail)
              go_wp2
              go_roundg (gk - 1)
              case rel => exact ⟨i + 1, by go_num, by omega, by omega, HT2.out, below_draws HWR.out _⟩
              case measure => omega
            · have HF2 : Hid (decide (l = k) = false) := Lib.hid (decide_eq_false (ne_of_at hlt hlt2 (by rw [← HO.out, ← HM.out]; exact hP)))
              rw [show (!(o == m)) = true by simp [hP]] at he
              clear hP
              go_wp2_with fail
              go_quiet (fail)
              go_wp2
              go_ret
              exact ⟨ret_bool (by rw [HF.out, HF2.out]), below_draws HBW.out _⟩
          · have HF2 : Hid (decide (l = k) = true) := Lib.hid (decide_eq_true (eq_of_takes HL.out (by have := HT.out; rw [show i = l.length by omega] at this; exact this)))
            go_wp2
            go_ret
            exact ⟨ret_bool (by rw [HF.out, HF2.out]), HBW.out⟩
      · have HF : Hid (sameC ⟨aep, .slice ao1 l.length cap1, l, afl⟩ ⟨bep, .slice ao2 k.length cap2, k, bfl⟩ = false) := Lib.hid (by unfold sameC; exact decide_eq_false (fun h => hl (congrArg List.length h.2.2)))
        have h1b : (aep != bep) = false := by simp [h1]
        have h2b : (afl != bfl) = false := by simp [h2]
        have hlb : ((l.length : Int) != (k.length : Int)) = true := by rw [bne, beq_eq_false_iff_ne.2 (show (l.length : Int) ≠ k.length by omega)]; rfl
        clear h1 h2 hl no
        go_enter Try.func65, Try.ntmps65
        go_wp2
        go_ret
        exact ⟨ret_bool HF.out.symm, by have := HB.out; rw [HW.out] at this; exact this⟩
    · have HF : Hid (sameC ⟨aep, .slice ao1 l.length cap1, l, afl⟩ ⟨bep, .slice ao2 k.length cap2, k, bfl⟩ = false) := Lib.hid (by unfold sameC; exact decide_eq_false (fun h => h2 h.2.1))
      have h1b : (aep != bep) = false := by simp [h1]
      have h2b : (afl != bfl) = true := by simp [h2]
      clear h1 h2 no
      go_enter Try.func65, Try.ntmps65
      go_wp2
      go_ret
      exact ⟨ret_bool HF.out.symm, by have := HB.out; rw [HW.out] at this; exact this⟩
  · have HF : Hid (sameC ⟨aep, .slice ao1 l.length cap1, l, afl⟩ ⟨bep, .slice ao2 k.length cap2, k, bfl⟩ = false) := Lib.hid (by unfold sameC; exact decide_eq_false (fun h => h1 h.1))
    have h1b : (aep != bep) = true := by simp [h1]
    clear h1 no
    go_enter Try.func65, Try.ntmps65
    go_wp2
    go_ret
    exact ⟨ret_bool HF.out.symm, by have := HB.out; rw [HW.out] at this; exact this⟩
end Go.Proofs.Ytcnahhobppnbbaa
