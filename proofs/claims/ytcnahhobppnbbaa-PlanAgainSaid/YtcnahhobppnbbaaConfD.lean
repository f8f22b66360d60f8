/- Package conf and the document's own: what is wrong with a configuration. Conditions: none. -/
import Derived.Test.YtcnahhobppnbbaaConfC
namespace Go.Proofs.Ytcnahhobppnbbaa
open Go.RowKit Go.PlainAid

def badId (m : MemT) : Prop := m.1 < 0 ∨ 4 ≤ m.1
def badSer (m : MemT) : Prop := m.2 < 1 ∨ 1073741824 < m.2
instance (m : MemT) : Decidable (badId m) := by unfold badId; infer_instance
instance (m : MemT) : Decidable (badSer m) := by unfold badSer; infer_instance
def chkM : List MemT → List MemT → Int
  | _, [] => 0
  | pre, m :: r => if badId m then 1 else if badSer m then 5 else if 0 ≤ fnd (fun o => o.1 == m.1) pre then 18 else chkM (pre ++ [m]) r
def chkC (ep : Int) (ms : List MemT) : Int := if ep < 1 ∨ 1073741824 < ep then 5 else if ms.length = 0 then 7 else if 4 < ms.length then 6 else chkM [] ms
theorem takeS {α : Type} {l : List α} {i : Nat} (h : i < l.length) : l.take (i + 1) = l.take i ++ [l[i]] := by
  rw [List.take_add_one, List.getElem?_eq_getElem h]; rfl
theorem chkM_at {ms : List MemT} {i : Nat} (h : i < ms.length) : chkM (ms.take i) (ms.drop i) = if badId ms[i] then 1 else if badSer ms[i] then 5 else if 0 ≤ fnd (fun o => o.1 == ms[i].1) (ms.take i) then 18 else chkM (ms.take (i + 1)) (ms.drop (i + 1)) := by
  rw [List.drop_eq_getElem_cons h, takeS h]; rfl
theorem chkM_end {ms : List MemT} {i : Nat} (h : ms.length ≤ i) : chkM (ms.take i) (ms.drop i) = 0 := by
  rw [List.drop_eq_nil_of_le h]; rfl
theorem SliceOf.takeN {α : Type} {enc : α → List Value} {sz : Nat} {w : World} {ao : Option Addr} {cap : Nat} {l : List α} (h : SliceOf enc sz w (.slice ao l.length cap) l) (i : Nat) (hi : i ≤ l.length) : SliceOf enc sz w (.slice ao i cap) (l.take i) := by
  obtain ⟨ao', cap', hv, h1, h2, h3, h4⟩ := h
  injection hv with e1 e2 e3
  subst e1 e3
  have hl : (l.take i).length = i := by rw [List.length_take]; omega
  refine ⟨ao, cap, by rw [hl], by omega, h2, fun e => ⟨by have := (h3 e).1; omega, (h3 e).2⟩, fun j hj => ?_⟩
  obtain ⟨b, off, e, hr⟩ := h4 j (by omega)
  refine ⟨b, off, e, ?_⟩
  rw [List.getElem_take]; exact hr
set_option maxRecDepth 100000 in
set_option maxHeartbeats 3200000 in
theorem check_any (c : ConfT) (w : World) (h : ConfOk w c) :
    Calls Try.prog 103 #[confV c] w fun e w' => e = .returned (.int .i64 (chkC c.ep c.ms)) ∧ Below w.heap.size w w' := by
  have hmf : ∀ (fn : Fn) (first cap : Array Value) (w : World), (Instr.makeFunc fn first cap).run Try.prog w = .ok (.func fn first cap) w := fun _ _ _ _ => rfl
  obtain ⟨ep, mv, ms, fl⟩ := c
  have hms := h.ms
  obtain ⟨ao, cap, hmv, hcap, hcm, _, hcell⟩ := h.ms
  simp only at hmv hcap hcell hms ⊢
  subst hmv
  unfold confV
  obtain ⟨W, hW⟩ : ∃ W, W = (w.alloc (.cells #[.int .i64 ep, .slice ao ms.length cap, .int .u64 fl] 91)) := ⟨_, rfl⟩
  have hb1 : Below w.heap.size w W := by rw [hW]; exact (Below.refl _ _).alloc (Nat.le_refl _) _
  have q0 : W.cell? ⟨w.heap.size, 0, none⟩ = some (.int .i64 ep) := by rw [hW]; simp
  have q1 : W.cell? ⟨w.heap.size, 1, none⟩ = some (.slice ao ms.length cap) := by rw [hW]; simp
  have Q1 := Lib.hid q1
  have HB := Lib.hid hb1; have HW := Lib.hid hW; have HC := Lib.hid hcell; have HMS := Lib.hid hms
  clear h hb1 hW hcell hms
  by_cases he : ep < 1 ∨ 1073741824 < ep
  · have HZ : Hid (chkC ep ms = 5) := Lib.hid (by unfold chkC; rw [if_pos he])
    rcases (show ep < 1 ∨ (1 ≤ ep ∧ 1073741824 < ep) by omega) with h1 | ⟨h1, h2⟩
    all_goals
      clear he
      go_enter Try.func103, Try.ntmps103
      go_wp2_with fail
      go_ret
      exact ⟨ret_int HZ.out.symm, by have := HB.out; rw [HW.out] at this; exact this⟩
  · have h1 : 1 ≤ ep := by omega
    have h2 : ep ≤ 1073741824 := by omega
    by_cases hl0 : ms.length = 0
    · have HZ : Hid (chkC ep ms = 7) := Lib.hid (by unfold chkC; rw [if_neg he, if_pos hl0])
      have hl1 : ((ms.length : Int) == 0) = true := by simp [hl0]
      clear he hl0
      go_enter Try.func103, Try.ntmps103
      go_wp2_with fail
      go_ret
      exact ⟨ret_int HZ.out.symm, by have := HB.out; rw [HW.out] at this; exact this⟩
    · have hl1 : ((ms.length : Int) == 0) = false := beq_eq_false_iff_ne.2 (by omega)
      by_cases hl4 : 4 < ms.length
      · have HZ : Hid (chkC ep ms = 6) := Lib.hid (by unfold chkC; rw [if_neg he, if_neg hl0, if_pos hl4])
        clear he hl0
        go_enter Try.func103, Try.ntmps103
        go_wp2_with fail
        go_ret
        exact ⟨ret_int HZ.out.symm, by have := HB.out; rw [HW.out] at this; exact this⟩
      · have HZ : Hid (chkC ep ms = chkM (ms.take 0) (ms.drop 0)) := Lib.hid (by unfold chkC; rw [if_neg he, if_neg hl0, if_neg hl4]; rfl)
        clear he hl0
        go_enter Try.func103, Try.ntmps103
        go_wp2_with fail
        rw [← HW.out]
        go_loopg [25] (ms.length + 1) (fun g s25 wr => ∃ i : Nat, s25 = .int .i64 i ∧ i ≤ ms.length ∧ ms.length + 1 ≤ i + g ∧ chkC ep ms = chkM (ms.take i) (ms.drop i) ∧ Below W.heap.size W wr)
        case atStart => exact ⟨0, rfl, by omega, by omega, HZ.out, Below.refl _ _⟩
        case round =>
          clear HZ
          obtain ⟨i, rfl, hi, hg, hf, hwr⟩ := hrel
          have HF := Lib.hid hf; have HWR := Lib.hid hwr
          have hbw : Below w.heap.size w wr := HB.out.trans (hwr.mono HB.out.size)
          have HBW := Lib.hid hbw
          have q1 := cell_below hwr Q1.out
          have hsz := hbw.size
          have hszW : w.heap.size < wr.heap.size := World.block_lt_of_cell? wr _ q1
          clear hf hwr hbw
          by_cases hlt : i < ms.length
          · obtain ⟨b, off, rfl, hr⟩ := HC.out i hlt
            have hr1 : wr.rangeAt b (off + i * 2) (memE ms[i]) := fun j u hu => cell_below HBW.out (hr j u hu)
            have HS := Lib.hid (chkM_at hlt)
            obtain ⟨m, hm⟩ : ∃ m, m = ms[i] := ⟨_, rfl⟩
            rw [← hm] at hr1 HS
            have HR := Lib.hid hr1
            obtain ⟨W2, hW2⟩ : ∃ W2, W2 = wr.alloc (.cells #[.int .i64 m.1, .int .i64 m.2] 114) := ⟨_, rfl⟩
            have hb2 : Below wr.heap.size wr W2 := by rw [hW2]; exact (Below.refl _ _).alloc (Nat.le_refl _) _
            have c0 : W2.cell? ⟨wr.heap.size, 0, none⟩ = some (.int .i64 m.1) := by rw [hW2]; simp
            have c1 : W2.cell? ⟨wr.heap.size, 1, none⟩ = some (.int .i64 m.2) := by rw [hW2]; simp
            have C0 := Lib.hid c0; have C1 := Lib.hid c1
            have HB2 := Lib.hid (HBW.out.trans (hb2.mono hsz))
            have HBW2 := Lib.hid (HWR.out.trans (hb2.mono HWR.out.size))
            have HT := Lib.hid ((HMS.out.takeN i hi).below HB2.out)
            have HW2 := Lib.hid hW2
            clear hr hr1 hm hW2 hb2 c0 c1
            by_cases hbi : badId m
            · have HZ : Hid (chkC ep ms = 1) := Lib.hid (by rw [HF.out, HS.out, if_pos hbi])
              unfold badId at hbi
              rcases (show m.1 < 0 ∨ (0 ≤ m.1 ∧ 4 ≤ m.1) by omega) with k1 | ⟨k1, k2⟩
              all_goals
                clear hbi
                go_wp2_with (refine wpList_load_mid rfl 114 (.tmp 28) rfl b (off + i * 2) rfl (memE m) _ HR.out Try.underlying114 rfl (by kernel_rfl) ?_; unfold memE)
                go_ret
                exact ⟨ret_int HZ.out.symm, by have := HB2.out; rw [HW2.out] at this; exact this⟩
            · by_cases hbs : badSer m
              · have HZ : Hid (chkC ep ms = 5) := Lib.hid (by rw [HF.out, HS.out, if_neg hbi, if_pos hbs])
                unfold badId at hbi
                unfold badSer at hbs
                have k1 : 0 ≤ m.1 := by omega
                have k2 : m.1 < 4 := by omega
                rcases (show m.2 < 1 ∨ (1 ≤ m.2 ∧ 1073741824 < m.2) by omega) with k3 | ⟨k3, k4⟩
                all_goals
                  clear hbi hbs
                  go_wp2_with (refine wpList_load_mid rfl 114 (.tmp 28) rfl b (off + i * 2) rfl (memE m) _ HR.out Try.underlying114 rfl (by kernel_rfl) ?_; unfold memE)
                  go_ret
                  exact ⟨ret_int HZ.out.symm, by have := HB2.out; rw [HW2.out] at this; exact this⟩
              · obtain ⟨r, hr⟩ : ∃ r, r = fnd (fun o => o.1 == m.1) (ms.take i) := ⟨_, rfl⟩
                by_cases h0 : 0 ≤ r
                · have HZ : Hid (chkC ep ms = 18) := Lib.hid (by rw [HF.out, HS.out, if_neg hbi, if_neg hbs, if_pos (by omega)])
                  unfold badId at hbi
                  unfold badSer at hbs
                  have k1 : 0 ≤ m.1 := by omega
                  have k2 : m.1 < 4 := by omega
                  have k3 : 1 ≤ m.2 := by omega
                  have k4 : m.2 ≤ 1073741824 := by omega
                  have HRr := Lib.hid hr
                  clear hbi hbs hr
                  go_wp2_with (refine wpList_load_mid rfl 114 (.tmp 28) rfl b (off + i * 2) rfl (memE m) _ HR.out Try.underlying114 rfl (by kernel_rfl) ?_; unfold memE)
                  rw [← HW2.out]
                  refine (first_any 120 (.pointer (some ⟨wr.heap.size, 0, none⟩)) (fun o => o.1 == m.1) _ (ms.take i) _ HT.out (fun _ _ => rfl) (fun o u hb => hasId _ m o u (cell_below hb C0.out) (cell_below hb C1.out))).mono ?_
                  rintro e w3 ⟨rfl, hb⟩
                  rw [← HRr.out]
                  have HB3 := Lib.hid (HB2.out.trans (hb.mono HB2.out.size))
                  clear hb
                  go_wp2
                  go_ret
                  exact ⟨ret_int HZ.out.symm, HB3.out⟩
                · have HZ : Hid (chkC ep ms = chkM (ms.take (i + 1)) (ms.drop (i + 1))) := Lib.hid (by rw [HF.out, HS.out, if_neg hbi, if_neg hbs, if_neg (by omega)])
                  unfold badId at hbi
                  unfold badSer at hbs
                  have k1 : 0 ≤ m.1 := by omega
                  have k2 : m.1 < 4 := by omega
                  have k3 : 1 ≤ m.2 := by omega
                  have k4 : m.2 ≤ 1073741824 := by omega
                  have HRr := Lib.hid hr
                  clear hbi hbs hr
                  go_wp2_with (refine wpList_load_mid rfl 114 (.tmp 28) rfl b (off + i * 2) rfl (memE m) _ HR.out Try.underlying114 rfl (by kernel_rfl) ?_; unfold memE)
                  rw [← HW2.out]
                  refine (first_any 120 (.pointer (some ⟨wr.heap.size, 0, none⟩)) (fun o => o.1 == m.1) _ (ms.take i) _ HT.out (fun _ _ => rfl) (fun o u hb => hasId _ m o u (cell_below hb C0.out) (cell_below hb C1.out))).mono ?_
                  rintro e w3 ⟨rfl, hb⟩
                  rw [← HRr.out]
                  have HB3 := Lib.hid (HBW2.out.trans (hb.mono HBW2.out.size))
                  clear hb
                  go_wp2
                  go_roundg (gk - 1)
                  case rel => exact ⟨i + 1, by go_num, by omega, by omega, HZ.out, HB3.out⟩
                  case measure => omega
          · have HZ : Hid (chkC ep ms = 0) := Lib.hid (by rw [HF.out, chkM_end (by omega)])
            go_wp2
            go_ret
            exact ⟨ret_int HZ.out.symm, HBW.out⟩
end Go.Proofs.Ytcnahhobppnbbaa
