/- Package wire: a big number, a text, a flag are written. Conditions: none. -/
import Derived.Test.YteioaaegooebpaaGreatWireC
namespace Go.Proofs.YteioaaegooebpaaGreat
open Go.RowKit Go.PlainAid

set_option maxRecDepth 100000 in
set_option maxHeartbeats 1600000 in
theorem stepBig (pn pw : Addr) (b B : Nat) (l : List UInt8) (n : Int) (w : World) (hn : w.cell? pn = some (.int .u64 n)) (hw : w.cell? pw = some (.pointer (some ⟨b, 0, none⟩))) (h : Wr w b B l 0) (hl : l.length ≤ 140737488355000) (h0 : 0 ≤ n) (h1 : n < 18446744073709551616) :
    Calls Tryz.prog 135 #[.pointer (some pw), .pointer (some pn)] w fun e w' => e = .returned (.tuple #[]) ∧ Wr w' b B (l ++ putL n) 0 ∧ But (Rw w b) w w' := by
  have H := Lib.hid h; clear h
  go_enter Tryz.func135, Tryz.ntmps135
  go_wp2_with fail
  refine (big_any b B l 0 n _ H.out hl h0 h1).mono ?_
  rintro e w1 ⟨rfl, hm, hb, _⟩
  have HM := Lib.hid hm; have HB := Lib.hid hb; clear hm hb
  go_wp2
  go_end0
  exact ⟨rfl, HM.out, HB.out⟩
theorem Wr.buf_form {w : World} {b B : Nat} {l : List UInt8} {e : Int} (h : Wr w b B l e) : ∃ ao cp, w.cell? ⟨b, 1, none⟩ = some (.slice ao l.length cp) ∧ w.ownsRow B 5 1 (.slice ao l.length cp) l.length (bs l) ∧ some b ≠ (Value.slice ao l.length cp).ownBlock ∧ (Value.slice ao l.length cp).ownBlock = rowOf w b := by
  obtain ⟨v, hc, ho⟩ := h.buf
  obtain ⟨ao, cp, rfl, _⟩ := row_view ho
  refine ⟨ao, cp, hc, ho, fun e => ?_, (rowOf_cell hc).symm⟩
  have := (ho.lt b e.symm).1
  have := h.lt
  omega
set_option maxRecDepth 100000 in
set_option maxHeartbeats 1600000 in
theorem stepText (pn pw : Addr) (b B : Nat) (l : List UInt8) (s : ByteArray) (w : World) (hn : w.cell? pn = some (.string s)) (hw : w.cell? pw = some (.pointer (some ⟨b, 0, none⟩))) (h : Wr w b B l 0) (hl : l.length + s.size ≤ 140737488355000) (hpn : ¬ Rw w b pn.block) (hpw : ¬ Rw w b pw.block) :
    Calls Tryz.prog 134 #[.pointer (some pw), .pointer (some pn)] w fun e w' => e = .returned (.tuple #[]) ∧ Wr w' b B (l ++ putL (s.size : Int) ++ s.data.toList) 0 ∧ But (Rw w b) w w' := by
  obtain ⟨i0, hi, hz0, hz1, hz2⟩ := info_parts info_u8
  have H := Lib.hid h
  have hwu : IntKind.u64.wrap (s.size : Int) = (s.size : Int) := u64_nonneg (by omega) (by omega)
  have HPN := Lib.hid hpn; have HPW := Lib.hid hpw; have HN := Lib.hid hn; have HW := Lib.hid hw
  obtain ⟨m, hme⟩ : ∃ m, m = l ++ putL (s.size : Int) := ⟨_, rfl⟩
  simp only [← hme]
  have HMe := Lib.hid hme
  have hml : m.length ≤ l.length + 9 := by rw [hme, List.length_append]; have := putL_le (s.size : Int); omega
  clear hpn hpw hme
  go_enter Tryz.func134, Tryz.ntmps134
  go_wp2_with fail
  refine (big_any b B l 0 (s.size : Int) _ H.out (by omega) (by omega) (by omega)).mono ?_
  rintro e w2 ⟨rfl, hm, hb, hkp⟩
  rw [← HMe.out] at hm
  have HM := Lib.hid hm; have HB := Lib.hid hb; have HKP := Lib.hid hkp
  have n2 := hb.cell HPN.out HN.out; have p2 := hb.cell HPW.out HW.out
  have hrn : ∀ q : Addr, ¬ Rw w b q.block → q.block < w.heap.size → ¬ (rowOf w2 b = some q.block) := fun q h1 h2 h3 => by
    rcases hkp _ h3 with h4 | h4
    · exact h1 (Or.inr h4)
    · omega
  have hrp := hrn pw HPW.out (World.block_lt_of_cell? w _ HW.out)
  have hrs := hrn pn HPN.out (World.block_lt_of_cell? w _ HN.out)
  obtain ⟨ao, cp, hc, ho, hne, hrow⟩ := HM.out.buf_form
  have hqp : Hid (some pw.block ≠ (Value.slice ao m.length cp).ownBlock) := Lib.hid (fun e => hrp (by rw [← hrow]; exact e.symm))
  have hqn : Hid (some pn.block ≠ (Value.slice ao m.length cp).ownBlock) := Lib.hid (fun e => hrs (by rw [← hrow]; exact e.symm))
  have P2 := Lib.hid p2; have N2 := Lib.hid n2
  have hbs : b < w2.heap.size := Nat.lt_of_lt_of_le HM.out.lt HM.out.le
  have hA : Hid (m.length + s.size ≤ maxLen) := Lib.hid (by unfold maxLen; omega)
  have hBy : Hid (m.length + s.size ≤ 140737488355328) := Lib.hid (by omega)
  have HO : Hid (w2.drew.ownsRow B 5 1 (.slice ao m.length cp) m.length (bs m)) := Lib.hid ho
  have HNe := Lib.hid hne; have HRow := Lib.hid hrow; have HC := Lib.hid hc
  have HBd : Hid (Below w2.heap.size w2 w2.drew) := Lib.hid (Below.refl _ _).drew
  clear hn hw h hm hb ho hne hrow hwu hkp hrn hrp hrs
  go_wp2_with fail
  go_region_law (first | (refine step_append_str rfl (.tmp 11) (.tmp 12) 136 9 rfl B 5 i0 Tryz.underlying136 Tryz.underlying9 hi hz0 hz1 hz2 _ m.length _ rfl HO.out s rfl hA.out hBy.out HM.out.le ?_; intro ao3 c3 w3 hown3 hgr3 hfr3; have HFr3 := Lib.hid hfr3; have c4 := hgr3.cell HC.out HNe.out; have p4 := hgr3.cell P2.out hqp.out; have n4 := hgr3.cell N2.out hqn.out; have z4 : w3.frozen? ⟨b, 1, none⟩ = false := fr_grown HBd.out hgr3 hbs HNe.out HM.out.fr1; have HO3 := Lib.hid hown3; have HG3 := Lib.hid hgr3; clear hown3 hgr3 hfr3))
  all_goals
    have HF := Lib.hid (HM.out.grow HBd.out HG3.out HNe.out HRow.out HO3.out HFr3.out)
    have HBF := Lib.hid (HB.out.trans' HF.out.2.1 (fun i hi hk => by
      rcases hk with hk | hk
      · exact Or.inl hk
      · rcases HKP.out _ hk with h4 | h4
        · exact Or.inr h4
        · omega))
    go_wp2
    go_end0
    exact ⟨rfl, HF.out.1, HBF.out⟩
theorem fresh_lies {row : Option Nat} {g n c H H2 : Nat} (h : row = some g ∨ g = H) (hH : H2 ≤ H) : (Value.slice (some ⟨g, 0, none⟩) n c).ownBlock = row ∨ ∀ k, (Value.slice (some ⟨g, 0, none⟩) n c).ownBlock = some k → H2 ≤ k := by
  rcases h with h | h
  · exact Or.inl h.symm
  · exact Or.inr (fun k hk => by simp [Value.ownBlock] at hk; omega)
def flagB (f : Bool) : UInt8 := if f then 1 else 0
set_option maxRecDepth 100000 in
set_option maxHeartbeats 1600000 in
theorem stepFlag (pn pw : Addr) (b B : Nat) (l : List UInt8) (f : Bool) (w : World) (hn : w.cell? pn = some (.bool f)) (hw : w.cell? pw = some (.pointer (some ⟨b, 0, none⟩))) (h : Wr w b B l 0) (hl : l.length ≤ 140737488355000) (hpw : ¬ Rw w b pw.block) :
    Calls Tryz.prog 143 #[.pointer (some pn), .pointer (some pw)] w fun e w' => e = .returned (.tuple #[]) ∧ Wr w' b B (l ++ [flagB f]) 0 ∧ But (Rw w b) w w' := by
  obtain ⟨i0, hi, hz0, hz1, hz2⟩ := info_parts info_u8
  have H := Lib.hid h
  obtain ⟨ao, cp, hc, ho, hne, hrow⟩ := h.buf_form
  have hbs : b < w.heap.size := Nat.lt_of_lt_of_le h.lt h.le
  have hA : Hid (l.length + 1 ≤ maxLen) := Lib.hid (by unfold maxLen; omega)
  have hBy : Hid ((l.length + 1) * 1 ≤ 140737488355328) := Lib.hid (by omega)
  have hle := h.le
  have HNe := Lib.hid hne; have HRow := Lib.hid hrow; have HC := Lib.hid hc; have HO := Lib.hid ho
  have hqp : Hid (some pw.block ≠ (Value.slice ao l.length cp).ownBlock) := Lib.hid (fun e => hpw (Or.inr (by rw [← hrow]; exact e.symm)))
  have HW := Lib.hid hw; have HN := Lib.hid hn
  clear h ho hne hrow hpw hn hw
  cases f
  · have hbel : Below w.heap.size w (w.alloc (.cells #[.int .u8 0] 5)).drew := ((Below.refl _ _).alloc (Nat.le_refl _) _).drew
    have HB2 := Lib.hid hbel
    have p1 := cell_below hbel HW.out; have p0 := HW.out; have n0 := HN.out; have c0 := HC.out; have c1 := cell_below hbel HC.out
    have HSz : Hid ((w.alloc (.cells #[.int .u8 0] 5)).drew.heap.size = w.heap.size + 1) := Lib.hid (by simp [World.drew])
    have HOne : Hid (∀ u ∈ [Value.int .u8 0], u.oneCell' = true) := Lib.hid (by simp [Value.oneCell'])
    have HOa : Hid ((w.alloc (.cells #[.int .u8 0] 5)).drew.ownsRow B 5 1 (.slice ao l.length cp) l.length (bs l)) := Lib.hid (HO.out.alloc _)
    clear hbel
    go_enter Tryz.func143, Tryz.ntmps143
    go_wp2_with fail
    go_region_law (first | (refine step_append_lies _ rfl (.tmp 8) (.tmp 10) 136 rfl B 5 i0 (.int .u8 0) 1 1 Tryz.underlying136 hi hz0 hz1 hz2 rfl (by decide) _ l.length _ rfl HOa.out ⟨w.heap.size, 0, none⟩ 1 1 [.int .u8 0] rfl rfl (one_cell w _ _) HOne.out Nat.one_pos hA.out hBy.out (Nat.le_trans hle HB2.out.size) (w.heap.size + 1) HSz.out ?_; intro g3 c3 w3 hown3 hgr3 hg3 _; have hfr3 := fresh_lies (n := l.length + 1) (c := c3) hg3 (Nat.le_of_eq HSz.out); have HFr3 := Lib.hid hfr3; have p4 := hgr3.cell (cell_below HB2.out HW.out) hqp.out; have c4 := hgr3.cell (cell_below HB2.out HC.out) HNe.out; have z4 : w3.frozen? ⟨b, 1, none⟩ = false := fr_grown HB2.out hgr3 hbs HNe.out H.out.fr1; have HO3 := Lib.hid hown3; have HG3 := Lib.hid hgr3; clear hown3 hgr3 hfr3))
    all_goals
      have HF := Lib.hid (Wr.grow (s := ⟨#[0]⟩) H.out HB2.out HG3.out HNe.out HRow.out HO3.out HFr3.out)
      go_wp2
      go_end0
      exact ⟨rfl, HF.out.1, HF.out.2.1⟩
  · have hbel : Below w.heap.size w (w.alloc (.cells #[.int .u8 1] 5)).drew := ((Below.refl _ _).alloc (Nat.le_refl _) _).drew
    have HB2 := Lib.hid hbel
    have p1 := cell_below hbel HW.out; have p0 := HW.out; have n0 := HN.out; have c0 := HC.out; have c1 := cell_below hbel HC.out
    have HSz : Hid ((w.alloc (.cells #[.int .u8 1] 5)).drew.heap.size = w.heap.size + 1) := Lib.hid (by simp [World.drew])
    have HOne : Hid (∀ u ∈ [Value.int .u8 1], u.oneCell' = true) := Lib.hid (by simp [Value.oneCell'])
    have HOa : Hid ((w.alloc (.cells #[.int .u8 1] 5)).drew.ownsRow B 5 1 (.slice ao l.length cp) l.length (bs l)) := Lib.hid (HO.out.alloc _)
    clear hbel
    go_enter Tryz.func143, Tryz.ntmps143
    go_wp2_with fail
    go_region_law (first | (refine step_append_lies _ rfl (.tmp 8) (.tmp 10) 136 rfl B 5 i0 (.int .u8 0) 1 1 Tryz.underlying136 hi hz0 hz1 hz2 rfl (by decide) _ l.length _ rfl HOa.out ⟨w.heap.size, 0, none⟩ 1 1 [.int .u8 1] rfl rfl (one_cell w _ _) HOne.out Nat.one_pos hA.out hBy.out (Nat.le_trans hle HB2.out.size) (w.heap.size + 1) HSz.out ?_; intro g3 c3 w3 hown3 hgr3 hg3 _; have hfr3 := fresh_lies (n := l.length + 1) (c := c3) hg3 (Nat.le_of_eq HSz.out); have HFr3 := Lib.hid hfr3; have p4 := hgr3.cell (cell_below HB2.out HW.out) hqp.out; have c4 := hgr3.cell (cell_below HB2.out HC.out) HNe.out; have z4 : w3.frozen? ⟨b, 1, none⟩ = false := fr_grown HB2.out hgr3 hbs HNe.out H.out.fr1; have HO3 := Lib.hid hown3; have HG3 := Lib.hid hgr3; clear hown3 hgr3 hfr3))
    all_goals
      have HF := Lib.hid (Wr.grow (s := ⟨#[1]⟩) H.out HB2.out HG3.out HNe.out HRow.out HO3.out HFr3.out)
      go_wp2
      go_end0
      exact ⟨rfl, HF.out.1, HF.out.2.1⟩

set_option maxRecDepth 100000 in
set_option maxHeartbeats 1600000 in
theorem runBig (pn pw : Addr) (b B : Nat) (l : List UInt8) (n : Int) (w : World) (hn : w.cell? pn = some (.int .u64 n)) (hw : w.cell? pw = some (.pointer (some ⟨b, 0, none⟩))) (h : Wr w b B l 0) (hl : l.length ≤ 140737488355000) (h0 : 0 ≤ n) (h1 : n < 18446744073709551616) :
    Calls Tryz.prog 141 #[.pointer (some ⟨b, 0, none⟩), .func (.func 135) #[] #[.pointer (some pw), .pointer (some pn)]] w fun e w' => e = .returned (.tuple #[]) ∧ Wr w' b B (l ++ putL n) 0 ∧ But (Rw w b) w w' := by
  have hmf : ∀ (fn : Fn) (first cap : Array Value) (w : World), (Instr.makeFunc fn first cap).run Tryz.prog w = .ok (.func fn first cap) w := fun _ _ _ _ => rfl
  have hb1 : Below w.heap.size w (w.alloc (.cells #[.pointer (some ⟨b, 0, none⟩)] 67)) := (Below.refl _ _).alloc (Nat.le_refl _) _
  have H1 := Lib.hid (h.below hb1)
  have HRB := Lib.hid (fun k (hk : Rw _ b k) => h.rw_back hb1 hk)
  have hn1 := cell_below hb1 hn; have hw1 := cell_below hb1 hw
  have hbx : But (Rw w b) w (w.alloc (.cells #[.pointer (some ⟨b, 0, none⟩)] 67)) := But.of_below hb1
  have HN1 := Lib.hid hn1; have HW1 := Lib.hid hw1; have HBX := Lib.hid hbx
  clear hn hw h hb1 hn1 hw1 hbx
  go_enter_defers Tryz.func141, Tryz.ntmps141
  go_wp2_with fail
  refine (stepBig pn pw b B l n _ HN1.out HW1.out H1.out hl h0 h1).mono ?_
  rintro e w2 ⟨rfl, hm, hb⟩
  have HM := Lib.hid hm
  have HB := Lib.hid (HBX.out.trans (hb.mono (fun k _ hk => HRB.out k hk)))
  clear hm hb
  go_wp2
  refine leaves_cons (f := 162) (args := #[.pointer (some ⟨w.heap.size, 0, none⟩)]) (by simp) (by simp [go_sem]) ?_
  refine (catch_idle _ _).mono ?_
  rintro e u' w'' ⟨rfl, rfl, rfl⟩
  simp only [Leaves, settle, results, Tryz.results141]
  simp
  exact ⟨HM.out, HB.out⟩
set_option maxRecDepth 100000 in
set_option maxHeartbeats 1600000 in
theorem runText (pn pw : Addr) (b B : Nat) (l : List UInt8) (s : ByteArray) (w : World) (hn : w.cell? pn = some (.string s)) (hw : w.cell? pw = some (.pointer (some ⟨b, 0, none⟩))) (h : Wr w b B l 0) (hl : l.length + s.size ≤ 140737488355000) (hpn : ¬ Rw w b pn.block) (hpw : ¬ Rw w b pw.block) :
    Calls Tryz.prog 141 #[.pointer (some ⟨b, 0, none⟩), .func (.func 134) #[] #[.pointer (some pw), .pointer (some pn)]] w fun e w' => e = .returned (.tuple #[]) ∧ Wr w' b B (l ++ putL (s.size : Int) ++ s.data.toList) 0 ∧ But (Rw w b) w w' := by
  have hmf : ∀ (fn : Fn) (first cap : Array Value) (w : World), (Instr.makeFunc fn first cap).run Tryz.prog w = .ok (.func fn first cap) w := fun _ _ _ _ => rfl
  have hb1 : Below w.heap.size w (w.alloc (.cells #[.pointer (some ⟨b, 0, none⟩)] 67)) := (Below.refl _ _).alloc (Nat.le_refl _) _
  have H1 := Lib.hid (h.below hb1)
  have HRB := Lib.hid (fun k (hk : Rw _ b k) => h.rw_back hb1 hk)
  have hn1 := cell_below hb1 hn; have hw1 := cell_below hb1 hw
  have hbx : But (Rw w b) w (w.alloc (.cells #[.pointer (some ⟨b, 0, none⟩)] 67)) := But.of_below hb1
  have HN1 := Lib.hid hn1; have HW1 := Lib.hid hw1; have HBX := Lib.hid hbx
  have HRow := Lib.hid (h.rw_below hb1)
  clear hn hw h hb1 hn1 hw1 hbx
  go_enter_defers Tryz.func141, Tryz.ntmps141
  go_wp2_with fail
  refine (stepText pn pw b B l s _ HN1.out HW1.out H1.out hl (by have := HRow.out; unfold Rw; rw [this]; exact hpn) (by have := HRow.out; unfold Rw; rw [this]; exact hpw)).mono ?_
  rintro e w2 ⟨rfl, hm, hb⟩
  have HM := Lib.hid hm
  have HB := Lib.hid (HBX.out.trans (hb.mono (fun k _ hk => HRB.out k hk)))
  clear hm hb
  go_wp2
  refine leaves_cons (f := 162) (args := #[.pointer (some ⟨w.heap.size, 0, none⟩)]) (by simp) (by simp [go_sem]) ?_
  refine (catch_idle _ _).mono ?_
  rintro e u' w'' ⟨rfl, rfl, rfl⟩
  simp only [Leaves, settle, results, Tryz.results141]
  simp
  exact ⟨by rw [← List.append_assoc]; exact HM.out, HB.out⟩
set_option maxRecDepth 100000 in
set_option maxHeartbeats 1600000 in
theorem runFlag (pn pw : Addr) (b B : Nat) (l : List UInt8) (f : Bool) (w : World) (hn : w.cell? pn = some (.bool f)) (hw : w.cell? pw = some (.pointer (some ⟨b, 0, none⟩))) (h : Wr w b B l 0) (hl : l.length ≤ 140737488355000) (hpw : ¬ Rw w b pw.block) :
    Calls Tryz.prog 141 #[.pointer (some ⟨b, 0, none⟩), .func (.func 143) #[] #[.pointer (some pn), .pointer (some pw)]] w fun e w' => e = .returned (.tuple #[]) ∧ Wr w' b B (l ++ [flagB f]) 0 ∧ But (Rw w b) w w' := by
  have hmf : ∀ (fn : Fn) (first cap : Array Value) (w : World), (Instr.makeFunc fn first cap).run Tryz.prog w = .ok (.func fn first cap) w := fun _ _ _ _ => rfl
  have hb1 : Below w.heap.size w (w.alloc (.cells #[.pointer (some ⟨b, 0, none⟩)] 67)) := (Below.refl _ _).alloc (Nat.le_refl _) _
  have H1 := Lib.hid (h.below hb1)
  have HRB := Lib.hid (fun k (hk : Rw _ b k) => h.rw_back hb1 hk)
  have hn1 := cell_below hb1 hn; have hw1 := cell_below hb1 hw
  have hbx : But (Rw w b) w (w.alloc (.cells #[.pointer (some ⟨b, 0, none⟩)] 67)) := But.of_below hb1
  have HN1 := Lib.hid hn1; have HW1 := Lib.hid hw1; have HBX := Lib.hid hbx
  have HRow := Lib.hid (h.rw_below hb1)
  clear hn hw h hb1 hn1 hw1 hbx
  go_enter_defers Tryz.func141, Tryz.ntmps141
  go_wp2_with fail
  refine (stepFlag pn pw b B l f _ HN1.out HW1.out H1.out hl (by have := HRow.out; unfold Rw; rw [this]; exact hpw)).mono ?_
  rintro e w2 ⟨rfl, hm, hb⟩
  have HM := Lib.hid hm
  have HB := Lib.hid (HBX.out.trans (hb.mono (fun k _ hk => HRB.out k hk)))
  clear hm hb
  go_wp2
  refine leaves_cons (f := 162) (args := #[.pointer (some ⟨w.heap.size, 0, none⟩)]) (by simp) (by simp [go_sem]) ?_
  refine (catch_idle _ _).mono ?_
  rintro e u' w'' ⟨rfl, rfl, rfl⟩
  simp only [Leaves, settle, results, Tryz.results141]
  simp
  exact ⟨HM.out, HB.out⟩
end Go.Proofs.YteioaaegooebpaaGreat
