/- slices.Delete of one element of a row of packets of the call's own. Conditions: none. -/
import Derived.Test.YtjfnpedlegplnaaDelA
import Derived.Test.YtjfnpedlegplnaaPkts
namespace Go.Proofs.Ytjfnpedlegplnaa
open Go.RowKit Go.PlainAid Go.Shelf

theorem info_pkt : (Try.prog.info? 110).map (fun i => (i.zero, i.size, i.bytes)) = some (some (.agg #[.int .i64 0, .int .i64 0, .string ⟨#[]⟩]), 3, 32) := by kernel_rfl
theorem pktE_three (p : PktT) : (pktE p).length = 3 := rfl
theorem pktE_one (p : PktT) : ∀ u ∈ pktE p, u.oneCell' = true := by
  intro u hu; simp [pktE] at hu; rcases hu with rfl | rfl | rfl <;> rfl
theorem zero_pkt (w : World) : (zeroValue 110).run Try.prog w = .ok (.agg #[.int .i64 0, .int .i64 0, .string ⟨#[]⟩]) w := by kernel_rfl

set_option maxRecDepth 100000 in
set_option maxHeartbeats 3200000 in
theorem del_pkt (g n p cap i base : Nat) (l : List PktT) (w : World) (hown : w.ownsRow base 110 3 (.slice (some ⟨g, 0, none⟩) n cap) n (l.flatMap pktE)) (hn : l.length = n) (hi : i < n) (hp : p + 1 = n) :
    Calls Try.prog 123 #[.slice (some ⟨g, 0, none⟩) n cap, .int .i64 i, .int .i64 ((i : Int) + 1)] w fun e w' => e = .returned (.slice (some ⟨g, 0, none⟩) p cap) ∧
      w'.ownsRow base 110 3 (.slice (some ⟨g, 0, none⟩) p cap) p ((l.take i ++ l.drop (i + 1)).flatMap pktE) ∧ w.grownBy w' (some g) := by
  obtain ⟨i0, hii, hz0, hz1, hz2⟩ := info_parts info_pkt
  obtain ⟨f, hR, hf, hgb, hnc, hcm⟩ := own_rowIs hown
  obtain ⟨j, hj⟩ : ∃ j : Nat, j = i + 1 := ⟨_, rfl⟩
  have hjI : (i : Int) + 1 = (j : Int) := by omega
  rw [hjI]
  obtain ⟨news, hnews⟩ : ∃ news, news = (l.drop (i + 1)).flatMap pktE := ⟨_, rfl⟩
  obtain ⟨m, hm⟩ : ∃ m, m = n - j := ⟨_, rfl⟩
  have hnl : news.length = m * 3 := by rw [hnews, flatE_len _ pktE_three, List.length_drop, hn, hm, hj]
  have him : i + m = p := by omega
  have hcap63 : cap ≤ 9223372036854775807 := by unfold maxLen at hcm; exact hcm
  -- the row's elements from j on
  obtain ⟨A, mc, hu2, hsrc⟩ : ∃ (A : Addr) (mc : Nat), (∀ w, (Instr.slice 106 (.slice (some ⟨g, 0, none⟩) n cap) (some (.int .i64 (j : Int))) none none).run Try.prog w = .ok (.slice (some A) m mc) w) ∧ Hid (∀ t u, news[t]? = some u → w.drew.cell? (A.add t) = some u) := by
    by_cases h : cap = j
    · refine ⟨⟨g, 0, none⟩, cap - j, fun w => ?_, Lib.hid (fun t u hu => ?_)⟩
      · rw [run_from (P := Try.prog) (T := 106) (sz := 3) Try.underlying106 Try.sizeOf110 _ n cap j (by omega)]
        unfold Go.sliced
        rw [if_pos h, ← hm]
      · have h0 : news.length = 0 := by rw [hnl]; omega
        rw [List.eq_nil_of_length_eq_zero h0] at hu
        simp at hu
    · refine ⟨⟨g, j * 3, none⟩, cap - j, fun w => ?_, Lib.hid (fun t u hu => ?_)⟩
      · rw [run_from (P := Try.prog) (T := 106) (sz := 3) Try.underlying106 Try.sizeOf110 _ n cap j (by omega)]
        unfold Go.sliced
        rw [if_neg h, ← hm]
        simp only [Option.map_some, Addr.add_lit, Nat.zero_add]
      · have ht : t < m * 3 := by rw [← hnl]; exact (List.getElem?_eq_some_iff.1 hu).1
        have hle : j * 3 + t < n * 3 := by omega
        rw [Addr.add_lit]
        show w.cell? ⟨g, j * 3 + t, none⟩ = some u
        rw [(rowIs_cell hR (j := j * 3 + t) (by have := Nat.mul_le_mul_right 3 hnc; omega)).1, ← hf _ hle, ← hu, hnews]
        have hsplit : l.flatMap pktE = (l.take j).flatMap pktE ++ (l.drop j).flatMap pktE := by rw [← List.flatMap_append, List.take_append_drop]
        have hlt : ((l.take j).flatMap pktE).length = j * 3 := by rw [flatE_len _ pktE_three, List.length_take, hn, Nat.min_eq_left (by omega)]
        rw [hsplit, List.getElem?_append_right (by omega), hlt, Nat.add_sub_cancel_left, hj]
  have hu1 : ∀ w, (Instr.slice 106 (.slice (some ⟨g, 0, none⟩) n cap) none (some (.int .i64 (i : Int))) none).run Try.prog w = .ok (.slice (some ⟨g, 0, none⟩) i cap) w := fun w => by
    rw [run_upto (P := Try.prog) (T := 106) (sz := 3) Try.underlying106 Try.sizeOf110 _ n cap i (by omega)]
    unfold Go.sliced
    split <;> simp [Addr.add]
  have hu3 : ∀ w, (Instr.slice 106 (.slice (some ⟨g, 0, none⟩) p cap) (some (.int .i64 (p : Int))) (some (.int .i64 (n : Int))) none).run Try.prog w = .ok (.slice (some ⟨g, p * 3, none⟩) 1 (cap - p)) w := fun w => by
    rw [run_slice_lh w 106 _ p cap Try.underlying106 .i64 .i64 p n (by omega) (by omega) (by omega), show Try.prog.elem 106 = 110 by kernel_rfl, Try.sizeOf110]
    show Result.ok (Go.sliced _ _ _ _ _) w = _
    unfold Go.sliced
    rw [if_neg (by omega)]
    simp [Addr.add]
    omega
  obtain ⟨v0, hu0⟩ : ∃ v0, ∀ w, (Instr.slice 106 (.slice (some ⟨g, 0, none⟩) n cap) (some (.int .i64 (i : Int))) (some (.int .i64 (j : Int))) (some (.int .i64 (n : Int)))).run Try.prog w = .ok v0 w := ⟨sliced (some ⟨g, 0, none⟩) i j n 3, fun w => by
    rw [run_slice_lhm w 106 _ n cap Try.underlying106 .i64 .i64 .i64 i j n (by omega) (by omega) (by omega) (by omega), show Try.prog.elem 106 = 110 by kernel_rfl, Try.sizeOf110]
    rfl⟩
  have hspare : Hid (∀ t, t < news.length → (w.drew.cell? ⟨g, 0 + i * 3 + t, none⟩).isSome = true ∧ w.drew.frozen? ⟨g, 0 + i * 3 + t, none⟩ = false) := Lib.hid (fun t ht => by
    have hle : 0 + i * 3 + t < cap * 3 := by have := Nat.mul_le_mul_right 3 hnc; omega
    have hc := rowIs_cell hR hle
    exact ⟨by show (w.cell? _).isSome = true; rw [hc.1]; rfl, hc.2⟩)
  obtain ⟨W1, hW1⟩ : ∃ W1, W1 = w.drew.setCells g (0 + i * 3) news := ⟨_, rfl⟩
  have hR1 := rowIs_setCells (b := g) news (0 + i * 3) w.drew f hR
  rw [← hW1] at hR1
  have hcl : ∀ ty, (Builtin.clear_ #[106] ty #[.slice (some ⟨g, p * 3, none⟩) 1 (cap - p)]).run Try.prog W1 = .ok (.tuple #[]) (W1.setCells g (p * 3) [.int .i64 0, .int .i64 0, .string ⟨#[]⟩]) := fun ty =>
    run_clear_one (P := Try.prog) W1 106 110 ty (.agg #[.int .i64 0, .int .i64 0, .string ⟨#[]⟩]) Try.underlying106 zero_pkt [.int .i64 0, .int .i64 0, .string ⟨#[]⟩] (by kernel_rfl) (by simp [Value.oneCell']) g (p * 3) (cap - p)
      (fun t ht => by have ht3 : t < 3 := ht; rw [(rowIs_cell hR1 (j := p * 3 + t) (by have := Nat.mul_le_mul_right 3 hnc; omega)).1]; rfl)
      (fun t ht => by have ht3 : t < 3 := ht; exact (rowIs_cell hR1 (j := p * 3 + t) (by have := Nat.mul_le_mul_right 3 hnc; omega)).2)
  have HR2 := Lib.hid (rowIs_setCells (b := g) [.int .i64 0, .int .i64 0, .string ⟨#[]⟩] (p * 3) W1 _ hR1)
  have HG : Hid (w.grownBy (W1.setCells g (p * 3) [.int .i64 0, .int .i64 0, .string ⟨#[]⟩]) (some g)) := Lib.hid (by
    rw [hW1]
    exact ((show w.grownBy w.drew (some g) from ⟨rfl, rfl, rfl, Nat.le_refl _, fun k _ _ => rfl⟩).trans (setCells_grown g news _ _)).trans (setCells_grown g _ _ _))
  have HST := Lib.hid (struck pktE_three hn hi hp hf [.int .i64 0, .int .i64 0, .string ⟨#[]⟩])
  have HL : Hid (((l.take i ++ l.drop (i + 1)).flatMap pktE).length = p * 3) := Lib.hid (by rw [flatE_len _ pktE_three, List.length_append, List.length_take, List.length_drop, hn, Nat.min_eq_left (by omega)]; omega)
  have HW := Lib.hid hW1; have HNL := Lib.hid hnl; have HNW := Lib.hid hnews
  have hij : decide (i = j) = false := decide_eq_false (by omega)
  have hijI : ((i : Int) == (j : Int)) = false := beq_eq_false_iff_ne.2 (by omega)
  have hpc : p ≤ cap := by omega
  have HIM := Lib.hid him; have HRO : Hid (i + m ≤ cap) := Lib.hid (by omega)
  clear hW1 hR1 hR hf hown hnews hnl hj hjI hm him hn hp hcap63
  go_enter Try.func123, Try.ntmps123
  go_wp2_with fail
  go_region_law (refine step_append_room rfl (.tmp 22) (.tmp 25) 106 rfl 110 i0 3 Try.underlying106 hii hz1 g 0 i cap rfl A m mc news rfl HNL.out hsrc.out (by intro u hu; rw [HNW.out] at hu; obtain ⟨y, _, hy⟩ := List.mem_flatMap.1 hu; exact pktE_one y u hy) HRO.out hspare.out ?_; rw [← HW.out, HIM.out])
  go_wp2
  go_ret
  refine ⟨rfl, rowIs_own HR2.out HL.out (fun t ht => ?_) hgb hpc hcm, HG.out⟩
  have := HST.out t ht
  simp only [Nat.zero_add]
  rw [← HNW.out] at this
  exact this
end Go.Proofs.Ytjfnpedlegplnaa
