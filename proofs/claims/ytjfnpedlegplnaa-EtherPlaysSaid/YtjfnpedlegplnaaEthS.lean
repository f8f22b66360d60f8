/- catenaref21: Take. Conditions: at most 1000 packets. -/
import Derived.Test.YtjfnpedlegplnaaEthR
namespace Go.Proofs.Ytjfnpedlegplnaa
open Go.RowKit Go.PlainAid

theorem own_sliceE {W : World} {base : Nat} {e : TypeId} {size : Nat} {v : Value} {k : Nat} {xs : List Value} (h : W.ownsRow base e size v k xs) : ∃ ao n cap, v = .slice ao n cap := by
  rcases h.2 with ⟨rfl, _⟩ | ⟨g, cap, cur, rfl, _⟩
  · exact ⟨_, _, _, rfl⟩
  · exact ⟨_, _, _, rfl⟩
set_option maxRecDepth 100000 in
set_option maxHeartbeats 3200000 in
theorem rtake_made (w : World) (b : Nat) (v : Value) (l : List PktT) (n k : Int) (i : Nat) (fr to : Int) (bd : ByteArray) (h : REth w b v l n) (hl : l.length ≤ 1000) (hk : (Lit.int .i64 k).wf = true) (h0 : 0 < l.length) (hi : k.toNat % l.length = i) (hil : i < l.length) (hp : l[i] = (fr, to, bd)) :
    Calls Try.prog 63 #[.pointer (some ⟨b, 0, none⟩), .int .i64 k] w fun e w' => e = .returned (.tuple #[.agg #[.int .i64 fr, .int .i64 to, .string bd], .int .i64 0]) ∧ RPost b v w (l.take i ++ l.drop (i + 1)) n w' := by
  obtain ⟨i0, hii, hz0, hz1, hz2⟩ := info_parts info_pkt
  have hbl := h.lt
  have c0 := h.c0; have f0 := h.fr 0
  have hbl1 : b < w.heap.size + 1 := by omega
  have hbl2 : b < w.heap.size + 1 + 1 := by omega
  have hbl3 : b < w.heap.size + 2 := by omega
  have hbn0 : ¬ b = w.heap.size := by omega
  have hbn1 : ¬ b = w.heap.size + 1 := by omega
  have hbn2 : ¬ b = w.heap.size + 2 := by omega
  have HE := Lib.hid h
  have HE1 := Lib.hid (h.kept (w' := w.alloc (.cells #[.int .i64 0, .int .i64 0, .string ⟨#[]⟩] 110)) ((Below.refl _ w).alloc (Nat.le_refl _) _))
  have HSL := Lib.hid h.slice
  have hln : ((l.length : Int) == 0) = false := beq_eq_false_iff_ne.2 (by omega)
  obtain ⟨ao, cap, hv, hcap, hcm, _, hcell⟩ := h.slice
  subst hv
  obtain ⟨g, off, rfl, hr⟩ := hcell i hil
  rw [hp] at hr
  have hgl : g < w.heap.size := World.block_lt_of_cell? w _ (hr 0 _ rfl)
  have HRA : Hid ((w.alloc (.cells #[.int .i64 0, .int .i64 0, .string ⟨#[]⟩] 110)).rangeAt g (off + i * 3) (pktE (fr, to, bd))) := Lib.hid (fun j u hu => cell_below ((Below.refl w.heap.size w).alloc (Nat.le_refl _) _) (hr j u hu))
  obtain ⟨j, hj⟩ : ∃ j : Nat, j = i + 1 := ⟨_, rfl⟩
  have hadd : IntKind.i64.wrap ((i : Int) + 1) = (j : Int) := by rw [hj]; exact IntWalk.i64_in _ ⟨by omega, by omega⟩
  obtain ⟨q, hq⟩ : ∃ q, q = l.length := ⟨_, rfl⟩
  have hu1 := run_upto (P := Try.prog) (T := 106) (sz := 3) Try.underlying106 Try.sizeOf110 (some ⟨g, off, none⟩) l.length cap i (by omega)
  have hu2 := run_from (P := Try.prog) (T := 106) (sz := 3) Try.underlying106 Try.sizeOf110 (some ⟨g, off, none⟩) l.length cap j (by omega)
  obtain ⟨v1, hv1⟩ : ∃ v1, v1 = sliced (some ⟨g, off, none⟩) 0 i cap 3 := ⟨_, rfl⟩
  obtain ⟨v2, hv2⟩ : ∃ v2, v2 = sliced (some ⟨g, off, none⟩) j l.length cap 3 := ⟨_, rfl⟩
  rw [← hv1] at hu1
  rw [← hv2] at hu2
  have HV1 : Hid (SliceOf pktE 3 w v1 (l.take i)) := Lib.hid (by rw [hv1]; simpa using HSL.out.sliced 0 i (by omega) (by omega))
  have HV2 : Hid (SliceOf pktE 3 w v2 (l.drop j)) := Lib.hid (by rw [hv2]; have h5 := HSL.out.sliced j l.length (by omega) (Nat.le_refl _); rw [List.take_length] at h5; exact h5)
  have HLT : Hid ((l.take i).length = i) := Lib.hid (by rw [List.length_take]; omega)
  have HLD : Hid ((l.drop j).length = l.length - j) := Lib.hid (by rw [List.length_drop])
  have HJ := Lib.hid hj
  have hjl : j ≤ l.length := by omega
  have HHI := Lib.hid hi
  clear h hr hcell hv1 hv2 hj hp hq hi
  go_enter Try.func63, Try.ntmps63
  go_wp2_with (first
    | (go_at_call 109; refine (rat_at _ _ _ _ _ _ _ HE1.out hk h0 HHI.out).mono ?_; rintro e w1 ⟨rfl, rfl⟩)
    | (refine wpList_load_mid rfl 110 (.tmp 23) rfl g (off + i * 3) rfl (pktE (fr, to, bd)) _ HRA.out Try.underlying110 rfl (by kernel_rfl) ?_; unfold pktE))
  go_region_law (first
    | (refine step_append_src rfl (.tmp 26) (.tmp 32) 106 rfl (w.heap.size + 2) 110 i0 (.agg #[.int .i64 0, .int .i64 0, .string ⟨#[]⟩]) 3 32 Try.underlying106 hii hz0 hz1 hz2 rfl (by decide) _ 0 [] rfl (by first | exact row_empty _ _ _ _ _ (by simp) (by omega) | exact (row_empty _ _ _ _ _ (by simp) (by omega)).alloc _) pktE (l.take i) _ rfl (HV1.out.below (by (repeat (first | exact Below.refl _ _ | refine Below.alloc ?_ (by first | omega | (simp; done) | (simp; omega)) _ | refine Below.drew ?_ | refine below_draws ?_ _)))) (pkt_one _) (by rw [HLT.out]; unfold maxLen; omega) (by rw [HLT.out]; omega) (by simp <;> omega) ?_; intro v5 w5 hown5 hgr5; have hbx : Below (w.heap.size + 2) ((w.alloc (.cells #[.int .i64 0, .int .i64 0, .string ⟨#[]⟩] 110)).alloc (.cells #[.int .i64 fr, .int .i64 to, .string bd] 110)) w5 := Below.grown (by (repeat (first | exact Below.refl _ _ | refine Below.alloc ?_ (by first | omega | (simp; done) | (simp; omega)) _ | refine Below.drew ?_ | refine below_draws ?_ _))) hgr5 (by simp <;> omega) (fun k hk => by cases hk; simp <;> omega); have hbw := hbx.size; have hbo : Below w.heap.size w w5 := Below.trans (show Below w.heap.size w ((w.alloc (.cells #[.int .i64 0, .int .i64 0, .string ⟨#[]⟩] 110)).alloc (.cells #[.int .i64 fr, .int .i64 to, .string bd] 110)) by (repeat (first | exact Below.refl _ _ | refine Below.alloc ?_ (by first | omega | (simp; done) | (simp; omega)) _ | refine Below.drew ?_ | refine below_draws ?_ _))) (hbx.mono (by omega)); have c0 := cell_below hbo HE.out.c0; have HBX := Lib.hid hbx; have HBO := Lib.hid hbo; have ho5 := Lib.hid (show w5.ownsRow (w.heap.size + 2) 110 3 v5 i ((l.take i).flatMap pktE) by have h7 := hown5; rw [Nat.zero_add, HLT.out] at h7; exact h7); clear hown5 hbx hbo)
    | (refine step_append_src rfl (.tmp 33) (.tmp 40) 106 rfl (w.heap.size + 2) 110 i0 (.agg #[.int .i64 0, .int .i64 0, .string ⟨#[]⟩]) 3 32 Try.underlying106 hii hz0 hz1 hz2 rfl (by decide) _ i _ rfl ho5.out pktE (l.drop j) _ rfl (HV2.out.below (HBO.out)) (pkt_one _) (by rw [HLD.out]; unfold maxLen; omega) (by rw [HLD.out]; omega) (by simp at hbw; omega) ?_; intro v7 w7 hown7 hgr7; have hob := own_block ho5.out; have hbx7 := Lib.hid (Below.grown (B := w.heap.size + 2) HBX.out hgr7 (by simp at hbw; omega) (fun k hk => hob k hk)); have HO7 := Lib.hid hown7; obtain ⟨ao7, n7, cp7, rfl⟩ := own_sliceE hown7; have hbw7 := Lib.hid (Below.trans (show Below w.heap.size w ((w.alloc (.cells #[.int .i64 0, .int .i64 0, .string ⟨#[]⟩] 110)).alloc (.cells #[.int .i64 fr, .int .i64 to, .string bd] 110)) by (repeat (first | exact Below.refl _ _ | refine Below.alloc ?_ (by first | omega | (simp; done) | (simp; omega)) _ | refine Below.drew ?_ | refine below_draws ?_ _))) (hbx7.out.mono (by omega))); have hb7 : w7.heap[b]? = some (.cells #[.slice (some ⟨g, off, none⟩) l.length cap, .int .i64 n] 108 (0, 0)) := (hbw7.out.block b hbl).trans HE.out.blk; have y0 : w7.cell? ⟨b, 0, none⟩ = some (.slice (some ⟨g, off, none⟩) l.length cap) := cell0_blk hb7; have z0 : w7.frozen? ⟨b, 0, none⟩ = false := frozen_of_blk hb7 0; have HB7 := Lib.hid hb7; clear hown7 hgr7 hb7))
  all_goals (
    have hN : w7.heap[w.heap.size]? = some (.cells #[.int .i64 0, .int .i64 0, .string ⟨#[]⟩] 110) := (hbx7.out.block w.heap.size (by omega)).trans ((Below.heap_alloc _ _ _ (by simp)).trans (alloc_at _ _))
    have hN1 : w7.heap[w.heap.size + 1]? = some (.cells #[.int .i64 fr, .int .i64 to, .string bd] 110) := (hbx7.out.block (w.heap.size + 1) (by omega)).trans (alloc_at' _ _ _ (by simp))
    have hN' := (Below.heap_setCell w7 ⟨b, 0, none⟩ (.slice ao7 n7 cp7) w.heap.size (by simp; omega)).trans hN
    have hN1' := (Below.heap_setCell w7 ⟨b, 0, none⟩ (.slice ao7 n7 cp7) (w.heap.size + 1) (by simp; omega)).trans hN1
    obtain ⟨⟨a0, a1, a2⟩, e0, e1, e2⟩ := three_cells hN'
    obtain ⟨⟨d0, d1, d2⟩, _⟩ := three_cells hN1'
    have hfin := setCell_heap _ w.heap.size 2 (.string bd) _ _ (setCell_heap _ w.heap.size 1 (.int .i64 to) _ _ (setCell_heap _ w.heap.size 0 (.int .i64 fr) _ _ hN'))
    obtain ⟨⟨r0, r1, r2⟩, _⟩ := three_cells hfin
    have HR0 := Lib.hid r0; have HR1 := Lib.hid r1; have HR2 := Lib.hid r2
    have hvN : (Value.slice ao7 n7 cp7).ownBlock ≠ some w.heap.size := fun e => by have h9 := own_block HO7.out _ e; omega
    have HR := Lib.hid (REth.setV (l' := l.take i ++ l.drop (i + 1)) HB7.out (own_lowE (by rw [List.flatMap_append, List.length_append, HLT.out, ← HJ.out]; exact HO7.out) (by omega)))
    have HRF := Lib.hid (((HR.out.other w.heap.size 0 (.int .i64 fr) (by omega) hvN).other w.heap.size 1 (.int .i64 to) (by omega) hvN).other w.heap.size 2 (.string bd) (by omega) hvN)
    have HBT := Lib.hid (((((But.of_below (S := fun k => k = b) hbw7.out).setCell (p := ⟨b, 0, none⟩) (fun _ => rfl) (.slice ao7 n7 cp7)).setCell (p := ⟨w.heap.size, 0, none⟩) (fun hh => absurd hh (Nat.lt_irrefl _)) (.int .i64 fr)).setCell (p := ⟨w.heap.size, 1, none⟩) (fun hh => absurd hh (Nat.lt_irrefl _)) (.int .i64 to)).setCell (p := ⟨w.heap.size, 2, none⟩) (fun hh => absurd hh (Nat.lt_irrefl _)) (.string bd))
    have HOW : Hid (∀ g', (Value.slice ao7 n7 cp7).ownBlock = some g' → (Value.slice (some ⟨g, off, none⟩) l.length cap).ownBlock = some g' ∨ w.heap.size ≤ g') := Lib.hid (fun g' hg => .inr (by have h9 := own_block HO7.out g' hg; omega))
    clear hN hN1 hN' hN1' hfin r0 r1 r2
    go_wp2
    exact bodyPost_ret (v := .tuple #[.agg #[.int .i64 fr, .int .i64 to, .string bd], .int .i64 0]) (by simp [results, Try.results63, go_sem, HR0.out, HR1.out, HR2.out]) rfl ⟨rfl, _, HRF.out, HBT.out, HOW.out⟩)
end Go.Proofs.Ytjfnpedlegplnaa
