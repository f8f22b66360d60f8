/- catenaref21: Double of one that was made. Conditions: none. -/
import Derived.Test.YtjfnpedlegplnaaEthX
namespace Go.Proofs.Ytjfnpedlegplnaa
open Go.RowKit Go.PlainAid

theorem own_upE {w : World} {B B' : Nat} {e : TypeId} {k : Nat} {g n cap : Nat} {xs : List Value} (h : w.ownsRow B e k (.slice (some ⟨g, 0, none⟩) n cap) n xs) (hb : B' ≤ g) : w.ownsRow B' e k (.slice (some ⟨g, 0, none⟩) n cap) n xs := by
  obtain ⟨h1, h2⟩ := h
  refine ⟨h1, ?_⟩
  rcases h2 with h2 | ⟨g', cap', cur, hv, hg, r⟩
  · exact Or.inl h2
  · cases hv; exact Or.inr ⟨g, cap, cur, rfl, hb, r⟩
set_option maxRecDepth 100000 in
set_option maxHeartbeats 3200000 in
theorem rdouble_room (w : World) (b : Nat) (v : Value) (l : List PktT) (n k : Int) (i : Nat) (fr to : Int) (bd : ByteArray) (h : REth w b v l n) (hk : (Lit.int .i64 k).wf = true) (h0 : 0 < l.length) (hl : ¬ 400 ≤ l.length) (hi : k.toNat % l.length = i) (hil : i < l.length) (hp : l[i] = (fr, to, bd)) :
    Calls Try.prog 67 #[.pointer (some ⟨b, 0, none⟩), .int .i64 k] w fun e w' => e = .returned (.int .i64 0) ∧ RPost b v w (l ++ [(fr, to, bd)]) n w' := by
  obtain ⟨i0, hii, hz0, hz1, hz2⟩ := info_parts info_pkt
  have HE := Lib.hid h
  have HSL := Lib.hid h.slice
  have hbl := h.lt
  have hbl1 : b < w.heap.size + 1 := by omega
  have hbl2 : b < w.heap.size + 1 + 1 := by omega
  have hbl3 : b < w.heap.size + 2 := by omega
  have hbn0 : ¬ b = w.heap.size := by omega
  have hbn1 : ¬ b = w.heap.size + 1 := by omega
  have c0 := h.c0; have f0 := h.fr 0
  have hln : ((l.length : Int) == 0) = false := beq_eq_false_iff_ne.2 (by omega)
  have hd : decide ((400 : Int) ≤ (l.length : Int)) = false := decide_eq_false (by omega)
  obtain ⟨ao, cap, hv, hcap, hcm, _, hcell⟩ := h.slice
  subst hv
  obtain ⟨g, off, rfl, hr⟩ := hcell i hil
  rw [hp] at hr
  have HR := Lib.hid hr
  have y0 : w.cell? ⟨g, off + i * 3, none⟩ = some (.int .i64 fr) := hr 0 _ rfl
  have y1 : w.cell? ⟨g, off + i * 3 + 1, none⟩ = some (.int .i64 to) := hr 1 _ rfl
  have y2 : w.cell? ⟨g, off + i * 3 + 2, none⟩ = some (.string bd) := hr 2 _ rfl
  have hgl : g < w.heap.size := World.block_lt_of_cell? w _ y0
  have hgl1 : g < w.heap.size + 1 := by omega
  have hgl2 : g < w.heap.size + 1 + 1 := by omega
  have HI := Lib.hid hi
  clear h hr hcell hp hi
  go_enter Try.func67, Try.ntmps67
  go_wp2_with fail
  go_region_law (first
    | (go_simp; go_at_call 109; refine Calls.mono (rat_at _ b _ l n k i (HE.out.kept (by first | exact HBO.out | exact HBO.out.drew | exact (show Below w.heap.size w _ by (repeat (first | exact Below.refl _ _ | refine Below.alloc ?_ (by first | omega | (simp; done) | (simp; omega)) _ | refine Below.drew ?_ | refine below_draws ?_ _))))) hk h0 HI.out) ?_; rintro e w2 ⟨rfl, rfl⟩)
    | (refine step_append_src rfl (.tmp 18) (.tmp 22) 106 rfl w.heap.size 110 i0 (.agg #[.int .i64 0, .int .i64 0, .string ⟨#[]⟩]) 3 32 Try.underlying106 hii hz0 hz1 hz2 rfl (by decide) _ 0 [] rfl (by first | exact row_empty _ _ _ _ _ (by simp) (by omega) | exact (row_empty _ _ _ _ _ (by simp) (by omega)).alloc _) pktE l _ rfl (HSL.out.below (by (repeat (first | exact Below.refl _ _ | refine Below.alloc ?_ (by first | omega | (simp; done) | (simp; omega)) _ | refine Below.drew ?_ | refine below_draws ?_ _)))) (pkt_one l) (by unfold maxLen; omega) (by omega) (by simp <;> omega) ?_; intro v5 w5 hown5 hgr5; have hbo : Below w.heap.size w w5 := Below.grown (by (repeat (first | exact Below.refl _ _ | refine Below.alloc ?_ (by first | omega | (simp; done) | (simp; omega)) _ | refine Below.drew ?_ | refine below_draws ?_ _))) hgr5 (by simp <;> omega) (fun k hk => by cases hk; simp <;> omega); have HBO := Lib.hid hbo; have c5 := cell_below hbo c0; have q0 := cell_below hbo y0; have q1 := cell_below hbo y1; have q2 := cell_below hbo y2; have ho5 := Lib.hid (show w5.ownsRow w.heap.size 110 3 v5 l.length (l.flatMap pktE) by have h7 := hown5; rwa [Nat.zero_add] at h7); have hs5 := hbo.size; have hb5 : b < w5.heap.size := Nat.lt_of_lt_of_le hbl hs5; have hg5 : g < w5.heap.size := Nat.lt_of_lt_of_le hgl hs5; clear hown5 hbo)
    | (refine step_append_lies _ rfl (.tmp 23) (.tmp 33) 106 rfl w.heap.size 110 i0 (.agg #[.int .i64 0, .int .i64 0, .string ⟨#[]⟩]) 3 32 Try.underlying106 hii hz0 hz1 hz2 rfl (by decide) _ l.length _ rfl (by first | exact ho5.out | exact ho5.out.alloc _) _ 1 1 [.int .i64 fr, .int .i64 to, .string bd] rfl rfl (by first | exact World.news_of_block (alloc_at _ _) | exact fun j u hj => hgr5.cell (World.news_of_block (alloc_at' _ _ _ (by simp)) j u hj) (by rw [Addr.add_lit]; intro h8; injection h8 with h9; first | omega | (simp at h9; done) | (simp at h9; omega)) | exact fun j u hj => hgr5.cell (cell_below (Below.alloc (Below.refl _ _) (Nat.le_refl _) _) (World.news_of_block (alloc_at' _ _ _ (by simp)) j u hj)) (by rw [Addr.add_lit]; intro h8; injection h8 with h9; first | omega | (simp at h9; done) | (simp at h9; omega))) (by simp [Value.oneCell']) (by omega) (by unfold maxLen; omega) (by omega) (by simp <;> omega) _ rfl ?_; intro g6 cp6 w6 hown6 hgr6 hg6 hg6s; have hob := own_block ho5.out; have hbw6 := Lib.hid (Below.grown (B := w.heap.size) (a := w) (by first | exact HBO.out | exact HBO.out.drew | exact (HBO.out.alloc (by first | omega | (simp; omega)) _) | exact (HBO.out.alloc (by first | omega | (simp; omega)) _).drew) hgr6 (by simp <;> omega) (fun k hk => hob k hk)); have HO6 := Lib.hid hown6; have hb6 : w6.heap[b]? = some (.cells #[.slice (some ⟨g, off, none⟩) l.length cap, .int .i64 n] 108 (0, 0)) := (hbw6.out.block b hbl).trans HE.out.blk; have z0 : w6.cell? ⟨b, 0, none⟩ = some (.slice (some ⟨g, off, none⟩) l.length cap) := cell0_blk hb6; have z1 : w6.frozen? ⟨b, 0, none⟩ = false := frozen_of_blk hb6 0; have HB6 := Lib.hid hb6; clear hown6 hgr6 hb6))
  all_goals (
    have hgb : w.heap.size ≤ g6 := own_block HO6.out g6 rfl
    have HF := Lib.hid (REth.setV (v' := .slice (some ⟨g6, 0, none⟩) (l.length + 1) cp6) (l' := l ++ [(fr, to, bd)]) HB6.out (by rw [List.flatMap_append, List.length_append]; exact own_upE HO6.out (by omega)))
    have HBT := Lib.hid (((But.of_below (S := fun k => k = b) hbw6.out).setCell (p := ⟨b, 0, none⟩) (fun _ => rfl) (.slice (some ⟨g6, 0, none⟩) (l.length + 1) cp6)))
    have HOW : Hid (∀ g', (Value.slice (some ⟨g6, 0, none⟩) (l.length + 1) cp6).ownBlock = some g' → (Value.slice (some ⟨g, off, none⟩) l.length cap).ownBlock = some g' ∨ w.heap.size ≤ g') := Lib.hid (fun g' hg => .inr (own_block HO6.out g' hg))
    go_wp2
    go_ret
    exact ⟨rfl, _, HF.out, HBT.out, HOW.out⟩)
end Go.Proofs.Ytjfnpedlegplnaa
