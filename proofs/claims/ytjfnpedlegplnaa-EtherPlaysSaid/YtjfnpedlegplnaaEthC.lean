/- Package ether: take. Conditions: at most 1000 packets. -/
import Derived.Test.YtjfnpedlegplnaaEthB
namespace Go.Proofs.Ytjfnpedlegplnaa
open Go.RowKit Go.PlainAid

theorem Eth.other {w : World} {b : Nat} {v : Value} {l : List PktT} {n : Int} (h : Eth w b v l n) (k o : Nat) (u : Value) (hk : k ≠ b) (hv : v.ownBlock ≠ some k) : Eth (w.setCell ⟨k, o, none⟩ u) b v l n :=
  ⟨by rw [Below.heap_setCell _ _ _ _ (fun e => hk e.symm)]; exact h.blk, h.row.kept (setCell_grown w k o u) (.inr hv)⟩
/-- What is known of the variables behind the deletion and the store. -/
theorem take_facts {w w3 : World} {b g : Nat} {v : Value} {n fr to : Int} {bd : ByteArray} (hbl : b < w.heap.size) (hgl : g < w.heap.size) (hgb : b < g) (hblk : w.heap[b]? = some (.cells #[.bool true, v, .int .i64 n] 170 (0, 0)))
    (hgr : ((w.alloc (.cells #[.int .i64 0, .int .i64 0, .string ⟨#[]⟩] 110)).alloc (.cells #[.int .i64 fr, .int .i64 to, .string bd] 110)).grownBy w3 (some g)) :
    w3.cell? ⟨b, 1, none⟩ = some v ∧ w3.frozen? ⟨b, 1, none⟩ = false ∧
    (∀ V, (w3.setCell ⟨b, 1, none⟩ V).cell? ⟨w.heap.size + 1, 0, none⟩ = some (.int .i64 fr)) ∧ (∀ V, (w3.setCell ⟨b, 1, none⟩ V).cell? ⟨w.heap.size + 1, 1, none⟩ = some (.int .i64 to)) ∧ (∀ V, (w3.setCell ⟨b, 1, none⟩ V).cell? ⟨w.heap.size + 1, 2, none⟩ = some (.string bd)) ∧
    (∀ V, (w3.setCell ⟨b, 1, none⟩ V).cell? ⟨w.heap.size, 0, none⟩ = some (.int .i64 0)) ∧ (∀ V, (w3.setCell ⟨b, 1, none⟩ V).cell? ⟨w.heap.size, 1, none⟩ = some (.int .i64 0)) ∧ (∀ V, (w3.setCell ⟨b, 1, none⟩ V).cell? ⟨w.heap.size, 2, none⟩ = some (.string ⟨#[]⟩)) ∧
    (∀ V, (w3.setCell ⟨b, 1, none⟩ V).frozen? ⟨w.heap.size, 0, none⟩ = false) ∧ (∀ V, (w3.setCell ⟨b, 1, none⟩ V).frozen? ⟨w.heap.size, 1, none⟩ = false) ∧ (∀ V, (w3.setCell ⟨b, 1, none⟩ V).frozen? ⟨w.heap.size, 2, none⟩ = false) ∧
    w3.heap[b]? = some (.cells #[.bool true, v, .int .i64 n] 170 (0, 0)) ∧
    (∀ V, (w3.setCell ⟨b, 1, none⟩ V).heap[w.heap.size]? = some (.cells #[.int .i64 0, .int .i64 0, .string ⟨#[]⟩] 110 (0, 0))) := by
  have hb3 : w3.heap[b]? = some (.cells #[.bool true, v, .int .i64 n] 170 (0, 0)) :=
    (hgr.block b (by simp; omega) (fun e => by injection e with e; omega)).trans ((Below.block ((((Below.refl w.heap.size w).alloc (Nat.le_refl _) _).alloc (by simp) _)) b hbl).trans hblk)
  have hN1 : w3.heap[w.heap.size + 1]? = some (.cells #[.int .i64 fr, .int .i64 to, .string bd] 110 (0, 0)) :=
    (hgr.block _ (by simp) (fun e => by injection e with e; omega)).trans (alloc_at' _ _ _ (by simp))
  have hN : w3.heap[w.heap.size]? = some (.cells #[.int .i64 0, .int .i64 0, .string ⟨#[]⟩] 110 (0, 0)) :=
    (hgr.block _ (by simp; omega) (fun e => by injection e with e; omega)).trans ((Below.heap_alloc _ _ _ (by simp)).trans (alloc_at _ _))
  have hN1' : ∀ V, (w3.setCell ⟨b, 1, none⟩ V).heap[w.heap.size + 1]? = _ := fun V => (Below.heap_setCell w3 ⟨b, 1, none⟩ V (w.heap.size + 1) (by simp; omega)).trans hN1
  have hN' : ∀ V, (w3.setCell ⟨b, 1, none⟩ V).heap[w.heap.size]? = _ := fun V => (Below.heap_setCell w3 ⟨b, 1, none⟩ V w.heap.size (by simp; omega)).trans hN
  refine ⟨cell_of_blk hb3, frozen_of_blk hb3 1, fun V => ?_, fun V => ?_, fun V => ?_, fun V => ?_, fun V => ?_, fun V => ?_, fun V => ?_, fun V => ?_, fun V => ?_, hb3, hN'⟩
  · simp only [World.cell?, hN1' V]; rfl
  · simp only [World.cell?, hN1' V]; rfl
  · simp only [World.cell?, hN1' V]; rfl
  · simp only [World.cell?, hN' V]; rfl
  · simp only [World.cell?, hN' V]; rfl
  · simp only [World.cell?, hN' V]; rfl
  · exact frozen_of_blk (hN' V) 0
  · exact frozen_of_blk (hN' V) 1
  · exact frozen_of_blk (hN' V) 2
set_option maxRecDepth 100000 in
set_option maxHeartbeats 1600000 in
theorem take_any (w : World) (b : Nat) (v : Value) (l : List PktT) (n : Int) (i : Nat) (h : Eth w b v l n) (hl : l.length ≤ 1000) (hi : i < l.length) :
    Calls Try.prog 107 #[.pointer (some ⟨b, 1, none⟩), .int .i64 i] w fun e w' => e = .returned (pktV l[i]) ∧ ∃ v', Eth w' b v' (l.take i ++ l.drop (i + 1)) n ∧ But (EthS b v) w w' ∧ ∀ g, v'.ownBlock = some g → v.ownBlock = some g ∨ w.heap.size ≤ g := by
  have hbl := h.lt
  have c1 := h.c1
  have f1 := h.fr 1
  have HE := Lib.hid h
  have HR := Lib.hid h.row
  obtain ⟨q, hq⟩ : ∃ q, q = l.length := ⟨_, rfl⟩
  have HQ := Lib.hid hq
  obtain ⟨g, cap, rfl⟩ : ∃ g cap, v = .slice (some ⟨g, 0, none⟩) q cap := by
    rcases h.row.2 with ⟨_, h0⟩ | ⟨g, cap, _, hv, _⟩
    · omega
    · exact ⟨g, cap, by rw [hv, hq]⟩
  have hiq : i < q := by omega
  have hg := (HR.out.lt g rfl)
  have hgl : g < w.heap.size := hg.2
  have hgb : b < g := hg.1
  have hqc : q ≤ cap := by
    rcases h.row.2 with ⟨h0, _⟩ | ⟨g', cap', _, hv, _, _, hle, _⟩
    · cases h0
    · injection hv with _ _ e; rw [e, hq]; exact hle
  rw [← hq] at HR
  have HSL := Lib.hid h.slice
  obtain ⟨p, hp⟩ : ∃ p, p = l[i] := ⟨_, rfl⟩
  have hr : w.rangeAt g (0 + i * 3) (pktE p) := by
    obtain ⟨a', c', e1, _, _, _, hx⟩ := h.slice
    obtain ⟨b', off', e2, hr⟩ := hx i hi
    simp only [Value.slice.injEq] at e1
    rw [e2] at e1
    injection e1.1 with e3
    injection e3 with e4 e5
    rw [e4, e5, hp]; exact hr
  rw [← hp]
  rw [Nat.zero_add] at hr
  have hr1 : (w.alloc (.cells #[.int .i64 0, .int .i64 0, .string ⟨#[]⟩] 110)).rangeAt g (i * 3) (pktE p) := fun j u hu => cell_below ((Below.refl w.heap.size w).alloc (Nat.le_refl _) _) (hr j u hu)
  have HRA := Lib.hid hr1
  obtain ⟨fr, to, bd⟩ := p
  obtain ⟨m, hm⟩ : ∃ m, m + 1 = q := ⟨q - 1, by omega⟩
  have HM := Lib.hid hm
  have hadd : IntKind.i64.wrap ((i : Int) + 1) = (i : Int) + 1 := IntWalk.i64_in _ ⟨by omega, by omega⟩
  clear h hr hr1 hq hp hm
  unfold pktV
  go_enter Try.func107, Try.ntmps107
  go_wp2_with (refine wpList_load_mid rfl 110 (.tmp 11) rfl g (i * 3) rfl (pktE (fr, to, bd)) _ HRA.out Try.underlying110 rfl (by kernel_rfl) ?_; unfold pktE)
  refine (del_pkt g q m cap i (b + 1) l _ (row_below HR.out (((Below.refl _ w).alloc (Nat.le_refl _) _).alloc (by simp) _)) HQ.out.symm hiq HM.out).mono ?_
  rintro e w3 ⟨rfl, hown3, hgr3⟩
  have HT := Lib.hid (take_facts (fr := fr) (to := to) (bd := bd) hbl hgl hgb HE.out.blk hgr3)
  obtain ⟨hq0, hq1, y0, y1, y2, x0, x1, x2, z0, z1, z2, hb3, hblkN⟩ := HT.out
  have HBN := Lib.hid hblkN; clear hblkN
  have HB3 := Lib.hid hb3
  have HO3 := Lib.hid hown3; have HG3 := Lib.hid hgr3
  clear hown3 hgr3 hb3
  go_wp2
  have hE1 := Eth.setV (l' := l.take i ++ l.drop (i + 1)) (v' := .slice (some ⟨g, 0, none⟩) m cap) HB3.out (by
    have e : (l.take i ++ l.drop (i + 1)).length = m := by have := HM.out; have := HQ.out; rw [List.length_append, List.length_take, List.length_drop]; omega
    rw [e]; exact HO3.out)
  have hg1 : (Value.slice (some ⟨g, 0, none⟩) m cap).ownBlock ≠ some w.heap.size := fun e => by have e2 : g = w.heap.size := Option.some.inj e; omega
  have HF := Lib.hid (((hE1.other w.heap.size 0 (.int .i64 fr) (by omega) hg1).other w.heap.size 1 (.int .i64 to) (by omega) hg1).other w.heap.size 2 (.string bd) (by omega) hg1)
  have HBT := Lib.hid ((((((But.of_below (S := EthS b (.slice (some ⟨g, 0, none⟩) q cap)) (((Below.refl w.heap.size w).alloc (Nat.le_refl _) (.cells #[.int .i64 0, .int .i64 0, .string ⟨#[]⟩] 110)).alloc (by simp) (.cells #[.int .i64 fr, .int .i64 to, .string bd] 110))).trans' (but_grown HG3.out) (fun j _ hj => .inr hj)).setCell (p := ⟨b, 1, none⟩) (fun _ => .inl rfl) (.slice (some ⟨g, 0, none⟩) m cap)).setCell (p := ⟨w.heap.size, 0, none⟩) (fun hh => absurd hh (Nat.lt_irrefl _)) (.int .i64 fr)).setCell (p := ⟨w.heap.size, 1, none⟩) (fun hh => absurd hh (Nat.lt_irrefl _)) (.int .i64 to)).setCell (p := ⟨w.heap.size, 2, none⟩) (fun hh => absurd hh (Nat.lt_irrefl _)) (.string bd))
  have hfin := setCell_heap _ w.heap.size 2 (.string bd) _ _ (setCell_heap _ w.heap.size 1 (.int .i64 to) _ _ (setCell_heap _ w.heap.size 0 (.int .i64 fr) _ _ (HBN.out (.slice (some ⟨g, 0, none⟩) m cap))))
  refine bodyPost_ret (results_cell_row rfl _ _ w.heap.size 110 #[.int .i64 fr, .int .i64 to, .string bd] (0, 0) _ rfl hfin Try.underlying110 rfl (by kernel_rfl)) rfl ?_
  exact ⟨rfl, _, HF.out, HBT.out, fun j hj => .inl hj⟩
end Go.Proofs.Ytjfnpedlegplnaa
