/- Put together: KeyTTp, OvATp, ThATp, ThBTp, RlgZTp, RlgGTp, RlgVTp. Conditions: as each says. -/
import Derived.Test.YtniojcnkjehflaaTq1
import Derived.BigQuiet
import Derived.Sort.KeysCollected
import Derived.Maps.OwnSet
import Derived.Sort.OwnSorted
import Derived.Shelf.Sort.Plain
import Derived.Test.YtniojcnkjehflaaTq4
import Derived.Test.YtniojcnkjehflaaTq3
/- catenaref05.Set, without keys.Set. Conditions: the texts read as l, of at most 1000. -/
namespace Go.Proofs.Ytniojcnkjehflaa
open Go.RowKit Go.PlainAid Go.WideMaps Go.Maps Go.Sort Go.Shelf

theorem own_lowK {w : World} {B B' : Nat} {e : TypeId} {k : Nat} {v : Value} {n : Nat} {xs : List Value} (h : w.ownsRow B e k v n xs) (hb : B' ≤ B) : w.ownsRow B' e k v n xs := by
  obtain ⟨h1, h2⟩ := h
  refine ⟨h1, ?_⟩
  rcases h2 with h2 | ⟨g, cap, cur, hv, hg, r⟩
  · exact Or.inl h2
  · exact Or.inr ⟨g, cap, cur, hv, Nat.le_trans hb hg, r⟩
theorem info_strK : (Try.prog.info? 9).map (fun i => (i.zero, i.size, i.bytes)) = some (some (.string ⟨#[]⟩), 1, 16) := by kernel_rfl
theorem bl_lt (x y : List UInt8) : Op.bytesLess x y = decide (x < y) := bytesLess_eq x y
/-- A text's bytes. -/
abbrev kb (s : ByteArray) : List UInt8 := s.data.toList
/-- ys rises, and has just what l has. -/
def SetOf (ys l : List ByteArray) : Prop := (ys.map kb).Pairwise (· < ·) ∧ ∀ x, x ∈ ys.map kb ↔ x ∈ l.map kb
def mkB (x : List UInt8) : ByteArray := ⟨x.toArray⟩
theorem mk_kb (s : ByteArray) : mkB (kb s) = s := by apply ByteArray.ext; simp [kb, mkB]
theorem kb_inj {a b : ByteArray} (h : kb a = kb b) : a = b := by rw [← mk_kb a, h, mk_kb]
theorem map_mk_kb : ∀ l : List ByteArray, (l.map kb).map mkB = l
  | [] => rfl
  | x :: l => by rw [List.map_cons, List.map_cons, mk_kb, map_mk_kb l]
theorem map_kb_inj {a b : List ByteArray} (h : a.map kb = b.map kb) : a = b := by rw [← map_mk_kb a, h, map_mk_kb]
theorem rising_eq : ∀ {a b : List (List UInt8)}, a.Pairwise (· < ·) → b.Pairwise (· < ·) → (∀ x, x ∈ a ↔ x ∈ b) → a = b
  | [], [], _, _, _ => rfl
  | [], y :: b, _, _, h => absurd ((h y).2 (by simp)) (by simp)
  | x :: a, [], _, _, h => absurd ((h x).1 (by simp)) (by simp)
  | x :: a, y :: b, ha, hb, h => by
    rw [List.pairwise_cons] at ha hb
    have hxy : x = y := by
      have h1 := (h x).1 (by simp)
      have h2 := (h y).2 (by simp)
      rcases List.mem_cons.1 h1 with e | h1
      · exact e
      · rcases List.mem_cons.1 h2 with e | h2
        · exact e.symm
        · exact absurd (List.lt_trans (ha.1 y h2) (hb.1 x h1)) (List.lt_irrefl x)
    subst hxy
    rw [rising_eq ha.2 hb.2 (fun z => ?_)]
    have hz := h z
    simp only [List.mem_cons] at hz
    constructor
    · intro hm
      rcases hz.1 (.inr hm) with e | k
      · subst e; exact absurd (ha.1 z hm) (List.lt_irrefl z)
      · exact k
    · intro hm
      rcases hz.2 (.inr hm) with e | k
      · subst e; exact absurd (hb.1 z hm) (List.lt_irrefl z)
      · exact k
theorem SetOf.uniq {a b l : List ByteArray} (h : SetOf a l) (k : SetOf b l) : a = b := map_kb_inj (rising_eq h.1 k.1 (fun x => (h.2 x).trans (k.2 x).symm))
/-- What stands in a world stands behind allocations and draws: the list of steps. -/
theorem ins_rising {L : List (List UInt8)} {x : List UInt8} {k : Nat} (h : L.Pairwise (· < ·)) (h1 : ∀ y ∈ L.take k, y < x) (h2 : ∀ y ∈ L.drop k, x < y) : (L.take k ++ x :: L.drop k).Pairwise (· < ·) := by
  have h' := h
  rw [← List.take_append_drop k L, List.pairwise_append] at h'
  rw [List.pairwise_append, List.pairwise_cons]
  refine ⟨h'.1, ⟨h2, h'.2.1⟩, fun a ha b hb => ?_⟩
  rcases List.mem_cons.1 hb with rfl | hb
  · exact h1 a ha
  · exact h'.2.2 a ha b hb
theorem SetOf.ins {ys m : List ByteArray} {s : ByteArray} {k : Nat} (h : SetOf ys m) (hk : k ≤ ys.length) (h1 : ∀ j (_ : j < ys.length), j < k → kb ys[j] < kb s) (h2 : ∀ h : k < ys.length, kb s < kb ys[k]) : SetOf (ys.take k ++ [s] ++ ys.drop k) (m ++ [s]) := by
  have e : (ys.take k ++ [s] ++ ys.drop k).map kb = (ys.map kb).take k ++ kb s :: (ys.map kb).drop k := by simp [List.map_take, List.map_drop]
  refine ⟨?_, fun x => ?_⟩
  · rw [e]
    refine ins_rising h.1 (fun y hy => ?_) (fun y hy => ?_)
    · rw [← List.map_take] at hy
      obtain ⟨z, hz, rfl⟩ := List.mem_map.1 hy
      obtain ⟨j, hj, rfl⟩ := List.getElem_of_mem hz
      have hj' : j < k ∧ j < ys.length := by rw [List.length_take] at hj; omega
      rw [List.getElem_take]
      exact h1 j hj'.2 hj'.1
    · by_cases hkl : k < ys.length
      · have hp := h.1
        have hkl' : k < (ys.map kb).length := by simpa using hkl
        rw [← List.take_append_drop k (ys.map kb), List.pairwise_append] at hp
        have hp2 := hp.2.1
        rw [List.drop_eq_getElem_cons hkl'] at hp2 hy
        rw [List.pairwise_cons] at hp2
        have hx := h2 hkl
        rw [List.getElem_map] at hp2 hy
        rcases List.mem_cons.1 hy with rfl | hy
        · exact hx
        · exact List.lt_trans hx (hp2.1 y hy)
      · rw [List.drop_eq_nil_of_le (by simp; omega)] at hy; exact absurd hy (by simp)
  · have hm := h.2 x
    have hsplit : x ∈ ys.map kb ↔ x ∈ (ys.map kb).take k ∨ x ∈ (ys.map kb).drop k := by
      conv => lhs; rw [← List.take_append_drop k (ys.map kb)]
      exact List.mem_append
    rw [e, List.map_append, List.mem_append, List.mem_append, List.mem_cons, ← hm, hsplit]
    simp only [List.map_cons, List.map_nil, List.mem_singleton]
    constructor
    · rintro (h | h | h)
      · exact .inl (.inl h)
      · exact .inr h
      · exact .inl (.inr h)
    · rintro ((h | h) | h)
      · exact .inl h
      · exact .inr (.inr h)
      · exact .inr (.inl h)
theorem SetOf.skip {ys m : List ByteArray} {s : ByteArray} (h : SetOf ys m) (hs : s ∈ ys) : SetOf ys (m ++ [s]) := by
  refine ⟨h.1, fun x => ?_⟩
  rw [h.2 x, List.map_append, List.mem_append]
  constructor
  · exact .inl
  · rintro (k | k)
    · exact k
    · obtain rfl : x = kb s := by simpa using k
      exact (h.2 _).1 (List.mem_map_of_mem hs)
theorem strE_oneL (l : List ByteArray) : ∀ y ∈ l, (strE y).length = 1 ∧ ∀ u ∈ strE y, u.oneCell' = true := by
  intro y _; exact ⟨rfl, fun u hu => by simp [strE] at hu; subst hu; rfl⟩
theorem lt_facts {q s : ByteArray} {b : Bool} (h : decide (kb q < kb s) = b) : Op.bytesLess q.data.toList s.data.toList = b ∧ Op.bytesLess q.toList s.toList = b := by
  refine ⟨by rw [bl_lt]; exact h, by rw [Go.ByteArray.toList_eq, Go.ByteArray.toList_eq, bl_lt]; exact h⟩
theorem eq_facts {q s : ByteArray} (h : q ≠ s) : (q.data.toList == s.data.toList) = false ∧ (q.toList == s.toList) = false := by
  have e : q.data.toList ≠ s.data.toList := fun e => h (kb_inj e)
  refine ⟨beq_eq_false_iff_ne.2 e, ?_⟩
  rw [Go.ByteArray.toList_eq, Go.ByteArray.toList_eq]; exact beq_eq_false_iff_ne.2 e

set_option maxRecDepth 100000 in
set_option maxHeartbeats 3200000 in
theorem rset_any (v : Value) (l : List ByteArray) (w : World) (hs : SliceOf strE 1 w v l) (hl : l.length ≤ 1000) :
    Calls Try.prog 75 #[v] w fun e w' => ∃ u ys, e = .returned u ∧ (SetOf ys l ∧ ys.length ≤ l.length) ∧ w'.ownsRow w.heap.size 9 1 u ys.length (ys.flatMap strE) ∧ Below w.heap.size w w' := by
  obtain ⟨i0, hi, hz0, hz1, hz2⟩ := info_parts info_strK
  have HS := Lib.hid hs
  obtain ⟨ao, cap, rfl, hcap, hcm, _, _⟩ := hs
  go_enter Try.func75, Try.ntmps75
  go_wp2
  go_loopg [3, 4] (l.length + 1) (fun g s3 s4 wr => ∃ (i : Nat) (ys : List ByteArray), s4 = .int .i64 i ∧ i ≤ l.length ∧ l.length + 1 ≤ i + g ∧ ys.length ≤ i ∧ Hid (wr.ownsRow w.heap.size 9 1 s3 ys.length (ys.flatMap strE)) ∧ Hid (SetOf ys (l.take i)) ∧ Hid (Below w.heap.size w wr))
  case atStart => exact ⟨0, [], rfl, by omega, by omega, by simp, Lib.hid (World.ownsRow_nil _ _ _ _), Lib.hid ⟨by simp, by simp⟩, Lib.hid (Below.refl _ _)⟩
  case round =>
    obtain ⟨i, ys, rfl, hi4, hg, hyl, HO, HSET, HB⟩ := hrel
    by_cases hlt : i < l.length
    · have HSL := Lib.hid (SliceOf.own (enc := strE) HO.out (fun _ _ => rfl))
      obtain ⟨ao2, cap2, rfl, hc2, hm2, hnil2, _⟩ := HSL.out
      have HT : Hid (l.take (i + 1) = l.take i ++ [l[i]]) := Lib.hid (by rw [List.take_add_one, List.getElem?_eq_getElem hlt]; rfl)
      obtain ⟨s, hsv⟩ : ∃ s, s = l[i] := ⟨_, rfl⟩
      have HSV := Lib.hid hsv
      rw [← hsv] at HT
      have hdl : decide ((i : Int) < (l.length : Int)) = true := decide_eq_true (by omega)
      obtain ⟨n2, hn2⟩ : ∃ n2, n2 = ys.length := ⟨_, rfl⟩
      have HN2 := Lib.hid hn2
      rw [← hn2] at HO HSL hc2 hyl hnil2 ⊢
      obtain ⟨gO, hgO⟩ : ∃ gO, gO = gk := ⟨_, rfl⟩
      rw [← hgO] at hg
      clear hsv hn2
      go_wp2
      go_loopg [5] (n2 + 1) (fun g s5 wr' => ∃ k : Nat, s5 = .int .i64 k ∧ k ≤ n2 ∧ n2 + 1 ≤ k + g ∧ Hid (∀ j (_ : j < ys.length), j < k → kb ys[j] < kb s) ∧ Hid (wr'.ownsRow w.heap.size 9 1 (.slice ao2 n2 cap2) n2 (ys.flatMap strE)) ∧ Hid (Below w.heap.size w wr'))
      case atStart => exact ⟨0, rfl, by omega, by omega, Lib.hid (fun j _ h => absurd h (by omega)), HO, HB⟩
      case round =>
        obtain ⟨k, rfl, hk, hg2, HLT, HO2, HB2⟩ := hrel
        have HSL2 := Lib.hid (SliceOf.own (enc := strE) (l := ys) (by rw [← HN2.out]; exact HO2.out) (fun _ _ => rfl))
        have HLS := Lib.hid (HS.out.below HB2.out)
        obtain ⟨b, off, rfl, hrl⟩ := (show ∃ b off, ao = some ⟨b, off, none⟩ ∧ wr.cell? ⟨b, off + i, none⟩ = some (.string s) by
          obtain ⟨a', c', e1, _, _, _, hx⟩ := HLS.out
          obtain ⟨b, off, e2, hr⟩ := hx i hlt
          simp only [Value.slice.injEq] at e1
          refine ⟨b, off, by rw [e1.1, e2], ?_⟩
          rw [HSV.out]; simpa using hr 0 _ rfl)
        by_cases hkl : k < n2
        · have hklI : decide ((k : Int) < (n2 : Int)) = true := decide_eq_true (by omega)
          have hkl' : k < ys.length := by have := HN2.out; omega
          obtain ⟨b2, off2, rfl, hrk⟩ := (show ∃ b2 off2, ao2 = some ⟨b2, off2, none⟩ ∧ wr.cell? ⟨b2, off2 + k, none⟩ = some (.string ys[k]) by
            obtain ⟨a', c', e1, _, _, _, hx⟩ := HSL2.out
            obtain ⟨b, off, e2, hr⟩ := hx k hkl'
            simp only [Value.slice.injEq] at e1
            exact ⟨b, off, by rw [e1.1, e2], by simpa using hr 0 _ rfl⟩)
          obtain ⟨q, hqv⟩ : ∃ q, q = ys[k] := ⟨_, rfl⟩
          have HQ := Lib.hid hqv
          rw [← hqv] at hrk
          have HCL := Lib.hid hrl; have HCK := Lib.hid hrk
          clear hqv
          cases hlq : decide (kb q < kb s) with
          | true =>
            obtain ⟨f1, f2⟩ := lt_facts hlq
            have HLT2 : Hid (∀ j (_ : j < ys.length), j < k + 1 → kb ys[j] < kb s) := Lib.hid (fun j hj hjk => by
              by_cases e : j = k
              · subst e; rw [← HQ.out]; exact of_decide_eq_true hlq
              · exact HLT.out j hj (by omega))
            clear hlq
            go_wp2_with fail
            go_quiet (fail)
            obtain ⟨z, hz⟩ : ∃ z, z = nq := ⟨_, rfl⟩
            rw [← hz]; clear hz
            go_wp2
            go_roundg (gk - 1)
            case rel => exact ⟨k + 1, by go_num, by omega, by omega, HLT2, Lib.hid (row_below HO2.out (below_draws (Below.refl _ _) z)), Lib.hid (below_draws HB2.out z)⟩
            case measure => omega
          | false =>
            obtain ⟨f1, f2⟩ := lt_facts hlq
            by_cases hqs : q = s
            · subst hqs
              have HSET2 := Lib.hid (HSET.out.skip (s := q) (by rw [HQ.out]; exact List.getElem_mem _))
              rw [← HT.out] at HSET2
              clear hlq
              go_wp2_with fail
              go_quiet (fail)
              obtain ⟨z, hz⟩ : ∃ z, z = nq := ⟨_, rfl⟩
              rw [← hz]; clear hz
              have c1 : (wr.drewN z).cell? ⟨b2, off2 + k, none⟩ = some (.string q) := HCK.out
              have c2 : (wr.drewN z).cell? ⟨b, off + i, none⟩ = some (.string q) := HCL.out
              go_wp2_with fail
              go_quiet (fail)
              obtain ⟨z2, hz2⟩ : ∃ z, z = nq := ⟨_, rfl⟩
              rw [← hz2]; clear hz2
              go_wp2
              go_roundg (gO - 1)
              case rel => exact ⟨i + 1, ys, by go_num, by omega, by omega, by have := HN2.out; omega, Lib.hid (by have h5 := row_below HO2.out (below_draws (Below.refl wr.heap.size wr) (z + z2)); rw [HN2.out] at h5 ⊢; exact h5), HSET2, Lib.hid (below_draws HB2.out (z + z2))⟩
              case measure => omega
            · have HIN := Lib.hid (HSET.out.ins (s := s) (k := k) (by omega) HLT.out (fun h => by
                rcases List.le_iff_lt_or_eq.1 (List.not_lt.1 (of_decide_eq_false hlq)) with h5 | h5
                · rw [← HQ.out]; exact h5
                · exact absurd (kb_inj h5).symm hqs))
              rw [← HT.out] at HIN
              obtain ⟨f4, f5⟩ := eq_facts hqs
              clear hlq hqs
              go_wp2_with fail
              go_quiet (fail)
              obtain ⟨z, hz⟩ : ∃ z, z = nq := ⟨_, rfl⟩
              rw [← hz]; clear hz
              have c1 : (wr.drewN z).cell? ⟨b2, off2 + k, none⟩ = some (.string q) := HCK.out
              have c2 : (wr.drewN z).cell? ⟨b, off + i, none⟩ = some (.string s) := HCL.out
              go_wp2_with fail
              go_quiet (fail)
              obtain ⟨z2, hz2⟩ : ∃ z, z = nq := ⟨_, rfl⟩
              rw [← hz2]; clear hz2
              obtain ⟨W8, hW8⟩ : ∃ W8, W8 = (wr.drewN z).drewN z2 := ⟨_, rfl⟩
              have HB8 : Hid (Below w.heap.size w W8) := Lib.hid (by rw [hW8]; exact below_draws (below_draws HB2.out z) z2)
              have HO8 : Hid (W8.ownsRow w.heap.size 9 1 (.slice (some ⟨b2, off2, none⟩) n2 cap2) n2 (ys.flatMap strE)) := Lib.hid (by rw [hW8]; exact row_below HO2.out (below_draws (below_draws (Below.refl wr.heap.size wr) z) z2))
              have HSL8 := Lib.hid (SliceOf.own (enc := strE) (l := ys) (by rw [← HN2.out]; exact HO8.out) (fun _ _ => rfl))
              have HC8 : Hid (W8.cell? ⟨b, off + i, none⟩ = some (.string s)) := Lib.hid (by rw [hW8]; exact c2)
              rw [← hW8]
              clear hW8 c2
              have hu1 := run_upto (P := Try.prog) (T := 131) (sz := 1) Try.underlying131 Try.sizeOf9 (some ⟨b2, off2, none⟩) n2 cap2 k (by omega)
              have hu2 := run_from (P := Try.prog) (T := 131) (sz := 1) Try.underlying131 Try.sizeOf9 (some ⟨b2, off2, none⟩) n2 cap2 k (by omega)
              obtain ⟨v1, hv1⟩ : ∃ v1, v1 = sliced (some ⟨b2, off2, none⟩) 0 k cap2 1 := ⟨_, rfl⟩
              obtain ⟨v2, hv2⟩ : ∃ v2, v2 = sliced (some ⟨b2, off2, none⟩) k n2 cap2 1 := ⟨_, rfl⟩
              rw [← hv1] at hu1
              rw [← hv2] at hu2
              have HV1 : Hid (SliceOf strE 1 W8 v1 (ys.take k)) := Lib.hid (by rw [hv1]; simpa using HSL8.out.sliced 0 k (by omega) (by have := HN2.out; omega))
              have HV2 : Hid (SliceOf strE 1 W8 v2 (ys.drop k)) := Lib.hid (by rw [hv2]; have h5 := HSL8.out.sliced k n2 (by omega) (by have := HN2.out; omega); rw [show ys.take n2 = ys from by rw [HN2.out]; exact List.take_length] at h5; exact h5)
              have hsz8 := HB8.out.size
              have c8 := HC8.out
              have hb8 : b < W8.heap.size := World.block_lt_of_cell? W8 _ c8
              have HLT6 : Hid ((ys.take k).length = k) := Lib.hid (by have := HN2.out; rw [List.length_take]; omega)
              have HLD6 : Hid ((ys.drop k).length = n2 - k) := Lib.hid (by have := HN2.out; rw [List.length_drop]; omega)
              clear hv1 hv2
              go_wp2_with fail
              go_region_law (first
                | (refine step_append_src rfl (.tmp 45) (.tmp 48) 131 rfl W8.heap.size 9 i0 (.string ⟨#[]⟩) 1 16 Try.underlying131 hi hz0 hz1 hz2 rfl (by decide) _ 0 [] rfl (by first | exact row_empty _ _ _ _ _ (by simp) (by omega) | exact (row_empty _ _ _ _ _ (by simp) (by omega)).alloc _) strE (ys.take k) _ rfl (HV1.out.below (by (repeat (first | exact Below.refl _ _ | refine Below.alloc ?_ (by first | omega | (simp; done) | (simp; omega)) _ | refine Below.drew ?_ | refine below_draws ?_ _)))) (strE_oneL _) (by rw [List.length_take]; unfold maxLen; omega) (by rw [List.length_take]; omega) (by simp <;> omega) ?_; intro v5 w5 hown5 hgr5; have hbx : Below W8.heap.size W8 w5 := Below.grown (by (repeat (first | exact Below.refl _ _ | refine Below.alloc ?_ (by first | omega | (simp; done) | (simp; omega)) _ | refine Below.drew ?_ | refine below_draws ?_ _))) hgr5 (by simp <;> omega) (fun k hk => by cases hk; simp <;> omega); have c5 := cell_below hbx HC8.out; have ho5 := Lib.hid (show w5.ownsRow W8.heap.size 9 1 v5 k ((ys.take k).flatMap strE) by have h7 := hown5; rw [Nat.zero_add, HLT6.out] at h7; exact h7); clear hown5)
                | (refine step_append_lies _ rfl (.tmp 49) (.tmp 54) 131 rfl W8.heap.size 9 i0 (.string ⟨#[]⟩) 1 16 Try.underlying131 hi hz0 hz1 hz2 rfl (by decide) _ k _ rfl (by first | exact ho5.out | exact ho5.out.alloc _) _ 1 1 [.string s] rfl rfl (by first | exact World.news_of_block (alloc_at _ _) | exact fun j u hj => hgr5.cell (World.news_of_block (alloc_at' _ _ _ (by simp)) j u hj) (by rw [Addr.add_lit]; intro h8; injection h8 with h9; first | omega | (simp at h9; done) | (simp at h9; omega)) | exact fun j u hj => hgr5.cell (cell_below (Below.alloc (Below.refl _ _) (Nat.le_refl _) _) (World.news_of_block (alloc_at' _ _ _ (by simp)) j u hj)) (by rw [Addr.add_lit]; intro h8; injection h8 with h9; first | omega | (simp at h9; done) | (simp at h9; omega))) (by simp [Value.oneCell']) (by omega) (by unfold maxLen; omega) (by omega) (by have := hbx.size; simp <;> omega) _ rfl ?_; intro g6 cp6 w6 hown6 hgr6 hg6 hg6s))
              all_goals (
                have hob := Lib.hid (own_block ho5.out)
                have hsz5 := hbx.size
                have hbx6 := Lib.hid (Below.grown (B := W8.heap.size) (a := W8) (by first | exact hbx | exact hbx.drew | exact (hbx.alloc (by first | omega | (simp; omega)) _) | exact (hbx.alloc (by first | omega | (simp; omega)) _).drew | exact hbx.drew.drew | exact (hbx.drew.alloc (by first | omega | (simp; omega)) _)) hgr6 (by first | omega | (simp; omega)) (fun k hk => hob.out k hk))
                have HO6 := Lib.hid hown6
                have hsz6 := hbx6.out.size
                clear hown6 hgr6 hgr5 hu1 hsz5 c5 hbx
                go_wp2_with (at_builtin; go_loud (refine wpList_append_src rfl (.tmp 56) (.tmp 59) 131 rfl W8.heap.size 9 i0 (.string ⟨#[]⟩) 1 16 Try.underlying131 hi hz0 hz1 hz2 rfl (by decide) _ _ _ rfl HO6.out strE (ys.drop k) _ rfl (HV2.out.below hbx6.out) (strE_oneL _) (by rw [HLD6.out]; unfold maxLen; omega) (by rw [HLD6.out]; omega) (by omega) ?_); intro v7 w7 hown7 hgr7)
                have HO7 : Hid (w7.ownsRow w.heap.size 9 1 v7 (ys.take k ++ [s] ++ ys.drop k).length ((ys.take k ++ [s] ++ ys.drop k).flatMap strE)) := Lib.hid (own_lowK (by rw [List.flatMap_append, List.flatMap_append, List.length_append, List.length_append, HLT6.out, List.length_singleton]; exact hown7) hsz8)
                have HB7 := Lib.hid ((HB8.out.trans (hbx6.out.mono hsz8)).grown hgr7 (by omega) (fun j hj => by have := (HO6.out.lt j hj).1; omega))
                have HL7 : Hid ((ys.take k ++ [s] ++ ys.drop k).length = n2 + 1) := Lib.hid (by rw [List.length_append, List.length_append, HLT6.out, HLD6.out, List.length_singleton]; omega)
                clear hown7 hgr7
                go_wp2
                go_roundg (gO - 1)
                case rel => exact ⟨i + 1, ys.take k ++ [s] ++ ys.drop k, by go_num, by omega, by omega, by rw [HL7.out]; omega, HO7, HIN, HB7⟩
                case measure => omega)
        · obtain rfl : k = n2 := by omega
          have hklI : decide ((k : Int) < (k : Int)) = false := decide_eq_false (by omega)
          have HIN := Lib.hid (HSET.out.ins (s := s) (k := k) (by have := HN2.out; omega) HLT.out (fun h => by have := HN2.out; omega))
          rw [← HT.out] at HIN
          have HCL := Lib.hid hrl
          go_wp2_with fail
          go_quiet (fail)
          obtain ⟨z, hz⟩ : ∃ z, z = nq := ⟨_, rfl⟩
          rw [← hz]; clear hz
          have c2 : (wr.drewN z).cell? ⟨b, off + i, none⟩ = some (.string s) := HCL.out
          go_wp2_with fail
          go_quiet (fail)
          obtain ⟨z2, hz2⟩ : ∃ z, z = nq := ⟨_, rfl⟩
          rw [← hz2]; clear hz2
          obtain ⟨W8, hW8⟩ : ∃ W8, W8 = (wr.drewN z).drewN z2 := ⟨_, rfl⟩
          have HB8 : Hid (Below w.heap.size w W8) := Lib.hid (by rw [hW8]; exact below_draws (below_draws HB2.out z) z2)
          have HO8 : Hid (W8.ownsRow w.heap.size 9 1 (.slice ao2 k cap2) k (ys.flatMap strE)) := Lib.hid (by rw [hW8]; exact row_below HO2.out (below_draws (below_draws (Below.refl wr.heap.size wr) z) z2))
          have HSL8 := Lib.hid (SliceOf.own (enc := strE) (l := ys) (by rw [← HN2.out]; exact HO8.out) (fun _ _ => rfl))
          have HC8 : Hid (W8.cell? ⟨b, off + i, none⟩ = some (.string s)) := Lib.hid (by rw [hW8]; exact c2)
          rw [← hW8]
          clear hW8 c2
          have hu1 := run_upto (P := Try.prog) (T := 131) (sz := 1) Try.underlying131 Try.sizeOf9 ao2 k cap2 k (by omega)
          have hu2 := run_from (P := Try.prog) (T := 131) (sz := 1) Try.underlying131 Try.sizeOf9 ao2 k cap2 k (by omega)
          obtain ⟨v1, hv1⟩ : ∃ v1, v1 = sliced ao2 0 k cap2 1 := ⟨_, rfl⟩
          obtain ⟨v2, hv2⟩ : ∃ v2, v2 = sliced ao2 k k cap2 1 := ⟨_, rfl⟩
          rw [← hv1] at hu1
          rw [← hv2] at hu2
          have HV1 : Hid (SliceOf strE 1 W8 v1 (ys.take k)) := Lib.hid (by rw [hv1]; simpa using HSL8.out.sliced 0 k (by omega) (by have := HN2.out; omega))
          have HV2 : Hid (SliceOf strE 1 W8 v2 (ys.drop k)) := Lib.hid (by rw [hv2]; have h5 := HSL8.out.sliced k k (by omega) (by have := HN2.out; omega); rw [show ys.take k = ys from by rw [HN2.out]; exact List.take_length] at h5; exact h5)
          have hsz8 := HB8.out.size
          have c8 := HC8.out
          have hb8 : b < W8.heap.size := World.block_lt_of_cell? W8 _ c8
          have HLT6 : Hid ((ys.take k).length = k) := Lib.hid (by have := HN2.out; rw [List.length_take]; omega)
          have HLD6 : Hid ((ys.drop k).length = k - k) := Lib.hid (by have := HN2.out; rw [List.length_drop]; omega)
          clear hv1 hv2
          go_wp2_with fail
          go_region_law (first
            | (refine step_append_src rfl (.tmp 45) (.tmp 48) 131 rfl W8.heap.size 9 i0 (.string ⟨#[]⟩) 1 16 Try.underlying131 hi hz0 hz1 hz2 rfl (by decide) _ 0 [] rfl (by first | exact row_empty _ _ _ _ _ (by simp) (by omega) | exact (row_empty _ _ _ _ _ (by simp) (by omega)).alloc _) strE (ys.take k) _ rfl (HV1.out.below (by (repeat (first | exact Below.refl _ _ | refine Below.alloc ?_ (by first | omega | (simp; done) | (simp; omega)) _ | refine Below.drew ?_ | refine below_draws ?_ _)))) (strE_oneL _) (by rw [List.length_take]; unfold maxLen; omega) (by rw [List.length_take]; omega) (by simp <;> omega) ?_; intro v5 w5 hown5 hgr5; have hbx : Below W8.heap.size W8 w5 := Below.grown (by (repeat (first | exact Below.refl _ _ | refine Below.alloc ?_ (by first | omega | (simp; done) | (simp; omega)) _ | refine Below.drew ?_ | refine below_draws ?_ _))) hgr5 (by simp <;> omega) (fun k hk => by cases hk; simp <;> omega); have c5 := cell_below hbx HC8.out; have ho5 := Lib.hid (show w5.ownsRow W8.heap.size 9 1 v5 k ((ys.take k).flatMap strE) by have h7 := hown5; rw [Nat.zero_add, HLT6.out] at h7; exact h7); clear hown5)
            | (refine step_append_lies _ rfl (.tmp 49) (.tmp 54) 131 rfl W8.heap.size 9 i0 (.string ⟨#[]⟩) 1 16 Try.underlying131 hi hz0 hz1 hz2 rfl (by decide) _ k _ rfl (by first | exact ho5.out | exact ho5.out.alloc _) _ 1 1 [.string s] rfl rfl (by first | exact World.news_of_block (alloc_at _ _) | exact fun j u hj => hgr5.cell (World.news_of_block (alloc_at' _ _ _ (by simp)) j u hj) (by rw [Addr.add_lit]; intro h8; injection h8 with h9; first | omega | (simp at h9; done) | (simp at h9; omega)) | exact fun j u hj => hgr5.cell (cell_below (Below.alloc (Below.refl _ _) (Nat.le_refl _) _) (World.news_of_block (alloc_at' _ _ _ (by simp)) j u hj)) (by rw [Addr.add_lit]; intro h8; injection h8 with h9; first | omega | (simp at h9; done) | (simp at h9; omega))) (by simp [Value.oneCell']) (by omega) (by unfold maxLen; omega) (by omega) (by have := hbx.size; simp <;> omega) _ rfl ?_; intro g6 cp6 w6 hown6 hgr6 hg6 hg6s))
          all_goals (
            have hob := Lib.hid (own_block ho5.out)
            have hsz5 := hbx.size
            have hbx6 := Lib.hid (Below.grown (B := W8.heap.size) (a := W8) (by first | exact hbx | exact hbx.drew | exact (hbx.alloc (by first | omega | (simp; omega)) _) | exact (hbx.alloc (by first | omega | (simp; omega)) _).drew | exact hbx.drew.drew | exact (hbx.drew.alloc (by first | omega | (simp; omega)) _)) hgr6 (by first | omega | (simp; omega)) (fun k hk => hob.out k hk))
            have HO6 := Lib.hid hown6
            have hsz6 := hbx6.out.size
            clear hown6 hgr6 hgr5 hu1 hsz5 c5 hbx
            go_wp2_with (at_builtin; go_loud (refine wpList_append_src rfl (.tmp 56) (.tmp 59) 131 rfl W8.heap.size 9 i0 (.string ⟨#[]⟩) 1 16 Try.underlying131 hi hz0 hz1 hz2 rfl (by decide) _ _ _ rfl HO6.out strE (ys.drop k) _ rfl (HV2.out.below hbx6.out) (strE_oneL _) (by rw [HLD6.out]; unfold maxLen; omega) (by rw [HLD6.out]; omega) (by omega) ?_); intro v7 w7 hown7 hgr7)
            have HO7 : Hid (w7.ownsRow w.heap.size 9 1 v7 (ys.take k ++ [s] ++ ys.drop k).length ((ys.take k ++ [s] ++ ys.drop k).flatMap strE)) := Lib.hid (own_lowK (by rw [List.flatMap_append, List.flatMap_append, List.length_append, List.length_append, HLT6.out, List.length_singleton]; exact hown7) hsz8)
            have HB7 := Lib.hid ((HB8.out.trans (hbx6.out.mono hsz8)).grown hgr7 (by omega) (fun j hj => by have := (HO6.out.lt j hj).1; omega))
            have HL7 : Hid ((ys.take k ++ [s] ++ ys.drop k).length = k + 1) := Lib.hid (by rw [List.length_append, List.length_append, HLT6.out, HLD6.out, List.length_singleton]; omega)
            clear hown7 hgr7
            go_wp2
            go_roundg (gO - 1)
            case rel => exact ⟨i + 1, ys.take k ++ [s] ++ ys.drop k, by go_num, by omega, by omega, by rw [HL7.out]; omega, HO7, HIN, HB7⟩
            case measure => omega)
    · obtain rfl : i = l.length := by omega
      have hdl : decide ((l.length : Int) < (l.length : Int)) = false := decide_eq_false (by omega)
      rw [List.take_length] at HSET
      go_wp2
      go_ret
      exact ⟨_, ys, rfl, ⟨HSET.out, by omega⟩, HO.out, HB.out⟩
end Go.Proofs.Ytniojcnkjehflaa

/- The document's own ops: Set, Norm, Over. Conditions: at most 1000 pairs and operations. -/
namespace Go.Proofs.Ytniojcnkjehflaa
open Go.RowKit Go.PlainAid
set_option linter.unusedVariables false

open Go.Sort Go.Shelf Go.Lib

abbrev ValT := ByteArray × ByteArray
def valE (v : ValT) : List Value := [.string v.1, .string v.2]
theorem valE_len (v : ValT) : (valE v).length = 2 := rfl
abbrev kB (s : ByteArray) : List UInt8 := s.data.toList
def lastF (g : ByteArray → Option OpT) (o : OpT) : ByteArray → Option OpT := fun b => if b = o.1 then some o else g b
/-- The last operation of each key. -/
def lastG (l : List OpT) : ByteArray → Option OpT := l.foldl lastF (fun _ => none)
theorem lastG_snoc (l : List OpT) (o : OpT) : lastG (l ++ [o]) = lastF (lastG l) o := by unfold lastG; rw [List.foldl_append]; rfl
theorem snoc_ind {α : Type} {C : List α → Prop} (h0 : C []) (h1 : ∀ l a, C l → C (l ++ [a])) (l : List α) : C l := by
  have : ∀ r : List α, C r.reverse := fun r => by
    induction r with
    | nil => exact h0
    | cons a r ih => rw [List.reverse_cons]; exact h1 _ _ ih
  rw [← List.reverse_reverse l]; exact this _
theorem lastG_key (l : List OpT) : ∀ k v, lastG l k = some v → v.1 = k := by
  refine snoc_ind (C := fun l => ∀ k v, lastG l k = some v → v.1 = k) (fun k v h => by cases h) (fun l o ih k v h => ?_) l
  rw [lastG_snoc] at h
  unfold lastF at h
  by_cases e : k = o.1
  · rw [if_pos e] at h; cases h; exact e.symm
  · rw [if_neg e] at h; exact ih k v h
def pairF (g : ByteArray → Option ValT) (o : ValT) : ByteArray → Option ValT := fun b => if b = o.1 then some o else g b
def pairG (l : List ValT) : ByteArray → Option ValT := l.foldl pairF (fun _ => none)
theorem pairG_snoc (l : List ValT) (o : ValT) : pairG (l ++ [o]) = pairF (pairG l) o := by unfold pairG; rw [List.foldl_append]; rfl
def ovF (g : ByteArray → Option ValT) (o : OpT) : ByteArray → Option ValT := fun b => if b = o.1 then (if o.2.2 = true then none else some (o.1, o.2.1)) else g b
/-- What the pairs are behind the operations. -/
def ovG (l : List ValT) (m : List OpT) : ByteArray → Option ValT := m.foldl ovF (pairG l)
theorem ovG_snoc (l : List ValT) (m : List OpT) (o : OpT) : ovG l (m ++ [o]) = ovF (ovG l m) o := by unfold ovG; rw [List.foldl_append]; rfl
/-- ys rises by its keys and holds just what g has. -/
def SetG {V : Type} (key : V → ByteArray) (g : ByteArray → Option V) (ys : List V) : Prop := ys.Pairwise (fun a b => kB (key a) < kB (key b)) ∧ ∀ y, y ∈ ys ↔ ∃ k, g k = some y
theorem SetG.uniq {V : Type} {key : V → ByteArray} {g : ByteArray → Option V} : ∀ {a b : List V}, SetG key g a → SetG key g b → a = b := by
  intro a b ha hb
  have hab : ∀ y, y ∈ a ↔ y ∈ b := fun y => (ha.2 y).trans (hb.2 y).symm
  have key2 : ∀ (a b : List V), a.Pairwise (fun x y => kB (key x) < kB (key y)) → b.Pairwise (fun x y => kB (key x) < kB (key y)) → (∀ y, y ∈ a ↔ y ∈ b) → a = b := by
    intro a
    induction a with
    | nil =>
      intro b _ _ h
      cases b with
      | nil => rfl
      | cons y b => exact absurd ((h y).2 (by simp)) (by simp)
    | cons x a ih =>
      intro b h1 h2 h
      cases b with
      | nil => exact absurd ((h x).1 (by simp)) (by simp)
      | cons y b =>
        rw [List.pairwise_cons] at h1 h2
        have hxy : x = y := by
          rcases List.mem_cons.1 ((h x).1 (by simp)) with e | hx
          · exact e
          · rcases List.mem_cons.1 ((h y).2 (by simp)) with e | hy
            · exact e.symm
            · exact absurd (List.lt_trans (h1.1 y hy) (h2.1 x hx)) (List.lt_irrefl _)
        subst hxy
        rw [ih b h1.2 h2.2 (fun z => ?_)]
        have hz := h z
        simp only [List.mem_cons] at hz
        constructor
        · intro hm
          rcases hz.1 (.inr hm) with e | k
          · subst e; exact absurd (h1.1 z hm) (List.lt_irrefl _)
          · exact k
        · intro hm
          rcases hz.2 (.inr hm) with e | k
          · subst e; exact absurd (h2.1 z hm) (List.lt_irrefl _)
          · exact k
  exact key2 a b ha.1 hb.1 hab
theorem strE_lenP (y : ByteArray) : (strE y).length = 1 := rfl
theorem rkeysSet_any (v : Value) (l : List ByteArray) (w : World) (hs : SliceOf strE 1 w v l) (hl : l.length ≤ 1000) :
    Calls Try.prog 75 #[v] w fun e w' => ∃ (ys : List ByteArray) (u : Value), e = .returned (u) ∧ w'.ownsRow w.heap.size 9 1 u ys.length (ys.flatMap strE) ∧ SetOf ys l ∧ ys.length ≤ l.length ∧ Below w.heap.size w w' :=
  (rset_any v l w hs hl).mono (by rintro e x ⟨u, ys, rfl, ⟨h1, h2⟩, h3, h4⟩; exact ⟨ys, u, rfl, h3, h1, h2, h4⟩)
def zOp : OpT := (⟨#[]⟩, ⟨#[]⟩, false)
/-- The last operation with a key. -/
def lastD (l : List OpT) (k : ByteArray) : OpT := (lastG l k).getD zOp
theorem toList_inj {a b : ByteArray} (h : a.toList = b.toList) : a = b := by
  rw [Go.ByteArray.toList_eq, Go.ByteArray.toList_eq] at h
  exact kb_inj h
theorem lastD_yes {l : List OpT} {i : Nat} {z : OpT} {k : ByteArray} (h : l[i]? = some z) (hk : (z.1.toList == k.toList) = true) : lastD (l.take (i + 1)) k = z := by
  have e : z.1 = k := toList_inj (by simpa using hk)
  unfold lastD; rw [takeO_at h, lastG_snoc]; unfold lastF; rw [if_pos e.symm]; rfl
theorem lastD_no {l : List OpT} {i : Nat} {z : OpT} {k : ByteArray} (h : l[i]? = some z) (hk : (z.1.toList == k.toList) = false) : lastD (l.take (i + 1)) k = lastD (l.take i) k := by
  have e : ¬ k = z.1 := fun e => by subst e; simp at hk
  unfold lastD; rw [takeO_at h, lastG_snoc]; unfold lastF; rw [if_neg e]
theorem blk_zOp {w : World} {N : Nat} {T : TypeId} (l : List OpT) (k : ByteArray) (h : Blk w N T #[.string ⟨#[]⟩, .string ⟨#[]⟩, .bool false]) : Blk w N T #[.string (lastD (l.take 0) k).1, .string (lastD (l.take 0) k).2.1, .bool (lastD (l.take 0) k).2.2] := h
theorem lastG_mem (l : List OpT) : ∀ k, (∃ v, lastG l k = some v) ↔ k ∈ l.map (·.1) := by
  refine snoc_ind (C := fun l => ∀ k, (∃ v, lastG l k = some v) ↔ k ∈ l.map (·.1)) (fun k => by simp [lastG]) (fun l o ih k => ?_) l
  rw [lastG_snoc, List.map_append, List.mem_append]
  unfold lastF
  by_cases e : k = o.1
  · subst e; simp
  · rw [if_neg e, ih k]; simp [e]
theorem SetOf.mem {ys m : List ByteArray} (h : SetOf ys m) (x : ByteArray) : x ∈ ys ↔ x ∈ m := by
  have := h.2 (kb x)
  constructor
  · intro hx
    obtain ⟨y, hy, e⟩ := List.mem_map.1 (this.1 (List.mem_map_of_mem hx))
    rwa [← kb_inj e]
  · intro hx
    obtain ⟨y, hy, e⟩ := List.mem_map.1 (this.2 (List.mem_map_of_mem hx))
    rwa [← kb_inj e]
theorem norm_set {l : List OpT} {ys : List ByteArray} (h : SetOf ys (l.map (·.1))) : SetG (fun y : OpT => y.1) (lastG l) (ys.map (lastD l)) := by
  have hk : ∀ y ∈ ys, lastG l y = some (lastD l y) ∧ (lastD l y).1 = y := fun y hy => by
    obtain ⟨v, hv⟩ := (lastG_mem l y).2 ((h.mem y).1 hy)
    unfold lastD; rw [hv]; exact ⟨rfl, lastG_key l y v hv⟩
  refine ⟨?_, fun y => ?_⟩
  · have hp : ys.Pairwise fun a b => kB a < kB b := List.pairwise_map.1 h.1
    rw [List.pairwise_map]
    exact hp.imp_of_mem (fun {a b} ha hb hab => by show kB (lastD l a).1 < kB (lastD l b).1; rw [(hk a ha).2, (hk b hb).2]; exact hab)
  · rw [List.mem_map]
    constructor
    · rintro ⟨k, hk1, rfl⟩; exact ⟨k, (hk k hk1).1⟩
    · rintro ⟨k, hv⟩
      have hm : k ∈ ys := (h.mem k).2 ((lastG_mem l k).1 ⟨y, hv⟩)
      exact ⟨k, hm, by unfold lastD; rw [hv]; rfl⟩
theorem map_snoc {α β : Type} {f : α → β} {l : List α} {i : Nat} {y : α} (h : l[i]? = some y) : (l.take i).map f ++ [f y] = (l.take (i + 1)).map f := by rw [takeO_at h]; simp

set_option maxRecDepth 100000 in
theorem ropsNorm_any (v : Value) (l : List OpT) (w : World) (hs : SliceOf opE 3 w v l) (hlen : l.length ≤ 1000) :
    Calls Try.prog 65 #[v] w fun e w' => ∃ (ys : List OpT) (u : Value), e = .returned (u) ∧ w'.ownsRow w.heap.size 74 3 u ys.length (ys.flatMap opE) ∧ SetG (fun y : OpT => y.1) (lastG l) ys ∧ ys.length ≤ l.length ∧ Below w.heap.size w w' := by
 have hB0 := Below.refl w.heap.size w
 have hl_hs := sl_len hs
 refine co_enter (n := 57) Try.func65 rfl rfl rfl [(0, v)] rfl (fun a h0 => ?_)
 refine co_seq ?_
 refine co_reg ?_
 refine pk0 (v := .slice none 0 0) h0 rfl fun a1 h1 => ?_; clear h0
 refine pl_nil ?_
 refine co_then ?_
 refine co_seq ?_
 refine co_reg ?_
 refine pk0 (v := .slice none 0 0) h1 rfl fun a2 h2 => ?_; clear h1
 refine pl_nil ?_
 refine co_then ?_
 refine co_seq ?_
 refine co_seq ?_
 refine co_reg ?_
 refine pk0 (v := .int .i64 0) h2 rfl fun a3 h3 => ?_; clear h2
 refine pl_nil ?_
 refine co_then ?_
 refine wp_block ?_
 have h4 : Slots 57 [(0, v), (3, .slice none 0 0), (4, .int .i64 0)] _ := h3.sub ⟨rfl, rfl, rfl, trivial⟩; clear h3
 refine co_loop (fun mm a x => ∃ (i : Nat) (u : Value), Slots 57 [(0, v), (3, u), (4, .int .i64 ((i : Nat) : Int))] a ∧ mm = l.length - i ∧ (i ≤ l.length) ∧ x.ownsRow w.heap.size 9 1 u ((l.take i).map (·.1)).length (((l.take i).map (·.1)).flatMap strE) ∧ Below w.heap.size w x) (l.length - 0) ?_ ?_
 · exact ⟨0, (.slice none 0 0), h4.sub ⟨rfl, rfl, (slot_eq rfl (congrArg (Value.int .i64) (by first | rfl | omega))), trivial⟩, rfl, by omega, (row_nilL _ _ _ _ _), hB0⟩
 · rintro k5 a6 w7 ⟨i, u, h6, rfl, hi8, hf9, hB10⟩
   have hz11 := hB10.size
   have hst : (l.take i).length ≤ i := List.length_take_le _ _; have hst2 : ((l.take i).map (·.1)).length ≤ i := by rw [List.length_map]; exact hst
   refine co_seq ?_
   refine co_seq ?_
   refine co_reg ?_
   refine pk0 (v := .int .i64 ((i : Nat) : Int)) h6 rfl fun a12 h12 => ?_; clear h6
   refine pk0 (v := v) h12 rfl fun a13 h13 => ?_; clear h12
   refine pk (v := .int .i64 ((l.length : Nat) : Int)) h13 rfl (rn_len rfl rfl Try.underlying33 (hs.below hB10)) fun a14 h14 => ?_; clear h13
   refine pk0 (v := .bool (decide (((i : Nat) : Int) < ((l.length : Nat) : Int)))) h14 rfl fun a15 h15 => ?_; clear h14
   refine pl_nil ?_
   refine co_then ?_
   cases hc16 : (decide (((i : Nat) : Int) < ((l.length : Nat) : Int)))
   ·
    rw [hc16] at h15
    have hp17 : ¬ (((i : Nat) : Int) < ((l.length : Nat) : Int)) := of_decide_eq_false hc16
    clear hc16
    refine co_false h15 rfl ?_
    refine wp_exit ?_
    refine co_thenX ?_
    refine co_thenX ?_
    refine co_blockX ?_
    refine co_then ?_
    refine co_seq ?_
    refine co_reg ?_
    refine pk0 (v := u) h15 rfl fun a18 h18 => ?_; clear h15
    refine pw h18 rfl (op_call (args := #[u]) (R := fun res xw => ∃ ys : List ByteArray, ∃ u : Value, res = u ∧ xw.ownsRow w7.heap.size 9 1 u ys.length (ys.flatMap strE) ∧ SetOf ys ((l.take i).map (·.1)) ∧ ys.length ≤ ((l.take i).map (·.1)).length ∧ Below w7.heap.size w7 xw) rfl rfl rfl (by kernel_rfl) (by kernel_rfl) (Try.call75 _ _) (rkeysSet_any u ((l.take i).map (·.1)) w7 (row_sl hf9 strE_lenP) (by rw [List.length_map, List.length_take]; omega)) (by rintro e x ⟨ys, u, rfl, hq23, hq24, hq25, hb26⟩; exact ⟨_, rfl, ⟨ys, u, rfl, hq23, hq24, hq25, hb26⟩⟩)) ?_; clear h18
    rintro u22 w20 a19 ⟨ys21, _, rfl, hq23, hq24, hq25, hb26⟩ h19
    have hz27 := hb26.size
    have hl28 := sl_len (row_sl hq23 strE_lenP)
    refine pk0 (v := u22) h19 rfl fun a29 h29 => ?_; clear h19
    refine pl_nil ?_
    refine co_then ?_
    refine co_seq ?_
    refine co_reg ?_
    refine pk0 (v := .slice none 0 0) h29 rfl fun a30 h30 => ?_; clear h29
    refine pl_nil ?_
    refine co_then ?_
    refine co_seq ?_
    refine co_seq ?_
    refine co_reg ?_
    refine pk0 (v := .int .i64 0) h30 rfl fun a31 h31 => ?_; clear h30
    refine pl_nil ?_
    refine co_then ?_
    refine wp_block ?_
    have hall : l.take i = l := List.take_of_length_le (by omega)
    have hset : SetOf ys21 (l.map (·.1)) := by have := hq24; rwa [hall] at this
    have hysl : ys21.length ≤ l.length := by have h := (by assumption : ys21.length ≤ ((l.take i).map (·.1)).length); rw [List.length_map, hall] at h; exact h
    have h32 : Slots 57 [(0, v), (3, u22), (5, .slice none 0 0), (6, .int .i64 0)] _ := h31.sub ⟨rfl, rfl, rfl, rfl, trivial⟩; clear h31
    refine co_loop (fun mm a x => ∃ (j : Nat) (u2 : Value), Slots 57 [(0, v), (3, u22), (5, u2), (6, .int .i64 ((j : Nat) : Int))] a ∧ mm = ys21.length - j ∧ (j ≤ ys21.length) ∧ x.ownsRow w7.heap.size 9 1 u22 ys21.length (ys21.flatMap strE) ∧ x.ownsRow w.heap.size 74 3 u2 ((ys21.take j).map (lastD l)).length (((ys21.take j).map (lastD l)).flatMap opE) ∧ Below w.heap.size w x) (ys21.length - 0) ?_ ?_
    have hB33 := hb_call hB10 hb26
    · exact ⟨0, (.slice none 0 0), h32.sub ⟨rfl, rfl, rfl, (slot_eq rfl (congrArg (Value.int .i64) (by first | rfl | omega))), trivial⟩, rfl, by omega, hq23, (row_nilL _ _ _ _ _), hB33⟩
    · rintro k34 a35 w36 ⟨j, u2, h35, rfl, hi37, hf38, hf39, hB40⟩
      have hz41 := hB40.size
      have hst3 : ((ys21.take j).map (lastD l)).length ≤ j := by rw [List.length_map]; exact List.length_take_le _ _
      refine co_seq ?_
      refine co_seq ?_
      refine co_reg ?_
      refine pk0 (v := .int .i64 ((j : Nat) : Int)) h35 rfl fun a42 h42 => ?_; clear h35
      refine pk0 (v := u22) h42 rfl fun a43 h43 => ?_; clear h42
      refine pk (v := .int .i64 ((ys21.length : Nat) : Int)) h43 rfl (rn_lenOwn rfl rfl Try.underlying131 hf38) fun a44 h44 => ?_; clear h43
      refine pk0 (v := .bool (decide (((j : Nat) : Int) < ((ys21.length : Nat) : Int)))) h44 rfl fun a45 h45 => ?_; clear h44
      refine pl_nil ?_
      refine co_then ?_
      cases hc46 : (decide (((j : Nat) : Int) < ((ys21.length : Nat) : Int)))
      ·
       rw [hc46] at h45
       have hp47 : ¬ (((j : Nat) : Int) < ((ys21.length : Nat) : Int)) := of_decide_eq_false hc46
       clear hc46
       refine co_false h45 rfl ?_
       refine wp_exit ?_
       refine co_thenX ?_
       refine co_thenX ?_
       refine co_blockX ?_
       refine co_then ?_
       refine co_seq ?_
       refine co_reg ?_
       refine pk0 (v := u2) h45 rfl fun a48 h48 => ?_; clear h45
       refine pk0 (v := u2) h48 rfl fun a49 h49 => ?_; clear h48
       refine pl_nil ?_
       refine co_then ?_
       refine wp_ret ?_
       refine co_ret1 h49 rfl rfl ?_
       have hallj : ys21.take j = ys21 := List.take_of_length_le (by omega)
       exact ⟨_, _, rfl, (row_eq (row_lows hf39 (by omega)) (by rw [hallj])), norm_set hset, by rw [List.length_map]; omega, hB40⟩
      ·
       rw [hc46] at h45
       have hp50 : ((j : Nat) : Int) < ((ys21.length : Nat) : Int) := of_decide_eq_true hc46
       clear hc46
       refine co_true h45 rfl ?_
       refine wp_skip ?_
       refine co_then ?_
       refine co_seq ?_
       refine wp_block ?_
       refine co_seq ?_
       refine co_reg ?_
       refine pk0 (v := .agg #[.string (⟨#[]⟩), .string (⟨#[]⟩), .bool false]) h45 rfl fun a51 h51 => ?_; clear h45
       refine pw h51 rfl (op_new (v := fun N => pt N 0) (T := 74) (cs := #[.string (⟨#[]⟩), .string (⟨#[]⟩), .bool false]) (by kernel_rfl) (by kernel_rfl) (by kernel_rfl)) ?_; clear h51
       rintro _ w53 a52 ⟨N54, rfl, hN57, hz58, hk56, hg55⟩ h52
       have ha59 := row_fresh hf38 hN57
       have ha60 := row_fresh hf39 hN57
       have hz61 := hg55.size
       try dsimp only at h52
       refine pwD h52 rfl (op_storeN rfl rfl rfl (by kernel_rfl) (by kernel_rfl) hk56 rfl) ?_; clear h52
       rintro _ w63 a62 ⟨hk64, hz65, hg66⟩ h62
       have hk64' : Blk w63 N54 74 #[.string (⟨#[]⟩), .string (⟨#[]⟩), .bool false] := hk64; clear hk64
       have hz67 := hg66.size
       refine pl_nil ?_
       refine co_then ?_
       refine co_seq ?_
       refine co_seq ?_
       refine co_reg ?_
       refine pk0 (v := .int .i64 0) h62 rfl fun a68 h68 => ?_; clear h62
       refine pl_nil ?_
       refine co_then ?_
       refine wp_block ?_
       obtain ⟨y69, hy69⟩ : ∃ z, ys21[j]? = some z := ⟨_, List.getElem?_eq_getElem (by omega)⟩
       have h70 : Slots 57 [(0, v), (3, u22), (5, u2), (6, .int .i64 ((j : Nat) : Int)), (7, pt N54 0), (8, .int .i64 0)] _ := h68.sub ⟨rfl, rfl, rfl, rfl, rfl, rfl, trivial⟩; clear h68
       refine co_loop (fun mm a x => ∃ (k : Nat), Slots 57 [(0, v), (3, u22), (5, u2), (6, .int .i64 ((j : Nat) : Int)), (7, pt N54 0), (8, .int .i64 ((k : Nat) : Int))] a ∧ mm = l.length - k ∧ (k ≤ l.length) ∧ Blk x N54 74 #[.string ((lastD (l.take k) y69).1), .string ((lastD (l.take k) y69).2.1), .bool ((lastD (l.take k) y69).2.2)] ∧ x.ownsRow w7.heap.size 9 1 u22 ys21.length (ys21.flatMap strE) ∧ x.ownsRow w.heap.size 74 3 u2 (((ys21.take j).map (lastD l)).length) (((ys21.take j).map (lastD l)).flatMap opE) ∧ Below w.heap.size w x) (l.length - 0) ?_ ?_
       have hr71 := row_kept_new hf38 hg55
       have hr72 := row_kept_at hr71 hg66 (ha59)
       have hr73 := row_kept_new hf39 hg55
       have hr74 := row_kept_at hr73 hg66 (ha60)
       have hB75 := hb_new hB40 hg55
       have hB76 := hb_at hB75 hg66 (by omega)
       · exact ⟨0, h70.sub ⟨rfl, rfl, rfl, rfl, rfl, (slot_eq rfl (congrArg (Value.int .i64) (by first | rfl | omega))), trivial⟩, rfl, by omega, (blk_zOp l y69 hk64'), hr72, hr74, hB76⟩
       · rintro k77 a78 w79 ⟨k, h78, rfl, hi80, hf81, hf82, hf83, hB84⟩
         have hz85 := hB84.size
         have hl86 := hf81.lt
         refine co_seq ?_
         refine co_seq ?_
         refine co_reg ?_
         refine pk0 (v := .int .i64 ((k : Nat) : Int)) h78 rfl fun a87 h87 => ?_; clear h78
         refine pk0 (v := v) h87 rfl fun a88 h88 => ?_; clear h87
         refine pk (v := .int .i64 ((l.length : Nat) : Int)) h88 rfl (rn_len rfl rfl Try.underlying33 (hs.below hB84)) fun a89 h89 => ?_; clear h88
         refine pk0 (v := .bool (decide (((k : Nat) : Int) < ((l.length : Nat) : Int)))) h89 rfl fun a90 h90 => ?_; clear h89
         refine pl_nil ?_
         refine co_then ?_
         cases hc91 : (decide (((k : Nat) : Int) < ((l.length : Nat) : Int)))
         ·
          rw [hc91] at h90
          have hp92 : ¬ (((k : Nat) : Int) < ((l.length : Nat) : Int)) := of_decide_eq_false hc91
          clear hc91
          refine co_false h90 rfl ?_
          refine wp_exit ?_
          refine co_thenX ?_
          refine co_thenX ?_
          refine co_blockX ?_
          refine co_then ?_
          refine co_reg ?_
          refine pk0 (v := u2) h90 rfl fun a93 h93 => ?_; clear h90
          refine pk (v := .agg #[.string ((lastD (l.take k) y69).1), .string ((lastD (l.take k) y69).2.1), .bool ((lastD (l.take k) y69).2.2)]) h93 rfl (rn_loadN rfl rfl Try.underlying74 rfl (by kernel_rfl) hf81.all) fun a94 h94 => ?_; clear h93
          refine pw h94 rfl (op_new (v := fun N => .slice (some ⟨N, 0, none⟩) 1 1) (T := 74) (cs := #[.string ((lastD (l.take k) y69).1), .string ((lastD (l.take k) y69).2.1), .bool ((lastD (l.take k) y69).2.2)]) (by kernel_rfl) (by kernel_rfl) (by kernel_rfl)) ?_; clear h94
          rintro _ w96 a95 ⟨N97, rfl, hN100, hz101, hk99, hg98⟩ h95
          have ha102 := row_fresh hf82 hN100
          have ha103 := row_fresh hf83 hN100
          have hz104 := hg98.size
          try dsimp only at h95
          have hr110 := row_kept_new hf83 hg98
          refine pw h95 rfl (op_append rfl w.heap.size 74 (z := .agg #[.string (⟨#[]⟩), .string (⟨#[]⟩), .bool false]) (size := 3) (bytes := 40) Try.underlying33 (by kernel_rfl) rfl rfl rfl hr110 rfl hk99 rfl (by kernel_rfl) (by first | omega | (simp only [List.length_nil, List.length_append, List.length_cons, List.length_take, List.length_drop]; omega)) (by first | omega | (simp only [List.length_nil, List.length_append, List.length_cons, List.length_take, List.length_drop]; omega)) (by omega)) ?_; clear h95
          rintro v107 w106 a105 ⟨hr108, hg109⟩ h105
          have hr108' : w106.ownsRow w.heap.size 74 3 v107 (((ys21.take j).map (lastD l) ++ [((lastD (l.take k) y69).1, (lastD (l.take k) y69).2.1, ((lastD (l.take k) y69).2.2))]).length) (((ys21.take j).map (lastD l) ++ [((lastD (l.take k) y69).1, (lastD (l.take k) y69).2.1, ((lastD (l.take k) y69).2.2))]).flatMap opE) := row_push (y := ((lastD (l.take k) y69).1, (lastD (l.take k) y69).2.1, ((lastD (l.take k) y69).2.2))) hr108 rfl rfl; clear hr108
          have hz111 := hg109.size
          refine pk0 (v := v107) h105 rfl fun a112 h112 => ?_; clear h105
          refine pl_nil ?_
          refine co_blockN ?_
          refine co_then ?_
          refine co_reg ?_
          refine pk0 (v := .int .i64 ((j : Nat) : Int)) h112 rfl fun a113 h113 => ?_; clear h112
          refine pk (v := .int .i64 ((j + 1 : Nat) : Int)) h113 rfl (rn_arith' rfl rfl rfl rfl rfl rfl (IntWalk.i64_in _ (by omega)) (by omega)) fun a114 h114 => ?_; clear h113
          refine pk0 (v := .int .i64 ((j + 1 : Nat) : Int)) h114 rfl fun a115 h115 => ?_; clear h114
          refine pl_nil ?_
          refine co_then ?_
          refine ⟨(ys21.length - (j + 1)), by omega, ?_⟩
          have hr116 := row_kept_new hf82 hg98
          have hr117 := row_kept_row hr116 hr110 hg109 (by decide)
          have hB118 := hb_new hB84 hg98
          have hB119 := hb_row hB118 hr110 (by omega) hg109
          exact ⟨j + 1, v107, h115.sub ⟨rfl, rfl, rfl, rfl, trivial⟩, rfl, by omega, hr117, (row_eq hr108' (by first | rfl | (rw [List.take_of_length_le (show l.length ≤ k by omega)]; exact map_snoc hy69))), hB119⟩
         ·
          rw [hc91] at h90
          have hp120 : ((k : Nat) : Int) < ((l.length : Nat) : Int) := of_decide_eq_true hc91
          clear hc91
          refine co_true h90 rfl ?_
          refine wp_skip ?_
          refine co_then ?_
          refine co_seq ?_
          refine wp_block ?_
          refine co_seq ?_
          refine dr_eq (by kernel_rfl) (fun w121 hg122 => ?_)
          have hz123 := hg122.size
          refine dk0 0 (v := v) h90 rfl rfl rfl fun a124 h124 => ?_; clear h90
          refine dk0 1 (v := .int .i64 ((k : Nat) : Int)) h124 rfl rfl rfl fun a125 h125 => ?_; clear h124
          have hB127 := hb_new hB84 hg122
          obtain ⟨y126, hy126⟩ : ∃ z, l[k]? = some z := ⟨_, List.getElem?_eq_getElem (by first | omega | (simp; done) | (simp; omega))⟩
          refine dk 2 (v := pt (blkOf v) (offOf v + k * 3)) h125 rfl rfl rfl (fun x hx => by subst hx; exact (rn_index rfl rfl rfl Try.underlying33 Try.sizeOf74 (hs.below hB127) (by omega) (by first | omega | (simp; done) | (simp; omega)))) fun a128 h128 => ?_; clear h125
          refine dk0 3 (v := pt (blkOf v) (offOf v + k * 3)) h128 rfl rfl rfl fun a129 h129 => ?_; clear h128
          refine dk 4 (v := .string y126.1) h129 rfl rfl rfl (fun x hx => by subst hx; exact (rn_load1 rfl rfl Try.isAgg9 ((sl_at (hs.below hB127) hy126) 0 _ rfl))) fun a130 h130 => ?_; clear h129
          refine dk0 5 (v := u22) h130 rfl rfl rfl fun a131 h131 => ?_; clear h130
          refine dk0 6 (v := .int .i64 ((j : Nat) : Int)) h131 rfl rfl rfl fun a132 h132 => ?_; clear h131
          have hr133 := row_kept_new hf82 hg122
          refine dk 7 (v := pt (blkOf u22) (offOf u22 + j * 1)) h132 rfl rfl rfl (fun x hx => by subst hx; exact (rn_index rfl rfl rfl Try.underlying131 Try.sizeOf9 (row_sl hr133 strE_lenP) (by omega) (by first | omega | (simp; done) | (simp; omega)))) fun a134 h134 => ?_; clear h132
          refine dk 8 (v := .string y69) h134 rfl rfl rfl (fun x hx => by subst hx; exact (rn_load1 rfl rfl Try.isAgg9 ((sl_at (row_sl hr133 strE_lenP) hy69) 0 _ rfl))) fun a135 h135 => ?_; clear h134
          refine dk0 9 (v := .bool (y126.1.toList == y69.toList)) h135 rfl rfl rfl fun a136 h136 => ?_; clear h135
          refine dr_done (by kernel_rfl) ?_
          refine co_then ?_
          cases hc137 : (y126.1.toList == y69.toList)
          ·
           rw [hc137] at h136
           refine co_false h136 rfl ?_
           refine wp_skip ?_
           refine co_blockN ?_
           refine co_then ?_
           refine co_reg ?_
           refine pk0 (v := .int .i64 ((k : Nat) : Int)) h136 rfl fun a138 h138 => ?_; clear h136
           refine pk (v := .int .i64 ((k + 1 : Nat) : Int)) h138 rfl (rn_arith' rfl rfl rfl rfl rfl rfl (IntWalk.i64_in _ (by omega)) (by omega)) fun a139 h139 => ?_; clear h138
           refine pk0 (v := .int .i64 ((k + 1 : Nat) : Int)) h139 rfl fun a140 h140 => ?_; clear h139
           refine pl_nil ?_
           refine co_then ?_
           refine ⟨(l.length - (k + 1)), by omega, ?_⟩
           have hk141 := hf81.kept hg122 (by simp)
           have hr142 := row_kept_new hf83 hg122
           exact ⟨k + 1, h140.sub ⟨rfl, rfl, rfl, rfl, rfl, rfl, trivial⟩, rfl, by omega, (by first | (rw [lastD_yes hy126 (by assumption)]; exact hk141) | (rw [lastD_no hy126 (by assumption)]; exact hk141)), hr133, hr142, hB127⟩
          ·
           rw [hc137] at h136
           refine co_true h136 rfl ?_
           refine co_reg ?_
           refine pk0 (v := v) h136 rfl fun a143 h143 => ?_; clear h136
           refine pk0 (v := .int .i64 ((k : Nat) : Int)) h143 rfl fun a144 h144 => ?_; clear h143
           refine pk (v := pt (blkOf v) (offOf v + k * 3)) h144 rfl (rn_index rfl rfl rfl Try.underlying33 Try.sizeOf74 (hs.below hB127) (by omega) (by first | omega | (simp; done) | (simp; omega))) fun a145 h145 => ?_; clear h144
           refine pk (v := .agg #[.string y126.1, .string y126.2.1, .bool y126.2.2]) h145 rfl (rn_loadN rfl rfl Try.underlying74 rfl (by kernel_rfl) (sl_at (hs.below hB127) hy126)) fun a146 h146 => ?_; clear h145
           have hk152 := hf81.kept hg122 (by simp)
           refine pwD h146 rfl (op_storeN rfl rfl rfl (by kernel_rfl) (by kernel_rfl) hk152 rfl) ?_; clear h146
           rintro _ w148 a147 ⟨hk149, hz150, hg151⟩ h147
           have hk149' : Blk w148 N54 74 #[.string y126.1, .string y126.2.1, .bool y126.2.2] := hk149; clear hk149
           have hz153 := hg151.size
           refine pl_nil ?_
           refine co_blockN ?_
           refine co_then ?_
           refine co_reg ?_
           refine pk0 (v := .int .i64 ((k : Nat) : Int)) h147 rfl fun a154 h154 => ?_; clear h147
           refine pk (v := .int .i64 ((k + 1 : Nat) : Int)) h154 rfl (rn_arith' rfl rfl rfl rfl rfl rfl (IntWalk.i64_in _ (by omega)) (by omega)) fun a155 h155 => ?_; clear h154
           refine pk0 (v := .int .i64 ((k + 1 : Nat) : Int)) h155 rfl fun a156 h156 => ?_; clear h155
           refine pl_nil ?_
           refine co_then ?_
           refine ⟨(l.length - (k + 1)), by omega, ?_⟩
           have hr157 := row_kept_at hr133 hg151 (ha59)
           have hr158 := row_kept_new hf83 hg122
           have hr159 := row_kept_at hr158 hg151 (ha60)
           have hB160 := hb_at hB127 hg151 (by omega)
           exact ⟨k + 1, h156.sub ⟨rfl, rfl, rfl, rfl, rfl, rfl, trivial⟩, rfl, by omega, (by first | (rw [lastD_yes hy126 (by assumption)]; exact hk149') | (rw [lastD_no hy126 (by assumption)]; exact hk149')), hr157, hr159, hB160⟩
   ·
    rw [hc16] at h15
    have hp161 : ((i : Nat) : Int) < ((l.length : Nat) : Int) := of_decide_eq_true hc16
    clear hc16
    refine co_true h15 rfl ?_
    refine wp_skip ?_
    refine co_then ?_
    refine co_seq ?_
    refine wp_block ?_
    refine co_reg ?_
    refine pk0 (v := u) h15 rfl fun a162 h162 => ?_; clear h15
    refine pk0 (v := v) h162 rfl fun a163 h163 => ?_; clear h162
    refine pk0 (v := .int .i64 ((i : Nat) : Int)) h163 rfl fun a164 h164 => ?_; clear h163
    obtain ⟨y165, hy165⟩ : ∃ z, l[i]? = some z := ⟨_, List.getElem?_eq_getElem (by first | omega | (simp; done) | (simp; omega))⟩
    refine pk (v := pt (blkOf v) (offOf v + i * 3)) h164 rfl (rn_index rfl rfl rfl Try.underlying33 Try.sizeOf74 (hs.below hB10) (by omega) (by first | omega | (simp; done) | (simp; omega))) fun a166 h166 => ?_; clear h164
    refine pk0 (v := pt (blkOf v) (offOf v + i * 3)) h166 rfl fun a167 h167 => ?_; clear h166
    refine pk (v := .string y165.1) h167 rfl (rn_load1 rfl rfl Try.isAgg9 ((sl_at (hs.below hB10) hy165) 0 _ rfl)) fun a168 h168 => ?_; clear h167
    refine pw h168 rfl (op_new (v := fun N => .slice (some ⟨N, 0, none⟩) 1 1) (T := 9) (cs := #[.string y165.1]) (by kernel_rfl) (by kernel_rfl) (by kernel_rfl)) ?_; clear h168
    rintro _ w170 a169 ⟨N171, rfl, hN174, hz175, hk173, hg172⟩ h169
    have ha176 := row_fresh hf9 hN174
    have hz177 := hg172.size
    try dsimp only at h169
    have hr183 := row_kept_new hf9 hg172
    refine pw h169 rfl (op_append rfl w.heap.size 9 (z := .string (⟨#[]⟩)) (size := 1) (bytes := 16) Try.underlying131 (by kernel_rfl) rfl rfl rfl hr183 rfl hk173 rfl (by kernel_rfl) (by first | omega | (simp only [List.length_nil, List.length_append, List.length_cons, List.length_take, List.length_drop]; omega)) (by first | omega | (simp only [List.length_nil, List.length_append, List.length_cons, List.length_take, List.length_drop]; omega)) (by omega)) ?_; clear h169
    rintro v180 w179 a178 ⟨hr181, hg182⟩ h178
    have hr181' : w179.ownsRow w.heap.size 9 1 v180 (((l.take i).map (·.1) ++ [y165.1]).length) (((l.take i).map (·.1) ++ [y165.1]).flatMap strE) := row_push (y := y165.1) hr181 rfl rfl; clear hr181
    have hz184 := hg182.size
    refine pk0 (v := v180) h178 rfl fun a185 h185 => ?_; clear h178
    refine pl_nil ?_
    refine co_blockN ?_
    refine co_then ?_
    refine co_reg ?_
    refine pk0 (v := .int .i64 ((i : Nat) : Int)) h185 rfl fun a186 h186 => ?_; clear h185
    refine pk (v := .int .i64 ((i + 1 : Nat) : Int)) h186 rfl (rn_arith' rfl rfl rfl rfl rfl rfl (IntWalk.i64_in _ (by omega)) (by omega)) fun a187 h187 => ?_; clear h186
    refine pk0 (v := .int .i64 ((i + 1 : Nat) : Int)) h187 rfl fun a188 h188 => ?_; clear h187
    refine pl_nil ?_
    refine co_then ?_
    refine ⟨(l.length - (i + 1)), by omega, ?_⟩
    have hB189 := hb_new hB10 hg172
    have hB190 := hb_row hB189 hr183 (by omega) hg182
    exact ⟨i + 1, v180, h188.sub ⟨rfl, rfl, rfl, trivial⟩, rfl, by omega, (row_eq hr181' (by first | rfl | exact map_snoc (by assumption))), hB190⟩
def asOp (p : ValT) : OpT := (p.1, p.2, false)
def asPair (o : OpT) : ValT := (o.1, o.2.1)
theorem pair_last (l : List ValT) : ∀ k, lastG (l.map asOp) k = (pairG l k).map asOp := by
  refine snoc_ind (C := fun l => ∀ k, lastG (l.map asOp) k = (pairG l k).map asOp) (fun k => rfl) (fun l p ih k => ?_) l
  rw [List.map_append, List.map_cons, List.map_nil, lastG_snoc, pairG_snoc]
  unfold lastF pairF
  by_cases e : k = p.1
  · rw [if_pos (show k = (asOp p).1 from e), if_pos e]; rfl
  · rw [if_neg (show ¬ k = (asOp p).1 from e), if_neg e, ih k]
/-- What the pairs and the operations come to, told by the last operation of each key. -/
def gone (o : Option OpT) : Option ValT := match o with | none => none | some o => if o.2.2 = true then none else some (asPair o)
theorem ov_last (l : List ValT) (m : List OpT) : ∀ k, ovG l m k = gone (lastG (l.map asOp ++ m) k) := by
  refine snoc_ind (C := fun m => ∀ k, ovG l m k = gone (lastG (l.map asOp ++ m) k)) (fun k => ?_) (fun m o ih k => ?_) m
  · rw [List.append_nil, pair_last]
    show pairG l k = _
    cases h : pairG l k with
    | none => rfl
    | some p => rfl
  · rw [ovG_snoc, ← List.append_assoc, lastG_snoc]
    unfold ovF lastF
    by_cases e : k = o.1
    · rw [if_pos e, if_pos e]; rfl
    · rw [if_neg e, if_neg e, ih k]
def kept (ys : List OpT) : List ValT := (ys.filter fun o => !o.2.2).map asPair
theorem kept_yes {ys : List OpT} {i : Nat} {y : OpT} (h : ys[i]? = some y) (hd : y.2.2 = false) : kept (ys.take i) ++ [(y.1, y.2.1)] = kept (ys.take (i + 1)) := by rw [takeO_at h]; simp [kept, hd, asPair]
theorem kept_no {ys : List OpT} {i : Nat} {y : OpT} (h : ys[i]? = some y) (hd : y.2.2 = true) : kept (ys.take i) = kept (ys.take (i + 1)) := by rw [takeO_at h]; simp [kept, hd]
theorem kept_len (ys : List OpT) : (kept ys).length ≤ ys.length := by unfold kept; rw [List.length_map]; exact List.length_filter_le _ _
theorem over_set {l : List ValT} {m : List OpT} {ys : List OpT} (h : SetG (fun y : OpT => y.1) (lastG (l.map asOp ++ m)) ys) : SetG (fun y : ValT => y.1) (ovG l m) (kept ys) := by
  refine ⟨?_, fun y => ?_⟩
  · unfold kept
    rw [List.pairwise_map]
    exact (h.1.sublist List.filter_sublist).imp (fun {a b} hab => hab)
  · unfold kept
    rw [List.mem_map]
    constructor
    · rintro ⟨o, ho, rfl⟩
      rw [List.mem_filter] at ho
      obtain ⟨k, hk⟩ := (h.2 o).1 ho.1
      refine ⟨k, ?_⟩
      have hd : o.2.2 = false := by simpa using ho.2
      rw [ov_last, hk]; simp [gone, hd]
    · rintro ⟨k, hk⟩
      rw [ov_last] at hk
      cases hl : lastG (l.map asOp ++ m) k with
      | none => rw [hl] at hk; cases hk
      | some o =>
        rw [hl] at hk
        unfold gone at hk
        by_cases hd : o.2.2 = true
        · simp only [hd, if_true] at hk; cases hk
        · simp only [hd] at hk
          refine ⟨o, List.mem_filter.2 ⟨(h.2 o).2 ⟨k, hl⟩, by simpa using hd⟩, ?_⟩
          simpa using hk
set_option maxRecDepth 100000 in
theorem ropsOver_any (v : Value) (l : List ValT) (v2 : Value) (m : List OpT) (w : World) (hs : SliceOf valE 2 w v l) (hs2 : SliceOf opE 3 w v2 m) (hlen : l.length + m.length ≤ 1000) :
    Calls Try.prog 42 #[v, v2] w fun e w' => ∃ (ys : List ValT) (u : Value), e = .returned (u) ∧ w'.ownsRow w.heap.size 78 2 u ys.length (ys.flatMap valE) ∧ SetG (fun y : ValT => y.1) (ovG l m) ys ∧ ys.length ≤ l.length + m.length ∧ Below w.heap.size w w' := by
 have hB0 := Below.refl w.heap.size w
 have hl_hs := sl_len hs
 have hl_hs2 := sl_len hs2
 refine co_enter (n := 61) Try.func42 rfl rfl rfl [(0, v), (1, v2)] rfl (fun a h0 => ?_)
 refine co_seq ?_
 refine co_reg ?_
 refine pk0 (v := .slice none 0 0) h0 rfl fun a1 h1 => ?_; clear h0
 refine pl_nil ?_
 refine co_then ?_
 refine co_seq ?_
 refine co_reg ?_
 refine pk0 (v := .slice none 0 0) h1 rfl fun a2 h2 => ?_; clear h1
 refine pl_nil ?_
 refine co_then ?_
 refine co_seq ?_
 refine co_seq ?_
 refine co_reg ?_
 refine pk0 (v := .int .i64 0) h2 rfl fun a3 h3 => ?_; clear h2
 refine pl_nil ?_
 refine co_then ?_
 refine wp_block ?_
 have h4 : Slots 61 [(0, v), (1, v2), (5, .slice none 0 0), (6, .int .i64 0)] _ := h3.sub ⟨rfl, rfl, rfl, rfl, trivial⟩; clear h3
 refine co_loop (fun mm a x => ∃ (i : Nat) (u : Value), Slots 61 [(0, v), (1, v2), (5, u), (6, .int .i64 ((i : Nat) : Int))] a ∧ mm = l.length - i ∧ (i ≤ l.length) ∧ x.ownsRow w.heap.size 74 3 u ((l.take i).map asOp).length (((l.take i).map asOp).flatMap opE) ∧ Below w.heap.size w x) (l.length - 0) ?_ ?_
 · exact ⟨0, (.slice none 0 0), h4.sub ⟨rfl, rfl, rfl, (slot_eq rfl (congrArg (Value.int .i64) (by first | rfl | omega))), trivial⟩, rfl, by omega, (row_nilL _ _ _ _ _), hB0⟩
 · rintro k5 a6 w7 ⟨i, u, h6, rfl, hi8, hf9, hB10⟩
   have hz11 := hB10.size
   have hst : ((l.take i).map asOp).length ≤ i := by rw [List.length_map]; exact List.length_take_le _ _
   refine co_seq ?_
   refine co_seq ?_
   refine co_reg ?_
   refine pk0 (v := .int .i64 ((i : Nat) : Int)) h6 rfl fun a12 h12 => ?_; clear h6
   refine pk0 (v := v) h12 rfl fun a13 h13 => ?_; clear h12
   refine pk (v := .int .i64 ((l.length : Nat) : Int)) h13 rfl (rn_len rfl rfl Try.underlying44 (hs.below hB10)) fun a14 h14 => ?_; clear h13
   refine pk0 (v := .bool (decide (((i : Nat) : Int) < ((l.length : Nat) : Int)))) h14 rfl fun a15 h15 => ?_; clear h14
   refine pl_nil ?_
   refine co_then ?_
   cases hc16 : (decide (((i : Nat) : Int) < ((l.length : Nat) : Int)))
   ·
    rw [hc16] at h15
    have hp17 : ¬ (((i : Nat) : Int) < ((l.length : Nat) : Int)) := of_decide_eq_false hc16
    clear hc16
    refine co_false h15 rfl ?_
    refine wp_exit ?_
    refine co_thenX ?_
    refine co_thenX ?_
    refine co_blockX ?_
    refine co_then ?_
    refine co_seq ?_
    refine co_reg ?_
    refine pk0 (v := u) h15 rfl fun a18 h18 => ?_; clear h15
    refine pk0 (v := v2) h18 rfl fun a19 h19 => ?_; clear h18
    refine pw h19 rfl (op_appendSrc rfl w.heap.size 74 (z := .agg #[.string (⟨#[]⟩), .string (⟨#[]⟩), .bool false]) (size := 3) (bytes := 40) Try.underlying33 (by kernel_rfl) rfl rfl rfl hf9 rfl (hs2.below hB10) (fun y _ => ⟨opE_len y, opE_one y⟩) (by first | omega | (simp only [List.length_nil, List.length_append, List.length_cons, List.length_take, List.length_drop]; omega)) (by first | omega | (simp only [List.length_nil, List.length_append, List.length_cons, List.length_take, List.length_drop]; omega)) (by omega)) ?_; clear h19
    rintro v22 w21 a20 ⟨hr23, hg24⟩ h20
    have hr23' : w21.ownsRow w.heap.size 74 3 v22 (((l.take i).map asOp ++ m).length) (((l.take i).map asOp ++ m).flatMap opE) := row_app hr23; clear hr23
    have hz25 := hg24.size
    refine pk0 (v := v22) h20 rfl fun a26 h26 => ?_; clear h20
    refine pl_nil ?_
    refine co_then ?_
    refine co_seq ?_
    refine co_reg ?_
    refine pk0 (v := v22) h26 rfl fun a27 h27 => ?_; clear h26
    refine pw h27 rfl (op_call (args := #[v22]) (R := fun res xw => ∃ ys : List OpT, ∃ u : Value, res = u ∧ xw.ownsRow w21.heap.size 74 3 u ys.length (ys.flatMap opE) ∧ SetG (fun y : OpT => y.1) (lastG ((l.take i).map asOp ++ m)) ys ∧ ys.length ≤ ((l.take i).map asOp ++ m).length ∧ Below w21.heap.size w21 xw) rfl rfl rfl (by kernel_rfl) (by kernel_rfl) (Try.call65 _ _) (ropsNorm_any v22 ((l.take i).map asOp ++ m) w21 (row_sl hr23' opE_len) (by simp only [List.length_append, List.length_map, List.length_take]; omega)) (by rintro e x ⟨ys, u, rfl, hq32, hq33, hq34, hb35⟩; exact ⟨_, rfl, ⟨ys, u, rfl, hq32, hq33, hq34, hb35⟩⟩)) ?_; clear h27
    rintro u31 w29 a28 ⟨ys30, _, rfl, hq32, hq33, hq34, hb35⟩ h28
    have hz36 := hb35.size
    have hl37 := sl_len (row_sl hq32 opE_len)
    refine pk0 (v := u31) h28 rfl fun a38 h38 => ?_; clear h28
    refine pl_nil ?_
    refine co_then ?_
    refine co_seq ?_
    refine co_reg ?_
    refine pk0 (v := .slice none 0 0) h38 rfl fun a39 h39 => ?_; clear h38
    refine pl_nil ?_
    refine co_then ?_
    refine co_seq ?_
    refine co_seq ?_
    refine co_reg ?_
    refine pk0 (v := .int .i64 0) h39 rfl fun a40 h40 => ?_; clear h39
    refine pl_nil ?_
    refine co_then ?_
    refine wp_block ?_
    have hall : l.take i = l := List.take_of_length_le (by omega)
    have hset : SetG (fun y : OpT => y.1) (lastG (l.map asOp ++ m)) ys30 := by have := hq33; rwa [hall] at this
    have hysl : ys30.length ≤ l.length + m.length := by have h := (by assumption : ys30.length ≤ ((l.take i).map asOp ++ m).length); rw [List.length_append, List.length_map, hall] at h; exact h
    have h41 : Slots 61 [(5, u31), (7, .slice none 0 0), (8, .int .i64 0)] _ := h40.sub ⟨rfl, rfl, rfl, trivial⟩; clear h40
    refine co_loop (fun mm a x => ∃ (j : Nat) (u2 : Value), Slots 61 [(5, u31), (7, u2), (8, .int .i64 ((j : Nat) : Int))] a ∧ mm = ys30.length - j ∧ (j ≤ ys30.length) ∧ x.ownsRow w21.heap.size 74 3 u31 ys30.length (ys30.flatMap opE) ∧ x.ownsRow w.heap.size 78 2 u2 (kept (ys30.take j)).length ((kept (ys30.take j)).flatMap valE) ∧ Below w.heap.size w x) (ys30.length - 0) ?_ ?_
    have hB42 := hb_row hB10 hf9 (by omega) hg24
    have hB43 := hb_call hB42 hb35
    · exact ⟨0, (.slice none 0 0), h41.sub ⟨rfl, rfl, (slot_eq rfl (congrArg (Value.int .i64) (by first | rfl | omega))), trivial⟩, rfl, by omega, hq32, (row_nilL _ _ _ _ _), hB43⟩
    · rintro k44 a45 w46 ⟨j, u2, h45, rfl, hi47, hf48, hf49, hB50⟩
      have hz51 := hB50.size
      have hst3 : (kept (ys30.take j)).length ≤ j := Nat.le_trans (kept_len _) (List.length_take_le _ _)
      refine co_seq ?_
      refine co_seq ?_
      refine co_reg ?_
      refine pk0 (v := .int .i64 ((j : Nat) : Int)) h45 rfl fun a52 h52 => ?_; clear h45
      refine pk0 (v := u31) h52 rfl fun a53 h53 => ?_; clear h52
      refine pk (v := .int .i64 ((ys30.length : Nat) : Int)) h53 rfl (rn_lenOwn rfl rfl Try.underlying33 hf48) fun a54 h54 => ?_; clear h53
      refine pk0 (v := .bool (decide (((j : Nat) : Int) < ((ys30.length : Nat) : Int)))) h54 rfl fun a55 h55 => ?_; clear h54
      refine pl_nil ?_
      refine co_then ?_
      cases hc56 : (decide (((j : Nat) : Int) < ((ys30.length : Nat) : Int)))
      ·
       rw [hc56] at h55
       have hp57 : ¬ (((j : Nat) : Int) < ((ys30.length : Nat) : Int)) := of_decide_eq_false hc56
       clear hc56
       refine co_false h55 rfl ?_
       refine wp_exit ?_
       refine co_thenX ?_
       refine co_thenX ?_
       refine co_blockX ?_
       refine co_then ?_
       refine co_seq ?_
       refine co_reg ?_
       refine pk0 (v := u2) h55 rfl fun a58 h58 => ?_; clear h55
       refine pk0 (v := u2) h58 rfl fun a59 h59 => ?_; clear h58
       refine pl_nil ?_
       refine co_then ?_
       refine wp_ret ?_
       refine co_ret1 h59 rfl rfl ?_
       have hallj : ys30.take j = ys30 := List.take_of_length_le (by omega)
       exact ⟨_, _, rfl, (row_eq (row_lows hf49 (by omega)) (by rw [hallj])), over_set hset, by have := kept_len ys30; omega, hB50⟩
      ·
       rw [hc56] at h55
       have hp60 : ((j : Nat) : Int) < ((ys30.length : Nat) : Int) := of_decide_eq_true hc56
       clear hc56
       refine co_true h55 rfl ?_
       refine wp_skip ?_
       refine co_then ?_
       refine co_seq ?_
       refine wp_block ?_
       refine co_seq ?_
       refine co_reg ?_
       refine pk0 (v := u31) h55 rfl fun a61 h61 => ?_; clear h55
       refine pk0 (v := .int .i64 ((j : Nat) : Int)) h61 rfl fun a62 h62 => ?_; clear h61
       obtain ⟨y63, hy63⟩ : ∃ z, ys30[j]? = some z := ⟨_, List.getElem?_eq_getElem (by first | omega | (simp; done) | (simp; omega))⟩
       refine pk (v := pt (blkOf u31) (offOf u31 + j * 3)) h62 rfl (rn_index rfl rfl rfl Try.underlying33 Try.sizeOf74 (row_sl hf48 opE_len) (by omega) (by first | omega | (simp; done) | (simp; omega))) fun a64 h64 => ?_; clear h62
       refine pk0 (v := pt (blkOf u31) (offOf u31 + j * 3 + 2)) h64 rfl fun a65 h65 => ?_; clear h64
       refine pk (v := .bool y63.2.2) h65 rfl (rn_load1 rfl rfl Try.isAgg4 ((sl_at (row_sl hf48 opE_len) hy63) 2 _ rfl)) fun a66 h66 => ?_; clear h65
       cases hc67 : (y63.2.2)
       ·
        rw [hc67] at h66
        refine pk0 (v := .bool true) h66 rfl fun a68 h68 => ?_; clear h66
        refine pl_nil ?_
        refine co_then ?_
        refine co_true h68 rfl ?_
        refine dr_gen (fun x => Below w.heap.size w x ∧ x.ownsRow w21.heap.size 74 3 u31 ys30.length (ys30.flatMap opE)) (by kernel_rfl) (fun w69 hg70 => ?_) (fun w69 hg70 => ?_)
        ·
         have hz71 := hg70.size
         have hB72 := hb_new hB50 hg70
         have hr73 := row_kept_new hf48 hg70
         exact ⟨hB72, hr73⟩
        have hz74 := hg70.size
        have hB75 := hb_new hB50 hg70
        have hr76 := row_kept_new hf48 hg70
        refine dk0 0 (v := u2) h68 rfl rfl ⟨hB75, hr76⟩ fun a77 h77 => ?_; clear h68
        refine dk0 1 (v := u31) h77 rfl rfl ⟨hB75, hr76⟩ fun a78 h78 => ?_; clear h77
        refine dk0 2 (v := .int .i64 ((j : Nat) : Int)) h78 rfl rfl ⟨hB75, hr76⟩ fun a79 h79 => ?_; clear h78
        refine dk 3 (v := pt (blkOf u31) (offOf u31 + j * 3)) h79 rfl rfl ⟨hB75, hr76⟩ (fun x hx => (rn_index rfl rfl rfl Try.underlying33 Try.sizeOf74 (row_sl hx.2 opE_len) (by omega) (by first | omega | (simp; done) | (simp; omega)))) fun a80 h80 => ?_; clear h79
        refine dk0 4 (v := pt (blkOf u31) (offOf u31 + j * 3)) h80 rfl rfl ⟨hB75, hr76⟩ fun a81 h81 => ?_; clear h80
        refine dk 5 (v := .string y63.1) h81 rfl rfl ⟨hB75, hr76⟩ (fun x hx => (rn_load1 rfl rfl Try.isAgg9 ((sl_at (row_sl hx.2 opE_len) hy63) 0 _ rfl))) fun a82 h82 => ?_; clear h81
        refine dk0 6 (v := u31) h82 rfl rfl ⟨hB75, hr76⟩ fun a83 h83 => ?_; clear h82
        refine dk0 7 (v := .int .i64 ((j : Nat) : Int)) h83 rfl rfl ⟨hB75, hr76⟩ fun a84 h84 => ?_; clear h83
        refine dk 8 (v := pt (blkOf u31) (offOf u31 + j * 3)) h84 rfl rfl ⟨hB75, hr76⟩ (fun x hx => (rn_index rfl rfl rfl Try.underlying33 Try.sizeOf74 (row_sl hx.2 opE_len) (by omega) (by first | omega | (simp; done) | (simp; omega)))) fun a85 h85 => ?_; clear h84
        refine dk0 9 (v := pt (blkOf u31) (offOf u31 + j * 3 + 1)) h85 rfl rfl ⟨hB75, hr76⟩ fun a86 h86 => ?_; clear h85
        refine dk 10 (v := .string y63.2.1) h86 rfl rfl ⟨hB75, hr76⟩ (fun x hx => (rn_load1 rfl rfl Try.isAgg9 ((sl_at (row_sl hx.2 opE_len) hy63) 1 _ rfl))) fun a87 h87 => ?_; clear h86
        refine dk0 11 (v := .agg #[.string y63.1, .string y63.2.1]) h87 rfl rfl ⟨hB75, hr76⟩ fun a88 h88 => ?_; clear h87
        refine d1 12 h88 rfl rfl (op_new (v := fun N => .slice (some ⟨N, 0, none⟩) 1 1) (T := 78) (cs := #[.string y63.1, .string y63.2.1]) (by kernel_rfl) (by kernel_rfl) (by kernel_rfl)) ?_ ?_; clear h88
        ·
         rintro _ w90 ⟨N91, rfl, hN94, hz95, hk93, hg92⟩
         have ha96 := row_fresh hr76 hN94
         have hr98 := row_kept_new hf49 hg70
         have ha97 := row_fresh hr98 hN94
         have hz99 := hg92.size
         have hB100 := hb_new hB75 hg92
         have hr101 := row_kept_new hr76 hg92
         exact ⟨hB100, hr101⟩
        rintro _ w90 a89 ⟨N91, rfl, hN94, hz95, hk93, hg92⟩ h89
        have ha96 := row_fresh hr76 hN94
        have hr98 := row_kept_new hf49 hg70
        have ha97 := row_fresh hr98 hN94
        have hz99 := hg92.size
        try dsimp only at h89
        have hB100 := hb_new hB75 hg92
        have hr101 := row_kept_new hr76 hg92
        have hr107 := row_kept_new hr98 hg92
        refine d1 13 h89 rfl rfl (op_append rfl w.heap.size 78 (z := .agg #[.string (⟨#[]⟩), .string (⟨#[]⟩)]) (size := 2) (bytes := 32) Try.underlying44 (by kernel_rfl) rfl rfl rfl hr107 rfl hk93 rfl (by kernel_rfl) (by first | omega | (simp only [List.length_nil, List.length_append, List.length_cons, List.length_take, List.length_drop]; omega)) (by first | omega | (simp only [List.length_nil, List.length_append, List.length_cons, List.length_take, List.length_drop]; omega)) (by omega)) ?_ ?_; clear h89
        ·
         rintro v104 w103 ⟨hr105, hg106⟩
         have hr105' : w103.ownsRow w.heap.size 78 2 v104 ((kept (ys30.take j) ++ [(y63.1, y63.2.1)]).length) ((kept (ys30.take j) ++ [(y63.1, y63.2.1)]).flatMap valE) := row_push (y := (y63.1, y63.2.1)) hr105 rfl rfl; clear hr105
         have hz108 := hg106.size
         have hB109 := hb_row hB100 hr107 (by omega) hg106
         have hr110 := row_kept_row hr101 hr107 hg106 (by decide)
         exact ⟨hB109, hr110⟩
        rintro v104 w103 a102 ⟨hr105, hg106⟩ h102
        have hr105' : w103.ownsRow w.heap.size 78 2 v104 ((kept (ys30.take j) ++ [(y63.1, y63.2.1)]).length) ((kept (ys30.take j) ++ [(y63.1, y63.2.1)]).flatMap valE) := row_push (y := (y63.1, y63.2.1)) hr105 rfl rfl; clear hr105
        have hz108 := hg106.size
        have hB109 := hb_row hB100 hr107 (by omega) hg106
        have hr110 := row_kept_row hr101 hr107 hg106 (by decide)
        refine dk0 14 (v := v104) h102 rfl rfl ⟨hB109, hr110⟩ fun a111 h111 => ?_; clear h102
        refine dr_done (by kernel_rfl) ?_
        refine co_blockN ?_
        refine co_then ?_
        refine co_reg ?_
        refine pk0 (v := .int .i64 ((j : Nat) : Int)) h111 rfl fun a112 h112 => ?_; clear h111
        refine pk (v := .int .i64 ((j + 1 : Nat) : Int)) h112 rfl (rn_arith' rfl rfl rfl rfl rfl rfl (IntWalk.i64_in _ (by omega)) (by omega)) fun a113 h113 => ?_; clear h112
        refine pk0 (v := .int .i64 ((j + 1 : Nat) : Int)) h113 rfl fun a114 h114 => ?_; clear h113
        refine pl_nil ?_
        refine co_then ?_
        refine ⟨(ys30.length - (j + 1)), by omega, ?_⟩
        exact ⟨j + 1, v104, h114.sub ⟨rfl, rfl, rfl, trivial⟩, rfl, by omega, hr110, (row_eq hr105' (by first | rfl | exact kept_yes (by assumption) (by assumption) | exact kept_no (by assumption) (by assumption))), hB109⟩
       ·
        rw [hc67] at h66
        refine pk0 (v := .bool false) h66 rfl fun a115 h115 => ?_; clear h66
        refine pl_nil ?_
        refine co_then ?_
        refine co_false h115 rfl ?_
        refine wp_skip ?_
        refine co_blockN ?_
        refine co_then ?_
        refine co_reg ?_
        refine pk0 (v := .int .i64 ((j : Nat) : Int)) h115 rfl fun a116 h116 => ?_; clear h115
        refine pk (v := .int .i64 ((j + 1 : Nat) : Int)) h116 rfl (rn_arith' rfl rfl rfl rfl rfl rfl (IntWalk.i64_in _ (by omega)) (by omega)) fun a117 h117 => ?_; clear h116
        refine pk0 (v := .int .i64 ((j + 1 : Nat) : Int)) h117 rfl fun a118 h118 => ?_; clear h117
        refine pl_nil ?_
        refine co_then ?_
        refine ⟨(ys30.length - (j + 1)), by omega, ?_⟩
        exact ⟨j + 1, u2, h118.sub ⟨rfl, rfl, rfl, trivial⟩, rfl, by omega, hf48, (row_eq hf49 (by first | rfl | exact kept_yes (by assumption) (by assumption) | exact kept_no (by assumption) (by assumption))), hB50⟩
   ·
    rw [hc16] at h15
    have hp119 : ((i : Nat) : Int) < ((l.length : Nat) : Int) := of_decide_eq_true hc16
    clear hc16
    refine co_true h15 rfl ?_
    refine wp_skip ?_
    refine co_then ?_
    refine co_seq ?_
    refine wp_block ?_
    refine dr_gen (fun x => Below w.heap.size w x) (by kernel_rfl) (fun w120 hg121 => ?_) (fun w120 hg121 => ?_)
    ·
     have hz122 := hg121.size
     have hB123 := hb_new hB10 hg121
     exact hB123
    have hz124 := hg121.size
    have hB125 := hb_new hB10 hg121
    refine dk0 0 (v := u) h15 rfl rfl hB125 fun a126 h126 => ?_; clear h15
    refine dk0 1 (v := v) h126 rfl rfl hB125 fun a127 h127 => ?_; clear h126
    refine dk0 2 (v := .int .i64 ((i : Nat) : Int)) h127 rfl rfl hB125 fun a128 h128 => ?_; clear h127
    obtain ⟨y129, hy129⟩ : ∃ z, l[i]? = some z := ⟨_, List.getElem?_eq_getElem (by first | omega | (simp; done) | (simp; omega))⟩
    refine dk 3 (v := pt (blkOf v) (offOf v + i * 2)) h128 rfl rfl hB125 (fun x hx => (rn_index rfl rfl rfl Try.underlying44 Try.sizeOf78 (hs.below hx) (by omega) (by first | omega | (simp; done) | (simp; omega)))) fun a130 h130 => ?_; clear h128
    refine dk0 4 (v := pt (blkOf v) (offOf v + i * 2)) h130 rfl rfl hB125 fun a131 h131 => ?_; clear h130
    refine dk 5 (v := .string y129.1) h131 rfl rfl hB125 (fun x hx => (rn_load1 rfl rfl Try.isAgg9 ((sl_at (hs.below hx) hy129) 0 _ rfl))) fun a132 h132 => ?_; clear h131
    refine dk0 6 (v := v) h132 rfl rfl hB125 fun a133 h133 => ?_; clear h132
    refine dk0 7 (v := .int .i64 ((i : Nat) : Int)) h133 rfl rfl hB125 fun a134 h134 => ?_; clear h133
    refine dk 8 (v := pt (blkOf v) (offOf v + i * 2)) h134 rfl rfl hB125 (fun x hx => (rn_index rfl rfl rfl Try.underlying44 Try.sizeOf78 (hs.below hx) (by omega) (by first | omega | (simp; done) | (simp; omega)))) fun a135 h135 => ?_; clear h134
    refine dk0 9 (v := pt (blkOf v) (offOf v + i * 2 + 1)) h135 rfl rfl hB125 fun a136 h136 => ?_; clear h135
    refine dk 10 (v := .string y129.2) h136 rfl rfl hB125 (fun x hx => (rn_load1 rfl rfl Try.isAgg9 ((sl_at (hs.below hx) hy129) 1 _ rfl))) fun a137 h137 => ?_; clear h136
    refine dk0 11 (v := .agg #[.string y129.1, .string y129.2, .bool false]) h137 rfl rfl hB125 fun a138 h138 => ?_; clear h137
    refine d1 12 h138 rfl rfl (op_new (v := fun N => .slice (some ⟨N, 0, none⟩) 1 1) (T := 74) (cs := #[.string y129.1, .string y129.2, .bool false]) (by kernel_rfl) (by kernel_rfl) (by kernel_rfl)) ?_ ?_; clear h138
    ·
     rintro _ w140 ⟨N141, rfl, hN144, hz145, hk143, hg142⟩
     have hr147 := row_kept_new hf9 hg121
     have ha146 := row_fresh hr147 hN144
     have hz148 := hg142.size
     have hB149 := hb_new hB125 hg142
     exact hB149
    rintro _ w140 a139 ⟨N141, rfl, hN144, hz145, hk143, hg142⟩ h139
    have hr147 := row_kept_new hf9 hg121
    have ha146 := row_fresh hr147 hN144
    have hz148 := hg142.size
    try dsimp only at h139
    have hB149 := hb_new hB125 hg142
    have hr155 := row_kept_new hr147 hg142
    refine d1 13 h139 rfl rfl (op_append rfl w.heap.size 74 (z := .agg #[.string (⟨#[]⟩), .string (⟨#[]⟩), .bool false]) (size := 3) (bytes := 40) Try.underlying33 (by kernel_rfl) rfl rfl rfl hr155 rfl hk143 rfl (by kernel_rfl) (by first | omega | (simp only [List.length_nil, List.length_append, List.length_cons, List.length_take, List.length_drop]; omega)) (by first | omega | (simp only [List.length_nil, List.length_append, List.length_cons, List.length_take, List.length_drop]; omega)) (by omega)) ?_ ?_; clear h139
    ·
     rintro v152 w151 ⟨hr153, hg154⟩
     have hr153' : w151.ownsRow w.heap.size 74 3 v152 (((l.take i).map asOp ++ [(y129.1, y129.2, false)]).length) (((l.take i).map asOp ++ [(y129.1, y129.2, false)]).flatMap opE) := row_push (y := (y129.1, y129.2, false)) hr153 rfl rfl; clear hr153
     have hz156 := hg154.size
     have hB157 := hb_row hB149 hr155 (by omega) hg154
     exact hB157
    rintro v152 w151 a150 ⟨hr153, hg154⟩ h150
    have hr153' : w151.ownsRow w.heap.size 74 3 v152 (((l.take i).map asOp ++ [(y129.1, y129.2, false)]).length) (((l.take i).map asOp ++ [(y129.1, y129.2, false)]).flatMap opE) := row_push (y := (y129.1, y129.2, false)) hr153 rfl rfl; clear hr153
    have hz156 := hg154.size
    have hB157 := hb_row hB149 hr155 (by omega) hg154
    refine dk0 14 (v := v152) h150 rfl rfl hB157 fun a158 h158 => ?_; clear h150
    refine dr_done (by kernel_rfl) ?_
    refine co_blockN ?_
    refine co_then ?_
    refine co_reg ?_
    refine pk0 (v := .int .i64 ((i : Nat) : Int)) h158 rfl fun a159 h159 => ?_; clear h158
    refine pk (v := .int .i64 ((i + 1 : Nat) : Int)) h159 rfl (rn_arith' rfl rfl rfl rfl rfl rfl (IntWalk.i64_in _ (by omega)) (by omega)) fun a160 h160 => ?_; clear h159
    refine pk0 (v := .int .i64 ((i + 1 : Nat) : Int)) h160 rfl fun a161 h161 => ?_; clear h160
    refine pl_nil ?_
    refine co_then ?_
    refine ⟨(l.length - (i + 1)), by omega, ?_⟩
    exact ⟨i + 1, v152, h161.sub ⟨rfl, rfl, rfl, rfl, trivial⟩, rfl, by omega, (row_eq hr153' (by first | rfl | exact map_snoc (f := asOp) (by assumption))), hB157⟩
end Go.Proofs.Ytniojcnkjehflaa

/- What thinned entries come to: at that time and later the same. Pure. Conditions: none. -/
namespace Go.Proofs.Ytniojcnkjehflaa
open Go.RowKit Go.PlainAid
set_option linter.unusedVariables false
set_option linter.unusedSimpArgs false

theorem ovf_eq {k : ByteArray} : ∀ (l : List OpT) (g1 g2 : ByteArray → Option ValT), (g1 k = g2 k ∨ k ∈ l.map (·.1)) → l.foldl ovF g1 k = l.foldl ovF g2 k
  | [], g1, g2, h => by
    rcases h with h | h
    · exact h
    · cases h
  | o :: r, g1, g2, h => by
    rw [List.foldl_cons, List.foldl_cons]
    refine ovf_eq r _ _ ?_
    unfold ovF
    by_cases e : k = o.1
    · left; rw [if_pos e, if_pos e]
    · rcases h with h | h
      · left; rw [if_neg e, if_neg e, h]
      · right
        rw [List.map_cons, List.mem_cons] at h
        rcases h with h | h
        · exact absurd h e
        · exact h
theorem kp_ov {k : ByteArray} {f : ByteArray → Int} (hf : f k = 0) : ∀ (l : List OpT) (g : ByteArray → Option ValT), (kpL f l).foldl ovF g k = l.foldl ovF g k
  | [], g => rfl
  | o :: r, g => by
    have ih := kp_ov hf r
    unfold kpL at ih ⊢
    by_cases e : f o.1 = 0
    · rw [List.filter_cons_of_pos (by simpa using e), List.foldl_cons, List.foldl_cons]; exact ih _
    · rw [List.filter_cons_of_neg (by simpa using e), List.foldl_cons]
      refine (ih g).trans (ovf_eq r _ _ (.inl ?_))
      have : k ≠ o.1 := fun q => e (q ▸ hf)
      unfold ovF; rw [if_neg this]
/-- The operations of the entries with a timestamp not above t. -/
def stO (t : Int) (L : List EntT) : List OpT := (L.filter (ltE t)).flatMap (·.opl)
theorem stO_cons (t : Int) (e : EntT) (r : List EntT) : stO t (e :: r) = if ltE t e = true then e.opl ++ stO t r else stO t r := by
  unfold stO
  by_cases h : ltE t e = true
  · rw [if_pos h, List.filter_cons_of_pos h, List.flatMap_cons]
  · rw [if_neg h, List.filter_cons_of_neg h]
theorem stO_snoc {t : Int} {L : List EntT} {i : Nat} {y : EntT} (hy : L[i]? = some y) : stO t (L.take (i + 1)) = if ltE t y = true then stO t (L.take i) ++ y.opl else stO t (L.take i) := by
  rw [takeE hy]
  unfold stO
  rw [List.filter_append, List.flatMap_append]
  by_cases h : ltE t y = true
  · rw [if_pos h, List.filter_cons_of_pos h]; simp
  · rw [if_neg h, List.filter_cons_of_neg h]; simp
theorem lt_up {h t : Int} (ht : h ≤ t) {e : EntT} (q : ltE h e = true) : ltE t e = true := by
  unfold ltE at q ⊢
  have := of_decide_eq_true q
  exact decide_eq_true (by omega)
theorem cnt_mem {k : ByteArray} {l : List OpT} (h : cntK k l ≠ 0) : k ∈ l.map (·.1) := by
  unfold cntK at h
  have : 0 < l.countP (fun o => decide (o.1 = k)) := by omega
  obtain ⟨o, ho, e⟩ := List.countP_pos_iff.1 this
  exact List.mem_map.2 ⟨o, ho, of_decide_eq_true e⟩
theorem fT_mem {h t : Int} (ht : h ≤ t) {k : ByteArray} : ∀ r : List EntT, fT h r k ≠ 0 → k ∈ (stO t r).map (·.1)
  | [], hh => absurd rfl hh
  | e :: r, hh => by
    have ih := fT_mem ht (k := k) r
    rw [stO_cons]
    by_cases q : ltE h e = true
    · rw [if_pos (lt_up ht q), List.map_append, List.mem_append]
      rw [fT, if_pos q] at hh
      by_cases z : fT h r k = 0
      · left; exact cnt_mem (by omega)
      · right; exact ih z
    · rw [fT, if_neg q] at hh
      have := ih hh
      split
      · rw [List.map_append, List.mem_append]; exact .inr this
      · exact this
theorem ltE_opl {t : Int} {e : EntT} {l : List OpT} : ltE t { e with opl := l } = ltE t e := rfl
theorem th_state {h t : Int} (ht : h ≤ t) : ∀ (T : List EntT) (g : ByteArray → Option ValT), (stO t (lT h T)).foldl ovF g = (stO t T).foldl ovF g
  | [], g => rfl
  | e :: r, g => by
    have ih := th_state ht r
    rw [lT]
    by_cases q : ltE h e = true
    · rw [if_pos q, stO_cons, stO_cons, ltE_opl, if_pos (lt_up ht q), if_pos (lt_up ht q), List.foldl_append, List.foldl_append, ih]
      funext k
      refine ovf_eq _ _ _ ?_
      by_cases z : fT h r k = 0
      · left; exact kp_ov z _ _
      · right; exact fT_mem ht r z
    · rw [if_neg q, stO_cons, stO_cons]
      split
      · rw [List.foldl_append, List.foldl_append, ih]
      · exact ih g
/-- What the first entries come to. -/
def stF (t : Int) (L : List EntT) (M : Nat) : ByteArray → Option ValT := (stO t (L.take M)).foldl ovF (fun _ => none)
theorem pairG_of {g : ByteArray → Option ValT} {l : List ValT} (hk : ∀ k v, g k = some v → v.1 = k) (h : SetG (fun y : ValT => y.1) g l) : pairG l = g := by
  have hm : ∀ (l : List ValT), l.Pairwise (fun a b => kB a.1 < kB b.1) → ∀ k y, pairG l k = some y ↔ y ∈ l ∧ y.1 = k := by
    intro l
    refine snoc_ind (C := fun l => l.Pairwise (fun a b => kB a.1 < kB b.1) → ∀ k y, pairG l k = some y ↔ y ∈ l ∧ y.1 = k) (fun _ k y => by simp [pairG]) (fun l o ih hp k y => ?_) l
    obtain ⟨h1, -, h3⟩ := List.pairwise_append.1 hp
    rw [pairG_snoc]
    unfold pairF
    by_cases e : k = o.1
    · rw [if_pos e]
      constructor
      · intro h; cases h; exact ⟨by simp, e.symm⟩
      · rintro ⟨hy, hk⟩
        rcases List.mem_append.1 hy with hy | hy
        · have := h3 y hy o (by simp); rw [hk, e] at this; exact absurd this (List.lt_irrefl _)
        · simp only [List.mem_singleton] at hy; rw [hy]
    · rw [if_neg e, ih h1 k y]
      constructor
      · rintro ⟨hy, hk⟩; exact ⟨by simp [hy], hk⟩
      · rintro ⟨hy, hk⟩
        rcases List.mem_append.1 hy with hy | hy
        · exact ⟨hy, hk⟩
        · simp only [List.mem_singleton] at hy; rw [hy] at hk; exact absurd hk.symm e
  funext k
  refine Option.ext fun y => ?_
  rw [hm l h.1]
  constructor
  · rintro ⟨h1, rfl⟩
    obtain ⟨k', hk'⟩ := (h.2 y).1 h1
    have := hk _ _ hk'; rw [this]; exact hk'
  · intro h1; exact ⟨(h.2 y).2 ⟨k, h1⟩, hk _ _ h1⟩
theorem ovF_key {l : List OpT} : ∀ {g : ByteArray → Option ValT}, (∀ k v, g k = some v → v.1 = k) → ∀ k v, l.foldl ovF g k = some v → v.1 = k := by
  induction l with
  | nil => exact fun h => h
  | cons o r ih =>
    intro g h
    rw [List.foldl_cons]
    refine ih fun k v hv => ?_
    unfold ovF at hv
    by_cases e : k = o.1
    · rw [if_pos e] at hv
      split at hv
      · cases hv
      · cases hv; exact e.symm
    · rw [if_neg e] at hv; exact h k v hv
theorem stF_key (t : Int) (L : List EntT) (M : Nat) : ∀ k v, stF t L M k = some v → v.1 = k := ovF_key (fun k v h => by cases h)
theorem st_0 (t : Int) (L : List EntT) : SetG (fun y : ValT => y.1) (stF t L 0) [] := ⟨List.Pairwise.nil, fun y => ⟨(fun h => by cases h), fun ⟨k, h⟩ => by cases h⟩⟩
theorem st_over {t : Int} {L : List EntT} {i : Nat} {y : EntT} {P Q : List ValT} (h : SetG (fun y : ValT => y.1) (stF t L i) P) (hy : L[i]? = some y) (hq : ltE t y = true) (hQ : SetG (fun y : ValT => y.1) (ovG P y.opl) Q) : SetG (fun y : ValT => y.1) (stF t L (i + 1)) Q := by
  have e : stF t L (i + 1) = ovG P y.opl := by
    unfold stF; rw [stO_snoc hy, if_pos hq, List.foldl_append]
    unfold ovG; rw [pairG_of (stF_key t L i) h]; rfl
  rw [e]; exact hQ
theorem st_stay {t : Int} {L : List EntT} {i : Nat} {y : EntT} {P : List ValT} (h : SetG (fun y : ValT => y.1) (stF t L i) P) (hy : L[i]? = some y) (hq : ltE t y = false) : SetG (fun y : ValT => y.1) (stF t L (i + 1)) P := by
  have e : stF t L (i + 1) = stF t L i := by
    unfold stF; rw [stO_snoc hy, if_neg (by rw [hq]; simp)]
  rw [e]; exact h
theorem stO_e0 {t : Int} : ∀ {A B : List EntT}, A.map e0 = B.map e0 → stO t A = stO t B
  | [], [], _ => rfl
  | [], _ :: _, h => by cases h
  | _ :: _, [], h => by cases h
  | a :: A, b :: B, h => by
    rw [List.map_cons, List.map_cons] at h
    injection h with h1 h2
    rw [stO_cons, stO_cons, stO_e0 h2, ltE_e0 h1, (e0_ts h1).2.2.2]
theorem stF_e0 {t : Int} {A B : List EntT} (h : A.map e0 = B.map e0) (M : Nat) : stF t A M = stF t B M := by
  unfold stF; rw [stO_e0 (show (A.take M).map e0 = (B.take M).map e0 by rw [List.map_take, List.map_take, h])]
theorem thM_le' (L : List EntT) (n : Int) : thM L n ≤ L.length := by unfold thM; split <;> (try split) <;> omega
theorem thL_take (L : List EntT) (h n : Int) : (thL L h n).take (thM L n) = lT h (L.take (thM L n)) := by
  unfold thL
  have := thM_le' L n
  rw [List.take_append_of_le_length (by rw [lT_len, List.length_take]; omega), List.take_of_length_le (by rw [lT_len, List.length_take]; omega)]
theorem thL_lenT (L : List EntT) (h n : Int) : (thL L h n).length = L.length := by
  have := thM_le' L n
  unfold thL; rw [List.length_append, lT_len, List.length_take, List.length_drop]; omega
theorem thM_len {A B : List EntT} (h : A.length = B.length) (n : Int) : thM A n = thM B n := by unfold thM; rw [h]
theorem stF_th {h t n : Int} (ht : h ≤ t) (L : List EntT) : stF t (thL L h n) (thM L n) = stF t L (thM L n) := by
  unfold stF; rw [thL_take]; exact th_state ht _ _
/-- Thinned once more: nothing goes. -/
theorem cnt_kp (k : ByteArray) (f : ByteArray → Int) (l : List OpT) : cntK k (kpL f l) ≤ cntK k l := by
  unfold cntK kpL
  have := (List.filter_sublist (l := l) (p := fun o => decide (f o.1 = 0))).countP_le (p := fun o => decide (o.1 = k))
  omega
theorem fT_nn' (h : Int) (k : ByteArray) : ∀ L : List EntT, 0 ≤ fT h L k
  | [] => by simp [fT]
  | e :: r => by
    have ih := fT_nn' h k r
    have h2 := cntK_nn k e.opl
    simp only [fT]
    split <;> omega
theorem fT_lT (h : Int) (k : ByteArray) : ∀ L : List EntT, fT h (lT h L) k ≤ fT h L k
  | [] => Int.le_refl _
  | e :: r => by
    have ih := fT_lT h k r
    rw [lT]
    by_cases q : ltE h e = true
    · have := cnt_kp k (fT h r) e.opl
      rw [if_pos q, fT, fT, ltE_opl, if_pos q, if_pos q]
      show fT h (lT h r) k + cntK k (kpL (fT h r) e.opl) ≤ _
      omega
    · rw [if_neg q, fT, fT, if_neg q, if_neg q]; exact ih
theorem gT_lT (h : Int) : ∀ L : List EntT, gT h (lT h L) = 0
  | [] => rfl
  | e :: r => by
    have ih := gT_lT h r
    rw [lT]
    by_cases q : ltE h e = true
    · rw [if_pos q, gT, ltE_opl, if_pos q, ih]
      show 0 + (((kpL (fT h r) e.opl).length : Int) - ((kpL (fT h (lT h r)) (kpL (fT h r) e.opl)).length : Int)) = 0
      have : kpL (fT h (lT h r)) (kpL (fT h r) e.opl) = kpL (fT h r) e.opl := by
        refine List.filter_eq_self.2 fun o ho => ?_
        have h1 : fT h r o.1 = 0 := by simpa [kpL] using (List.mem_filter.1 ho).2
        have h2 := fT_lT h o.1 r
        have h3 := fT_nn' h o.1 (lT h r)
        exact decide_eq_true (by omega)
      rw [this]; omega
    · rw [if_neg q, gT, if_neg q]; exact ih
theorem thG_twice (L : List EntT) (h n : Int) : thG (thL L h n) h n = 0 := by
  unfold thG; rw [thM_len (thL_lenT L h n), thL_take]; exact gT_lT _ _
theorem gT_e0T {h : Int} : ∀ {A B : List EntT}, A.map e0 = B.map e0 → gT h A = gT h B ∧ fT h A = fT h B
  | [], [], _ => ⟨rfl, rfl⟩
  | [], _ :: _, h => by cases h
  | _ :: _, [], h => by cases h
  | a :: A, b :: B, q => by
    rw [List.map_cons, List.map_cons] at q
    injection q with h1 h2
    obtain ⟨i1, i2⟩ := gT_e0T (h := h) h2
    refine ⟨by rw [gT, gT, i1, i2, ltE_e0 h1, (e0_ts h1).2.2.2], ?_⟩
    funext k; rw [fT, fT, i2, ltE_e0 h1, (e0_ts h1).2.2.2]
theorem thG_e0T {A B : List EntT} (q : A.map e0 = B.map e0) (h n : Int) : thG A h n = thG B h n := by
  unfold thG; rw [thM_len (e0_len q)]; exact (gT_e0T (by rw [List.map_take, List.map_take, q])).1
/-- How many operations there are. -/
def opsN : List EntT → Int
  | [] => 0
  | e :: r => (e.opl.length : Int) + opsN r
theorem opsN_app (A B : List EntT) : opsN (A ++ B) = opsN A + opsN B := by
  induction A with
  | nil => simp [opsN]
  | cons a A ih => simp only [List.cons_append, opsN, ih]; omega
theorem opsN_snoc {L : List EntT} {i : Nat} {y : EntT} (hy : L[i]? = some y) : opsN (L.take (i + 1)) = opsN (L.take i) + y.opl.length := by rw [takeE hy, opsN_app]; simp [opsN]
theorem opsN_e0 : ∀ {A B : List EntT}, A.map e0 = B.map e0 → opsN A = opsN B
  | [], [], _ => rfl
  | [], _ :: _, h => by cases h
  | _ :: _, [], h => by cases h
  | a :: A, b :: B, q => by
    rw [List.map_cons, List.map_cons] at q
    injection q with h1 h2
    rw [opsN, opsN, opsN_e0 h2, (e0_ts h1).2.2.2]
theorem opsN_lT (h : Int) : ∀ T : List EntT, opsN T - opsN (lT h T) = gT h T
  | [] => rfl
  | e :: r => by
    have ih := opsN_lT h r
    rw [lT, gT]
    by_cases q : ltE h e = true
    · rw [if_pos q, if_pos q, opsN, opsN]
      show ((e.opl.length : Int) + opsN r) - (((kpL (fT h r) e.opl).length : Int) + opsN (lT h r)) = _
      omega
    · rw [if_neg q, if_neg q, opsN, opsN]; omega
theorem opsN_th (L : List EntT) (h n : Int) : opsN L - opsN (thL L h n) = thG L h n := by
  unfold thL thG
  rw [opsN_app, ← opsN_lT]
  have : opsN L = opsN (L.take (thM L n)) + opsN (L.drop (thM L n)) := by rw [← opsN_app, List.take_append_drop]
  omega
/-- A thinned entry has no more. -/
theorem lT_atT {h : Int} : ∀ {T : List EntT} {i : Nat} {y z : EntT}, T[i]? = some y → (lT h T)[i]? = some z → z.ts = y.ts ∧ z.client = y.client ∧ z.req = y.req ∧ z.opl.length ≤ y.opl.length
  | [], i, y, z, h1, _ => by simp at h1
  | e :: r, 0, y, z, h1, h2 => by
    rw [lT] at h2
    simp only [List.getElem?_cons_zero, Option.some.injEq] at h1 h2
    subst h1; subst h2
    split
    · exact ⟨rfl, rfl, rfl, kpL_le _ _⟩
    · exact ⟨rfl, rfl, rfl, Nat.le_refl _⟩
  | e :: r, i + 1, y, z, h1, h2 => by
    rw [lT] at h2
    rw [List.getElem?_cons_succ] at h1 h2
    exact lT_atT h1 h2
theorem thL_at {L : List EntT} {h n : Int} {i : Nat} {y z : EntT} (h1 : L[i]? = some y) (h2 : (thL L h n)[i]? = some z) : z.ts = y.ts ∧ z.client = y.client ∧ z.req = y.req ∧ z.opl.length ≤ y.opl.length := by
  unfold thL at h2
  have hM := thM_le' L n
  have hl : (lT h (L.take (thM L n))).length = thM L n := by rw [lT_len, List.length_take]; omega
  by_cases q : i < thM L n
  · rw [List.getElem?_append_left (by omega)] at h2
    exact lT_atT (by rw [List.getElem?_take, if_pos q]; exact h1) h2
  · rw [List.getElem?_append_right (by omega), hl, List.getElem?_drop, show thM L n + (i - thM L n) = i from by omega, h1] at h2
    cases h2; exact ⟨rfl, rfl, rfl, Nat.le_refl _⟩
theorem th_at {L A B : List EntT} {h n : Int} {i : Nat} {y z : EntT} (hA : A.map e0 = L.map e0) (hB : B.map e0 = (thL L h n).map e0) (hy : A[i]? = some y) (hz : B[i]? = some z) : z.ts = y.ts ∧ z.client = y.client ∧ z.req = y.req ∧ z.opl.length ≤ y.opl.length := by
  obtain ⟨y', k1, k2⟩ := e0_at hA hy
  obtain ⟨z', k3, k4⟩ := e0_at hB hz
  obtain ⟨a1, a2, a3, a4⟩ := e0_ts k2
  obtain ⟨b1, b2, b3, b4⟩ := e0_ts k4
  have := thL_at k1 k3
  rw [← a1, ← a2, ← a3, ← a4, ← b1, ← b2, ← b3, ← b4]; exact this
end Go.Proofs.Ytniojcnkjehflaa

/- catenalaw17: state; SamePairs of what is the same. Conditions: at most 4 operations an entry. -/
namespace Go.Proofs.Ytniojcnkjehflaa
open Go.RowKit Go.PlainAid
set_option linter.unusedVariables false
set_option linter.unusedSimpArgs false


theorem thM_at {L : List EntT} {n : Int} {i : Nat} (h1 : i ≤ L.length) (h2 : (i : Int) ≤ n) (h3 : L.length ≤ i ∨ n ≤ i) : thM L n = i := by
  unfold thM; split
  · omega
  · split <;> omega
theorem eq_prT (a b d e : ByteArray) (w : World) : (binOp .eql 78 (.agg #[.string a, .string b]) (.agg #[.string d, .string e])).run Try.prog w = .ok (.bool (a.toList == d.toList && b.toList == e.toList)) w := by
  have u := Try.underlying9
  have hS : Try.prog.underlying 78 = some (.struct (Try.prog.fieldsOf 78)) := by kernel_rfl
  have hp : Try.prog.stoodInHeld 78 = false := by kernel_rfl
  have hf : (Try.prog.fieldsOf 78).toList.map (fun f => (f.offset, f.type)) = [(0, 9), (1, 9)] := by kernel_rfl
  rw [run_eql_struct, show (10000 : Nat) = 9999 + 1 from rfl, run_equalIn_agg w 9999 78 _ _ hS hp]
  simp only [Program.fieldsOf, Try.underlying78]
  go_simp
  by_cases h1 : a.toList = d.toList <;> by_cases h2 : b.toList = e.toList <;> simp [h1, h2]

set_option maxRecDepth 100000 in
theorem state17_any (v : Value) (l : List EntT) (n : Int) (t : Int) (w : World) (hs : SliceOf entE 4 w v l) (hok : ∀ z ∈ l, EntOk w z) (hl4 : ∀ z ∈ l, z.opl.length ≤ 4) (hlen : l.length ≤ 100) (ht : 0 ≤ t ∧ t < 18446744073709551616) (hn : 0 ≤ n ∧ n ≤ 255) :
    Calls Try.prog 14 #[v, .int .i64 n, .int .u64 t] w fun e w' => ∃ (ys : List ValT) (u : Value), e = .returned (u) ∧ w'.ownsRow w.heap.size 78 2 u ys.length (ys.flatMap valE) ∧ SetG (fun y : ValT => y.1) (stF t l (thM l n)) ys ∧ Below w.heap.size w w' := by
 have hB0 := Below.refl w.heap.size w
 have hl_hs := sl_len hs
 refine co_enter (n := 44) Try.func14 rfl rfl rfl [(0, v), (1, .int .i64 n), (2, .int .u64 t)] rfl (fun a h0 => ?_)
 refine co_seq ?_
 refine co_reg ?_
 refine pk0 (v := .slice none 0 0) h0 rfl fun a1 h1 => ?_; clear h0
 refine pl_nil ?_
 refine co_then ?_
 refine co_seq ?_
 refine co_reg ?_
 refine pk0 (v := .slice none 0 0) h1 rfl fun a2 h2 => ?_; clear h1
 refine pl_nil ?_
 refine co_then ?_
 refine co_seq ?_
 refine co_seq ?_
 refine co_reg ?_
 refine pk0 (v := .int .i64 0) h2 rfl fun a3 h3 => ?_; clear h2
 refine pl_nil ?_
 refine co_then ?_
 refine wp_block ?_
 have h4 : Slots 44 [(0, v), (1, .int .i64 n), (2, .int .u64 t), (7, .slice none 0 0), (8, .int .i64 0)] _ := h3.sub ⟨rfl, rfl, rfl, rfl, rfl, trivial⟩; clear h3
 refine co_loop (fun mm a x => ∃ (i : Nat) (u2 : Value) (P : List ValT), Slots 44 [(0, v), (1, .int .i64 n), (2, .int .u64 t), (7, u2), (8, .int .i64 ((i : Nat) : Int))] a ∧ mm = l.length - i ∧ (i ≤ l.length) ∧ ((i : Int) ≤ n) ∧ (P.length ≤ 4 * i) ∧ (SetG (fun y : ValT => y.1) (stF t l i) P) ∧ x.ownsRow w.heap.size 78 2 u2 P.length (P.flatMap valE) ∧ Below w.heap.size w x) (l.length - 0) ?_ ?_
 · exact ⟨0, (.slice none 0 0), [], h4.sub ⟨rfl, rfl, rfl, rfl, (slot_eq rfl (congrArg (Value.int .i64) (by first | rfl | omega))), trivial⟩, rfl, by omega, by omega, by first | exact Nat.zero_le _ | omega, by first | exact st_0 _ _ | exact hP9, (row_nilL _ _ _ _ _), hB0⟩
 · rintro k5 a6 w7 ⟨i, u2, P, h6, rfl, hi8, hi9, hi10, hi11, hf12, hB13⟩
   have hz14 := hB13.size
   refine co_seq ?_
   refine co_seq ?_
   refine co_reg ?_
   refine pk0 (v := .int .i64 ((i : Nat) : Int)) h6 rfl fun a15 h15 => ?_; clear h6
   refine pk0 (v := v) h15 rfl fun a16 h16 => ?_; clear h15
   refine pk (v := .int .i64 ((l.length : Nat) : Int)) h16 rfl (rn_len rfl rfl Try.underlying29 (hs.below hB13)) fun a17 h17 => ?_; clear h16
   refine pk0 (v := .bool (decide (((i : Nat) : Int) < ((l.length : Nat) : Int)))) h17 rfl fun a18 h18 => ?_; clear h17
   refine pk0 (v := .bool (decide (((i : Nat) : Int) < ((l.length : Nat) : Int)))) h18 rfl fun a19 h19 => ?_; clear h18
   cases hc20 : (decide (((i : Nat) : Int) < ((l.length : Nat) : Int)))
   ·
    rw [hc20] at h19
    have hp21 : ¬ (((i : Nat) : Int) < ((l.length : Nat) : Int)) := of_decide_eq_false hc20
    clear hc20
    refine psk h19 rfl fun a22 h22 => ?_; clear h19
    refine psk h22 rfl fun a23 h23 => ?_; clear h22
    refine psk h23 rfl fun a24 h24 => ?_; clear h23
    refine pk0 (v := .bool false) h24 rfl fun a25 h25 => ?_; clear h24
    refine pl_nil ?_
    refine co_then ?_
    refine co_false h25 rfl ?_
    refine wp_exit ?_
    refine co_thenX ?_
    refine co_thenX ?_
    refine co_blockX ?_
    refine co_then ?_
    refine co_seq ?_
    refine co_reg ?_
    refine pk0 (v := u2) h25 rfl fun a26 h26 => ?_; clear h25
    refine pk0 (v := u2) h26 rfl fun a27 h27 => ?_; clear h26
    refine pl_nil ?_
    refine co_then ?_
    refine wp_ret ?_
    refine co_ret1 h27 rfl rfl ?_
    have hM9 : thM l n = i := thM_at (by omega) (by omega) (by omega)
    exact ⟨_, _, rfl, (row_lows hf12 (by omega)), by rw [hM9]; assumption, hB13⟩
   ·
    rw [hc20] at h19
    have hp28 : ((i : Nat) : Int) < ((l.length : Nat) : Int) := of_decide_eq_true hc20
    clear hc20
    refine pk0 (v := .int .i64 ((i : Nat) : Int)) h19 rfl fun a29 h29 => ?_; clear h19
    refine pk0 (v := .int .i64 n) h29 rfl fun a30 h30 => ?_; clear h29
    refine pk0 (v := .bool (decide (((i : Nat) : Int) < n))) h30 rfl fun a31 h31 => ?_; clear h30
    refine pk0 (v := .bool (decide (((i : Nat) : Int) < n))) h31 rfl fun a32 h32 => ?_; clear h31
    refine pl_nil ?_
    refine co_then ?_
    cases hc33 : (decide (((i : Nat) : Int) < n))
    ·
     rw [hc33] at h32
     have hp34 : ¬ (((i : Nat) : Int) < n) := of_decide_eq_false hc33
     clear hc33
     refine co_false h32 rfl ?_
     refine wp_exit ?_
     refine co_thenX ?_
     refine co_thenX ?_
     refine co_blockX ?_
     refine co_then ?_
     refine co_seq ?_
     refine co_reg ?_
     refine pk0 (v := u2) h32 rfl fun a35 h35 => ?_; clear h32
     refine pk0 (v := u2) h35 rfl fun a36 h36 => ?_; clear h35
     refine pl_nil ?_
     refine co_then ?_
     refine wp_ret ?_
     refine co_ret1 h36 rfl rfl ?_
     have hM9 : thM l n = i := thM_at (by omega) (by omega) (by omega)
     exact ⟨_, _, rfl, (row_lows hf12 (by omega)), by rw [hM9]; assumption, hB13⟩
    ·
     rw [hc33] at h32
     have hp37 : ((i : Nat) : Int) < n := of_decide_eq_true hc33
     clear hc33
     refine co_true h32 rfl ?_
     refine wp_skip ?_
     refine co_then ?_
     refine co_seq ?_
     refine wp_block ?_
     refine co_seq ?_
     refine co_reg ?_
     refine pk0 (v := v) h32 rfl fun a38 h38 => ?_; clear h32
     refine pk0 (v := .int .i64 ((i : Nat) : Int)) h38 rfl fun a39 h39 => ?_; clear h38
     obtain ⟨y40, hy40⟩ : ∃ z, l[i]? = some z := ⟨_, List.getElem?_eq_getElem (by first | omega | (simp; done) | (simp; omega))⟩
     have oky40 := hok _ (List.mem_of_getElem? hy40)
     have k41 : 0 ≤ y40.ts := oky40.ts0
     have k42 : y40.ts < 18446744073709551616 := oky40.ts1
     have h4y40 := hl4 y40 (List.mem_of_getElem? hy40)
     refine pk (v := pt (blkOf v) (offOf v + i * 4)) h39 rfl (rn_index rfl rfl rfl Try.underlying29 Try.sizeOf37 (hs.below hB13) (by omega) (by first | omega | (simp; done) | (simp; omega))) fun a43 h43 => ?_; clear h39
     refine pk0 (v := pt (blkOf v) (offOf v + i * 4 + 3)) h43 rfl fun a44 h44 => ?_; clear h43
     refine pk (v := .int .u64 y40.ts) h44 rfl (rn_load1 rfl rfl Try.isAgg23 ((sl_at (hs.below hB13) hy40) 3 _ rfl)) fun a45 h45 => ?_; clear h44
     refine pk0 (v := .bool (y40.ts != 0)) h45 rfl fun a46 h46 => ?_; clear h45
     refine pk0 (v := .bool (y40.ts != 0)) h46 rfl fun a47 h47 => ?_; clear h46
     cases hc48 : (y40.ts != 0)
     ·
      rw [hc48] at h47
      have hp49 : ¬ (y40.ts ≠ 0) := by first | simpa using hc48 | simpa [and_assoc] using hc48
      clear hc48
      refine psk h47 rfl fun a50 h50 => ?_; clear h47
      refine psk h50 rfl fun a51 h51 => ?_; clear h50
      refine psk h51 rfl fun a52 h52 => ?_; clear h51
      refine psk h52 rfl fun a53 h53 => ?_; clear h52
      refine psk h53 rfl fun a54 h54 => ?_; clear h53
      refine psk h54 rfl fun a55 h55 => ?_; clear h54
      refine psk h55 rfl fun a56 h56 => ?_; clear h55
      refine pk0 (v := .bool false) h56 rfl fun a57 h57 => ?_; clear h56
      refine pl_nil ?_
      refine co_then ?_
      refine co_false h57 rfl ?_
      refine wp_skip ?_
      refine co_blockN ?_
      refine co_then ?_
      refine co_reg ?_
      refine pk0 (v := .int .i64 ((i : Nat) : Int)) h57 rfl fun a58 h58 => ?_; clear h57
      refine pk (v := .int .i64 ((i + 1 : Nat) : Int)) h58 rfl (rn_arith' rfl rfl rfl rfl rfl rfl (IntWalk.i64_in _ (by omega)) (by omega)) fun a59 h59 => ?_; clear h58
      refine pk0 (v := .int .i64 ((i + 1 : Nat) : Int)) h59 rfl fun a60 h60 => ?_; clear h59
      refine pl_nil ?_
      refine co_then ?_
      refine ⟨(l.length - (i + 1)), by omega, ?_⟩
      have hP9 := st_stay (by assumption : SetG (fun y : ValT => y.1) (stF t l i) P) hy40 (ltE_f (by omega))
      exact ⟨i + 1, u2, P, h60.sub ⟨rfl, rfl, rfl, rfl, rfl, trivial⟩, rfl, by omega, by omega, by first | exact Nat.zero_le _ | omega, by first | exact st_0 _ _ | exact hP9, (row_eq hf12 (rfl)), hB13⟩
     ·
      rw [hc48] at h47
      have hp61 : y40.ts ≠ 0 := by first | simpa using hc48 | simpa [and_assoc] using hc48
      clear hc48
      refine pk0 (v := v) h47 rfl fun a62 h62 => ?_; clear h47
      refine pk0 (v := .int .i64 ((i : Nat) : Int)) h62 rfl fun a63 h63 => ?_; clear h62
      refine pk (v := pt (blkOf v) (offOf v + i * 4)) h63 rfl (rn_index rfl rfl rfl Try.underlying29 Try.sizeOf37 (hs.below hB13) (by omega) (by first | omega | (simp; done) | (simp; omega))) fun a64 h64 => ?_; clear h63
      refine pk0 (v := pt (blkOf v) (offOf v + i * 4 + 3)) h64 rfl fun a65 h65 => ?_; clear h64
      refine pk (v := .int .u64 y40.ts) h65 rfl (rn_load1 rfl rfl Try.isAgg23 ((sl_at (hs.below hB13) hy40) 3 _ rfl)) fun a66 h66 => ?_; clear h65
      refine pk0 (v := .int .u64 t) h66 rfl fun a67 h67 => ?_; clear h66
      refine pk0 (v := .bool (decide (y40.ts ≤ t))) h67 rfl fun a68 h68 => ?_; clear h67
      refine pk0 (v := .bool (decide (y40.ts ≤ t))) h68 rfl fun a69 h69 => ?_; clear h68
      refine pl_nil ?_
      refine co_then ?_
      cases hc70 : (decide (y40.ts ≤ t))
      ·
       rw [hc70] at h69
       have hp71 : ¬ (y40.ts ≤ t) := of_decide_eq_false hc70
       clear hc70
       refine co_false h69 rfl ?_
       refine wp_skip ?_
       refine co_blockN ?_
       refine co_then ?_
       refine co_reg ?_
       refine pk0 (v := .int .i64 ((i : Nat) : Int)) h69 rfl fun a72 h72 => ?_; clear h69
       refine pk (v := .int .i64 ((i + 1 : Nat) : Int)) h72 rfl (rn_arith' rfl rfl rfl rfl rfl rfl (IntWalk.i64_in _ (by omega)) (by omega)) fun a73 h73 => ?_; clear h72
       refine pk0 (v := .int .i64 ((i + 1 : Nat) : Int)) h73 rfl fun a74 h74 => ?_; clear h73
       refine pl_nil ?_
       refine co_then ?_
       refine ⟨(l.length - (i + 1)), by omega, ?_⟩
       have hP9 := st_stay (by assumption : SetG (fun y : ValT => y.1) (stF t l i) P) hy40 (ltE_f (by omega))
       exact ⟨i + 1, u2, P, h74.sub ⟨rfl, rfl, rfl, rfl, rfl, trivial⟩, rfl, by omega, by omega, by first | exact Nat.zero_le _ | omega, by first | exact st_0 _ _ | exact hP9, (row_eq hf12 (rfl)), hB13⟩
      ·
       rw [hc70] at h69
       have hp75 : y40.ts ≤ t := of_decide_eq_true hc70
       clear hc70
       refine co_true h69 rfl ?_
       refine co_reg ?_
       refine pk0 (v := u2) h69 rfl fun a76 h76 => ?_; clear h69
       refine pk0 (v := v) h76 rfl fun a77 h77 => ?_; clear h76
       refine pk0 (v := .int .i64 ((i : Nat) : Int)) h77 rfl fun a78 h78 => ?_; clear h77
       refine pk (v := pt (blkOf v) (offOf v + i * 4)) h78 rfl (rn_index rfl rfl rfl Try.underlying29 Try.sizeOf37 (hs.below hB13) (by omega) (by first | omega | (simp; done) | (simp; omega))) fun a79 h79 => ?_; clear h78
       refine pk0 (v := pt (blkOf v) (offOf v + i * 4)) h79 rfl fun a80 h80 => ?_; clear h79
       refine pk0 (v := pt (blkOf v) (offOf v + i * 4 + 2)) h80 rfl fun a81 h81 => ?_; clear h80
       refine pk (v := y40.ops) h81 rfl (rn_load1 rfl rfl Try.isAgg33 ((sl_at (hs.below hB13) hy40) 2 _ rfl)) fun a82 h82 => ?_; clear h81
       refine pw h82 rfl (op_call (args := #[u2, y40.ops]) (R := fun res xw => ∃ ys : List ValT, ∃ u : Value, res = u ∧ xw.ownsRow w7.heap.size 78 2 u ys.length (ys.flatMap valE) ∧ SetG (fun y : ValT => y.1) (ovG P y40.opl) ys ∧ ys.length ≤ P.length + y40.opl.length ∧ Below w7.heap.size w7 xw) rfl rfl rfl (by kernel_rfl) (by kernel_rfl) (Try.call42 _ _) (ropsOver_any u2 P y40.ops y40.opl w7 (row_sl hf12 valE_len) (oky40.ops.below hB13) (by first | omega | (simp; done) | (simp; omega))) (by rintro e x ⟨ys, u, rfl, hq87, hq88, hq89, hb90⟩; exact ⟨_, rfl, ⟨ys, u, rfl, hq87, hq88, hq89, hb90⟩⟩)) ?_; clear h82
       rintro u86 w84 a83 ⟨ys85, _, rfl, hq87, hq88, hq89, hb90⟩ h83
       have hz91 := hb90.size
       have hl92 := sl_len (row_sl hq87 valE_len)
       refine pk0 (v := u86) h83 rfl fun a93 h93 => ?_; clear h83
       refine pl_nil ?_
       refine co_blockN ?_
       refine co_then ?_
       refine co_reg ?_
       refine pk0 (v := .int .i64 ((i : Nat) : Int)) h93 rfl fun a94 h94 => ?_; clear h93
       refine pk (v := .int .i64 ((i + 1 : Nat) : Int)) h94 rfl (rn_arith' rfl rfl rfl rfl rfl rfl (IntWalk.i64_in _ (by omega)) (by omega)) fun a95 h95 => ?_; clear h94
       refine pk0 (v := .int .i64 ((i + 1 : Nat) : Int)) h95 rfl fun a96 h96 => ?_; clear h95
       refine pl_nil ?_
       refine co_then ?_
       refine ⟨(l.length - (i + 1)), by omega, ?_⟩
       have hP9 := st_over (by assumption : SetG (fun y : ValT => y.1) (stF t l i) P) hy40 (ltE_t (by omega) (by omega)) hq88
       have hB97 := hb_call hB13 hb90
       exact ⟨i + 1, u86, ys85, h96.sub ⟨rfl, rfl, rfl, rfl, rfl, trivial⟩, rfl, by omega, by omega, by first | exact Nat.zero_le _ | omega, by first | exact st_0 _ _ | exact hP9, (row_eq (row_lows hq87 (by omega)) (rfl)), hB97⟩
set_option maxRecDepth 100000 in
theorem samePairsV_any (v : Value) (l : List ValT) (v2 : Value) (w : World) (hs : SliceOf valE 2 w v l) (hs2 : SliceOf valE 2 w v2 l) :
    Calls Try.prog 13 #[v, v2] w fun e w' => e = .returned (.bool true) ∧ Below w.heap.size w w' := by
 have hB0 := Below.refl w.heap.size w
 have hl_hs := sl_len hs
 have hl_hs2 := sl_len hs2
 refine co_enter (n := 32) Try.func13 rfl rfl rfl [(0, v), (1, v2)] rfl (fun a h0 => ?_)
 refine co_seq ?_
 refine co_reg ?_
 refine pk0 (v := .bool false) h0 rfl fun a1 h1 => ?_; clear h0
 refine pl_nil ?_
 refine co_then ?_
 refine co_seq ?_
 refine co_seq ?_
 refine co_reg ?_
 refine pk0 (v := v) h1 rfl fun a2 h2 => ?_; clear h1
 refine pk (v := .int .i64 ((l.length : Nat) : Int)) h2 rfl (rn_len rfl rfl Try.underlying44 hs) fun a3 h3 => ?_; clear h2
 refine pk0 (v := v2) h3 rfl fun a4 h4 => ?_; clear h3
 refine pk (v := .int .i64 ((l.length : Nat) : Int)) h4 rfl (rn_len rfl rfl Try.underlying44 hs2) fun a5 h5 => ?_; clear h4
 refine pk0 (v := .bool (((l.length : Nat) : Int) != ((l.length : Nat) : Int))) h5 rfl fun a6 h6 => ?_; clear h5
 refine pl_nil ?_
 refine co_then ?_
 have hc7 : (((l.length : Nat) : Int) != ((l.length : Nat) : Int)) = false := by first | (simp; done) | (simp; omega) | exact beq_false_of_ne (by omega) | exact beq_iff_eq.2 (by omega)
 rw [hc7] at h6; clear hc7
 refine co_false h6 rfl ?_
 refine wp_skip ?_
 refine co_then ?_
 refine co_seq ?_
 refine co_seq ?_
 refine co_reg ?_
 refine pk0 (v := .int .i64 0) h6 rfl fun a8 h8 => ?_; clear h6
 refine pl_nil ?_
 refine co_then ?_
 refine wp_block ?_
 have h9 : Slots 32 [(0, v), (1, v2), (5, .int .i64 0)] _ := h8.sub ⟨rfl, rfl, rfl, trivial⟩; clear h8
 refine co_loop (fun mm a x => ∃ (i : Nat), Slots 32 [(0, v), (1, v2), (5, .int .i64 ((i : Nat) : Int))] a ∧ mm = l.length - i ∧ (i ≤ l.length) ∧ Below w.heap.size w x) (l.length - 0) ?_ ?_
 · exact ⟨0, h9.sub ⟨rfl, rfl, (slot_eq rfl (congrArg (Value.int .i64) (by first | rfl | omega))), trivial⟩, rfl, by omega, hB0⟩
 · rintro k10 a11 w12 ⟨i, h11, rfl, hi13, hB14⟩
   have hz15 := hB14.size
   refine co_seq ?_
   refine co_seq ?_
   refine co_reg ?_
   refine pk0 (v := .int .i64 ((i : Nat) : Int)) h11 rfl fun a16 h16 => ?_; clear h11
   refine pk0 (v := v) h16 rfl fun a17 h17 => ?_; clear h16
   refine pk (v := .int .i64 ((l.length : Nat) : Int)) h17 rfl (rn_len rfl rfl Try.underlying44 (hs.below hB14)) fun a18 h18 => ?_; clear h17
   refine pk0 (v := .bool (decide (((i : Nat) : Int) < ((l.length : Nat) : Int)))) h18 rfl fun a19 h19 => ?_; clear h18
   refine pk0 (v := .bool (decide (((i : Nat) : Int) < ((l.length : Nat) : Int)))) h19 rfl fun a20 h20 => ?_; clear h19
   cases hc21 : (decide (((i : Nat) : Int) < ((l.length : Nat) : Int)))
   ·
    rw [hc21] at h20
    have hp22 : ¬ (((i : Nat) : Int) < ((l.length : Nat) : Int)) := of_decide_eq_false hc21
    clear hc21
    refine psk h20 rfl fun a23 h23 => ?_; clear h20
    refine psk h23 rfl fun a24 h24 => ?_; clear h23
    refine psk h24 rfl fun a25 h25 => ?_; clear h24
    refine psk h25 rfl fun a26 h26 => ?_; clear h25
    refine pk0 (v := .bool false) h26 rfl fun a27 h27 => ?_; clear h26
    refine pl_nil ?_
    refine co_then ?_
    refine co_false h27 rfl ?_
    refine wp_exit ?_
    refine co_thenX ?_
    refine co_thenX ?_
    refine co_blockX ?_
    refine co_then ?_
    refine co_seq ?_
    refine co_reg ?_
    refine pk0 (v := .bool true) h27 rfl fun a28 h28 => ?_; clear h27
    refine pl_nil ?_
    refine co_then ?_
    refine wp_ret ?_
    refine co_ret1 h28 rfl rfl ?_
    exact ⟨rfl, hB14⟩
   ·
    rw [hc21] at h20
    have hp29 : ((i : Nat) : Int) < ((l.length : Nat) : Int) := of_decide_eq_true hc21
    clear hc21
    refine pk0 (v := .int .i64 ((i : Nat) : Int)) h20 rfl fun a30 h30 => ?_; clear h20
    refine pk0 (v := v2) h30 rfl fun a31 h31 => ?_; clear h30
    refine pk (v := .int .i64 ((l.length : Nat) : Int)) h31 rfl (rn_len rfl rfl Try.underlying44 (hs2.below hB14)) fun a32 h32 => ?_; clear h31
    refine pk0 (v := .bool (decide (((i : Nat) : Int) < ((l.length : Nat) : Int)))) h32 rfl fun a33 h33 => ?_; clear h32
    refine pk0 (v := .bool (decide (((i : Nat) : Int) < ((l.length : Nat) : Int)))) h33 rfl fun a34 h34 => ?_; clear h33
    refine pl_nil ?_
    refine co_then ?_
    have hc35 : (decide (((i : Nat) : Int) < ((l.length : Nat) : Int))) = true := decide_eq_true (by omega)
    rw [hc35] at h34; clear hc35
    refine co_true h34 rfl ?_
    refine wp_skip ?_
    refine co_then ?_
    refine co_seq ?_
    refine wp_block ?_
    refine co_seq ?_
    refine dr_eq (by kernel_rfl) (fun w36 hg37 => ?_)
    have hz38 := hg37.size
    refine dk0 0 (v := v) h34 rfl rfl rfl fun a39 h39 => ?_; clear h34
    refine dk0 1 (v := .int .i64 ((i : Nat) : Int)) h39 rfl rfl rfl fun a40 h40 => ?_; clear h39
    have hB42 := hb_new hB14 hg37
    obtain ⟨y41, hy41⟩ : ∃ z, l[i]? = some z := ⟨_, List.getElem?_eq_getElem (by first | omega | (simp; done) | (simp; omega))⟩
    refine dk 2 (v := pt (blkOf v) (offOf v + i * 2)) h40 rfl rfl rfl (fun x hx => by subst hx; exact (rn_index rfl rfl rfl Try.underlying44 Try.sizeOf78 (hs.below hB42) (by omega) (by first | omega | (simp; done) | (simp; omega)))) fun a43 h43 => ?_; clear h40
    refine dk 3 (v := .agg #[.string y41.1, .string y41.2]) h43 rfl rfl rfl (fun x hx => by subst hx; exact (rn_loadN rfl rfl Try.underlying78 rfl (by kernel_rfl) (sl_at (hs.below hB42) hy41))) fun a44 h44 => ?_; clear h43
    refine dk0 4 (v := v2) h44 rfl rfl rfl fun a45 h45 => ?_; clear h44
    refine dk0 5 (v := .int .i64 ((i : Nat) : Int)) h45 rfl rfl rfl fun a46 h46 => ?_; clear h45
    refine dk 6 (v := pt (blkOf v2) (offOf v2 + i * 2)) h46 rfl rfl rfl (fun x hx => by subst hx; exact (rn_index rfl rfl rfl Try.underlying44 Try.sizeOf78 (hs2.below hB42) (by omega) (by first | omega | (simp; done) | (simp; omega)))) fun a47 h47 => ?_; clear h46
    refine dk 7 (v := .agg #[.string y41.1, .string y41.2]) h47 rfl rfl rfl (fun x hx => by subst hx; exact (rn_loadN rfl rfl Try.underlying78 rfl (by kernel_rfl) (sl_at (hs2.below hB42) hy41))) fun a48 h48 => ?_; clear h47
    refine dk 8 (v := .bool (!(y41.1.toList == y41.1.toList && y41.2.toList == y41.2.toList))) h48 rfl rfl rfl (fun x hx => by subst hx; exact (rn_neS rfl rfl rfl Try.eqGuardType78 (eq_prT _ _ _ _ _))) fun a49 h49 => ?_; clear h48
    refine dr_done (by kernel_rfl) ?_
    refine co_then ?_
    have hc50 : (!(y41.1.toList == y41.1.toList && y41.2.toList == y41.2.toList)) = false := by simp
    rw [hc50] at h49; clear hc50
    refine co_false h49 rfl ?_
    refine wp_skip ?_
    refine co_blockN ?_
    refine co_then ?_
    refine co_reg ?_
    refine pk0 (v := .int .i64 ((i : Nat) : Int)) h49 rfl fun a51 h51 => ?_; clear h49
    refine pk (v := .int .i64 ((i + 1 : Nat) : Int)) h51 rfl (rn_arith' rfl rfl rfl rfl rfl rfl (IntWalk.i64_in _ (by omega)) (by omega)) fun a52 h52 => ?_; clear h51
    refine pk0 (v := .int .i64 ((i + 1 : Nat) : Int)) h52 rfl fun a53 h53 => ?_; clear h52
    refine pl_nil ?_
    refine co_then ?_
    refine ⟨(l.length - (i + 1)), by omega, ?_⟩
    exact ⟨i + 1, h53.sub ⟨rfl, rfl, rfl, trivial⟩, rfl, by omega, hB42⟩
end Go.Proofs.Ytniojcnkjehflaa

/- catenalaw17.step: both logs go on alike. Conditions: at most 20 operations. -/
namespace Go.Proofs.Ytniojcnkjehflaa
open Go.RowKit Go.PlainAid
set_option linter.unusedVariables false


/-- The document's log as one object. -/
def RObj (D : Nat → Prop) (w : World) (d : Nat) (u : Value) (X : List EntT) : Prop := (∀ q, D q → q < w.heap.size) ∧ RgP D w.heap.size w d u X
section
variable {S S' D A : Nat → Prop} {n : Nat} {w x : World} {b d : Nat} {u v : Value} {L X : List EntT}
theorem LObj.ofS (h : LObj S w b L) : ∀ q, S q → q < w.heap.size := fun q hq => (h.1 q hq).1
theorem LObj.butA (h : LObj S w b L) (hb : But D w x) (hd : ∀ q, S q → D q → False) : LObj S x b L := h.but hd hb
theorem RgP.fin (h : RgP S n w d u X) : RObj (fun q => (S q ∨ n ≤ q) ∧ q < w.heap.size) w d u X := by
  refine ⟨fun q hq => hq.2, h.blk, h.row, fun e he => ?_, .inl ⟨h.sb, h.blk.lt⟩, fun i hi => .inl ⟨h.su i hi, (h.row.lt i hi).2⟩, h.len⟩
  have k := h.ents e he
  exact ⟨k.row, fun i hi => .inl ⟨k.ins i hi, (k.row.lt i hi).2⟩, k.len, k.each, k.ts0, k.ts1, k.cl, k.rq⟩
theorem Grew.fin (h : But S w x) : Grew S (fun q => (S q ∨ w.heap.size ≤ q) ∧ q < x.heap.size) w x := ⟨fun q hq => hq.1, h⟩
theorem RObj.ofS (h : RObj D w d u X) : ∀ q, D q → q < w.heap.size := h.1
theorem RObj.keep (h : RObj D w d u X) (hs : w.heap.size ≤ x.heap.size) (hk : ∀ q, D q → x.heap[q]? = w.heap[q]?) : RObj D x d u X := by
  obtain ⟨hS, h⟩ := h
  have hb : D d := by
    rcases h.sb with q | q
    · exact q
    · have := h.blk.lt; omega
  have up : ∀ {v : Value}, (∀ i, v.ownBlock = some i → D i) → InS D x.heap.size v := fun hv i hi => .inl (hv i hi)
  refine ⟨fun q hq => by have := hS q hq; omega, ?_, row_sameL h.row (fun i hi => hk i (ins_in h.su h.row i hi)), fun e he => ?_, .inl hb, up (ins_in h.su h.row), h.len⟩
  · have hB := h.blk
    unfold Blk at hB ⊢
    rw [hk d hb]; exact hB
  · have k := h.ents e he
    exact ⟨row_sameL k.row (fun i hi => hk i (ins_in k.ins k.row i hi)), up (ins_in k.ins k.row), k.len, k.each, k.ts0, k.ts1, k.cl, k.rq⟩
theorem RObj.gr {row : Option Nat} (h : RObj D w d u X) (hg : w.grownBy x row) (hr : ∀ k, row = some k → ¬ D k) : RObj D x d u X := h.keep hg.size fun k hk => hg.block k (h.1 k hk) (fun e => hr k e.symm hk)
theorem RObj.but (h : RObj D w d u X) (hb : But S w x) (hd : ∀ q, D q → S q → False) : RObj D x d u X := h.keep hb.size fun k hk => hb.block k (h.1 k hk) (fun q => hd k hk q)
/-- Both logs, which have the same, and are right. -/
def TwoP (S : Nat → Prop) (w : World) (b d : Nat) (u : Value) (L X : List EntT) : Prop :=
  ∃ A D, LObj A w b L ∧ RObj D w d u X ∧ (∀ q, A q → D q → False) ∧ (∀ q, S q ↔ (A q ∨ D q)) ∧ L.map e0 = X.map e0 ∧ RI L
theorem TwoP.ofS (h : TwoP S w b d u L X) : ∀ q, S q → q < w.heap.size := fun q hq => by
  obtain ⟨A, D, h1, h2, _, h4, _⟩ := h
  rcases (h4 q).1 hq with k | k
  · exact h1.ofS q k
  · exact h2.ofS q k
theorem TwoP.gr {row : Option Nat} (h : TwoP S w b d u L X) (hg : w.grownBy x row) (hr : ∀ k, row = some k → ¬ S k) : TwoP S x b d u L X := by
  obtain ⟨A, D, h1, h2, h3, h4, h5⟩ := h
  exact ⟨A, D, h1.gr hg (fun k e q => hr k e ((h4 k).2 (.inl q))), h2.gr hg (fun k e q => hr k e ((h4 k).2 (.inr q))), h3, h4, h5⟩
theorem TwoP.but (h : TwoP S w b d u L X) (hb : But A w x) (hd : ∀ q, S q → A q → False) : TwoP S x b d u L X := by
  obtain ⟨A', D, h1, h2, h3, h4, h5⟩ := h
  exact ⟨A', D, h1.but (fun q k => hd q ((h4 q).2 (.inl k))) hb, h2.but hb (fun q k => hd q ((h4 q).2 (.inr k))), h3, h4, h5⟩
theorem TwoP.eq (h : TwoP S w b d u L X) : L.map e0 = X.map e0 := by obtain ⟨_, _, _, _, _, _, h5, _⟩ := h; exact h5
theorem TwoP.ri (h : TwoP S w b d u L X) : RI L := by obtain ⟨_, _, _, _, _, _, _, h5⟩ := h; exact h5
theorem TwoP.blk (h : TwoP S w b d u L X) : Blk w d 31 #[u] := by obtain ⟨_, _, _, h2, _⟩ := h; exact h2.2.blk
theorem TwoP.row (h : TwoP S w b d u L X) : w.ownsRow 0 37 4 u X.length (X.flatMap entE) := by obtain ⟨_, _, _, h2, _⟩ := h; exact h2.2.row
theorem TwoP.len (h : TwoP S w b d u L X) : L.length ≤ 100 := by obtain ⟨_, _, ⟨_, _, _, h1⟩, _⟩ := h; exact h1.len
theorem TwoP.lenE (h : TwoP S w b d u L X) : X.length = L.length := (e0_len h.eq).symm
end
theorem uSet {D : Nat → Prop} {d : Nat} {u : Value} {X : List EntT} (w : World) (i c r : Int) (v : Value) (l : List OpT) (ts : Int) (h : RObj D w d u X) (hs : SliceOf opE 3 w v l) (hvS : l ≠ [] → ∀ k, v.ownBlock = some k → ¬ D k) (hlen : l.length ≤ 20) (hts : 0 ≤ ts ∧ ts < 18446744073709551616) (hen : (∀ o ∈ l, opOk o) ∧ (Lit.int .i64 c).wf = true ∧ (Lit.int .i64 r).wf = true) :
    Calls Try.prog 36 #[pt d 0, .int .i64 i, .agg #[.int .i64 c, .int .i64 r, v, .int .u64 ts]] w fun e w' => ∃ u' X' D', e = .returned (.int .i64 (setE X i c r l ts)) ∧ RObj D' w' d u' X' ∧ X'.map e0 = (setL X i c r l ts).map e0 ∧ Grew D D' w w' :=
  (rSet17_any w D d u X i c r v l ts w (But.refl _ _) h.2 hs hvS hlen hts hen).mono fun e x ⟨u', X', h1, h2, h3, h4⟩ => ⟨u', X', _, h1, h2.fin, h3, .fin h4⟩
theorem uStamp {D : Nat → Prop} {d : Nat} {u : Value} {X : List EntT} (w : World) (i ts : Int) (h : RObj D w d u X) (hts : 0 ≤ ts ∧ ts < 18446744073709551616) :
    Calls Try.prog 37 #[pt d 0, .int .i64 i, .int .u64 ts] w fun e w' => ∃ u' X' D', e = .returned (.int .i64 (stE X i ts)) ∧ RObj D' w' d u' X' ∧ X'.map e0 = (stL X i ts).map e0 ∧ Grew D D' w w' :=
  (rStamp17_any w D d u X i ts w (But.refl _ _) h.2 hts).mono fun e x ⟨u', X', h1, h2, h3, h4⟩ => ⟨u', X', _, h1, h2.fin, h3, .fin h4⟩
theorem uThin {D : Nat → Prop} {d : Nat} {u : Value} {X : List EntT} (w : World) (h n : Int) (hO : RObj D w d u X) (hh : 0 ≤ h ∧ h < 18446744073709551616) (hni : -9223372036854775808 ≤ n ∧ n ≤ 9223372036854775807) :
    Calls Try.prog 38 #[pt d 0, .int .u64 h, .int .i64 n] w fun e w' => ∃ u' X' D', e = .returned (.int .i64 (thG X h n)) ∧ RObj D' w' d u' X' ∧ X'.map e0 = (thL X h n).map e0 ∧ Grew D D' w w' :=
  (rThin17_any w D d u X h n w (But.refl _ _) hO.2 hh hni).mono fun e x ⟨u', X', h1, h2, h3, h4⟩ => ⟨u', X', _, h1, h2.fin, h3, .fin h4⟩
theorem tThin {S : Nat → Prop} {b : Nat} {L : List EntT} (w : World) (h n : Int) (hO : LObj S w b L) (hh : 0 ≤ h ∧ h < 18446744073709551616) (hni : -9223372036854775808 ≤ n ∧ n ≤ 9223372036854775807) (hdk : ∀ e ∈ L, (e.opl.map (·.1)).Nodup) :
    Calls Try.prog 11 #[pt b 0, .int .u64 h, .int .i64 n] w fun e w' => ∃ L' S', e = .returned (.int .i64 (thG L h n)) ∧ LObj S' w' b L' ∧ L'.map e0 = (thL L h n).map e0 ∧ Grew S S' w w' := by
  obtain ⟨_, M, u, hP⟩ := hO
  exact (lThin_any w S b M u L h n w (But.refl _ _) hP hh hni hdk).mono fun e x ⟨L', h1, h2, h3, h4⟩ => ⟨L', _, h1, h2.fin, h3, .tot h4⟩


theorem opE_ne (l : List OpT) : ∀ y ∈ l, opE y ≠ [] := fun y _ e => by cases e
theorem hvOff_ {S A : Nat → Prop} {w : World} {v : Value} {l : List OpT} (hs : SliceOf opE 3 w v l) (hvS : l ≠ [] → ∀ k, v.ownBlock = some k → ¬ S k) (hi : ∀ q, A q → S q ∨ w.heap.size ≤ q) : l ≠ [] → ∀ k, v.ownBlock = some k → ¬ A k := fun hl k hk hq => by
  rcases hi k hq with j | j
  · exact hvS hl k hk j
  · exact sl_off (S := fun q => w.heap.size ≤ q) hs (opE_ne l) (fun _ q => q) hl k hk j

set_option maxRecDepth 100000 in
theorem step17_any (w0 : World) (S : Nat → Prop) (b : Nat) (d : Nat) (u : Value) (L : List EntT) (X : List EntT) (ac : Int) (ai : Int) (c : Int) (r : Int) (v : Value) (l : List OpT) (ts : Int) (w : World) (hbw : But S w0 w) (hw0 : w0 = w) (hT : TwoP S w b d u L X) (hs : SliceOf opE 3 w0 v l) (hvS : l ≠ [] → ∀ k, v.ownBlock = some k → ¬ S k) (hlen : l.length ≤ 20) (hts : 0 ≤ ts ∧ ts < 18446744073709551616) (hai : -9223372036854775808 ≤ ai ∧ ai ≤ 9223372036854775807) (hen : (∀ o ∈ l, opOk o) ∧ (Lit.int .i64 c).wf = true ∧ (Lit.int .i64 r).wf = true) :
    Calls Try.prog 9 #[pt b 0, pt d 0, .agg #[.int .i64 ac, .int .i64 ai, .int .i64 c, .int .i64 r, v, .int .u64 ts]] w fun e w' => ∃ (u' : Value) (L' : List EntT) (X' : List EntT) (S' : Nat → Prop), e = .returned (.bool true) ∧ TwoP S' w' b d u' L' X' ∧ Grew S S' w0 w' ∧ But (S) w0 w' := by
 have hww : w.heap.size = w0.heap.size := by rw [hw0]
 have hz0 := hbw.size
 have hvOff := fun {A : Nat → Prop} => hvOff_ (A := A) hs hvS
 have hB0 := hbw
 have hz0 := hbw.size
 obtain ⟨A0, D0, hA, hD, hap, hSS, heq, hri⟩ := hT
 have hinA : ∀ q, A0 q → S q ∨ w0.heap.size ≤ q := fun q k => .inl ((hSS q).2 (.inl k))
 have hinD : ∀ q, D0 q → S q ∨ w0.heap.size ≤ q := fun q k => .inl ((hSS q).2 (.inr k))
 refine co_enter (n := 59) Try.func9 rfl rfl rfl [(0, pt b 0), (1, pt d 0), (2, .agg #[.int .i64 ac, .int .i64 ai, .int .i64 c, .int .i64 r, v, .int .u64 ts])] rfl (fun a h0 => ?_)
 refine co_seq ?_
 refine co_reg ?_
 refine pw h0 rfl (op_new (v := fun N => pt N 0) (T := 39) (cs := #[.int .i64 ac, .int .i64 ai, .int .i64 c, .int .i64 r, v, .int .u64 ts]) (by kernel_rfl) (by kernel_rfl) (by kernel_rfl)) ?_; clear h0
 rintro _ w2 a1 ⟨N3, rfl, hN6, hz7, hk5, hg4⟩ h1
 have hz8 := hg4.size
 have ho9 := off_new (LObj.ofS hA) hN6
 have ho10 := off_new (RObj.ofS hD) hN6
 try dsimp only at h1
 refine pk0 (v := .bool false) h1 rfl fun a11 h11 => ?_; clear h1
 refine pl_nil ?_
 refine co_then ?_
 refine co_seq ?_
 refine co_seq ?_
 refine co_reg ?_
 refine pk0 (v := pt N3 0) h11 rfl fun a12 h12 => ?_; clear h11
 refine pk (v := .int .i64 ac) h12 rfl (rn_load1 rfl rfl Try.isAgg3 (hk5.cell rfl)) fun a13 h13 => ?_; clear h12
 refine pl_nil ?_
 refine co_then ?_
 refine wp_block ?_
 refine co_seq ?_
 refine co_seq ?_
 refine co_reg ?_
 refine pk0 (v := .bool (ac == 0)) h13 rfl fun a14 h14 => ?_; clear h13
 refine pk0 (v := .bool (ac == 0)) h14 rfl fun a15 h15 => ?_; clear h14
 refine pl_nil ?_
 refine co_then ?_
 have hB17 := fbU_new hB0 hg4
 cases hc16 : (ac == 0)
 ·
  rw [hc16] at h15
  have hp18 : ¬ (ac = 0) := by first | simpa using hc16 | simpa [and_assoc] using hc16
  clear hc16
  refine co_false h15 rfl ?_
  refine co_seq ?_
  refine co_reg ?_
  refine pk0 (v := .bool (ac == 1)) h15 rfl fun a19 h19 => ?_; clear h15
  refine pk0 (v := .bool (ac == 1)) h19 rfl fun a20 h20 => ?_; clear h19
  refine pl_nil ?_
  refine co_then ?_
  cases hc21 : (ac == 1)
  ·
   rw [hc21] at h20
   have hp22 : ¬ (ac = 1) := by first | simpa using hc21 | simpa [and_assoc] using hc21
   clear hc21
   refine co_false h20 rfl ?_
   refine co_reg ?_
   refine pk0 (v := .bool (ac == 2)) h20 rfl fun a23 h23 => ?_; clear h20
   refine pk0 (v := .bool (ac == 2)) h23 rfl fun a24 h24 => ?_; clear h23
   refine pl_nil ?_
   refine co_then ?_
   cases hc25 : (ac == 2)
   ·
    rw [hc25] at h24
    have hp26 : ¬ (ac = 2) := by first | simpa using hc25 | simpa [and_assoc] using hc25
    clear hc25
    refine co_false h24 rfl ?_
    refine co_seq ?_
    refine co_seq ?_
    refine co_reg ?_
    refine pk0 (v := .bool (ac == 3)) h24 rfl fun a27 h27 => ?_; clear h24
    refine pk0 (v := .bool (ac == 3)) h27 rfl fun a28 h28 => ?_; clear h27
    refine pl_nil ?_
    refine co_then ?_
    cases hc29 : (ac == 3)
    ·
     rw [hc29] at h28
     have hp30 : ¬ (ac = 3) := by first | simpa using hc29 | simpa [and_assoc] using hc29
     clear hc29
     refine co_false h28 rfl ?_
     refine co_reg ?_
     refine pk0 (v := .bool (ac == 4)) h28 rfl fun a31 h31 => ?_; clear h28
     refine pk0 (v := .bool (ac == 4)) h31 rfl fun a32 h32 => ?_; clear h31
     refine pl_nil ?_
     refine co_then ?_
     cases hc33 : (ac == 4)
     ·
      rw [hc33] at h32
      have hp34 : ¬ (ac = 4) := by first | simpa using hc33 | simpa [and_assoc] using hc33
      clear hc33
      refine co_false h32 rfl ?_
      refine wp_skip ?_
      refine co_blockN ?_
      refine co_then ?_
      refine co_seq ?_
      refine dr_gen (fun x => But (S) w0 x ∧ Blk x N3 39 #[.int .i64 ac, .int .i64 ai, .int .i64 c, .int .i64 r, v, .int .u64 ts]) (by kernel_rfl) (fun w35 hg36 => ?_) (fun w35 hg36 => ?_)
      ·
       have hz37 := hg36.size
       have hB38 := fbU_new hB17 hg36
       have hk39 := hk5.kept hg36 (by simp)
       exact ⟨hB38, hk39⟩
      have hz40 := hg36.size
      have hB41 := fbU_new hB17 hg36
      have hk42 := hk5.kept hg36 (by simp)
      refine dk0 0 (v := pt b 0) h32 rfl rfl ⟨hB41, hk42⟩ fun a43 h43 => ?_; clear h32
      refine dk0 1 (v := pt N3 2) h43 rfl rfl ⟨hB41, hk42⟩ fun a44 h44 => ?_; clear h43
      refine dk0 2 (v := pt N3 5) h44 rfl rfl ⟨hB41, hk42⟩ fun a45 h45 => ?_; clear h44
      refine dk 3 (v := .int .u64 ts) h45 rfl rfl ⟨hB41, hk42⟩ (fun x hx => (rn_load1 rfl rfl Try.isAgg23 (hx.2.cell rfl))) fun a46 h46 => ?_; clear h45
      refine dk0 4 (v := pt N3 1) h46 rfl rfl ⟨hB41, hk42⟩ fun a47 h47 => ?_; clear h46
      refine dk 5 (v := .int .i64 ai) h47 rfl rfl ⟨hB41, hk42⟩ (fun x hx => (rn_load1 rfl rfl Try.isAgg3 (hx.2.cell rfl))) fun a48 h48 => ?_; clear h47
      refine dk0 7 (v := pt d 0) h48 rfl rfl ⟨hB41, hk42⟩ fun a49 h49 => ?_; clear h48
      refine dk0 8 (v := pt N3 2) h49 rfl rfl ⟨hB41, hk42⟩ fun a50 h50 => ?_; clear h49
      refine dk0 9 (v := pt N3 5) h50 rfl rfl ⟨hB41, hk42⟩ fun a51 h51 => ?_; clear h50
      refine dk 10 (v := .int .u64 ts) h51 rfl rfl ⟨hB41, hk42⟩ (fun x hx => (rn_load1 rfl rfl Try.isAgg23 (hx.2.cell rfl))) fun a52 h52 => ?_; clear h51
      refine dk0 11 (v := pt N3 1) h52 rfl rfl ⟨hB41, hk42⟩ fun a53 h53 => ?_; clear h52
      refine dk 12 (v := .int .i64 ai) h53 rfl rfl ⟨hB41, hk42⟩ (fun x hx => (rn_load1 rfl rfl Try.isAgg3 (hx.2.cell rfl))) fun a54 h54 => ?_; clear h53
      have hO57 := LObj.gr hA hg4 (fun k e => by cases e)
      have hO58 := LObj.gr hO57 hg36 (fun k e => by cases e)
      have hO59 := RObj.gr hD hg4 (fun k e => by cases e)
      have hO60 := RObj.gr hO59 hg36 (fun k e => by cases e)
      refine d1 6 h54 rfl rfl (op_call (args := #[pt b 0, .int .u64 ts, .int .i64 ai]) (R := fun res xw => ∃ L' : List EntT, ∃ S' : Nat → Prop, res = .int .i64 (thG L ts ai) ∧ LObj S' xw b L' ∧ (L'.map e0 = (thL L ts ai).map e0) ∧ Grew A0 S' w35 xw) rfl rfl rfl (by kernel_rfl) (by kernel_rfl) (Try.call11 _ _) (tThin w35 ts ai hO58 hts hai hri.nd) (by rintro e x ⟨L', S', h0, h⟩; exact ⟨_, h0, L', S', rfl, h⟩)) ?_ ?_; clear h54
      ·
       rintro _ w56 ⟨L'61, S62, rfl, hO63, hq65, hx64⟩
       have hB66 := fbU_foot hB41 hx64.but (fun i hi hq => by rcases hinA i hq with k | k; exact k; omega)
       have hz67 := hB66.size
       have hz68 := hx64.but.size
       have hin69 : ∀ q, S62 q → S q ∨ w0.heap.size ≤ q := fun q hq => by rcases hx64.sub q hq with k | k; exact hinA q k; exact .inr (by omega)
       have hk70 := Blk.butS hk42 hx64.but ho9
       exact ⟨hB66, hk70⟩
      rintro _ w56 a55 ⟨L'61, S62, rfl, hO63, hq65, hx64⟩ h55
      have hB66 := fbU_foot hB41 hx64.but (fun i hi hq => by rcases hinA i hq with k | k; exact k; omega)
      have hz67 := hB66.size
      have hz68 := hx64.but.size
      have hin69 : ∀ q, S62 q → S q ∨ w0.heap.size ≤ q := fun q hq => by rcases hx64.sub q hq with k | k; exact hinA q k; exact .inr (by omega)
      have hk70 := Blk.butS hk42 hx64.but ho9
      have hO73 := RObj.but hO60 hx64.but (ap_symm hap)
      refine d1 13 h55 rfl rfl (op_call (args := #[pt d 0, .int .u64 ts, .int .i64 ai]) (R := fun res xw => ∃ u' : Value, ∃ X' : List EntT, ∃ S' : Nat → Prop, res = .int .i64 (thG X ts ai) ∧ RObj S' xw d u' X' ∧ (X'.map e0 = (thL X ts ai).map e0) ∧ Grew D0 S' w56 xw) rfl rfl rfl (by kernel_rfl) (by kernel_rfl) (Try.call38 _ _) (uThin w56 ts ai hO73 hts hai) (by rintro e x ⟨u', X', S', h0, h⟩; exact ⟨_, h0, u', X', S', rfl, h⟩)) ?_ ?_; clear h55
      ·
       rintro _ w72 ⟨u'74, X'75, S76, rfl, hO77, hq79, hx78⟩
       have hB80 := fbU_foot hB66 hx78.but (fun i hi hq => by rcases hinD i hq with k | k; exact k; omega)
       have hz81 := hB80.size
       have hz82 := hx78.but.size
       have hin83 : ∀ q, S76 q → S q ∨ w0.heap.size ≤ q := fun q hq => by rcases hx78.sub q hq with k | k; exact hinD q k; exact .inr (by omega)
       have hk84 := Blk.butS hk70 hx78.but ho10
       exact ⟨hB80, hk84⟩
      rintro _ w72 a71 ⟨u'74, X'75, S76, rfl, hO77, hq79, hx78⟩ h71
      have hB80 := fbU_foot hB66 hx78.but (fun i hi hq => by rcases hinD i hq with k | k; exact k; omega)
      have hz81 := hB80.size
      have hz82 := hx78.but.size
      have hin83 : ∀ q, S76 q → S q ∨ w0.heap.size ≤ q := fun q hq => by rcases hx78.sub q hq with k | k; exact hinD q k; exact .inr (by omega)
      have hk84 := Blk.butS hk70 hx78.but ho10
      refine dk0 14 (v := .bool (thG L ts ai == thG X ts ai)) h71 rfl rfl ⟨hB80, hk84⟩ fun a85 h85 => ?_; clear h71
      refine dk0 15 (v := .bool (thG L ts ai == thG X ts ai)) h85 rfl rfl ⟨hB80, hk84⟩ fun a86 h86 => ?_; clear h85
      refine dr_done (by kernel_rfl) ?_
      refine co_then ?_
      refine wp_ret ?_
      refine co_ret1 h86 rfl rfl ?_
      have hO87 := LObj.butA hO63 hx78.but (ap_symm (ap_symm (Grew.ap hx64 (ap_symm (ap_symm hap)) (RObj.ofS hO60))))
      have hLe := hq65
      have hXe := hq79
      exact ⟨u'74, _, _, _, ret_bool (by first | rfl | (simp [cong_n (F := fun L => setE L ai c r l ts) (fun L => setE_e0) heq, cong_n (F := fun L => stE L ai ts) (fun L => stE_e0) heq, cong_n (F := fun L => thG L ts ai) (fun L => thG_e0) heq]; done)), ⟨_, _, hO87, hO77, (ap_symm (Grew.ap hx78 (ap_symm (ap_symm (ap_symm (Grew.ap hx64 (ap_symm (ap_symm hap)) (RObj.ofS hO60))))) (LObj.ofS hO63))), fun q => Iff.rfl, (by rw [hLe, hXe]; first | exact cong_n (F := fun L => (setL L ai c r l ts).map e0) (fun L => setL_e0) heq | exact cong_n (F := fun L => (stL L ai ts).map e0) (fun L => stL_e0') heq | exact cong_n (F := fun L => (thL L ts ai).map e0) (fun L => thL_e0) heq), (by first | exact RI.e0 hLe.symm hri.set | exact RI.e0 hLe.symm hri.st | exact RI.e0 hLe.symm hri.th)⟩, ⟨fun q hq => by rcases hq with k | k; exact hin69 q k; exact hin83 q k, hB80⟩, hB80⟩
     ·
      rw [hc33] at h32
      have hp88 : ac = 4 := by first | simpa using hc33 | simpa [and_assoc] using hc33
      clear hc33
      refine co_true h32 rfl ?_
      refine co_seq ?_
      refine dr_gen (fun x => But (S) w0 x ∧ Blk x N3 39 #[.int .i64 ac, .int .i64 ai, .int .i64 c, .int .i64 r, v, .int .u64 ts]) (by kernel_rfl) (fun w89 hg90 => ?_) (fun w89 hg90 => ?_)
      ·
       have hz91 := hg90.size
       have hB92 := fbU_new hB17 hg90
       have hk93 := hk5.kept hg90 (by simp)
       exact ⟨hB92, hk93⟩
      have hz94 := hg90.size
      have hB95 := fbU_new hB17 hg90
      have hk96 := hk5.kept hg90 (by simp)
      refine dk0 0 (v := pt b 0) h32 rfl rfl ⟨hB95, hk96⟩ fun a97 h97 => ?_; clear h32
      refine dk0 1 (v := pt N3 1) h97 rfl rfl ⟨hB95, hk96⟩ fun a98 h98 => ?_; clear h97
      refine dk 2 (v := .int .i64 ai) h98 rfl rfl ⟨hB95, hk96⟩ (fun x hx => (rn_load1 rfl rfl Try.isAgg3 (hx.2.cell rfl))) fun a99 h99 => ?_; clear h98
      refine dk0 3 (v := pt N3 2) h99 rfl rfl ⟨hB95, hk96⟩ fun a100 h100 => ?_; clear h99
      refine dk0 4 (v := pt N3 5) h100 rfl rfl ⟨hB95, hk96⟩ fun a101 h101 => ?_; clear h100
      refine dk 5 (v := .int .u64 ts) h101 rfl rfl ⟨hB95, hk96⟩ (fun x hx => (rn_load1 rfl rfl Try.isAgg23 (hx.2.cell rfl))) fun a102 h102 => ?_; clear h101
      refine dk0 7 (v := pt d 0) h102 rfl rfl ⟨hB95, hk96⟩ fun a103 h103 => ?_; clear h102
      refine dk0 8 (v := pt N3 1) h103 rfl rfl ⟨hB95, hk96⟩ fun a104 h104 => ?_; clear h103
      refine dk 9 (v := .int .i64 ai) h104 rfl rfl ⟨hB95, hk96⟩ (fun x hx => (rn_load1 rfl rfl Try.isAgg3 (hx.2.cell rfl))) fun a105 h105 => ?_; clear h104
      refine dk0 10 (v := pt N3 2) h105 rfl rfl ⟨hB95, hk96⟩ fun a106 h106 => ?_; clear h105
      refine dk0 11 (v := pt N3 5) h106 rfl rfl ⟨hB95, hk96⟩ fun a107 h107 => ?_; clear h106
      refine dk 12 (v := .int .u64 ts) h107 rfl rfl ⟨hB95, hk96⟩ (fun x hx => (rn_load1 rfl rfl Try.isAgg23 (hx.2.cell rfl))) fun a108 h108 => ?_; clear h107
      have hO111 := LObj.gr hA hg4 (fun k e => by cases e)
      have hO112 := LObj.gr hO111 hg90 (fun k e => by cases e)
      have hO113 := RObj.gr hD hg4 (fun k e => by cases e)
      have hO114 := RObj.gr hO113 hg90 (fun k e => by cases e)
      refine d1 6 h108 rfl rfl (op_call (args := #[pt b 0, .int .i64 ai, .int .u64 ts]) (R := fun res xw => ∃ S' : Nat → Prop, res = .int .i64 (stE L ai ts) ∧ LObj S' xw b (stL L ai ts) ∧ Grew A0 S' w89 xw) rfl rfl rfl (by kernel_rfl) (by kernel_rfl) (Try.call31 _ _) (tStamp w89 ai ts hO112 hts) (by rintro e x ⟨S', h0, h⟩; exact ⟨_, h0, S', rfl, h⟩)) ?_ ?_; clear h108
      ·
       rintro _ w110 ⟨S115, rfl, hO116, hx117⟩
       have hB118 := fbU_foot hB95 hx117.but (fun i hi hq => by rcases hinA i hq with k | k; exact k; omega)
       have hz119 := hB118.size
       have hz120 := hx117.but.size
       have hin121 : ∀ q, S115 q → S q ∨ w0.heap.size ≤ q := fun q hq => by rcases hx117.sub q hq with k | k; exact hinA q k; exact .inr (by omega)
       have hk122 := Blk.butS hk96 hx117.but ho9
       exact ⟨hB118, hk122⟩
      rintro _ w110 a109 ⟨S115, rfl, hO116, hx117⟩ h109
      have hB118 := fbU_foot hB95 hx117.but (fun i hi hq => by rcases hinA i hq with k | k; exact k; omega)
      have hz119 := hB118.size
      have hz120 := hx117.but.size
      have hin121 : ∀ q, S115 q → S q ∨ w0.heap.size ≤ q := fun q hq => by rcases hx117.sub q hq with k | k; exact hinA q k; exact .inr (by omega)
      have hk122 := Blk.butS hk96 hx117.but ho9
      have hO125 := RObj.but hO114 hx117.but (ap_symm hap)
      refine d1 13 h109 rfl rfl (op_call (args := #[pt d 0, .int .i64 ai, .int .u64 ts]) (R := fun res xw => ∃ u' : Value, ∃ X' : List EntT, ∃ S' : Nat → Prop, res = .int .i64 (stE X ai ts) ∧ RObj S' xw d u' X' ∧ (X'.map e0 = (stL X ai ts).map e0) ∧ Grew D0 S' w110 xw) rfl rfl rfl (by kernel_rfl) (by kernel_rfl) (Try.call37 _ _) (uStamp w110 ai ts hO125 hts) (by rintro e x ⟨u', X', S', h0, h⟩; exact ⟨_, h0, u', X', S', rfl, h⟩)) ?_ ?_; clear h109
      ·
       rintro _ w124 ⟨u'126, X'127, S128, rfl, hO129, hq131, hx130⟩
       have hB132 := fbU_foot hB118 hx130.but (fun i hi hq => by rcases hinD i hq with k | k; exact k; omega)
       have hz133 := hB132.size
       have hz134 := hx130.but.size
       have hin135 : ∀ q, S128 q → S q ∨ w0.heap.size ≤ q := fun q hq => by rcases hx130.sub q hq with k | k; exact hinD q k; exact .inr (by omega)
       have hk136 := Blk.butS hk122 hx130.but ho10
       exact ⟨hB132, hk136⟩
      rintro _ w124 a123 ⟨u'126, X'127, S128, rfl, hO129, hq131, hx130⟩ h123
      have hB132 := fbU_foot hB118 hx130.but (fun i hi hq => by rcases hinD i hq with k | k; exact k; omega)
      have hz133 := hB132.size
      have hz134 := hx130.but.size
      have hin135 : ∀ q, S128 q → S q ∨ w0.heap.size ≤ q := fun q hq => by rcases hx130.sub q hq with k | k; exact hinD q k; exact .inr (by omega)
      have hk136 := Blk.butS hk122 hx130.but ho10
      refine dk0 14 (v := .bool (stE L ai ts == stE X ai ts)) h123 rfl rfl ⟨hB132, hk136⟩ fun a137 h137 => ?_; clear h123
      refine dk0 15 (v := .bool (stE L ai ts == stE X ai ts)) h137 rfl rfl ⟨hB132, hk136⟩ fun a138 h138 => ?_; clear h137
      refine dr_done (by kernel_rfl) ?_
      refine co_then ?_
      refine wp_ret ?_
      refine co_blockR ?_
      refine co_thenR ?_
      refine co_ret1 h138 rfl rfl ?_
      have hO139 := LObj.butA hO116 hx130.but (ap_symm (ap_symm (Grew.ap hx117 (ap_symm (ap_symm hap)) (RObj.ofS hO114))))
      have hLe := (rfl : (stL L ai ts).map e0 = _)
      have hXe := hq131
      exact ⟨u'126, _, _, _, ret_bool (by first | rfl | (simp [cong_n (F := fun L => setE L ai c r l ts) (fun L => setE_e0) heq, cong_n (F := fun L => stE L ai ts) (fun L => stE_e0) heq, cong_n (F := fun L => thG L ts ai) (fun L => thG_e0) heq]; done)), ⟨_, _, hO139, hO129, (ap_symm (Grew.ap hx130 (ap_symm (ap_symm (ap_symm (Grew.ap hx117 (ap_symm (ap_symm hap)) (RObj.ofS hO114))))) (LObj.ofS hO116))), fun q => Iff.rfl, (by rw [hLe, hXe]; first | exact cong_n (F := fun L => (setL L ai c r l ts).map e0) (fun L => setL_e0) heq | exact cong_n (F := fun L => (stL L ai ts).map e0) (fun L => stL_e0') heq | exact cong_n (F := fun L => (thL L ts ai).map e0) (fun L => thL_e0) heq), (by first | exact RI.e0 hLe.symm hri.set | exact RI.e0 hLe.symm hri.st | exact RI.e0 hLe.symm hri.th)⟩, ⟨fun q hq => by rcases hq with k | k; exact hin121 q k; exact hin135 q k, hB132⟩, hB132⟩
    ·
     rw [hc29] at h28
     have hp140 : ac = 3 := by first | simpa using hc29 | simpa [and_assoc] using hc29
     clear hc29
     refine co_true h28 rfl ?_
     refine wp_skip ?_
     refine co_then ?_
     refine co_true h28 rfl ?_
     refine co_seq ?_
     refine dr_gen (fun x => But (S) w0 x ∧ Blk x N3 39 #[.int .i64 ac, .int .i64 ai, .int .i64 c, .int .i64 r, v, .int .u64 ts]) (by kernel_rfl) (fun w141 hg142 => ?_) (fun w141 hg142 => ?_)
     ·
      have hz143 := hg142.size
      have hB144 := fbU_new hB17 hg142
      have hk145 := hk5.kept hg142 (by simp)
      exact ⟨hB144, hk145⟩
     have hz146 := hg142.size
     have hB147 := fbU_new hB17 hg142
     have hk148 := hk5.kept hg142 (by simp)
     refine dk0 0 (v := pt b 0) h28 rfl rfl ⟨hB147, hk148⟩ fun a149 h149 => ?_; clear h28
     refine dk0 1 (v := pt N3 1) h149 rfl rfl ⟨hB147, hk148⟩ fun a150 h150 => ?_; clear h149
     refine dk 2 (v := .int .i64 ai) h150 rfl rfl ⟨hB147, hk148⟩ (fun x hx => (rn_load1 rfl rfl Try.isAgg3 (hx.2.cell rfl))) fun a151 h151 => ?_; clear h150
     refine dk0 3 (v := pt N3 2) h151 rfl rfl ⟨hB147, hk148⟩ fun a152 h152 => ?_; clear h151
     refine dk0 4 (v := pt N3 5) h152 rfl rfl ⟨hB147, hk148⟩ fun a153 h153 => ?_; clear h152
     refine dk 5 (v := .int .u64 ts) h153 rfl rfl ⟨hB147, hk148⟩ (fun x hx => (rn_load1 rfl rfl Try.isAgg23 (hx.2.cell rfl))) fun a154 h154 => ?_; clear h153
     refine dk0 7 (v := pt d 0) h154 rfl rfl ⟨hB147, hk148⟩ fun a155 h155 => ?_; clear h154
     refine dk0 8 (v := pt N3 1) h155 rfl rfl ⟨hB147, hk148⟩ fun a156 h156 => ?_; clear h155
     refine dk 9 (v := .int .i64 ai) h156 rfl rfl ⟨hB147, hk148⟩ (fun x hx => (rn_load1 rfl rfl Try.isAgg3 (hx.2.cell rfl))) fun a157 h157 => ?_; clear h156
     refine dk0 10 (v := pt N3 2) h157 rfl rfl ⟨hB147, hk148⟩ fun a158 h158 => ?_; clear h157
     refine dk0 11 (v := pt N3 5) h158 rfl rfl ⟨hB147, hk148⟩ fun a159 h159 => ?_; clear h158
     refine dk 12 (v := .int .u64 ts) h159 rfl rfl ⟨hB147, hk148⟩ (fun x hx => (rn_load1 rfl rfl Try.isAgg23 (hx.2.cell rfl))) fun a160 h160 => ?_; clear h159
     have hO163 := LObj.gr hA hg4 (fun k e => by cases e)
     have hO164 := LObj.gr hO163 hg142 (fun k e => by cases e)
     have hO165 := RObj.gr hD hg4 (fun k e => by cases e)
     have hO166 := RObj.gr hO165 hg142 (fun k e => by cases e)
     refine d1 6 h160 rfl rfl (op_call (args := #[pt b 0, .int .i64 ai, .int .u64 ts]) (R := fun res xw => ∃ S' : Nat → Prop, res = .int .i64 (stE L ai ts) ∧ LObj S' xw b (stL L ai ts) ∧ Grew A0 S' w141 xw) rfl rfl rfl (by kernel_rfl) (by kernel_rfl) (Try.call31 _ _) (tStamp w141 ai ts hO164 hts) (by rintro e x ⟨S', h0, h⟩; exact ⟨_, h0, S', rfl, h⟩)) ?_ ?_; clear h160
     ·
      rintro _ w162 ⟨S167, rfl, hO168, hx169⟩
      have hB170 := fbU_foot hB147 hx169.but (fun i hi hq => by rcases hinA i hq with k | k; exact k; omega)
      have hz171 := hB170.size
      have hz172 := hx169.but.size
      have hin173 : ∀ q, S167 q → S q ∨ w0.heap.size ≤ q := fun q hq => by rcases hx169.sub q hq with k | k; exact hinA q k; exact .inr (by omega)
      have hk174 := Blk.butS hk148 hx169.but ho9
      exact ⟨hB170, hk174⟩
     rintro _ w162 a161 ⟨S167, rfl, hO168, hx169⟩ h161
     have hB170 := fbU_foot hB147 hx169.but (fun i hi hq => by rcases hinA i hq with k | k; exact k; omega)
     have hz171 := hB170.size
     have hz172 := hx169.but.size
     have hin173 : ∀ q, S167 q → S q ∨ w0.heap.size ≤ q := fun q hq => by rcases hx169.sub q hq with k | k; exact hinA q k; exact .inr (by omega)
     have hk174 := Blk.butS hk148 hx169.but ho9
     have hO177 := RObj.but hO166 hx169.but (ap_symm hap)
     refine d1 13 h161 rfl rfl (op_call (args := #[pt d 0, .int .i64 ai, .int .u64 ts]) (R := fun res xw => ∃ u' : Value, ∃ X' : List EntT, ∃ S' : Nat → Prop, res = .int .i64 (stE X ai ts) ∧ RObj S' xw d u' X' ∧ (X'.map e0 = (stL X ai ts).map e0) ∧ Grew D0 S' w162 xw) rfl rfl rfl (by kernel_rfl) (by kernel_rfl) (Try.call37 _ _) (uStamp w162 ai ts hO177 hts) (by rintro e x ⟨u', X', S', h0, h⟩; exact ⟨_, h0, u', X', S', rfl, h⟩)) ?_ ?_; clear h161
     ·
      rintro _ w176 ⟨u'178, X'179, S180, rfl, hO181, hq183, hx182⟩
      have hB184 := fbU_foot hB170 hx182.but (fun i hi hq => by rcases hinD i hq with k | k; exact k; omega)
      have hz185 := hB184.size
      have hz186 := hx182.but.size
      have hin187 : ∀ q, S180 q → S q ∨ w0.heap.size ≤ q := fun q hq => by rcases hx182.sub q hq with k | k; exact hinD q k; exact .inr (by omega)
      have hk188 := Blk.butS hk174 hx182.but ho10
      exact ⟨hB184, hk188⟩
     rintro _ w176 a175 ⟨u'178, X'179, S180, rfl, hO181, hq183, hx182⟩ h175
     have hB184 := fbU_foot hB170 hx182.but (fun i hi hq => by rcases hinD i hq with k | k; exact k; omega)
     have hz185 := hB184.size
     have hz186 := hx182.but.size
     have hin187 : ∀ q, S180 q → S q ∨ w0.heap.size ≤ q := fun q hq => by rcases hx182.sub q hq with k | k; exact hinD q k; exact .inr (by omega)
     have hk188 := Blk.butS hk174 hx182.but ho10
     refine dk0 14 (v := .bool (stE L ai ts == stE X ai ts)) h175 rfl rfl ⟨hB184, hk188⟩ fun a189 h189 => ?_; clear h175
     refine dk0 15 (v := .bool (stE L ai ts == stE X ai ts)) h189 rfl rfl ⟨hB184, hk188⟩ fun a190 h190 => ?_; clear h189
     refine dr_done (by kernel_rfl) ?_
     refine co_then ?_
     refine wp_ret ?_
     refine co_blockR ?_
     refine co_thenR ?_
     refine co_ret1 h190 rfl rfl ?_
     have hO191 := LObj.butA hO168 hx182.but (ap_symm (ap_symm (Grew.ap hx169 (ap_symm (ap_symm hap)) (RObj.ofS hO166))))
     have hLe := (rfl : (stL L ai ts).map e0 = _)
     have hXe := hq183
     exact ⟨u'178, _, _, _, ret_bool (by first | rfl | (simp [cong_n (F := fun L => setE L ai c r l ts) (fun L => setE_e0) heq, cong_n (F := fun L => stE L ai ts) (fun L => stE_e0) heq, cong_n (F := fun L => thG L ts ai) (fun L => thG_e0) heq]; done)), ⟨_, _, hO191, hO181, (ap_symm (Grew.ap hx182 (ap_symm (ap_symm (ap_symm (Grew.ap hx169 (ap_symm (ap_symm hap)) (RObj.ofS hO166))))) (LObj.ofS hO168))), fun q => Iff.rfl, (by rw [hLe, hXe]; first | exact cong_n (F := fun L => (setL L ai c r l ts).map e0) (fun L => setL_e0) heq | exact cong_n (F := fun L => (stL L ai ts).map e0) (fun L => stL_e0') heq | exact cong_n (F := fun L => (thL L ts ai).map e0) (fun L => thL_e0) heq), (by first | exact RI.e0 hLe.symm hri.set | exact RI.e0 hLe.symm hri.st | exact RI.e0 hLe.symm hri.th)⟩, ⟨fun q hq => by rcases hq with k | k; exact hin173 q k; exact hin187 q k, hB184⟩, hB184⟩
   ·
    rw [hc25] at h24
    have hp192 : ac = 2 := by first | simpa using hc25 | simpa [and_assoc] using hc25
    clear hc25
    refine co_true h24 rfl ?_
    refine co_seq ?_
    refine dr_gen (fun x => But (S) w0 x ∧ Blk x N3 39 #[.int .i64 ac, .int .i64 ai, .int .i64 c, .int .i64 r, v, .int .u64 ts]) (by kernel_rfl) (fun w193 hg194 => ?_) (fun w193 hg194 => ?_)
    ·
     have hz195 := hg194.size
     have hB196 := fbU_new hB17 hg194
     have hk197 := hk5.kept hg194 (by simp)
     exact ⟨hB196, hk197⟩
    have hz198 := hg194.size
    have hB199 := fbU_new hB17 hg194
    have hk200 := hk5.kept hg194 (by simp)
    refine dk0 0 (v := pt b 0) h24 rfl rfl ⟨hB199, hk200⟩ fun a201 h201 => ?_; clear h24
    refine dk0 1 (v := pt N3 1) h201 rfl rfl ⟨hB199, hk200⟩ fun a202 h202 => ?_; clear h201
    refine dk 2 (v := .int .i64 ai) h202 rfl rfl ⟨hB199, hk200⟩ (fun x hx => (rn_load1 rfl rfl Try.isAgg3 (hx.2.cell rfl))) fun a203 h203 => ?_; clear h202
    refine dk0 3 (v := pt N3 2) h203 rfl rfl ⟨hB199, hk200⟩ fun a204 h204 => ?_; clear h203
    refine dk 4 (v := .agg #[.int .i64 c, .int .i64 r, v, .int .u64 ts]) h204 rfl rfl ⟨hB199, hk200⟩ (fun x hx => (rn_loadN rfl rfl Try.underlying37 rfl (by kernel_rfl) (blk_part hx.2 2 (by rfl)))) fun a205 h205 => ?_; clear h204
    refine dk0 6 (v := pt d 0) h205 rfl rfl ⟨hB199, hk200⟩ fun a206 h206 => ?_; clear h205
    refine dk0 7 (v := pt N3 1) h206 rfl rfl ⟨hB199, hk200⟩ fun a207 h207 => ?_; clear h206
    refine dk 8 (v := .int .i64 ai) h207 rfl rfl ⟨hB199, hk200⟩ (fun x hx => (rn_load1 rfl rfl Try.isAgg3 (hx.2.cell rfl))) fun a208 h208 => ?_; clear h207
    refine dk0 9 (v := pt N3 2) h208 rfl rfl ⟨hB199, hk200⟩ fun a209 h209 => ?_; clear h208
    refine dk 10 (v := .agg #[.int .i64 c, .int .i64 r, v, .int .u64 ts]) h209 rfl rfl ⟨hB199, hk200⟩ (fun x hx => (rn_loadN rfl rfl Try.underlying37 rfl (by kernel_rfl) (blk_part hx.2 2 (by rfl)))) fun a210 h210 => ?_; clear h209
    have hO213 := LObj.gr hA hg4 (fun k e => by cases e)
    have hO214 := LObj.gr hO213 hg194 (fun k e => by cases e)
    have hO215 := RObj.gr hD hg4 (fun k e => by cases e)
    have hO216 := RObj.gr hO215 hg194 (fun k e => by cases e)
    refine d1 5 h210 rfl rfl (op_call (args := #[pt b 0, .int .i64 ai, .agg #[.int .i64 c, .int .i64 r, v, .int .u64 ts]]) (R := fun res xw => ∃ L' : List EntT, ∃ S' : Nat → Prop, res = .int .i64 (setE L ai c r l ts) ∧ LObj S' xw b L' ∧ (SetR L ai c r l ts L') ∧ Grew A0 S' w193 xw) rfl rfl rfl (by kernel_rfl) (by kernel_rfl) (Try.call30 _ _) (tSet w193 ai c r v l ts hO214 (sl_butN hs hB199 hvS) (hvOff hinA) hlen hts hen) (by rintro e x ⟨L', S', h0, h⟩; exact ⟨_, h0, L', S', rfl, h⟩)) ?_ ?_; clear h210
    ·
     rintro _ w212 ⟨L'217, S218, rfl, hO219, hq221, hx220⟩
     have hB222 := fbU_foot hB199 hx220.but (fun i hi hq => by rcases hinA i hq with k | k; exact k; omega)
     have hz223 := hB222.size
     have hz224 := hx220.but.size
     have hin225 : ∀ q, S218 q → S q ∨ w0.heap.size ≤ q := fun q hq => by rcases hx220.sub q hq with k | k; exact hinA q k; exact .inr (by omega)
     have hk226 := Blk.butS hk200 hx220.but ho9
     exact ⟨hB222, hk226⟩
    rintro _ w212 a211 ⟨L'217, S218, rfl, hO219, hq221, hx220⟩ h211
    have hB222 := fbU_foot hB199 hx220.but (fun i hi hq => by rcases hinA i hq with k | k; exact k; omega)
    have hz223 := hB222.size
    have hz224 := hx220.but.size
    have hin225 : ∀ q, S218 q → S q ∨ w0.heap.size ≤ q := fun q hq => by rcases hx220.sub q hq with k | k; exact hinA q k; exact .inr (by omega)
    have hk226 := Blk.butS hk200 hx220.but ho9
    have hO229 := RObj.but hO216 hx220.but (ap_symm hap)
    refine d1 11 h211 rfl rfl (op_call (args := #[pt d 0, .int .i64 ai, .agg #[.int .i64 c, .int .i64 r, v, .int .u64 ts]]) (R := fun res xw => ∃ u' : Value, ∃ X' : List EntT, ∃ S' : Nat → Prop, res = .int .i64 (setE X ai c r l ts) ∧ RObj S' xw d u' X' ∧ (X'.map e0 = (setL X ai c r l ts).map e0) ∧ Grew D0 S' w212 xw) rfl rfl rfl (by kernel_rfl) (by kernel_rfl) (Try.call36 _ _) (uSet w212 ai c r v l ts hO229 (sl_butN hs hB222 hvS) (hvOff hinD) hlen hts hen) (by rintro e x ⟨u', X', S', h0, h⟩; exact ⟨_, h0, u', X', S', rfl, h⟩)) ?_ ?_; clear h211
    ·
     rintro _ w228 ⟨u'230, X'231, S232, rfl, hO233, hq235, hx234⟩
     have hB236 := fbU_foot hB222 hx234.but (fun i hi hq => by rcases hinD i hq with k | k; exact k; omega)
     have hz237 := hB236.size
     have hz238 := hx234.but.size
     have hin239 : ∀ q, S232 q → S q ∨ w0.heap.size ≤ q := fun q hq => by rcases hx234.sub q hq with k | k; exact hinD q k; exact .inr (by omega)
     have hk240 := Blk.butS hk226 hx234.but ho10
     exact ⟨hB236, hk240⟩
    rintro _ w228 a227 ⟨u'230, X'231, S232, rfl, hO233, hq235, hx234⟩ h227
    have hB236 := fbU_foot hB222 hx234.but (fun i hi hq => by rcases hinD i hq with k | k; exact k; omega)
    have hz237 := hB236.size
    have hz238 := hx234.but.size
    have hin239 : ∀ q, S232 q → S q ∨ w0.heap.size ≤ q := fun q hq => by rcases hx234.sub q hq with k | k; exact hinD q k; exact .inr (by omega)
    have hk240 := Blk.butS hk226 hx234.but ho10
    refine dk0 12 (v := .bool (setE L ai c r l ts == setE X ai c r l ts)) h227 rfl rfl ⟨hB236, hk240⟩ fun a241 h241 => ?_; clear h227
    refine dk0 13 (v := .bool (setE L ai c r l ts == setE X ai c r l ts)) h241 rfl rfl ⟨hB236, hk240⟩ fun a242 h242 => ?_; clear h241
    refine dr_done (by kernel_rfl) ?_
    refine co_then ?_
    refine wp_ret ?_
    refine co_blockR ?_
    refine co_thenR ?_
    refine co_ret1 h242 rfl rfl ?_
    have hO243 := LObj.butA hO219 hx234.but (ap_symm (ap_symm (Grew.ap hx220 (ap_symm (ap_symm hap)) (RObj.ofS hO216))))
    have hLe := (setR_e0 hq221)
    have hXe := hq235
    exact ⟨u'230, _, _, _, ret_bool (by first | rfl | (simp [cong_n (F := fun L => setE L ai c r l ts) (fun L => setE_e0) heq, cong_n (F := fun L => stE L ai ts) (fun L => stE_e0) heq, cong_n (F := fun L => thG L ts ai) (fun L => thG_e0) heq]; done)), ⟨_, _, hO243, hO233, (ap_symm (Grew.ap hx234 (ap_symm (ap_symm (ap_symm (Grew.ap hx220 (ap_symm (ap_symm hap)) (RObj.ofS hO216))))) (LObj.ofS hO219))), fun q => Iff.rfl, (by rw [hLe, hXe]; first | exact cong_n (F := fun L => (setL L ai c r l ts).map e0) (fun L => setL_e0) heq | exact cong_n (F := fun L => (stL L ai ts).map e0) (fun L => stL_e0') heq | exact cong_n (F := fun L => (thL L ts ai).map e0) (fun L => thL_e0) heq), (by first | exact RI.e0 hLe.symm hri.set | exact RI.e0 hLe.symm hri.st | exact RI.e0 hLe.symm hri.th)⟩, ⟨fun q hq => by rcases hq with k | k; exact hin225 q k; exact hin239 q k, hB236⟩, hB236⟩
  ·
   rw [hc21] at h20
   have hp244 : ac = 1 := by first | simpa using hc21 | simpa [and_assoc] using hc21
   clear hc21
   refine co_true h20 rfl ?_
   refine wp_skip ?_
   refine co_then ?_
   refine co_true h20 rfl ?_
   refine co_seq ?_
   refine dr_gen (fun x => But (S) w0 x ∧ Blk x N3 39 #[.int .i64 ac, .int .i64 ai, .int .i64 c, .int .i64 r, v, .int .u64 ts]) (by kernel_rfl) (fun w245 hg246 => ?_) (fun w245 hg246 => ?_)
   ·
    have hz247 := hg246.size
    have hB248 := fbU_new hB17 hg246
    have hk249 := hk5.kept hg246 (by simp)
    exact ⟨hB248, hk249⟩
   have hz250 := hg246.size
   have hB251 := fbU_new hB17 hg246
   have hk252 := hk5.kept hg246 (by simp)
   refine dk0 0 (v := pt b 0) h20 rfl rfl ⟨hB251, hk252⟩ fun a253 h253 => ?_; clear h20
   refine dk0 1 (v := pt N3 1) h253 rfl rfl ⟨hB251, hk252⟩ fun a254 h254 => ?_; clear h253
   refine dk 2 (v := .int .i64 ai) h254 rfl rfl ⟨hB251, hk252⟩ (fun x hx => (rn_load1 rfl rfl Try.isAgg3 (hx.2.cell rfl))) fun a255 h255 => ?_; clear h254
   refine dk0 3 (v := pt N3 2) h255 rfl rfl ⟨hB251, hk252⟩ fun a256 h256 => ?_; clear h255
   refine dk 4 (v := .agg #[.int .i64 c, .int .i64 r, v, .int .u64 ts]) h256 rfl rfl ⟨hB251, hk252⟩ (fun x hx => (rn_loadN rfl rfl Try.underlying37 rfl (by kernel_rfl) (blk_part hx.2 2 (by rfl)))) fun a257 h257 => ?_; clear h256
   refine dk0 6 (v := pt d 0) h257 rfl rfl ⟨hB251, hk252⟩ fun a258 h258 => ?_; clear h257
   refine dk0 7 (v := pt N3 1) h258 rfl rfl ⟨hB251, hk252⟩ fun a259 h259 => ?_; clear h258
   refine dk 8 (v := .int .i64 ai) h259 rfl rfl ⟨hB251, hk252⟩ (fun x hx => (rn_load1 rfl rfl Try.isAgg3 (hx.2.cell rfl))) fun a260 h260 => ?_; clear h259
   refine dk0 9 (v := pt N3 2) h260 rfl rfl ⟨hB251, hk252⟩ fun a261 h261 => ?_; clear h260
   refine dk 10 (v := .agg #[.int .i64 c, .int .i64 r, v, .int .u64 ts]) h261 rfl rfl ⟨hB251, hk252⟩ (fun x hx => (rn_loadN rfl rfl Try.underlying37 rfl (by kernel_rfl) (blk_part hx.2 2 (by rfl)))) fun a262 h262 => ?_; clear h261
   have hO265 := LObj.gr hA hg4 (fun k e => by cases e)
   have hO266 := LObj.gr hO265 hg246 (fun k e => by cases e)
   have hO267 := RObj.gr hD hg4 (fun k e => by cases e)
   have hO268 := RObj.gr hO267 hg246 (fun k e => by cases e)
   refine d1 5 h262 rfl rfl (op_call (args := #[pt b 0, .int .i64 ai, .agg #[.int .i64 c, .int .i64 r, v, .int .u64 ts]]) (R := fun res xw => ∃ L' : List EntT, ∃ S' : Nat → Prop, res = .int .i64 (setE L ai c r l ts) ∧ LObj S' xw b L' ∧ (SetR L ai c r l ts L') ∧ Grew A0 S' w245 xw) rfl rfl rfl (by kernel_rfl) (by kernel_rfl) (Try.call30 _ _) (tSet w245 ai c r v l ts hO266 (sl_butN hs hB251 hvS) (hvOff hinA) hlen hts hen) (by rintro e x ⟨L', S', h0, h⟩; exact ⟨_, h0, L', S', rfl, h⟩)) ?_ ?_; clear h262
   ·
    rintro _ w264 ⟨L'269, S270, rfl, hO271, hq273, hx272⟩
    have hB274 := fbU_foot hB251 hx272.but (fun i hi hq => by rcases hinA i hq with k | k; exact k; omega)
    have hz275 := hB274.size
    have hz276 := hx272.but.size
    have hin277 : ∀ q, S270 q → S q ∨ w0.heap.size ≤ q := fun q hq => by rcases hx272.sub q hq with k | k; exact hinA q k; exact .inr (by omega)
    have hk278 := Blk.butS hk252 hx272.but ho9
    exact ⟨hB274, hk278⟩
   rintro _ w264 a263 ⟨L'269, S270, rfl, hO271, hq273, hx272⟩ h263
   have hB274 := fbU_foot hB251 hx272.but (fun i hi hq => by rcases hinA i hq with k | k; exact k; omega)
   have hz275 := hB274.size
   have hz276 := hx272.but.size
   have hin277 : ∀ q, S270 q → S q ∨ w0.heap.size ≤ q := fun q hq => by rcases hx272.sub q hq with k | k; exact hinA q k; exact .inr (by omega)
   have hk278 := Blk.butS hk252 hx272.but ho9
   have hO281 := RObj.but hO268 hx272.but (ap_symm hap)
   refine d1 11 h263 rfl rfl (op_call (args := #[pt d 0, .int .i64 ai, .agg #[.int .i64 c, .int .i64 r, v, .int .u64 ts]]) (R := fun res xw => ∃ u' : Value, ∃ X' : List EntT, ∃ S' : Nat → Prop, res = .int .i64 (setE X ai c r l ts) ∧ RObj S' xw d u' X' ∧ (X'.map e0 = (setL X ai c r l ts).map e0) ∧ Grew D0 S' w264 xw) rfl rfl rfl (by kernel_rfl) (by kernel_rfl) (Try.call36 _ _) (uSet w264 ai c r v l ts hO281 (sl_butN hs hB274 hvS) (hvOff hinD) hlen hts hen) (by rintro e x ⟨u', X', S', h0, h⟩; exact ⟨_, h0, u', X', S', rfl, h⟩)) ?_ ?_; clear h263
   ·
    rintro _ w280 ⟨u'282, X'283, S284, rfl, hO285, hq287, hx286⟩
    have hB288 := fbU_foot hB274 hx286.but (fun i hi hq => by rcases hinD i hq with k | k; exact k; omega)
    have hz289 := hB288.size
    have hz290 := hx286.but.size
    have hin291 : ∀ q, S284 q → S q ∨ w0.heap.size ≤ q := fun q hq => by rcases hx286.sub q hq with k | k; exact hinD q k; exact .inr (by omega)
    have hk292 := Blk.butS hk278 hx286.but ho10
    exact ⟨hB288, hk292⟩
   rintro _ w280 a279 ⟨u'282, X'283, S284, rfl, hO285, hq287, hx286⟩ h279
   have hB288 := fbU_foot hB274 hx286.but (fun i hi hq => by rcases hinD i hq with k | k; exact k; omega)
   have hz289 := hB288.size
   have hz290 := hx286.but.size
   have hin291 : ∀ q, S284 q → S q ∨ w0.heap.size ≤ q := fun q hq => by rcases hx286.sub q hq with k | k; exact hinD q k; exact .inr (by omega)
   have hk292 := Blk.butS hk278 hx286.but ho10
   refine dk0 12 (v := .bool (setE L ai c r l ts == setE X ai c r l ts)) h279 rfl rfl ⟨hB288, hk292⟩ fun a293 h293 => ?_; clear h279
   refine dk0 13 (v := .bool (setE L ai c r l ts == setE X ai c r l ts)) h293 rfl rfl ⟨hB288, hk292⟩ fun a294 h294 => ?_; clear h293
   refine dr_done (by kernel_rfl) ?_
   refine co_then ?_
   refine wp_ret ?_
   refine co_blockR ?_
   refine co_thenR ?_
   refine co_ret1 h294 rfl rfl ?_
   have hO295 := LObj.butA hO271 hx286.but (ap_symm (ap_symm (Grew.ap hx272 (ap_symm (ap_symm hap)) (RObj.ofS hO268))))
   have hLe := (setR_e0 hq273)
   have hXe := hq287
   exact ⟨u'282, _, _, _, ret_bool (by first | rfl | (simp [cong_n (F := fun L => setE L ai c r l ts) (fun L => setE_e0) heq, cong_n (F := fun L => stE L ai ts) (fun L => stE_e0) heq, cong_n (F := fun L => thG L ts ai) (fun L => thG_e0) heq]; done)), ⟨_, _, hO295, hO285, (ap_symm (Grew.ap hx286 (ap_symm (ap_symm (ap_symm (Grew.ap hx272 (ap_symm (ap_symm hap)) (RObj.ofS hO268))))) (LObj.ofS hO271))), fun q => Iff.rfl, (by rw [hLe, hXe]; first | exact cong_n (F := fun L => (setL L ai c r l ts).map e0) (fun L => setL_e0) heq | exact cong_n (F := fun L => (stL L ai ts).map e0) (fun L => stL_e0') heq | exact cong_n (F := fun L => (thL L ts ai).map e0) (fun L => thL_e0) heq), (by first | exact RI.e0 hLe.symm hri.set | exact RI.e0 hLe.symm hri.st | exact RI.e0 hLe.symm hri.th)⟩, ⟨fun q hq => by rcases hq with k | k; exact hin277 q k; exact hin291 q k, hB288⟩, hB288⟩
 ·
  rw [hc16] at h15
  have hp296 : ac = 0 := by first | simpa using hc16 | simpa [and_assoc] using hc16
  clear hc16
  refine co_true h15 rfl ?_
  refine wp_skip ?_
  refine co_then ?_
  refine co_true h15 rfl ?_
  refine co_seq ?_
  refine dr_gen (fun x => But (S) w0 x ∧ Blk x N3 39 #[.int .i64 ac, .int .i64 ai, .int .i64 c, .int .i64 r, v, .int .u64 ts]) (by kernel_rfl) (fun w297 hg298 => ?_) (fun w297 hg298 => ?_)
  ·
   have hz299 := hg298.size
   have hB300 := fbU_new hB17 hg298
   have hk301 := hk5.kept hg298 (by simp)
   exact ⟨hB300, hk301⟩
  have hz302 := hg298.size
  have hB303 := fbU_new hB17 hg298
  have hk304 := hk5.kept hg298 (by simp)
  refine dk0 0 (v := pt b 0) h15 rfl rfl ⟨hB303, hk304⟩ fun a305 h305 => ?_; clear h15
  refine dk0 1 (v := pt N3 1) h305 rfl rfl ⟨hB303, hk304⟩ fun a306 h306 => ?_; clear h305
  refine dk 2 (v := .int .i64 ai) h306 rfl rfl ⟨hB303, hk304⟩ (fun x hx => (rn_load1 rfl rfl Try.isAgg3 (hx.2.cell rfl))) fun a307 h307 => ?_; clear h306
  refine dk0 3 (v := pt N3 2) h307 rfl rfl ⟨hB303, hk304⟩ fun a308 h308 => ?_; clear h307
  refine dk 4 (v := .agg #[.int .i64 c, .int .i64 r, v, .int .u64 ts]) h308 rfl rfl ⟨hB303, hk304⟩ (fun x hx => (rn_loadN rfl rfl Try.underlying37 rfl (by kernel_rfl) (blk_part hx.2 2 (by rfl)))) fun a309 h309 => ?_; clear h308
  refine dk0 6 (v := pt d 0) h309 rfl rfl ⟨hB303, hk304⟩ fun a310 h310 => ?_; clear h309
  refine dk0 7 (v := pt N3 1) h310 rfl rfl ⟨hB303, hk304⟩ fun a311 h311 => ?_; clear h310
  refine dk 8 (v := .int .i64 ai) h311 rfl rfl ⟨hB303, hk304⟩ (fun x hx => (rn_load1 rfl rfl Try.isAgg3 (hx.2.cell rfl))) fun a312 h312 => ?_; clear h311
  refine dk0 9 (v := pt N3 2) h312 rfl rfl ⟨hB303, hk304⟩ fun a313 h313 => ?_; clear h312
  refine dk 10 (v := .agg #[.int .i64 c, .int .i64 r, v, .int .u64 ts]) h313 rfl rfl ⟨hB303, hk304⟩ (fun x hx => (rn_loadN rfl rfl Try.underlying37 rfl (by kernel_rfl) (blk_part hx.2 2 (by rfl)))) fun a314 h314 => ?_; clear h313
  have hO317 := LObj.gr hA hg4 (fun k e => by cases e)
  have hO318 := LObj.gr hO317 hg298 (fun k e => by cases e)
  have hO319 := RObj.gr hD hg4 (fun k e => by cases e)
  have hO320 := RObj.gr hO319 hg298 (fun k e => by cases e)
  refine d1 5 h314 rfl rfl (op_call (args := #[pt b 0, .int .i64 ai, .agg #[.int .i64 c, .int .i64 r, v, .int .u64 ts]]) (R := fun res xw => ∃ L' : List EntT, ∃ S' : Nat → Prop, res = .int .i64 (setE L ai c r l ts) ∧ LObj S' xw b L' ∧ (SetR L ai c r l ts L') ∧ Grew A0 S' w297 xw) rfl rfl rfl (by kernel_rfl) (by kernel_rfl) (Try.call30 _ _) (tSet w297 ai c r v l ts hO318 (sl_butN hs hB303 hvS) (hvOff hinA) hlen hts hen) (by rintro e x ⟨L', S', h0, h⟩; exact ⟨_, h0, L', S', rfl, h⟩)) ?_ ?_; clear h314
  ·
   rintro _ w316 ⟨L'321, S322, rfl, hO323, hq325, hx324⟩
   have hB326 := fbU_foot hB303 hx324.but (fun i hi hq => by rcases hinA i hq with k | k; exact k; omega)
   have hz327 := hB326.size
   have hz328 := hx324.but.size
   have hin329 : ∀ q, S322 q → S q ∨ w0.heap.size ≤ q := fun q hq => by rcases hx324.sub q hq with k | k; exact hinA q k; exact .inr (by omega)
   have hk330 := Blk.butS hk304 hx324.but ho9
   exact ⟨hB326, hk330⟩
  rintro _ w316 a315 ⟨L'321, S322, rfl, hO323, hq325, hx324⟩ h315
  have hB326 := fbU_foot hB303 hx324.but (fun i hi hq => by rcases hinA i hq with k | k; exact k; omega)
  have hz327 := hB326.size
  have hz328 := hx324.but.size
  have hin329 : ∀ q, S322 q → S q ∨ w0.heap.size ≤ q := fun q hq => by rcases hx324.sub q hq with k | k; exact hinA q k; exact .inr (by omega)
  have hk330 := Blk.butS hk304 hx324.but ho9
  have hO333 := RObj.but hO320 hx324.but (ap_symm hap)
  refine d1 11 h315 rfl rfl (op_call (args := #[pt d 0, .int .i64 ai, .agg #[.int .i64 c, .int .i64 r, v, .int .u64 ts]]) (R := fun res xw => ∃ u' : Value, ∃ X' : List EntT, ∃ S' : Nat → Prop, res = .int .i64 (setE X ai c r l ts) ∧ RObj S' xw d u' X' ∧ (X'.map e0 = (setL X ai c r l ts).map e0) ∧ Grew D0 S' w316 xw) rfl rfl rfl (by kernel_rfl) (by kernel_rfl) (Try.call36 _ _) (uSet w316 ai c r v l ts hO333 (sl_butN hs hB326 hvS) (hvOff hinD) hlen hts hen) (by rintro e x ⟨u', X', S', h0, h⟩; exact ⟨_, h0, u', X', S', rfl, h⟩)) ?_ ?_; clear h315
  ·
   rintro _ w332 ⟨u'334, X'335, S336, rfl, hO337, hq339, hx338⟩
   have hB340 := fbU_foot hB326 hx338.but (fun i hi hq => by rcases hinD i hq with k | k; exact k; omega)
   have hz341 := hB340.size
   have hz342 := hx338.but.size
   have hin343 : ∀ q, S336 q → S q ∨ w0.heap.size ≤ q := fun q hq => by rcases hx338.sub q hq with k | k; exact hinD q k; exact .inr (by omega)
   have hk344 := Blk.butS hk330 hx338.but ho10
   exact ⟨hB340, hk344⟩
  rintro _ w332 a331 ⟨u'334, X'335, S336, rfl, hO337, hq339, hx338⟩ h331
  have hB340 := fbU_foot hB326 hx338.but (fun i hi hq => by rcases hinD i hq with k | k; exact k; omega)
  have hz341 := hB340.size
  have hz342 := hx338.but.size
  have hin343 : ∀ q, S336 q → S q ∨ w0.heap.size ≤ q := fun q hq => by rcases hx338.sub q hq with k | k; exact hinD q k; exact .inr (by omega)
  have hk344 := Blk.butS hk330 hx338.but ho10
  refine dk0 12 (v := .bool (setE L ai c r l ts == setE X ai c r l ts)) h331 rfl rfl ⟨hB340, hk344⟩ fun a345 h345 => ?_; clear h331
  refine dk0 13 (v := .bool (setE L ai c r l ts == setE X ai c r l ts)) h345 rfl rfl ⟨hB340, hk344⟩ fun a346 h346 => ?_; clear h345
  refine dr_done (by kernel_rfl) ?_
  refine co_then ?_
  refine wp_ret ?_
  refine co_blockR ?_
  refine co_thenR ?_
  refine co_ret1 h346 rfl rfl ?_
  have hO347 := LObj.butA hO323 hx338.but (ap_symm (ap_symm (Grew.ap hx324 (ap_symm (ap_symm hap)) (RObj.ofS hO320))))
  have hLe := (setR_e0 hq325)
  have hXe := hq339
  exact ⟨u'334, _, _, _, ret_bool (by first | rfl | (simp [cong_n (F := fun L => setE L ai c r l ts) (fun L => setE_e0) heq, cong_n (F := fun L => stE L ai ts) (fun L => stE_e0) heq, cong_n (F := fun L => thG L ts ai) (fun L => thG_e0) heq]; done)), ⟨_, _, hO347, hO337, (ap_symm (Grew.ap hx338 (ap_symm (ap_symm (ap_symm (Grew.ap hx324 (ap_symm (ap_symm hap)) (RObj.ofS hO320))))) (LObj.ofS hO323))), fun q => Iff.rfl, (by rw [hLe, hXe]; first | exact cong_n (F := fun L => (setL L ai c r l ts).map e0) (fun L => setL_e0) heq | exact cong_n (F := fun L => (stL L ai ts).map e0) (fun L => stL_e0') heq | exact cong_n (F := fun L => (thL L ts ai).map e0) (fun L => thL_e0) heq), (by first | exact RI.e0 hLe.symm hri.set | exact RI.e0 hLe.symm hri.st | exact RI.e0 hLe.symm hri.th)⟩, ⟨fun q hq => by rcases hq with k | k; exact hin329 q k; exact hin343 q k, hB340⟩, hB340⟩
end Go.Proofs.Ytniojcnkjehflaa

/- catenalaw17: awake. Conditions: none. -/
namespace Go.Proofs.Ytniojcnkjehflaa
open Go.RowKit Go.PlainAid
set_option linter.unusedVariables false


set_option maxRecDepth 100000 in
open Go.ChangeShapes Go.WideShapes Go.Deep in
section
variable {v v1 v2 : Value} {L : List EntT}
theorem awS1 : setE [] 0 0 1 [] 0 = 0 := by decide
theorem awL1 (h : SetR [] 0 0 1 [] 0 L) : ∃ v, L = [EntT.mk 0 1 v [] 0] := by
  rcases h with ⟨h, _⟩ | ⟨_, ⟨h, _⟩ | ⟨_, v, h⟩⟩
  · exact absurd awS1 h
  · cases h
  · exact ⟨v, h⟩
theorem awS2 : setE [EntT.mk 0 1 v [] 0] 1 0 2 [] 0 = 0 := by rfl
theorem awL2 (h : SetR [EntT.mk 0 1 v [] 0] 1 0 2 [] 0 L) : ∃ v2, L = [EntT.mk 0 1 v [] 0, EntT.mk 0 2 v2 [] 0] := by
  rcases h with ⟨h, _⟩ | ⟨_, ⟨h, _⟩ | ⟨_, v, h⟩⟩
  · exact absurd awS2 h
  · cases h
  · exact ⟨v, h⟩
theorem awS3 : stE [EntT.mk 0 1 v1 [] 0, EntT.mk 0 2 v2 [] 0] 0 5 = 0 := by rfl
theorem awL3 : stL [EntT.mk 0 1 v1 [] 0, EntT.mk 0 2 v2 [] 0] 0 5 = [EntT.mk 0 1 v1 [] 5, EntT.mk 0 2 v2 [] 0] := by rfl
theorem awS4 : stN [EntT.mk 0 1 v1 [] 5, EntT.mk 0 2 v2 [] 0] = 1 := by rfl
theorem awS5 : fndI [EntT.mk 0 1 v1 [] 5, EntT.mk 0 2 v2 [] 0] 0 2 = 1 := by rfl
theorem awS6 : topN [EntT.mk 0 1 v1 [] 5, EntT.mk 0 2 v2 [] 0] 0 = 2 := by rfl
end

set_option maxRecDepth 100000 in
theorem awake17  (w : World)  :
    Calls Try.prog 7 #[] w fun e w' => e = .returned (.bool true) ∧ Below w.heap.size w w' := by
 have hB0 := Below.refl w.heap.size w
 refine co_enter (n := 46) Try.func7 rfl rfl rfl [] rfl (fun a h0 => ?_)
 refine co_seq ?_
 refine co_reg ?_
 refine pk0 (v := .bool false) h0 rfl fun a1 h1 => ?_; clear h0
 refine pl_nil ?_
 refine co_then ?_
 refine co_seq ?_
 refine co_reg ?_
 refine pw h1 rfl (op_call (args := #[]) (R := fun res xw => ∃ N S, res = pt N 0 ∧ LObj S xw N [] ∧ (∀ q, S q → w.heap.size ≤ q) ∧ Below w.heap.size w xw) rfl rfl rfl (by kernel_rfl) (by kernel_rfl) (Try.call8 _ _) (tNew w) (by rintro e x ⟨N, S, rfl, h⟩; exact ⟨_, rfl, N, S, rfl, h⟩)) ?_; clear h1
 rintro _ w3 a2 ⟨N8, S6, rfl, hO4, hlo10, hb9⟩ h2
 have hz11 := hb9.size
 have hlo12 : ∀ q, S6 q → w.heap.size ≤ q := fun q hq => by have := hlo10 q hq; omega
 refine pk0 (v := pt N8 0) h2 rfl fun a13 h13 => ?_; clear h2
 refine pl_nil ?_
 refine co_then ?_
 refine co_seq ?_
 refine co_reg ?_
 refine pk0 (v := pt N8 0) h13 rfl fun a14 h14 => ?_; clear h13
 refine pk0 (v := .agg #[.int .i64 0, .int .i64 1, .slice none 0 0]) h14 rfl fun a15 h15 => ?_; clear h14
 refine pk0 (v := .agg #[.int .i64 0, .int .i64 1, .slice none 0 0, .int .u64 0]) h15 rfl fun a16 h16 => ?_; clear h15
 have hB23 := hb_call hB0 hb9
 refine pw h16 rfl (op_call (args := #[pt N8 0, .int .i64 0, .agg #[.int .i64 0, .int .i64 1, .slice none 0 0, .int .u64 0]]) (R := fun res xw => ∃ L' S', res = .int .i64 0 ∧ LObj S' xw N8 L' ∧ SetR ([]) 0 0 1 ([]) 0 L' ∧ Grew S6 S' w3 xw) rfl rfl rfl (by kernel_rfl) (by kernel_rfl) (Try.call30 _ _) (tSet w3 0 0 1 (.slice none 0 0) ([]) 0 hO4 (sl_nil _) (fun hq => absurd rfl hq) (by decide) (by decide) ⟨(fun o ho => by cases ho), rfl, rfl⟩) (by rintro e x ⟨L', S', h0, h⟩; rw [show (setE ([]) 0 0 1 ([]) 0 : Int) = 0 from awS1] at h0; exact ⟨_, h0, L', S', rfl, h⟩)) ?_; clear h16
 rintro _ w18 a17 ⟨L22, S21, rfl, hO19, hR24, hx20⟩ h17
 have hlo25 : ∀ q, S21 q → w.heap.size ≤ q := hx20.lo hlo12 (by omega)
 obtain ⟨v26, rfl⟩ := awL1 hR24
 have hB27 := hbL hB23 hlo12 hx20.but
 have hz28 := hB27.size; have hz29 := hx20.but.size
 refine pk0 (v := .int .i64 0) h17 rfl fun a30 h30 => ?_; clear h17
 refine pl_nil ?_
 refine co_then ?_
 refine co_seq ?_
 refine co_reg ?_
 refine pk0 (v := pt N8 0) h30 rfl fun a31 h31 => ?_; clear h30
 refine pk0 (v := .agg #[.int .i64 0, .int .i64 2, .slice none 0 0]) h31 rfl fun a32 h32 => ?_; clear h31
 refine pk0 (v := .agg #[.int .i64 0, .int .i64 2, .slice none 0 0, .int .u64 0]) h32 rfl fun a33 h33 => ?_; clear h32
 refine pw h33 rfl (op_call (args := #[pt N8 0, .int .i64 1, .agg #[.int .i64 0, .int .i64 2, .slice none 0 0, .int .u64 0]]) (R := fun res xw => ∃ L' S', res = .int .i64 0 ∧ LObj S' xw N8 L' ∧ SetR ([EntT.mk 0 1 v26 [] 0]) 1 0 2 ([]) 0 L' ∧ Grew S21 S' w18 xw) rfl rfl rfl (by kernel_rfl) (by kernel_rfl) (Try.call30 _ _) (tSet w18 1 0 2 (.slice none 0 0) ([]) 0 hO19 (sl_nil _) (fun hq => absurd rfl hq) (by decide) (by decide) ⟨(fun o ho => by cases ho), rfl, rfl⟩) (by rintro e x ⟨L', S', h0, h⟩; rw [show (setE ([EntT.mk 0 1 v26 [] 0]) 1 0 2 ([]) 0 : Int) = 0 from awS2] at h0; exact ⟨_, h0, L', S', rfl, h⟩)) ?_; clear h33
 rintro _ w35 a34 ⟨L39, S38, rfl, hO36, hR40, hx37⟩ h34
 have hlo41 : ∀ q, S38 q → w.heap.size ≤ q := hx37.lo hlo25 (by omega)
 obtain ⟨v42, rfl⟩ := awL2 hR40
 have hB43 := hbL hB27 hlo25 hx37.but
 have hz44 := hB43.size; have hz45 := hx37.but.size
 refine pk0 (v := .int .i64 0) h34 rfl fun a46 h46 => ?_; clear h34
 refine pl_nil ?_
 refine co_then ?_
 refine co_seq ?_
 refine co_reg ?_
 refine pk0 (v := pt N8 0) h46 rfl fun a47 h47 => ?_; clear h46
 refine pw h47 rfl (op_call (args := #[pt N8 0, .int .i64 0, .int .u64 5]) (R := fun res xw => ∃ S', res = .int .i64 0 ∧ LObj S' xw N8 (stL ([EntT.mk 0 1 v26 [] 0, EntT.mk 0 2 v42 [] 0]) 0 5) ∧ Grew S38 S' w35 xw) rfl rfl rfl (by kernel_rfl) (by kernel_rfl) (Try.call31 _ _) (tStamp w35 0 5 hO36 (by decide)) (by rintro e x ⟨S', h0, h⟩; rw [show (stE ([EntT.mk 0 1 v26 [] 0, EntT.mk 0 2 v42 [] 0]) 0 5 : Int) = 0 from awS3] at h0; exact ⟨_, h0, S', rfl, h⟩)) ?_; clear h47
 rintro _ w49 a48 ⟨S52, rfl, hO50, hx51⟩ h48
 have hlo54 : ∀ q, S52 q → w.heap.size ≤ q := hx51.lo hlo41 (by omega)
 have hB55 := hbL hB43 hlo41 hx51.but
 have hz56 := hB55.size; have hz57 := hx51.but.size
 refine pk0 (v := .int .i64 0) h48 rfl fun a58 h58 => ?_; clear h48
 refine pl_nil ?_
 refine co_then ?_
 refine co_seq ?_
 refine co_reg ?_
 refine pk0 (v := .int .i64 0) h58 rfl fun a59 h59 => ?_; clear h58
 refine pk0 (v := .bool ((0 : Int) == 0)) h59 rfl fun a60 h60 => ?_; clear h59
 refine pk0 (v := .bool ((0 : Int) == 0)) h60 rfl fun a61 h61 => ?_; clear h60
 have hc62 : ((0 : Int) == 0) = true := by first | (simp; done) | (simp; omega) | exact beq_false_of_ne (by omega) | exact beq_iff_eq.2 (by omega)
 rw [hc62] at h61; clear hc62
 refine pk0 (v := .int .i64 0) h61 rfl fun a63 h63 => ?_; clear h61
 refine pk0 (v := .bool ((0 : Int) == 0)) h63 rfl fun a64 h64 => ?_; clear h63
 refine pk0 (v := .bool ((0 : Int) == 0)) h64 rfl fun a65 h65 => ?_; clear h64
 refine pk0 (v := .bool ((0 : Int) == 0)) h65 rfl fun a66 h66 => ?_; clear h65
 have hc67 : ((0 : Int) == 0) = true := by first | (simp; done) | (simp; omega) | exact beq_false_of_ne (by omega) | exact beq_iff_eq.2 (by omega)
 rw [hc67] at h66; clear hc67
 refine pk0 (v := .int .i64 0) h66 rfl fun a68 h68 => ?_; clear h66
 refine pk0 (v := .bool ((0 : Int) == 0)) h68 rfl fun a69 h69 => ?_; clear h68
 refine pk0 (v := .bool ((0 : Int) == 0)) h69 rfl fun a70 h70 => ?_; clear h69
 refine pk0 (v := .bool ((0 : Int) == 0)) h70 rfl fun a71 h71 => ?_; clear h70
 have hc72 : ((0 : Int) == 0) = true := by first | (simp; done) | (simp; omega) | exact beq_false_of_ne (by omega) | exact beq_iff_eq.2 (by omega)
 rw [hc72] at h71; clear hc72
 refine pk0 (v := pt N8 0) h71 rfl fun a73 h73 => ?_; clear h71
 refine pw h73 rfl (op_call (args := #[pt N8 0]) (R := fun res xw => ∃ S', res = .int .i64 2 ∧ LObj S' xw N8 ([EntT.mk 0 1 v26 [] 5, EntT.mk 0 2 v42 [] 0]) ∧ Grew S52 S' w49 xw) rfl rfl rfl (by kernel_rfl) (by kernel_rfl) (Try.call32 _ _) (tLen w49 (show LObj _ _ _ _ from awL3 ▸ hO50)) (by rintro e x ⟨S', h0, h⟩; rw [show (((([EntT.mk 0 1 v26 [] 5, EntT.mk 0 2 v42 [] 0]).length : Nat) : Int) : Int) = 2 from rfl] at h0; exact ⟨_, h0, S', rfl, h⟩)) ?_; clear h73
 rintro _ w75 a74 ⟨S78, rfl, hO76, hx77⟩ h74
 have hlo80 : ∀ q, S78 q → w.heap.size ≤ q := hx77.lo hlo54 (by omega)
 have hB81 := hbL hB55 hlo54 hx77.but
 have hz82 := hB81.size; have hz83 := hx77.but.size
 refine pk0 (v := .bool ((2 : Int) == 2)) h74 rfl fun a84 h84 => ?_; clear h74
 refine pk0 (v := .bool ((2 : Int) == 2)) h84 rfl fun a85 h85 => ?_; clear h84
 refine pk0 (v := .bool ((2 : Int) == 2)) h85 rfl fun a86 h86 => ?_; clear h85
 have hc87 : ((2 : Int) == 2) = true := by first | (simp; done) | (simp; omega) | exact beq_false_of_ne (by omega) | exact beq_iff_eq.2 (by omega)
 rw [hc87] at h86; clear hc87
 refine pk0 (v := pt N8 0) h86 rfl fun a88 h88 => ?_; clear h86
 refine pw h88 rfl (op_call (args := #[pt N8 0]) (R := fun res xw => ∃ S', res = .int .i64 1 ∧ LObj S' xw N8 ([EntT.mk 0 1 v26 [] 5, EntT.mk 0 2 v42 [] 0]) ∧ Grew S78 S' w75 xw) rfl rfl rfl (by kernel_rfl) (by kernel_rfl) (Try.call33 _ _) (tStamped w75 hO76) (by rintro e x ⟨S', h0, h⟩; rw [show (((stN ([EntT.mk 0 1 v26 [] 5, EntT.mk 0 2 v42 [] 0]) : Nat) : Int) : Int) = 1 from congrArg _ awS4] at h0; exact ⟨_, h0, S', rfl, h⟩)) ?_; clear h88
 rintro _ w90 a89 ⟨S93, rfl, hO91, hx92⟩ h89
 have hlo95 : ∀ q, S93 q → w.heap.size ≤ q := hx92.lo hlo80 (by omega)
 have hB96 := hbL hB81 hlo80 hx92.but
 have hz97 := hB96.size; have hz98 := hx92.but.size
 refine pk0 (v := .bool ((1 : Int) == 1)) h89 rfl fun a99 h99 => ?_; clear h89
 refine pk0 (v := .bool ((1 : Int) == 1)) h99 rfl fun a100 h100 => ?_; clear h99
 refine pk0 (v := .bool ((1 : Int) == 1)) h100 rfl fun a101 h101 => ?_; clear h100
 have hc102 : ((1 : Int) == 1) = true := by first | (simp; done) | (simp; omega) | exact beq_false_of_ne (by omega) | exact beq_iff_eq.2 (by omega)
 rw [hc102] at h101; clear hc102
 refine pk0 (v := pt N8 0) h101 rfl fun a103 h103 => ?_; clear h101
 refine pw h103 rfl (op_call (args := #[pt N8 0, .int .i64 0, .int .i64 2]) (R := fun res xw => ∃ S', res = .int .i64 1 ∧ LObj S' xw N8 ([EntT.mk 0 1 v26 [] 5, EntT.mk 0 2 v42 [] 0]) ∧ Grew S93 S' w90 xw) rfl rfl rfl (by kernel_rfl) (by kernel_rfl) (Try.call34 _ _) (tFind w90 0 2 hO91) (by rintro e x ⟨S', h0, h⟩; rw [show (fndI ([EntT.mk 0 1 v26 [] 5, EntT.mk 0 2 v42 [] 0]) 0 2 : Int) = 1 from awS5] at h0; exact ⟨_, h0, S', rfl, h⟩)) ?_; clear h103
 rintro _ w105 a104 ⟨S108, rfl, hO106, hx107⟩ h104
 have hlo110 : ∀ q, S108 q → w.heap.size ≤ q := hx107.lo hlo95 (by omega)
 have hB111 := hbL hB96 hlo95 hx107.but
 have hz112 := hB111.size; have hz113 := hx107.but.size
 refine pk0 (v := .bool ((1 : Int) == 1)) h104 rfl fun a114 h114 => ?_; clear h104
 refine pk0 (v := .bool ((1 : Int) == 1)) h114 rfl fun a115 h115 => ?_; clear h114
 refine pk0 (v := .bool ((1 : Int) == 1)) h115 rfl fun a116 h116 => ?_; clear h115
 have hc117 : ((1 : Int) == 1) = true := by first | (simp; done) | (simp; omega) | exact beq_false_of_ne (by omega) | exact beq_iff_eq.2 (by omega)
 rw [hc117] at h116; clear hc117
 refine pk0 (v := pt N8 0) h116 rfl fun a118 h118 => ?_; clear h116
 refine pw h118 rfl (op_call (args := #[pt N8 0, .int .i64 0]) (R := fun res xw => ∃ S', res = .int .i64 2 ∧ LObj S' xw N8 ([EntT.mk 0 1 v26 [] 5, EntT.mk 0 2 v42 [] 0]) ∧ Grew S108 S' w105 xw) rfl rfl rfl (by kernel_rfl) (by kernel_rfl) (Try.call35 _ _) (tTop w105 0 hO106) (by rintro e x ⟨S', h0, h⟩; rw [show (topN ([EntT.mk 0 1 v26 [] 5, EntT.mk 0 2 v42 [] 0]) 0 : Int) = 2 from awS6] at h0; exact ⟨_, h0, S', rfl, h⟩)) ?_; clear h118
 rintro _ w120 a119 ⟨S123, rfl, hO121, hx122⟩ h119
 have hlo125 : ∀ q, S123 q → w.heap.size ≤ q := hx122.lo hlo110 (by omega)
 have hB126 := hbL hB111 hlo110 hx122.but
 have hz127 := hB126.size; have hz128 := hx122.but.size
 refine pk0 (v := .bool ((2 : Int) == 2)) h119 rfl fun a129 h129 => ?_; clear h119
 refine pk0 (v := .bool ((2 : Int) == 2)) h129 rfl fun a130 h130 => ?_; clear h129
 refine pk0 (v := .bool ((2 : Int) == 2)) h130 rfl fun a131 h131 => ?_; clear h130
 refine pl_nil ?_
 refine co_then ?_
 refine wp_ret ?_
 refine co_ret1 h131 rfl rfl ?_
 exact ⟨rfl, hB126⟩
end Go.Proofs.Ytniojcnkjehflaa

/- catenalaw17: what comes in; both logs as one object; few. Conditions: none. -/
namespace Go.Proofs.Ytniojcnkjehflaa
open Go.RowKit Go.PlainAid
set_option linter.unusedVariables false


structure RActT where
  c : Int
  i : Int
  e : EntT
instance : Inhabited RActT := ⟨⟨0, 0, default⟩⟩
def ractE (a : RActT) : List Value := [.int .i64 a.c, .int .i64 a.i, .int .i64 a.e.client, .int .i64 a.e.req, a.e.ops, .int .u64 a.e.ts]
def RActOk (w : World) (a : RActT) : Prop := EntOk w a.e ∧ (Lit.int .i64 a.c).wf = true ∧ (Lit.int .i64 a.i).wf = true
section
variable {H : Type} {enc : TypeId × Value → H} {w : World} {base : Nat} {spare : Nat → Bool} {held : Bool}
open Go.ChangeShapes Go.WideShapes Go.Deep
set_option maxRecDepth 10000 in
theorem elem_ract (n : Nat) (cs : List Value) (x : DataW H × List MemPlace) (h : DataW.trod enc Try.prog w base spare held n 39 cs = some x) : ∃ a, cs = ractE a ∧ RActOk w a := by
  obtain ⟨xs, m, _, _, hl, hxl, hf⟩ := DataW.trod_struct Try.underlying39 h
  have hl4 : cs.length = 6 := hl
  have hx2 : xs.length = 3 := hxl
  clear hl hxl
  match cs, hl4, xs, hx2 with
  | [c0, c1, c2, c3, c4, c5], _, [y0, y1, y2], _ =>
    have h0' : DataW.trod enc Try.prog w base spare held m 3 [c0] = some y0 := hf 0 _ rfl
    have h1' : DataW.trod enc Try.prog w base spare held m 3 [c1] = some y1 := hf 1 _ rfl
    have h2' : DataW.trod enc Try.prog w base spare held m 37 [c2, c3, c4, c5] = some y2 := hf 2 _ rfl
    obtain ⟨a, e0, _, w0⟩ := DataW.trod_int Try.underlying3 h0'
    obtain ⟨b, e1, _, w1⟩ := DataW.trod_int Try.underlying3 h1'
    obtain ⟨e, he, hok⟩ := elem_ent _ _ _ h2'
    simp only [List.cons.injEq, and_true] at e0 e1
    subst e0 e1
    refine ⟨⟨a, b, e⟩, ?_, hok, w0, w1⟩
    show _ :: _ :: [c2, c3, c4, c5] = _
    rw [he]; rfl
theorem open_racts {fuel : Nat} {cs : List Value} {x : DataW H × List MemPlace} (h : DataW.trod enc Try.prog w base spare held fuel 22 cs = some x) :
    ∃ (l : List RActT) (v : Value), cs = [v] ∧ SliceOf ractE 6 w v l ∧ ∀ p ∈ l, RActOk w p :=
  open_rows ractE 6 (RActOk w) Try.underlying22 (by kernel_rfl) (by omega) elem_ract h
end
def Few (l : List RActT) (n : Nat) : Prop := ∀ a ∈ l.take n, a.e.opl.length ≤ 20
instance (l : List RActT) (n : Nat) : Decidable (Few l n) := by unfold Few; infer_instance
theorem Few.step {l : List RActT} {i : Nat} {y : RActT} (h : Few l i) (hy : l[i]? = some y) (h2 : y.e.opl.length ≤ 20) : Few l (i + 1) := by
  unfold Few at h ⊢
  rw [takeE hy]
  intro a ha
  rw [List.mem_append, List.mem_singleton] at ha
  rcases ha with ha | rfl; exact h a ha; exact h2
theorem Few.not {l : List RActT} {i : Nat} {y : RActT} (hy : l[i]? = some y) (hi : i < 40) (h2 : y.e.opl.length > 20) : ¬ Few l 40 := fun h => by
  have := h y (List.mem_of_getElem? (i := i) (by rw [List.getElem?_take, if_pos hi]; exact hy)); omega
theorem Few.all {l : List RActT} {i : Nat} (h : Few l i) (hi : l.length ≤ i ∨ 40 ≤ i) : Few l 40 := by
  rcases hi with hi | hi
  · intro a ha; exact h a (by rw [List.take_of_length_le hi]; exact List.mem_of_mem_take ha)
  · intro a ha
    obtain ⟨j, hj⟩ := List.getElem?_of_mem ha
    have hl := (List.getElem?_eq_some_iff.1 hj).1
    rw [List.length_take] at hl
    rw [List.getElem?_take, if_pos (by omega)] at hj
    exact h a (List.mem_of_getElem? (i := j) (by rw [List.getElem?_take, if_pos (by omega)]; exact hj))
theorem Few.at {l : List RActT} {i : Nat} {y : RActT} (h : Few l 40) (hy : l[i]? = some y) (hi : i < 40) : y.e.opl.length ≤ 20 := h y (List.mem_of_getElem? (i := i) (by rw [List.getElem?_take, if_pos hi]; exact hy))
section
variable {S A : Nat → Prop} {w x : World} {b d : Nat} {u : Value} {L X : List EntT}
theorem TwoP.mk0 (h : LObj A w b []) (hb : Blk w d 31 #[.slice none 0 0]) (hA : ¬ A d) : TwoP (fun q => A q ∨ q = d) w b d (.slice none 0 0) [] [] := by
  refine ⟨A, fun q => q = d, h, ⟨fun q hq => by subst hq; exact hb.lt, hb, World.ownsRow_nil _ _ _ _, fun e he => by simp at he, .inl rfl, InS.nil, by simp⟩, fun q h1 h2 => by subst h2; exact hA h1, fun q => Iff.rfl, rfl, RI.nil⟩
theorem step17_any' (w : World) (ac ai c r : Int) (v : Value) (l : List OpT) (ts : Int) (hT : TwoP S w b d u L X) (hs : SliceOf opE 3 w v l) (hvS : l ≠ [] → ∀ k, v.ownBlock = some k → ¬ S k) (hlen : l.length ≤ 20) (hts : 0 ≤ ts ∧ ts < 18446744073709551616) (hai : -9223372036854775808 ≤ ai ∧ ai ≤ 9223372036854775807) (hen : (∀ o ∈ l, opOk o) ∧ (Lit.int .i64 c).wf = true ∧ (Lit.int .i64 r).wf = true) :
    Calls Try.prog 9 #[pt b 0, pt d 0, .agg #[.int .i64 ac, .int .i64 ai, .int .i64 c, .int .i64 r, v, .int .u64 ts]] w fun e w' => ∃ u' L' X' S', e = .returned (.bool true) ∧ TwoP S' w' b d u' L' X' ∧ Grew S S' w w' :=
  (step17_any w S b d u L X ac ai c r v l ts w (But.refl _ _) rfl hT hs hvS hlen hts hai hen).mono fun e x ⟨u', L', X', S', h0, h1, h2, _⟩ => ⟨u', L', X', S', h0, h1, h2⟩
end

set_option maxRecDepth 100000 in
theorem few17_any (v : Value) (l : List RActT) (w : World) (hs : SliceOf ractE 6 w v l) (hok : ∀ z ∈ l, RActOk w z) :
    Calls Try.prog 6 #[v] w fun e w' => e = .returned (.bool (decide (Few l 40))) ∧ Below w.heap.size w w' := by
 have hB0 := Below.refl w.heap.size w
 have hl_hs := sl_len hs
 refine co_enter (n := 23) Try.func6 rfl rfl rfl [(0, v)] rfl (fun a h0 => ?_)
 refine co_seq ?_
 refine co_reg ?_
 refine pk0 (v := .bool false) h0 rfl fun a1 h1 => ?_; clear h0
 refine pl_nil ?_
 refine co_then ?_
 refine co_seq ?_
 refine co_seq ?_
 refine co_reg ?_
 refine pk0 (v := .int .i64 0) h1 rfl fun a2 h2 => ?_; clear h1
 refine pl_nil ?_
 refine co_then ?_
 refine wp_block ?_
 have h3 : Slots 23 [(0, v), (3, .int .i64 0)] _ := h2.sub ⟨rfl, rfl, trivial⟩; clear h2
 refine co_loop (fun mm a x => ∃ (i : Nat), Slots 23 [(0, v), (3, .int .i64 ((i : Nat) : Int))] a ∧ mm = l.length - i ∧ (i ≤ l.length) ∧ (i ≤ 40) ∧ (Few l i) ∧ Below w.heap.size w x) (l.length - 0) ?_ ?_
 · exact ⟨0, h3.sub ⟨rfl, (slot_eq rfl (congrArg (Value.int .i64) (by first | rfl | omega))), trivial⟩, rfl, by omega, by omega, by first | exact hf' | (intro a ha; simp at ha), hB0⟩
 · rintro k4 a5 w6 ⟨i, h5, rfl, hi7, hi8, hi9, hB10⟩
   have hz11 := hB10.size
   refine co_seq ?_
   refine co_seq ?_
   refine co_reg ?_
   refine pk0 (v := .int .i64 ((i : Nat) : Int)) h5 rfl fun a12 h12 => ?_; clear h5
   refine pk0 (v := v) h12 rfl fun a13 h13 => ?_; clear h12
   refine pk (v := .int .i64 ((l.length : Nat) : Int)) h13 rfl (rn_len rfl rfl Try.underlying22 (hs.below hB10)) fun a14 h14 => ?_; clear h13
   refine pk0 (v := .bool (decide (((i : Nat) : Int) < ((l.length : Nat) : Int)))) h14 rfl fun a15 h15 => ?_; clear h14
   refine pk0 (v := .bool (decide (((i : Nat) : Int) < ((l.length : Nat) : Int)))) h15 rfl fun a16 h16 => ?_; clear h15
   cases hc17 : (decide (((i : Nat) : Int) < ((l.length : Nat) : Int)))
   ·
    rw [hc17] at h16
    have hp18 : ¬ (((i : Nat) : Int) < ((l.length : Nat) : Int)) := of_decide_eq_false hc17
    clear hc17
    refine psk h16 rfl fun a19 h19 => ?_; clear h16
    refine psk h19 rfl fun a20 h20 => ?_; clear h19
    refine pk0 (v := .bool false) h20 rfl fun a21 h21 => ?_; clear h20
    refine pl_nil ?_
    refine co_then ?_
    refine co_false h21 rfl ?_
    refine wp_exit ?_
    refine co_thenX ?_
    refine co_thenX ?_
    refine co_blockX ?_
    refine co_then ?_
    refine co_seq ?_
    refine co_reg ?_
    refine pk0 (v := .bool true) h21 rfl fun a22 h22 => ?_; clear h21
    refine pl_nil ?_
    refine co_then ?_
    refine wp_ret ?_
    refine co_ret1 h22 rfl rfl ?_
    exact ⟨ret_bool (by first | exact (decide_eq_true (Few.all (by assumption) (by omega))).symm | exact (decide_eq_false (Few.not rfl (by omega) (by omega))).symm), hB10⟩
   ·
    rw [hc17] at h16
    have hp23 : ((i : Nat) : Int) < ((l.length : Nat) : Int) := of_decide_eq_true hc17
    clear hc17
    refine pk0 (v := .int .i64 ((i : Nat) : Int)) h16 rfl fun a24 h24 => ?_; clear h16
    refine pk0 (v := .bool (decide (((i : Nat) : Int) < 40))) h24 rfl fun a25 h25 => ?_; clear h24
    refine pk0 (v := .bool (decide (((i : Nat) : Int) < 40))) h25 rfl fun a26 h26 => ?_; clear h25
    refine pl_nil ?_
    refine co_then ?_
    cases hc27 : (decide (((i : Nat) : Int) < 40))
    ·
     rw [hc27] at h26
     have hp28 : ¬ (((i : Nat) : Int) < 40) := of_decide_eq_false hc27
     clear hc27
     refine co_false h26 rfl ?_
     refine wp_exit ?_
     refine co_thenX ?_
     refine co_thenX ?_
     refine co_blockX ?_
     refine co_then ?_
     refine co_seq ?_
     refine co_reg ?_
     refine pk0 (v := .bool true) h26 rfl fun a29 h29 => ?_; clear h26
     refine pl_nil ?_
     refine co_then ?_
     refine wp_ret ?_
     refine co_ret1 h29 rfl rfl ?_
     exact ⟨ret_bool (by first | exact (decide_eq_true (Few.all (by assumption) (by omega))).symm | exact (decide_eq_false (Few.not rfl (by omega) (by omega))).symm), hB10⟩
    ·
     rw [hc27] at h26
     have hp30 : ((i : Nat) : Int) < 40 := of_decide_eq_true hc27
     clear hc27
     refine co_true h26 rfl ?_
     refine wp_skip ?_
     refine co_then ?_
     refine co_seq ?_
     refine wp_block ?_
     refine co_seq ?_
     refine co_reg ?_
     refine pk0 (v := v) h26 rfl fun a31 h31 => ?_; clear h26
     refine pk0 (v := .int .i64 ((i : Nat) : Int)) h31 rfl fun a32 h32 => ?_; clear h31
     obtain ⟨y33, hy33⟩ : ∃ z, l[i]? = some z := ⟨_, List.getElem?_eq_getElem (by first | omega | (simp; done) | (simp; omega))⟩
     have oky33 := hok _ (List.mem_of_getElem? hy33)
     have k34 : 0 ≤ y33.e.ts := oky33.1.ts0
     have k35 : y33.e.ts < 18446744073709551616 := oky33.1.ts1
     refine pk (v := pt (blkOf v) (offOf v + i * 6)) h32 rfl (rn_index rfl rfl rfl Try.underlying22 Try.sizeOf39 (hs.below hB10) (by omega) (by first | omega | (simp; done) | (simp; omega))) fun a36 h36 => ?_; clear h32
     refine pk0 (v := pt (blkOf v) (offOf v + i * 6 + 2)) h36 rfl fun a37 h37 => ?_; clear h36
     refine pk0 (v := pt (blkOf v) (offOf v + i * 6 + 2)) h37 rfl fun a38 h38 => ?_; clear h37
     refine pk0 (v := pt (blkOf v) (offOf v + i * 6 + 2 + 2)) h38 rfl fun a39 h39 => ?_; clear h38
     refine pk (v := y33.e.ops) h39 rfl (rn_load1 rfl rfl Try.isAgg33 ((sl_at (hs.below hB10) hy33) 4 _ rfl)) fun a40 h40 => ?_; clear h39
     refine pk (v := .int .i64 ((y33.e.opl.length : Nat) : Int)) h40 rfl (rn_len rfl rfl Try.underlying33 (oky33.1.ops.below hB10)) fun a41 h41 => ?_; clear h40
     refine pk0 (v := .bool (decide (((y33.e.opl.length : Nat) : Int) > 20))) h41 rfl fun a42 h42 => ?_; clear h41
     refine pl_nil ?_
     refine co_then ?_
     cases hc43 : (decide (((y33.e.opl.length : Nat) : Int) > 20))
     ·
      rw [hc43] at h42
      have hp44 : ¬ (((y33.e.opl.length : Nat) : Int) > 20) := of_decide_eq_false hc43
      clear hc43
      refine co_false h42 rfl ?_
      refine wp_skip ?_
      refine co_blockN ?_
      refine co_then ?_
      refine co_reg ?_
      refine pk0 (v := .int .i64 ((i : Nat) : Int)) h42 rfl fun a45 h45 => ?_; clear h42
      refine pk (v := .int .i64 ((i + 1 : Nat) : Int)) h45 rfl (rn_arith' rfl rfl rfl rfl rfl rfl (IntWalk.i64_in _ (by omega)) (by omega)) fun a46 h46 => ?_; clear h45
      refine pk0 (v := .int .i64 ((i + 1 : Nat) : Int)) h46 rfl fun a47 h47 => ?_; clear h46
      refine pl_nil ?_
      refine co_then ?_
      refine ⟨(l.length - (i + 1)), by omega, ?_⟩
      have hf' := Few.step (by assumption : Few l i) hy33 (by omega)
      exact ⟨i + 1, h47.sub ⟨rfl, rfl, trivial⟩, rfl, by omega, by omega, by first | exact hf' | (intro a ha; simp at ha), hB10⟩
     ·
      rw [hc43] at h42
      have hp48 : ((y33.e.opl.length : Nat) : Int) > 20 := of_decide_eq_true hc43
      clear hc43
      refine co_true h42 rfl ?_
      refine co_seq ?_
      refine co_reg ?_
      refine pk0 (v := .bool false) h42 rfl fun a49 h49 => ?_; clear h42
      refine pl_nil ?_
      refine co_then ?_
      refine wp_ret ?_
      refine co_blockR ?_
      refine co_thenR ?_
      refine co_thenR ?_
      refine co_blockR ?_
      refine co_thenR ?_
      refine co_ret1 h49 rfl rfl ?_
      exact ⟨ret_bool (by first | exact (decide_eq_true (Few.all (by assumption) (by omega))).symm | exact (decide_eq_false (Few.not hy33 (by omega) (by omega))).symm), hB10⟩
end Go.Proofs.Ytniojcnkjehflaa
