/- catenaref05.Set, without keys.Set. Conditions: the texts read as l, of at most 1000. -/
import Derived.Test.YtfjhlckklgeokaaLib
import Derived.Test.YtfjhlckklgeokaaStrs
import Derived.Test.YtfjhlckklgeokaaApp
import Derived.BigQuiet
import Derived.Sort.KeysCollected
import Derived.Maps.OwnSet
import Derived.Sort.OwnSorted
import Derived.Shelf.Sort.Plain
namespace Go.Proofs.Ytfjhlckklgeokaa
open Go.RowKit Go.PlainAid Go.WideMaps Go.Maps Go.Sort Go.Shelf

theorem own_lowK {w : World} {B B' : Nat} {e : TypeId} {k : Nat} {v : Value} {n : Nat} {xs : List Value} (h : w.ownsRow B e k v n xs) (hb : B' ≤ B) : w.ownsRow B' e k v n xs := by
  obtain ⟨h1, h2⟩ := h
  refine ⟨h1, ?_⟩
  rcases h2 with h2 | ⟨g, cap, cur, hv, hg, r⟩
  · exact Or.inl h2
  · exact Or.inr ⟨g, cap, cur, hv, Nat.le_trans hb hg, r⟩
theorem info_strK : (Try.prog.info? 9).map (fun i => (i.zero, i.size, i.bytes)) = some (some (.string ⟨#[]⟩), 1, 16) := by kernel_rfl
theorem bl_lt (x y : List UInt8) : Op.bytesLess x y = decide (x < y) := bytesLess_eq x y
/-- A text's bytes. -/
abbrev kb (s : ByteArray) : List UInt8 := s.data.toList
/-- ys rises, and has just what l has. -/
def SetOf (ys l : List ByteArray) : Prop := (ys.map kb).Pairwise (· < ·) ∧ ∀ x, x ∈ ys.map kb ↔ x ∈ l.map kb
def mkB (x : List UInt8) : ByteArray := ⟨x.toArray⟩
theorem kb_mk (x : List UInt8) : kb (mkB x) = x := by simp [kb, mkB]
theorem mk_kb (s : ByteArray) : mkB (kb s) = s := by apply ByteArray.ext; simp [kb, mkB]
theorem kb_inj {a b : ByteArray} (h : kb a = kb b) : a = b := by rw [← mk_kb a, h, mk_kb]
theorem map_kb_mk : ∀ l : List (List UInt8), (l.map mkB).map kb = l
  | [] => rfl
  | x :: l => by rw [List.map_cons, List.map_cons, kb_mk, map_kb_mk l]
theorem map_mk_kb : ∀ l : List ByteArray, (l.map kb).map mkB = l
  | [] => rfl
  | x :: l => by rw [List.map_cons, List.map_cons, mk_kb, map_mk_kb l]
theorem map_kb_inj {a b : List ByteArray} (h : a.map kb = b.map kb) : a = b := by rw [← map_mk_kb a, h, map_mk_kb]
theorem enc_mk (l : List (List UInt8)) : l.map encStr = (l.map mkB).flatMap strE := by
  induction l with
  | nil => rfl
  | cons x l ih => rw [List.map_cons, List.map_cons, List.flatMap_cons, ih]; rfl
theorem rising_eq : ∀ {a b : List (List UInt8)}, a.Pairwise (· < ·) → b.Pairwise (· < ·) → (∀ x, x ∈ a ↔ x ∈ b) → a = b
  | [], [], _, _, _ => rfl
  | [], y :: b, _, _, h => absurd ((h y).2 (by simp)) (by simp)
  | x :: a, [], _, _, h => absurd ((h x).1 (by simp)) (by simp)
  | x :: a, y :: b, ha, hb, h => by
    rw [List.pairwise_cons] at ha hb
    have hxy : x = y := by
      have h1 := (h x).1 (by simp)
      have h2 := (h y).2 (by simp)
      rcases List.mem_cons.1 h1 with e | h1
      · exact e
      · rcases List.mem_cons.1 h2 with e | h2
        · exact e.symm
        · exact absurd (List.lt_trans (ha.1 y h2) (hb.1 x h1)) (List.lt_irrefl x)
    subst hxy
    rw [rising_eq ha.2 hb.2 (fun z => ?_)]
    have hz := h z
    simp only [List.mem_cons] at hz
    constructor
    · intro hm
      rcases hz.1 (.inr hm) with e | k
      · subst e; exact absurd (ha.1 z hm) (List.lt_irrefl z)
      · exact k
    · intro hm
      rcases hz.2 (.inr hm) with e | k
      · subst e; exact absurd (hb.1 z hm) (List.lt_irrefl z)
      · exact k
theorem SetOf.uniq {a b l : List ByteArray} (h : SetOf a l) (k : SetOf b l) : a = b := map_kb_inj (rising_eq h.1 k.1 (fun x => (h.2 x).trans (k.2 x).symm))
/-- What stands in a world stands behind allocations and draws: the list of steps. -/
theorem ins_rising {L : List (List UInt8)} {x : List UInt8} {k : Nat} (h : L.Pairwise (· < ·)) (h1 : ∀ y ∈ L.take k, y < x) (h2 : ∀ y ∈ L.drop k, x < y) : (L.take k ++ x :: L.drop k).Pairwise (· < ·) := by
  have h' := h
  rw [← List.take_append_drop k L, List.pairwise_append] at h'
  rw [List.pairwise_append, List.pairwise_cons]
  refine ⟨h'.1, ⟨h2, h'.2.1⟩, fun a ha b hb => ?_⟩
  rcases List.mem_cons.1 hb with rfl | hb
  · exact h1 a ha
  · exact h'.2.2 a ha b hb
theorem SetOf.ins {ys m : List ByteArray} {s : ByteArray} {k : Nat} (h : SetOf ys m) (hk : k ≤ ys.length) (h1 : ∀ j (_ : j < ys.length), j < k → kb ys[j] < kb s) (h2 : ∀ h : k < ys.length, kb s < kb ys[k]) : SetOf (ys.take k ++ [s] ++ ys.drop k) (m ++ [s]) := by
  have e : (ys.take k ++ [s] ++ ys.drop k).map kb = (ys.map kb).take k ++ kb s :: (ys.map kb).drop k := by simp [List.map_take, List.map_drop]
  refine ⟨?_, fun x => ?_⟩
  · rw [e]
    refine ins_rising h.1 (fun y hy => ?_) (fun y hy => ?_)
    · rw [← List.map_take] at hy
      obtain ⟨z, hz, rfl⟩ := List.mem_map.1 hy
      obtain ⟨j, hj, rfl⟩ := List.getElem_of_mem hz
      have hj' : j < k ∧ j < ys.length := by rw [List.length_take] at hj; omega
      rw [List.getElem_take]
      exact h1 j hj'.2 hj'.1
    · by_cases hkl : k < ys.length
      · have hp := h.1
        have hkl' : k < (ys.map kb).length := by simpa using hkl
        rw [← List.take_append_drop k (ys.map kb), List.pairwise_append] at hp
        have hp2 := hp.2.1
        rw [List.drop_eq_getElem_cons hkl'] at hp2 hy
        rw [List.pairwise_cons] at hp2
        have hx := h2 hkl
        rw [List.getElem_map] at hp2 hy
        rcases List.mem_cons.1 hy with rfl | hy
        · exact hx
        · exact List.lt_trans hx (hp2.1 y hy)
      · rw [List.drop_eq_nil_of_le (by simp; omega)] at hy; exact absurd hy (by simp)
  · have hm := h.2 x
    have hsplit : x ∈ ys.map kb ↔ x ∈ (ys.map kb).take k ∨ x ∈ (ys.map kb).drop k := by
      conv => lhs; rw [← List.take_append_drop k (ys.map kb)]
      exact List.mem_append
    rw [e, List.map_append, List.mem_append, List.mem_append, List.mem_cons, ← hm, hsplit]
    simp only [List.map_cons, List.map_nil, List.mem_singleton]
    constructor
    · rintro (h | h | h)
      · exact .inl (.inl h)
      · exact .inr h
      · exact .inl (.inr h)
    · rintro ((h | h) | h)
      · exact .inl h
      · exact .inr (.inr h)
      · exact .inr (.inl h)
theorem SetOf.skip {ys m : List ByteArray} {s : ByteArray} (h : SetOf ys m) (hs : s ∈ ys) : SetOf ys (m ++ [s]) := by
  refine ⟨h.1, fun x => ?_⟩
  rw [h.2 x, List.map_append, List.mem_append]
  constructor
  · exact .inl
  · rintro (k | k)
    · exact k
    · obtain rfl : x = kb s := by simpa using k
      exact (h.2 _).1 (List.mem_map_of_mem hs)
theorem strE_oneL (l : List ByteArray) : ∀ y ∈ l, (strE y).length = 1 ∧ ∀ u ∈ strE y, u.oneCell' = true := by
  intro y _; exact ⟨rfl, fun u hu => by simp [strE] at hu; subst hu; rfl⟩
theorem lt_facts {q s : ByteArray} {b : Bool} (h : decide (kb q < kb s) = b) : Op.bytesLess q.data.toList s.data.toList = b ∧ Op.bytesLess q.toList s.toList = b := by
  refine ⟨by rw [bl_lt]; exact h, by rw [Go.ByteArray.toList_eq, Go.ByteArray.toList_eq, bl_lt]; exact h⟩
theorem eq_facts {q s : ByteArray} (h : q ≠ s) : (q.data.toList == s.data.toList) = false ∧ (q.toList == s.toList) = false := by
  have e : q.data.toList ≠ s.data.toList := fun e => h (kb_inj e)
  refine ⟨beq_eq_false_iff_ne.2 e, ?_⟩
  rw [Go.ByteArray.toList_eq, Go.ByteArray.toList_eq]; exact beq_eq_false_iff_ne.2 e

set_option maxRecDepth 100000 in
set_option maxHeartbeats 3200000 in
theorem rset_any (v : Value) (l : List ByteArray) (w : World) (hs : SliceOf strE 1 w v l) (hl : l.length ≤ 1000) :
    Calls Try.prog 51 #[v] w fun e w' => ∃ u ys, e = .returned u ∧ (SetOf ys l ∧ ys.length ≤ l.length) ∧ w'.ownsRow w.heap.size 9 1 u ys.length (ys.flatMap strE) ∧ Below w.heap.size w w' := by
  obtain ⟨i0, hi, hz0, hz1, hz2⟩ := info_parts info_strK
  have HS := Lib.hid hs
  obtain ⟨ao, cap, rfl, hcap, hcm, _, _⟩ := hs
  go_enter Try.func51, Try.ntmps51
  go_wp2
  go_loopg [3, 4] (l.length + 1) (fun g s3 s4 wr => ∃ (i : Nat) (ys : List ByteArray), s4 = .int .i64 i ∧ i ≤ l.length ∧ l.length + 1 ≤ i + g ∧ ys.length ≤ i ∧ Hid (wr.ownsRow w.heap.size 9 1 s3 ys.length (ys.flatMap strE)) ∧ Hid (SetOf ys (l.take i)) ∧ Hid (Below w.heap.size w wr))
  case atStart => exact ⟨0, [], rfl, by omega, by omega, by simp, Lib.hid (World.ownsRow_nil _ _ _ _), Lib.hid ⟨by simp, by simp⟩, Lib.hid (Below.refl _ _)⟩
  case round =>
    obtain ⟨i, ys, rfl, hi4, hg, hyl, HO, HSET, HB⟩ := hrel
    by_cases hlt : i < l.length
    · have HSL := Lib.hid (SliceOf.own (enc := strE) HO.out (fun _ _ => rfl))
      obtain ⟨ao2, cap2, rfl, hc2, hm2, hnil2, _⟩ := HSL.out
      have HT : Hid (l.take (i + 1) = l.take i ++ [l[i]]) := Lib.hid (by rw [List.take_add_one, List.getElem?_eq_getElem hlt]; rfl)
      obtain ⟨s, hsv⟩ : ∃ s, s = l[i] := ⟨_, rfl⟩
      have HSV := Lib.hid hsv
      rw [← hsv] at HT
      have hdl : decide ((i : Int) < (l.length : Int)) = true := decide_eq_true (by omega)
      obtain ⟨n2, hn2⟩ : ∃ n2, n2 = ys.length := ⟨_, rfl⟩
      have HN2 := Lib.hid hn2
      rw [← hn2] at HO HSL hc2 hyl hnil2 ⊢
      obtain ⟨gO, hgO⟩ : ∃ gO, gO = gk := ⟨_, rfl⟩
      rw [← hgO] at hg
      clear hsv hn2
      go_wp2
      go_loopg [5] (n2 + 1) (fun g s5 wr' => ∃ k : Nat, s5 = .int .i64 k ∧ k ≤ n2 ∧ n2 + 1 ≤ k + g ∧ Hid (∀ j (_ : j < ys.length), j < k → kb ys[j] < kb s) ∧ Hid (wr'.ownsRow w.heap.size 9 1 (.slice ao2 n2 cap2) n2 (ys.flatMap strE)) ∧ Hid (Below w.heap.size w wr'))
      case atStart => exact ⟨0, rfl, by omega, by omega, Lib.hid (fun j _ h => absurd h (by omega)), HO, HB⟩
      case round =>
        obtain ⟨k, rfl, hk, hg2, HLT, HO2, HB2⟩ := hrel
        have HSL2 := Lib.hid (SliceOf.own (enc := strE) (l := ys) (by rw [← HN2.out]; exact HO2.out) (fun _ _ => rfl))
        have HLS := Lib.hid (HS.out.below HB2.out)
        obtain ⟨b, off, rfl, hrl⟩ := (show ∃ b off, ao = some ⟨b, off, none⟩ ∧ wr.cell? ⟨b, off + i, none⟩ = some (.string s) by
          obtain ⟨a', c', e1, _, _, _, hx⟩ := HLS.out
          obtain ⟨b, off, e2, hr⟩ := hx i hlt
          simp only [Value.slice.injEq] at e1
          refine ⟨b, off, by rw [e1.1, e2], ?_⟩
          rw [HSV.out]; simpa using hr 0 _ rfl)
        by_cases hkl : k < n2
        · have hklI : decide ((k : Int) < (n2 : Int)) = true := decide_eq_true (by omega)
          have hkl' : k < ys.length := by have := HN2.out; omega
          obtain ⟨b2, off2, rfl, hrk⟩ := (show ∃ b2 off2, ao2 = some ⟨b2, off2, none⟩ ∧ wr.cell? ⟨b2, off2 + k, none⟩ = some (.string ys[k]) by
            obtain ⟨a', c', e1, _, _, _, hx⟩ := HSL2.out
            obtain ⟨b, off, e2, hr⟩ := hx k hkl'
            simp only [Value.slice.injEq] at e1
            exact ⟨b, off, by rw [e1.1, e2], by simpa using hr 0 _ rfl⟩)
          obtain ⟨q, hqv⟩ : ∃ q, q = ys[k] := ⟨_, rfl⟩
          have HQ := Lib.hid hqv
          rw [← hqv] at hrk
          have HCL := Lib.hid hrl; have HCK := Lib.hid hrk
          clear hqv
          cases hlq : decide (kb q < kb s) with
          | true =>
            obtain ⟨f1, f2⟩ := lt_facts hlq
            have HLT2 : Hid (∀ j (_ : j < ys.length), j < k + 1 → kb ys[j] < kb s) := Lib.hid (fun j hj hjk => by
              by_cases e : j = k
              · subst e; rw [← HQ.out]; exact of_decide_eq_true hlq
              · exact HLT.out j hj (by omega))
            clear hlq
            go_wp2_with fail
            go_quiet (fail)
            obtain ⟨z, hz⟩ : ∃ z, z = nq := ⟨_, rfl⟩
            rw [← hz]; clear hz
            go_wp2
            go_roundg (gk - 1)
            case rel => exact ⟨k + 1, by go_num, by omega, by omega, HLT2, Lib.hid (row_below HO2.out (below_draws (Below.refl _ _) z)), Lib.hid (below_draws HB2.out z)⟩
            case measure => omega
          | false =>
            obtain ⟨f1, f2⟩ := lt_facts hlq
            by_cases hqs : q = s
            · subst hqs
              have HSET2 := Lib.hid (HSET.out.skip (s := q) (by rw [HQ.out]; exact List.getElem_mem _))
              rw [← HT.out] at HSET2
              clear hlq
              go_wp2_with fail
              go_quiet (fail)
              obtain ⟨z, hz⟩ : ∃ z, z = nq := ⟨_, rfl⟩
              rw [← hz]; clear hz
              have c1 : (wr.drewN z).cell? ⟨b2, off2 + k, none⟩ = some (.string q) := HCK.out
              have c2 : (wr.drewN z).cell? ⟨b, off + i, none⟩ = some (.string q) := HCL.out
              go_wp2_with fail
              go_quiet (fail)
              obtain ⟨z2, hz2⟩ : ∃ z, z = nq := ⟨_, rfl⟩
              rw [← hz2]; clear hz2
              go_wp2
              go_roundg (gO - 1)
              case rel => exact ⟨i + 1, ys, by go_num, by omega, by omega, by have := HN2.out; omega, Lib.hid (by have h5 := row_below HO2.out (below_draws (Below.refl wr.heap.size wr) (z + z2)); rw [HN2.out] at h5 ⊢; exact h5), HSET2, Lib.hid (below_draws HB2.out (z + z2))⟩
              case measure => omega
            · have HIN := Lib.hid (HSET.out.ins (s := s) (k := k) (by omega) HLT.out (fun h => by
                rcases List.le_iff_lt_or_eq.1 (List.not_lt.1 (of_decide_eq_false hlq)) with h5 | h5
                · rw [← HQ.out]; exact h5
                · exact absurd (kb_inj h5).symm hqs))
              rw [← HT.out] at HIN
              obtain ⟨f4, f5⟩ := eq_facts hqs
              clear hlq hqs
              go_wp2_with fail
              go_quiet (fail)
              obtain ⟨z, hz⟩ : ∃ z, z = nq := ⟨_, rfl⟩
              rw [← hz]; clear hz
              have c1 : (wr.drewN z).cell? ⟨b2, off2 + k, none⟩ = some (.string q) := HCK.out
              have c2 : (wr.drewN z).cell? ⟨b, off + i, none⟩ = some (.string s) := HCL.out
              go_wp2_with fail
              go_quiet (fail)
              obtain ⟨z2, hz2⟩ : ∃ z, z = nq := ⟨_, rfl⟩
              rw [← hz2]; clear hz2
              obtain ⟨W8, hW8⟩ : ∃ W8, W8 = (wr.drewN z).drewN z2 := ⟨_, rfl⟩
              have HB8 : Hid (Below w.heap.size w W8) := Lib.hid (by rw [hW8]; exact below_draws (below_draws HB2.out z) z2)
              have HO8 : Hid (W8.ownsRow w.heap.size 9 1 (.slice (some ⟨b2, off2, none⟩) n2 cap2) n2 (ys.flatMap strE)) := Lib.hid (by rw [hW8]; exact row_below HO2.out (below_draws (below_draws (Below.refl wr.heap.size wr) z) z2))
              have HSL8 := Lib.hid (SliceOf.own (enc := strE) (l := ys) (by rw [← HN2.out]; exact HO8.out) (fun _ _ => rfl))
              have HC8 : Hid (W8.cell? ⟨b, off + i, none⟩ = some (.string s)) := Lib.hid (by rw [hW8]; exact c2)
              rw [← hW8]
              clear hW8 c2
              have hu1 := run_upto (P := Try.prog) (T := 75) (sz := 1) Try.underlying75 Try.sizeOf9 (some ⟨b2, off2, none⟩) n2 cap2 k (by omega)
              have hu2 := run_from (P := Try.prog) (T := 75) (sz := 1) Try.underlying75 Try.sizeOf9 (some ⟨b2, off2, none⟩) n2 cap2 k (by omega)
              obtain ⟨v1, hv1⟩ : ∃ v1, v1 = sliced (some ⟨b2, off2, none⟩) 0 k cap2 1 := ⟨_, rfl⟩
              obtain ⟨v2, hv2⟩ : ∃ v2, v2 = sliced (some ⟨b2, off2, none⟩) k n2 cap2 1 := ⟨_, rfl⟩
              rw [← hv1] at hu1
              rw [← hv2] at hu2
              have HV1 : Hid (SliceOf strE 1 W8 v1 (ys.take k)) := Lib.hid (by rw [hv1]; simpa using HSL8.out.sliced 0 k (by omega) (by have := HN2.out; omega))
              have HV2 : Hid (SliceOf strE 1 W8 v2 (ys.drop k)) := Lib.hid (by rw [hv2]; have h5 := HSL8.out.sliced k n2 (by omega) (by have := HN2.out; omega); rw [show ys.take n2 = ys from by rw [HN2.out]; exact List.take_length] at h5; exact h5)
              have hsz8 := HB8.out.size
              have c8 := HC8.out
              have hb8 : b < W8.heap.size := World.block_lt_of_cell? W8 _ c8
              have HLT6 : Hid ((ys.take k).length = k) := Lib.hid (by have := HN2.out; rw [List.length_take]; omega)
              have HLD6 : Hid ((ys.drop k).length = n2 - k) := Lib.hid (by have := HN2.out; rw [List.length_drop]; omega)
              clear hv1 hv2
              go_wp2_with fail
              go_region_law (first
                | (refine step_append_src rfl (.tmp 45) (.tmp 48) 75 rfl W8.heap.size 9 i0 (.string ⟨#[]⟩) 1 16 Try.underlying75 hi hz0 hz1 hz2 rfl (by decide) _ 0 [] rfl (by first | exact row_empty _ _ _ _ _ (by simp) (by omega) | exact (row_empty _ _ _ _ _ (by simp) (by omega)).alloc _) strE (ys.take k) _ rfl (HV1.out.below (by (repeat (first | exact Below.refl _ _ | refine Below.alloc ?_ (by first | omega | (simp; done) | (simp; omega)) _ | refine Below.drew ?_ | refine below_draws ?_ _)))) (strE_oneL _) (by rw [List.length_take]; unfold maxLen; omega) (by rw [List.length_take]; omega) (by simp <;> omega) ?_; intro v5 w5 hown5 hgr5; have hbx : Below W8.heap.size W8 w5 := Below.grown (by (repeat (first | exact Below.refl _ _ | refine Below.alloc ?_ (by first | omega | (simp; done) | (simp; omega)) _ | refine Below.drew ?_ | refine below_draws ?_ _))) hgr5 (by simp <;> omega) (fun k hk => by cases hk; simp <;> omega); have c5 := cell_below hbx HC8.out; have ho5 := Lib.hid (show w5.ownsRow W8.heap.size 9 1 v5 k ((ys.take k).flatMap strE) by have h7 := hown5; rw [Nat.zero_add, HLT6.out] at h7; exact h7); clear hown5)
                | (refine step_append_lies _ rfl (.tmp 49) (.tmp 54) 75 rfl W8.heap.size 9 i0 (.string ⟨#[]⟩) 1 16 Try.underlying75 hi hz0 hz1 hz2 rfl (by decide) _ k _ rfl (by first | exact ho5.out | exact ho5.out.alloc _) _ 1 1 [.string s] rfl rfl (by first | exact World.news_of_block (alloc_at _ _) | exact fun j u hj => hgr5.cell (World.news_of_block (alloc_at' _ _ _ (by simp)) j u hj) (by rw [Addr.add_lit]; intro h8; injection h8 with h9; first | omega | (simp at h9; done) | (simp at h9; omega)) | exact fun j u hj => hgr5.cell (cell_below (Below.alloc (Below.refl _ _) (Nat.le_refl _) _) (World.news_of_block (alloc_at' _ _ _ (by simp)) j u hj)) (by rw [Addr.add_lit]; intro h8; injection h8 with h9; first | omega | (simp at h9; done) | (simp at h9; omega))) (by simp [Value.oneCell']) (by omega) (by unfold maxLen; omega) (by omega) (by have := hbx.size; simp <;> omega) _ rfl ?_; intro g6 cp6 w6 hown6 hgr6 hg6 hg6s))
              all_goals (
                have hob := Lib.hid (own_block ho5.out)
                have hsz5 := hbx.size
                have hbx6 := Lib.hid (Below.grown (B := W8.heap.size) (a := W8) (by first | exact hbx | exact hbx.drew | exact (hbx.alloc (by first | omega | (simp; omega)) _) | exact (hbx.alloc (by first | omega | (simp; omega)) _).drew | exact hbx.drew.drew | exact (hbx.drew.alloc (by first | omega | (simp; omega)) _)) hgr6 (by first | omega | (simp; omega)) (fun k hk => hob.out k hk))
                have HO6 := Lib.hid hown6
                have hsz6 := hbx6.out.size
                clear hown6 hgr6 hgr5 hu1 hsz5 c5 hbx
                go_wp2_with (at_builtin; go_loud (refine wpList_append_src rfl (.tmp 56) (.tmp 59) 75 rfl W8.heap.size 9 i0 (.string ⟨#[]⟩) 1 16 Try.underlying75 hi hz0 hz1 hz2 rfl (by decide) _ _ _ rfl HO6.out strE (ys.drop k) _ rfl (HV2.out.below hbx6.out) (strE_oneL _) (by rw [HLD6.out]; unfold maxLen; omega) (by rw [HLD6.out]; omega) (by omega) ?_); intro v7 w7 hown7 hgr7)
                have HO7 : Hid (w7.ownsRow w.heap.size 9 1 v7 (ys.take k ++ [s] ++ ys.drop k).length ((ys.take k ++ [s] ++ ys.drop k).flatMap strE)) := Lib.hid (own_lowK (by rw [List.flatMap_append, List.flatMap_append, List.length_append, List.length_append, HLT6.out, List.length_singleton]; exact hown7) hsz8)
                have HB7 := Lib.hid ((HB8.out.trans (hbx6.out.mono hsz8)).grown hgr7 (by omega) (fun j hj => by have := (HO6.out.lt j hj).1; omega))
                have HL7 : Hid ((ys.take k ++ [s] ++ ys.drop k).length = n2 + 1) := Lib.hid (by rw [List.length_append, List.length_append, HLT6.out, HLD6.out, List.length_singleton]; omega)
                clear hown7 hgr7
                go_wp2
                go_roundg (gO - 1)
                case rel => exact ⟨i + 1, ys.take k ++ [s] ++ ys.drop k, by go_num, by omega, by omega, by rw [HL7.out]; omega, HO7, HIN, HB7⟩
                case measure => omega)
        · obtain rfl : k = n2 := by omega
          have hklI : decide ((k : Int) < (k : Int)) = false := decide_eq_false (by omega)
          have HIN := Lib.hid (HSET.out.ins (s := s) (k := k) (by have := HN2.out; omega) HLT.out (fun h => by have := HN2.out; omega))
          rw [← HT.out] at HIN
          have HCL := Lib.hid hrl
          go_wp2_with fail
          go_quiet (fail)
          obtain ⟨z, hz⟩ : ∃ z, z = nq := ⟨_, rfl⟩
          rw [← hz]; clear hz
          have c2 : (wr.drewN z).cell? ⟨b, off + i, none⟩ = some (.string s) := HCL.out
          go_wp2_with fail
          go_quiet (fail)
          obtain ⟨z2, hz2⟩ : ∃ z, z = nq := ⟨_, rfl⟩
          rw [← hz2]; clear hz2
          obtain ⟨W8, hW8⟩ : ∃ W8, W8 = (wr.drewN z).drewN z2 := ⟨_, rfl⟩
          have HB8 : Hid (Below w.heap.size w W8) := Lib.hid (by rw [hW8]; exact below_draws (below_draws HB2.out z) z2)
          have HO8 : Hid (W8.ownsRow w.heap.size 9 1 (.slice ao2 k cap2) k (ys.flatMap strE)) := Lib.hid (by rw [hW8]; exact row_below HO2.out (below_draws (below_draws (Below.refl wr.heap.size wr) z) z2))
          have HSL8 := Lib.hid (SliceOf.own (enc := strE) (l := ys) (by rw [← HN2.out]; exact HO8.out) (fun _ _ => rfl))
          have HC8 : Hid (W8.cell? ⟨b, off + i, none⟩ = some (.string s)) := Lib.hid (by rw [hW8]; exact c2)
          rw [← hW8]
          clear hW8 c2
          have hu1 := run_upto (P := Try.prog) (T := 75) (sz := 1) Try.underlying75 Try.sizeOf9 ao2 k cap2 k (by omega)
          have hu2 := run_from (P := Try.prog) (T := 75) (sz := 1) Try.underlying75 Try.sizeOf9 ao2 k cap2 k (by omega)
          obtain ⟨v1, hv1⟩ : ∃ v1, v1 = sliced ao2 0 k cap2 1 := ⟨_, rfl⟩
          obtain ⟨v2, hv2⟩ : ∃ v2, v2 = sliced ao2 k k cap2 1 := ⟨_, rfl⟩
          rw [← hv1] at hu1
          rw [← hv2] at hu2
          have HV1 : Hid (SliceOf strE 1 W8 v1 (ys.take k)) := Lib.hid (by rw [hv1]; simpa using HSL8.out.sliced 0 k (by omega) (by have := HN2.out; omega))
          have HV2 : Hid (SliceOf strE 1 W8 v2 (ys.drop k)) := Lib.hid (by rw [hv2]; have h5 := HSL8.out.sliced k k (by omega) (by have := HN2.out; omega); rw [show ys.take k = ys from by rw [HN2.out]; exact List.take_length] at h5; exact h5)
          have hsz8 := HB8.out.size
          have c8 := HC8.out
          have hb8 : b < W8.heap.size := World.block_lt_of_cell? W8 _ c8
          have HLT6 : Hid ((ys.take k).length = k) := Lib.hid (by have := HN2.out; rw [List.length_take]; omega)
          have HLD6 : Hid ((ys.drop k).length = k - k) := Lib.hid (by have := HN2.out; rw [List.length_drop]; omega)
          clear hv1 hv2
          go_wp2_with fail
          go_region_law (first
            | (refine step_append_src rfl (.tmp 45) (.tmp 48) 75 rfl W8.heap.size 9 i0 (.string ⟨#[]⟩) 1 16 Try.underlying75 hi hz0 hz1 hz2 rfl (by decide) _ 0 [] rfl (by first | exact row_empty _ _ _ _ _ (by simp) (by omega) | exact (row_empty _ _ _ _ _ (by simp) (by omega)).alloc _) strE (ys.take k) _ rfl (HV1.out.below (by (repeat (first | exact Below.refl _ _ | refine Below.alloc ?_ (by first | omega | (simp; done) | (simp; omega)) _ | refine Below.drew ?_ | refine below_draws ?_ _)))) (strE_oneL _) (by rw [List.length_take]; unfold maxLen; omega) (by rw [List.length_take]; omega) (by simp <;> omega) ?_; intro v5 w5 hown5 hgr5; have hbx : Below W8.heap.size W8 w5 := Below.grown (by (repeat (first | exact Below.refl _ _ | refine Below.alloc ?_ (by first | omega | (simp; done) | (simp; omega)) _ | refine Below.drew ?_ | refine below_draws ?_ _))) hgr5 (by simp <;> omega) (fun k hk => by cases hk; simp <;> omega); have c5 := cell_below hbx HC8.out; have ho5 := Lib.hid (show w5.ownsRow W8.heap.size 9 1 v5 k ((ys.take k).flatMap strE) by have h7 := hown5; rw [Nat.zero_add, HLT6.out] at h7; exact h7); clear hown5)
            | (refine step_append_lies _ rfl (.tmp 49) (.tmp 54) 75 rfl W8.heap.size 9 i0 (.string ⟨#[]⟩) 1 16 Try.underlying75 hi hz0 hz1 hz2 rfl (by decide) _ k _ rfl (by first | exact ho5.out | exact ho5.out.alloc _) _ 1 1 [.string s] rfl rfl (by first | exact World.news_of_block (alloc_at _ _) | exact fun j u hj => hgr5.cell (World.news_of_block (alloc_at' _ _ _ (by simp)) j u hj) (by rw [Addr.add_lit]; intro h8; injection h8 with h9; first | omega | (simp at h9; done) | (simp at h9; omega)) | exact fun j u hj => hgr5.cell (cell_below (Below.alloc (Below.refl _ _) (Nat.le_refl _) _) (World.news_of_block (alloc_at' _ _ _ (by simp)) j u hj)) (by rw [Addr.add_lit]; intro h8; injection h8 with h9; first | omega | (simp at h9; done) | (simp at h9; omega))) (by simp [Value.oneCell']) (by omega) (by unfold maxLen; omega) (by omega) (by have := hbx.size; simp <;> omega) _ rfl ?_; intro g6 cp6 w6 hown6 hgr6 hg6 hg6s))
          all_goals (
            have hob := Lib.hid (own_block ho5.out)
            have hsz5 := hbx.size
            have hbx6 := Lib.hid (Below.grown (B := W8.heap.size) (a := W8) (by first | exact hbx | exact hbx.drew | exact (hbx.alloc (by first | omega | (simp; omega)) _) | exact (hbx.alloc (by first | omega | (simp; omega)) _).drew | exact hbx.drew.drew | exact (hbx.drew.alloc (by first | omega | (simp; omega)) _)) hgr6 (by first | omega | (simp; omega)) (fun k hk => hob.out k hk))
            have HO6 := Lib.hid hown6
            have hsz6 := hbx6.out.size
            clear hown6 hgr6 hgr5 hu1 hsz5 c5 hbx
            go_wp2_with (at_builtin; go_loud (refine wpList_append_src rfl (.tmp 56) (.tmp 59) 75 rfl W8.heap.size 9 i0 (.string ⟨#[]⟩) 1 16 Try.underlying75 hi hz0 hz1 hz2 rfl (by decide) _ _ _ rfl HO6.out strE (ys.drop k) _ rfl (HV2.out.below hbx6.out) (strE_oneL _) (by rw [HLD6.out]; unfold maxLen; omega) (by rw [HLD6.out]; omega) (by omega) ?_); intro v7 w7 hown7 hgr7)
            have HO7 : Hid (w7.ownsRow w.heap.size 9 1 v7 (ys.take k ++ [s] ++ ys.drop k).length ((ys.take k ++ [s] ++ ys.drop k).flatMap strE)) := Lib.hid (own_lowK (by rw [List.flatMap_append, List.flatMap_append, List.length_append, List.length_append, HLT6.out, List.length_singleton]; exact hown7) hsz8)
            have HB7 := Lib.hid ((HB8.out.trans (hbx6.out.mono hsz8)).grown hgr7 (by omega) (fun j hj => by have := (HO6.out.lt j hj).1; omega))
            have HL7 : Hid ((ys.take k ++ [s] ++ ys.drop k).length = k + 1) := Lib.hid (by rw [List.length_append, List.length_append, HLT6.out, HLD6.out, List.length_singleton]; omega)
            clear hown7 hgr7
            go_wp2
            go_roundg (gO - 1)
            case rel => exact ⟨i + 1, ys.take k ++ [s] ++ ys.drop k, by go_num, by omega, by omega, by rw [HL7.out]; omega, HO7, HIN, HB7⟩
            case measure => omega)
    · obtain rfl : i = l.length := by omega
      have hdl : decide ((l.length : Int) < (l.length : Int)) = false := decide_eq_false (by omega)
      rw [List.take_length] at HSET
      go_wp2
      go_ret
      exact ⟨_, ys, rfl, ⟨HSET.out, by omega⟩, HO.out, HB.out⟩
end Go.Proofs.Ytfjhlckklgeokaa
