/- catenaref15: Keys. Conditions: at most 80000 keys. -/
import Derived.Test.YthmljllgfigebaaTreeU
import Derived.Laws.AppendOwnNone
import Derived.Deep.AppendLies
namespace Go.Proofs.Ythmljllgfigebaa
open Go.RowKit Go.Shelf Go.PlainAid
set_option linter.unusedVariables false
theorem inL_snoc {F T : ByteArray} {L : List Kv} {i : Nat} (hi : i < L.length) : inL F T (L.take (i + 1)) = inL F T (L.take i) ++ (if inK F T L[i].1 = true then [L[i].1] else []) := by
  unfold inL
  rw [List.take_add_one, List.getElem?_eq_getElem hi, List.filter_append, List.map_append]
  simp only [Option.toList]
  by_cases q : inK F T L[i].1 = true
  · rw [List.filter_cons_of_pos (by simpa using q), if_pos q]; rfl
  · rw [List.filter_cons_of_neg (by simpa using q), if_neg q]; rfl
theorem inL_len {F T : ByteArray} {L : List Kv} : (inL F T L).length ≤ L.length := by unfold inL; rw [List.length_map]; exact List.length_filter_le _ _
set_option maxRecDepth 100000 in
set_option maxHeartbeats 2000000 in
theorem rkeys15_any (D : Nat → Prop) (w : World) (rb : Nat) (L : List Kv) (F T : ByteArray) (h : RfO D w rb L) (hL : L.length ≤ 80000) :
    Calls Try.prog 26 #[pt rb 0, .string F, .string T] w fun e w' => ∃ u, e = .returned u ∧ w'.ownsRow w.heap.size 9 1 u (inL F T L).length ((inL F T L).flatMap strE) ∧ Below w.heap.size w w' := by
  obtain ⟨i0, hi, hz0, hz1, hz2⟩ := info_parts info_strT
  have HH := Lib.hid h; clear h
  go_enter Try.func26, Try.ntmps26
  go_wp2
  go_loopg [7, 8] (L.length + 1) (fun g s7 s8 wr => ∃ i : Nat, s8 = .int .i64 i ∧ i ≤ L.length ∧ L.length + 1 ≤ i + g ∧ Hid (wr.ownsRow w.heap.size 9 1 s7 (inL F T (L.take i)).length ((inL F T (L.take i)).flatMap strE)) ∧ Hid (Below w.heap.size w wr))
  case atStart => exact ⟨0, rfl, by omega, by omega, Lib.hid (World.ownsRow_nil _ _ _ _), Lib.hid (Below.refl _ _)⟩
  case round =>
    obtain ⟨i, rfl, hil, hg, HO, HB⟩ := hrel
    obtain ⟨u, B, h1, h2, h3⟩ := HH.out.gr (below_grown HB.out) (fun q e => nomatch e)
    have hS := SliceOf.own (enc := kvE) (sz := 2) h2 (fun _ _ => rfl)
    have c0 : wr.cell? ⟨rb, 0, none⟩ = some u := h1.cell (k := 0) rfl
    have HS := Lib.hid hS
    obtain ⟨ao, cap, rfl, hcap, hcm, _, _⟩ := hS
    have hsz := HB.out.size
    clear h1 h2 h3
    by_cases hlt : i < L.length
    · obtain ⟨b, off, rfl, k0, k1⟩ := kvAt HS.out i hlt
      have hd : decide ((i : Int) < (L.length : Int)) = true := decide_eq_true (by omega)
      have hsn := inL_snoc (F := F) (T := T) hlt
      obtain ⟨x, hx⟩ : ∃ x, x = L[i].1 := ⟨_, rfl⟩
      rw [← hx] at k0 hsn
      have HSN := Lib.hid hsn
      clear hx k1 hsn
      have hpl : (inL F T (L.take i)).length ≤ 80000 := Nat.le_trans inL_len (by rw [List.length_take]; omega)
      obtain ⟨pre, hpre⟩ : ∃ pre, pre = inL F T (L.take i) := ⟨_, rfl⟩
      rw [← hpre] at HO HSN hpl
      clear hpre
      go_wp2_with fail
      refine (in05_any x F T _).mono ?_
      rintro e w1 ⟨rfl, rfl⟩
      cases hin : inK F T x with
      | false =>
        have HR : Hid (wr.ownsRow w.heap.size 9 1 u7 (inL F T (L.take (i + 1))).length ((inL F T (L.take (i + 1))).flatMap strE)) := Lib.hid (by rw [HSN.out, hin]; simpa using HO.out)
        go_wp2
        go_roundg (gk - 1)
        case rel => exact ⟨i + 1, by go_num, by omega, by omega, HR, HB⟩
        case measure => omega
      | true =>
        go_wp2_with (at_builtin; go_loud (refine wpList_append_lies _ rfl (.tmp 29) (.tmp 38) 38 rfl w.heap.size 9 i0 (.string ⟨#[]⟩) 1 16 Try.underlying38 hi hz0 hz1 hz2 rfl (by decide) _ pre.length _ rfl (HO.out.alloc _) ⟨wr.heap.size, 0, none⟩ 1 1 [.string x] rfl rfl (cell_one_new _ _ _) (by simp [Value.oneCell']) (by omega) (by unfold maxLen; omega) (by omega) (by simp; omega) (wr.heap.size + 1) (by simp) ?_); intro g1 cp1 w3 hown3 hgr3 hg3 hg3s)
        have HO2 : Hid (w3.ownsRow w.heap.size 9 1 (.slice (some ⟨g1, 0, none⟩) (pre.length + 1) cp1) (inL F T (L.take (i + 1))).length ((inL F T (L.take (i + 1))).flatMap strE)) := Lib.hid (by
          rw [HSN.out, hin, if_pos rfl, List.length_append, List.length_singleton, List.flatMap_append]; exact hown3)
        have HB2 : Hid (Below w.heap.size w w3) := Lib.hid ((HB.out.alloc (by omega) _).grown hgr3 (by simp; omega) (fun j hj => (HO.out.lt j hj).1))
        clear hown3 hgr3
        go_wp2
        go_roundg (gk - 1)
        case rel => exact ⟨i + 1, by go_num, by omega, by omega, HO2, HB2⟩
        case measure => omega
    · have hd : decide ((i : Int) < (L.length : Int)) = false := decide_eq_false (by omega)
      obtain rfl : i = L.length := by omega
      have HR := Lib.hid (show wr.ownsRow w.heap.size 9 1 _ (inL F T L).length ((inL F T L).flatMap strE) from by have := HO.out; rwa [List.take_length] at this)
      go_wp2
      go_ret
      exact ⟨_, rfl, HR.out, HB.out⟩
end Go.Proofs.Ythmljllgfigebaa
