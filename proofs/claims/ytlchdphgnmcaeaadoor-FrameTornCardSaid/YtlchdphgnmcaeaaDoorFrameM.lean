/- catenalaw04.FrameTorn. Conditions: the table reads as it is laid. -/
import Derived.Test.YtlchdphgnmcaeaaDoorFrameJ
import Derived.Test.YtlchdphgnmcaeaaDoorFrameL
import Derived.Test.YtlchdphgnmcaeaaDoorStrOps
namespace Go.Proofs.YtlchdphgnmcaeaaDoor
open Go.RowKit Go.PlainAid

theorem info_intM : (Tryd.prog.info? 3).map (fun i => (i.zero, i.size, i.bytes)) = some (some (.int .i64 0), 1, 8) := by kernel_rfl
def endsL (l : List ByteArray) (i : Nat) : List Int := (List.range i).map fun k => ((catF (l.take (k + 1))).size : Int)
theorem endsL_len (l : List ByteArray) (i : Nat) : (endsL l i).length = i := by simp [endsL]
theorem endsL_snoc (l : List ByteArray) (i : Nat) : endsL l (i + 1) = endsL l i ++ [((catF (l.take (i + 1))).size : Int)] := by simp [endsL, List.range_succ]
theorem endsL_at (l : List ByteArray) (i j : Nat) (h : j < (endsL l i).length) : (endsL l i)[j] = ((catF (l.take (j + 1))).size : Int) := by simp [endsL]
def Small (l : List ByteArray) (i : Nat) : Prop := (∀ x ∈ l.take i, x.size ≤ 500) ∧ (catF (l.take i)).size ≤ i * 509
theorem frameB_le (x : ByteArray) (h : x.size ≤ 500) : (frameB x).size ≤ 509 := by
  have h1 := frameB_size x
  have h2 : (putL (x.size : Int)).length ≤ 3 := by
    have := putL_len (x.size : Int)
    have hb : lenOf (x.size : Int) ≤ 3 := by
      unfold lenOf
      split
      · omega
      · have : wd (x.size : Int) ≤ 2 := by
          unfold wd
          split
          · omega
          · rw [if_pos (by omega)]; omega
        omega
    omega
  omega
theorem Small.next {l : List ByteArray} {i : Nat} (h : Small l i) (hi : i < l.length) (hx : l[i].size ≤ 500) : Small l (i + 1) := by
  refine ⟨fun x hm => ?_, ?_⟩
  · rw [List.take_succ_eq_append_getElem hi] at hm
    rcases List.mem_append.1 hm with hm | hm
    · exact h.1 x hm
    · simp only [List.mem_singleton] at hm; rw [hm]; exact hx
  · rw [take_next hi, ByteArray.size_append]
    have := frameB_le _ hx
    have := h.2
    omega

theorem SliceOf.takeM {w : World} {ao : Option Addr} {cap k : Nat} {l : List ByteArray} (h : SliceOf strE 1 w (.slice ao l.length cap) l) (hk : k ≤ l.length) : SliceOf strE 1 w (.slice ao k cap) (l.take k) := by
  obtain ⟨ao', cap', hv, h1, h2, h3, h4⟩ := h
  simp only [Value.slice.injEq] at hv
  obtain ⟨rfl, _, rfl⟩ := hv
  have hl : (l.take k).length = k := by rw [List.length_take, Nat.min_eq_left hk]
  refine ⟨ao, cap, by rw [hl], by rw [hl]; omega, h2, fun hn => ⟨by have := (h3 hn).1; omega, (h3 hn).2⟩, fun j hj => ?_⟩
  obtain ⟨b, off, e, hr⟩ := h4 j (by omega)
  exact ⟨b, off, e, by rw [List.getElem_take]; exact hr⟩
theorem flat_intsM (k : IntKind) : ∀ l : List Int, l.flatMap (intE k) = l.map (Value.int k)
  | [] => rfl
  | x :: l => by rw [List.flatMap_cons, flat_intsM k l]; rfl
theorem own_intsM {w : World} {B : Nat} {e : TypeId} {v : Value} {k : IntKind} {l : List Int} (h : w.ownsRow B e 1 v l.length (l.map (Value.int k))) : SliceOf (intE k) 1 w v l :=
  SliceOf.own (B := B) (e := e) (by rw [flat_intsM]; exact h) (fun _ _ => rfl)

set_option maxRecDepth 100000 in
set_option maxHeartbeats 3200000 in
theorem torn_law (v : Value) (l : List ByteArray) (ci : Int) (w : World) (ht : Tab w) (hsl : SliceOf strE 1 w v l) (hl : l.length ≤ 8796093022208) (hg : ∀ s ∈ l, s.size ≤ 140737488351232) (hc : (Lit.int .u16 ci).wf = true) :
    Calls Tryd.prog 4 #[v, .int .u16 ci] w fun e w' => e = .returned (.bool true) ∧ Below w.heap.size w w' := by
  obtain ⟨c, rfl, hcl⟩ := wf_u16 hc
  obtain ⟨i0, hi, hz0, hz1, hz2⟩ := info_parts info_intM
  have HSL := Lib.hid hsl
  obtain ⟨ao, cap, rfl, hcap, hcm, hnil, hcell⟩ := hsl
  have HC := Lib.hid hcell; have HG := Lib.hid hg; have HT := Lib.hid ht; have HNIL := Lib.hid hnil
  clear hcell hg ht hc hnil
  go_enter Tryd.func4, Tryd.ntmps4
  go_wp2
  go_loopg [5, 6, 7] 21 (fun g s5 s6 s7 wr => ∃ i : Nat, s7 = .int .i64 i ∧ i ≤ l.length ∧ i ≤ 20 ∧ 21 ≤ i + g ∧ Small l i ∧ s5 = .string (catF (l.take i)) ∧ wr.ownsRow w.heap.size 3 1 s6 (endsL l i).length ((endsL l i).map (Value.int .i64)) ∧ Below w.heap.size w wr)
  case atStart => exact ⟨0, rfl, by omega, by omega, by omega, ⟨by simp, by rw [List.take_zero]; exact Nat.le_refl 0⟩, by rw [List.take_zero]; rfl, World.ownsRow_nil _ _ _ _, Below.refl _ _⟩
  case round =>
    obtain ⟨i, rfl, hil, hi20, hgk, hsm, rfl, hown, hbel⟩ := hrel
    have hszw := hbel.size
    have HSM := Lib.hid hsm; have HO := Lib.hid hown; have HB := Lib.hid hbel; have HTr := Lib.hid (HT.out.below hbel)
    have hS509 := hsm.2
    clear hown hbel hsm
    by_cases hin : i < l.length ∧ i < 20
    · have hlt := hin.1
      have h20 := hin.2
      obtain ⟨b, off, rfl, hr⟩ := HC.out i hlt
      obtain ⟨x, hx⟩ : ∃ x, x = l[i] := ⟨_, rfl⟩
      rw [← hx] at hr
      have k0 : wr.cell? ⟨b, off + i, none⟩ = some (.string x) := by have := cell_below HB.out (hr 0 _ rfl); rw [Nat.mul_one, Nat.add_zero] at this; exact this
      have hxs : x.size ≤ 140737488351232 := by rw [hx]; exact HG.out _ (List.getElem_mem hlt)
      have HX := Lib.hid hx
      have hd1 : decide ((i : Int) < (l.length : Int)) = true := decide_eq_true (by omega)
      have hd2 : decide ((i : Int) < 20) = true := decide_eq_true (by omega)
      clear hr hx
      by_cases hbig : 500 < x.size
      · have hbi : (500 : Int) < (x.size : Int) := by omega
        have hbd : decide ((500 : Int) < (x.size : Int)) = true := decide_eq_true hbi
        go_wp2_with fail
        refine (awake04 _ HTr.out).mono ?_
        rintro e w1 ⟨rfl, hb1⟩
        have HB1 := Lib.hid (HB.out.trans (hb1.mono hszw)); clear hb1
        go_wp2
        go_ret
        exact ⟨rfl, HB1.out⟩
      · obtain ⟨S, hS⟩ : ∃ S, S = catF (l.take i) := ⟨_, rfl⟩
        obtain ⟨F, hF⟩ : ∃ F, F = frameB x := ⟨_, rfl⟩
        have hS2 : catF (l.take (i + 1)) = S ++ F := by rw [take_next hlt, ← HX.out, hS, hF]
        have hP : putR x = (F, 0) := by rw [hF]; exact putR_small x (by omega)
        have hFs : F.size ≤ 509 := by rw [hF]; exact frameB_le x (by omega)
        rw [← hS] at hS509 ⊢
        have hcat := concat_run S F (by omega)
        have happ : (S ++ F).size = S.size + F.size := ByteArray.size_append
        have HS2 := Lib.hid hS2; have HP := Lib.hid hP; have HAPP := Lib.hid happ
        have hbi : ¬ (500 : Int) < (x.size : Int) := by omega
        have hbd : decide ((500 : Int) < (x.size : Int)) = false := decide_eq_false hbi
        clear hS2 hP hS hF happ
        go_wp2_with fail
        refine (put_frame x _ HTr.out hxs).mono ?_
        rintro e w1 ⟨rfl, hb1⟩
        have hs1 := hb1.size
        have HO1 := Lib.hid (HO.out.kept (grown_of_below hb1) (Classical.em _)); have HB1 := Lib.hid (HB.out.trans (hb1.mono hszw)); clear hb1
        have hel := endsL_len l i
        rw [HP.out]
        unfold putV
        go_wp2_with (at_builtin; go_loud (refine wpList_append_lies _ rfl (.tmp 47) (.tmp 50) 40 rfl w.heap.size 3 i0 (.int .i64 0) 1 8 Tryd.underlying40 hi hz0 hz1 hz2 rfl (by decide) _ (endsL l i).length _ rfl (HO1.out.alloc _) ⟨w1.heap.size, 0, none⟩ 1 1 [.int .i64 ((S.size : Int) + (F.size : Int))] rfl rfl (one_cell _ _ _) (by simp [Value.oneCell']) (by omega) (by unfold maxLen; omega) (by omega) (by simp; omega) (w1.heap.size + 1) (by simp) ?_); intro g1 cp1 w2 hown2 hgr2 hg2 hg2s)
        have HO2 : Hid (w2.ownsRow w.heap.size 3 1 (.slice (some ⟨g1, 0, none⟩) (i + 1) cp1) (endsL l (i + 1)).length ((endsL l (i + 1)).map (Value.int .i64))) := Lib.hid (by
          have h := hown2
          rw [hel] at h
          rw [endsL_snoc, List.length_append, List.length_singleton, hel, List.map_append, HS2.out, HAPP.out, List.map_cons, List.map_nil, Int.natCast_add]; exact h)
        have HB2 : Hid (Below w.heap.size w w2) := Lib.hid ((HB1.out.alloc (by omega) _).grown hgr2 (by simp; omega) (fun j hj => (HO1.out.lt j hj).1))
        have HSM2 : Hid (Small l (i + 1)) := Lib.hid (HSM.out.next hlt (by rw [← HX.out]; omega))
        clear hown2 hgr2 hel
        go_wp2
        go_roundg (gk - 1)
        case rel => exact ⟨i + 1, by go_num, by omega, by omega, by omega, HSM2.out, by rw [HS2.out], HO2.out, HB2.out⟩
        case measure => omega
    -- the search for the last whole one
    obtain ⟨gO, rfl⟩ : ∃ gO, gO = gk := ⟨_, rfl⟩
    obtain ⟨W1, rfl⟩ : ∃ W1, W1 = wr := ⟨_, rfl⟩
    obtain ⟨S, hS⟩ : ∃ S, S = catF (l.take i) := ⟨_, rfl⟩
    rw [← hS] at hS509 ⊢
    obtain ⟨n, hn⟩ : ∃ n, n = c % (S.size + 1) := ⟨_, rfl⟩
    have hmod : (c : Int) % ((S.size : Int) + 1) = (n : Int) := by rw [hn, Int.natCast_emod, Int.natCast_add]; rfl
    have hnle : n ≤ S.size := by rw [hn]; have := Nat.mod_lt c (show 0 < S.size + 1 by omega); omega
    obtain ⟨ao6, cap6, rfl, h61, h62, _, hc6⟩ := own_intsM HO.out
    have hel := endsL_len l i
    rw [hel] at h61 ⊢
    have HC6 := Lib.hid hc6; have HEL := Lib.hid hel; have HS := Lib.hid hS; have HN := Lib.hid hn
    clear hc6 hel hS hn
    have key : decide ((i : Int) < (l.length : Int)) = false ∨ (decide ((i : Int) < (l.length : Int)) = true ∧ decide ((i : Int) < 20) = false) := by
      by_cases h : i < l.length
      · exact .inr ⟨decide_eq_true (by omega), decide_eq_false (by have : ¬ i < 20 := fun h2 => hin ⟨h, h2⟩; omega)⟩
      · exact .inl (decide_eq_false (by omega))
    rcases key with hd1 | ⟨hd1, hd2⟩
    · have hlt' : ¬ (i : Int) < (l.length : Int) := by simpa using hd1
      clear hin
      go_wp2
      go_loopg [11, 12, 13] (i + 1) (fun g s11 s12 s13 w2 => ∃ j wh : Nat, s13 = .int .i64 j ∧ j ≤ i ∧ i + 1 ≤ j + g ∧ s11 = .int .i64 wh ∧ wh ≤ j ∧ s12 = .int .i64 ((catF (l.take wh)).size : Nat) ∧ (catF (l.take wh)).size ≤ n ∧ (∀ k, wh < k → k ≤ j → n < (catF (l.take k)).size) ∧ W1 = w2)
      case atStart => exact ⟨0, 0, rfl, by omega, by omega, rfl, by omega, by rw [List.take_zero]; rfl, by rw [List.take_zero]; exact Nat.zero_le n, fun k h1 h2 => by omega, rfl⟩
      case round =>
        obtain ⟨j, wh, rfl, hj, hgj, rfl, hwh, rfl, hle, hall, rfl⟩ := hrel
        have HALL := Lib.hid hall; clear hall
        by_cases hji : j < i
        · obtain ⟨b6, off6, rfl, hr6⟩ := HC6.out j (by rw [HEL.out]; exact hji)
          obtain ⟨e, he⟩ : ∃ e : Nat, e = (catF (l.take (j + 1))).size := ⟨_, rfl⟩
          obtain ⟨ew, hew⟩ : ∃ ew : Nat, ew = (catF (l.take wh)).size := ⟨_, rfl⟩
          rw [endsL_at, ← he] at hr6
          rw [← hew] at hle ⊢
          have k6 : W1.cell? ⟨b6, off6 + j, none⟩ = some (.int .i64 (e : Int)) := by have := hr6 0 _ rfl; rw [Nat.mul_one, Nat.add_zero] at this; exact this
          have HEe := Lib.hid he; have HEw := Lib.hid hew
          clear hr6 he hew
          by_cases hen : e ≤ n
          · have hd6 : decide ((e : Int) ≤ (n : Int)) = true := decide_eq_true (by omega)
            go_wp2
            go_roundg (gk - 1)
            case rel => exact ⟨j + 1, j + 1, by go_num, by omega, by omega, by go_num, by omega, by rw [HEe.out], by rw [← HEe.out]; exact hen, fun k h1 h2 => by omega, rfl⟩
            case measure => omega
          · have hd6 : decide ((e : Int) ≤ (n : Int)) = false := decide_eq_false (by omega)
            go_wp2
            go_roundg (gk - 1)
            case rel => exact ⟨j + 1, wh, by go_num, by omega, by omega, rfl, by omega, by rw [HEw.out], by rw [← HEw.out]; exact hle, fun k h1 h2 => by
              rcases Nat.lt_or_ge k (j + 1) with h | h
              · exact HALL.out k h1 (by omega)
              · obtain rfl : k = j + 1 := by omega
                rw [← HEe.out]; omega, rfl⟩
            case measure => omega
        · obtain rfl : j = i := by omega
          have hCsz : (S.extract 0 n).size = n := by rw [ByteArray.size_extract]; omega
          have hCp : (S.extract 0 n).data.toList <+: (catF (l.take j)).data.toList := by rw [← HS.out, ext_list, List.drop_zero]; exact List.take_prefix _ _
          have hT : (l.take j).take wh = l.take wh := by rw [List.take_take, Nat.min_eq_left hwh]
          have hjl : (l.take j).length = j := by rw [List.length_take]; omega
          have hacut := all_cut (l.take j) (fun x hx => by have := HSM.out.1 x hx; omega) (S.extract 0 n) hCp wh (by omega) (by rw [hT, hCsz]; exact hle) (by
            rcases Nat.lt_or_ge wh j with h | h
            · exact .inr (by rw [List.take_take, Nat.min_eq_left (by omega), hCsz]; exact HALL.out (wh + 1) (by omega) (by omega))
            · exact .inl (by omega))
          rw [hT, hCsz] at hacut
          obtain ⟨ew, hew⟩ : ∃ ew : Nat, ew = (catF (l.take wh)).size := ⟨_, rfl⟩
          rw [← hew] at hacut hle ⊢
          obtain ⟨C, hC⟩ : ∃ C, C = S.extract 0 n := ⟨_, rfl⟩
          have hszC := hCsz
          rw [← hC] at hacut hszC
          have HAC := Lib.hid hacut; have HCE := Lib.hid hC; have HSC := Lib.hid hszC
          have hwl : wh ≤ l.length := by omega
          clear hacut hC hszC hCp hT hjl hew hCsz
          go_wp2_with fail
          rw [← HCE.out]
          refine (all_any C _ HTr.out (by have := HSC.out; omega)).mono ?_
          rintro e w2 ⟨v', l', b', c', rfl, hR, ho, hb⟩
          obtain ⟨rfl, rfl, rfl⟩ := run_det hR.1 hR.2 HAC.out.1 HAC.out.2
          have hs2 := hb.size
          have HM := Lib.hid (SliceOf.own ho (fun _ _ => rfl)); have HB2 := Lib.hid (HB.out.trans (hb.mono hszw)); have HT2 := Lib.hid (HTr.out.below hb)
          have HSL2 := Lib.hid (HSL.out.below HB2.out)
          clear hR ho hb
          by_cases hE : ew = n
          · subst hE
            rw [if_pos rfl]
            have q1 : ((ew : Int) == (ew : Int)) = true := by simp
            go_wp2_with fail
            refine (texts_same _ _ (l.take wh) _ HM.out (HSL2.out.takeM hwl)).mono ?_
            rintro e w3 ⟨rfl, hb3⟩
            have HB3 := Lib.hid (HB2.out.trans (hb3.mono HB2.out.size)); have HT3 := Lib.hid (HT2.out.below hb3); clear hb3
            go_wp2_with fail
            refine (awake04 _ HT3.out).mono ?_
            rintro e w4 ⟨rfl, hb4⟩
            have HB4 := Lib.hid (HB3.out.trans (hb4.mono HB3.out.size)); clear hb4
            go_wp2
            go_ret
            exact ⟨rfl, HB4.out⟩
          · rw [if_neg hE]
            have q0 : ¬ (ew : Int) = (n : Int) := by omega
            have q1 : ((ew : Int) == (n : Int)) = false := by simpa using q0
            have q2 : ((ew : Int) == (ew : Int)) = true := by simp
            have q3 : decide ((ew : Int) = (n : Int)) = false := decide_eq_false q0
            go_wp2_with fail
            refine (texts_same _ _ (l.take wh) _ HM.out (HSL2.out.takeM hwl)).mono ?_
            rintro e w3 ⟨rfl, hb3⟩
            have HB3 := Lib.hid (HB2.out.trans (hb3.mono HB2.out.size)); have HT3 := Lib.hid (HT2.out.below hb3); clear hb3
            go_wp2_with fail
            refine (awake04 _ HT3.out).mono ?_
            rintro e w4 ⟨rfl, hb4⟩
            have HB4 := Lib.hid (HB3.out.trans (hb4.mono HB3.out.size)); clear hb4
            go_wp2
            go_ret
            exact ⟨rfl, HB4.out⟩
    · have hlt1 : (i : Int) < (l.length : Int) := by simpa using hd1
      have hlt' : ¬ (i : Int) < 20 := by simpa using hd2
      clear hin
      go_wp2
      go_loopg [11, 12, 13] (i + 1) (fun g s11 s12 s13 w2 => ∃ j wh : Nat, s13 = .int .i64 j ∧ j ≤ i ∧ i + 1 ≤ j + g ∧ s11 = .int .i64 wh ∧ wh ≤ j ∧ s12 = .int .i64 ((catF (l.take wh)).size : Nat) ∧ (catF (l.take wh)).size ≤ n ∧ (∀ k, wh < k → k ≤ j → n < (catF (l.take k)).size) ∧ W1 = w2)
      case atStart => exact ⟨0, 0, rfl, by omega, by omega, rfl, by omega, by rw [List.take_zero]; rfl, by rw [List.take_zero]; exact Nat.zero_le n, fun k h1 h2 => by omega, rfl⟩
      case round =>
        obtain ⟨j, wh, rfl, hj, hgj, rfl, hwh, rfl, hle, hall, rfl⟩ := hrel
        have HALL := Lib.hid hall; clear hall
        by_cases hji : j < i
        · obtain ⟨b6, off6, rfl, hr6⟩ := HC6.out j (by rw [HEL.out]; exact hji)
          obtain ⟨e, he⟩ : ∃ e : Nat, e = (catF (l.take (j + 1))).size := ⟨_, rfl⟩
          obtain ⟨ew, hew⟩ : ∃ ew : Nat, ew = (catF (l.take wh)).size := ⟨_, rfl⟩
          rw [endsL_at, ← he] at hr6
          rw [← hew] at hle ⊢
          have k6 : W1.cell? ⟨b6, off6 + j, none⟩ = some (.int .i64 (e : Int)) := by have := hr6 0 _ rfl; rw [Nat.mul_one, Nat.add_zero] at this; exact this
          have HEe := Lib.hid he; have HEw := Lib.hid hew
          clear hr6 he hew
          by_cases hen : e ≤ n
          · have hd6 : decide ((e : Int) ≤ (n : Int)) = true := decide_eq_true (by omega)
            go_wp2
            go_roundg (gk - 1)
            case rel => exact ⟨j + 1, j + 1, by go_num, by omega, by omega, by go_num, by omega, by rw [HEe.out], by rw [← HEe.out]; exact hen, fun k h1 h2 => by omega, rfl⟩
            case measure => omega
          · have hd6 : decide ((e : Int) ≤ (n : Int)) = false := decide_eq_false (by omega)
            go_wp2
            go_roundg (gk - 1)
            case rel => exact ⟨j + 1, wh, by go_num, by omega, by omega, rfl, by omega, by rw [HEw.out], by rw [← HEw.out]; exact hle, fun k h1 h2 => by
              rcases Nat.lt_or_ge k (j + 1) with h | h
              · exact HALL.out k h1 (by omega)
              · obtain rfl : k = j + 1 := by omega
                rw [← HEe.out]; omega, rfl⟩
            case measure => omega
        · obtain rfl : j = i := by omega
          have hCsz : (S.extract 0 n).size = n := by rw [ByteArray.size_extract]; omega
          have hCp : (S.extract 0 n).data.toList <+: (catF (l.take j)).data.toList := by rw [← HS.out, ext_list, List.drop_zero]; exact List.take_prefix _ _
          have hT : (l.take j).take wh = l.take wh := by rw [List.take_take, Nat.min_eq_left hwh]
          have hjl : (l.take j).length = j := by rw [List.length_take]; omega
          have hacut := all_cut (l.take j) (fun x hx => by have := HSM.out.1 x hx; omega) (S.extract 0 n) hCp wh (by omega) (by rw [hT, hCsz]; exact hle) (by
            rcases Nat.lt_or_ge wh j with h | h
            · exact .inr (by rw [List.take_take, Nat.min_eq_left (by omega), hCsz]; exact HALL.out (wh + 1) (by omega) (by omega))
            · exact .inl (by omega))
          rw [hT, hCsz] at hacut
          obtain ⟨ew, hew⟩ : ∃ ew : Nat, ew = (catF (l.take wh)).size := ⟨_, rfl⟩
          rw [← hew] at hacut hle ⊢
          obtain ⟨C, hC⟩ : ∃ C, C = S.extract 0 n := ⟨_, rfl⟩
          have hszC := hCsz
          rw [← hC] at hacut hszC
          have HAC := Lib.hid hacut; have HCE := Lib.hid hC; have HSC := Lib.hid hszC
          have hwl : wh ≤ l.length := by omega
          clear hacut hC hszC hCp hT hjl hew hCsz
          go_wp2_with fail
          rw [← HCE.out]
          refine (all_any C _ HTr.out (by have := HSC.out; omega)).mono ?_
          rintro e w2 ⟨v', l', b', c', rfl, hR, ho, hb⟩
          obtain ⟨rfl, rfl, rfl⟩ := run_det hR.1 hR.2 HAC.out.1 HAC.out.2
          have hs2 := hb.size
          have HM := Lib.hid (SliceOf.own ho (fun _ _ => rfl)); have HB2 := Lib.hid (HB.out.trans (hb.mono hszw)); have HT2 := Lib.hid (HTr.out.below hb)
          have HSL2 := Lib.hid (HSL.out.below HB2.out)
          clear hR ho hb
          by_cases hE : ew = n
          · subst hE
            rw [if_pos rfl]
            have q1 : ((ew : Int) == (ew : Int)) = true := by simp
            go_wp2_with fail
            refine (texts_same _ _ (l.take wh) _ HM.out (HSL2.out.takeM hwl)).mono ?_
            rintro e w3 ⟨rfl, hb3⟩
            have HB3 := Lib.hid (HB2.out.trans (hb3.mono HB2.out.size)); have HT3 := Lib.hid (HT2.out.below hb3); clear hb3
            go_wp2_with fail
            refine (awake04 _ HT3.out).mono ?_
            rintro e w4 ⟨rfl, hb4⟩
            have HB4 := Lib.hid (HB3.out.trans (hb4.mono HB3.out.size)); clear hb4
            go_wp2
            go_ret
            exact ⟨rfl, HB4.out⟩
          · rw [if_neg hE]
            have q0 : ¬ (ew : Int) = (n : Int) := by omega
            have q1 : ((ew : Int) == (n : Int)) = false := by simpa using q0
            have q2 : ((ew : Int) == (ew : Int)) = true := by simp
            have q3 : decide ((ew : Int) = (n : Int)) = false := decide_eq_false q0
            go_wp2_with fail
            refine (texts_same _ _ (l.take wh) _ HM.out (HSL2.out.takeM hwl)).mono ?_
            rintro e w3 ⟨rfl, hb3⟩
            have HB3 := Lib.hid (HB2.out.trans (hb3.mono HB2.out.size)); have HT3 := Lib.hid (HT2.out.below hb3); clear hb3
            go_wp2_with fail
            refine (awake04 _ HT3.out).mono ?_
            rintro e w4 ⟨rfl, hb4⟩
            have HB4 := Lib.hid (HB3.out.trans (hb4.mono HB3.out.size)); clear hb4
            go_wp2
            go_ret
            exact ⟨rfl, HB4.out⟩
end Go.Proofs.YtlchdphgnmcaeaaDoor
