/- catenalaw21: EtherAll. Conditions: none. -/
import Derived.Test.YtjiipmehgcnaeaaEthT
import Derived.BigQuiet
namespace Go.Proofs.Ytjiipmehgcnaeaa
open Go.RowKit Go.PlainAid

theorem rangeP {w : World} {ao : Option Addr} {n cap : Nat} {l : List PktT} (h : SliceOf pktE 3 w (.slice ao n cap) l) (i : Nat) (hi : i < l.length) : ∃ b off, ao = some ⟨b, off, none⟩ ∧ w.rangeAt b (off + i * 3) (pktE l[i]) := by
  obtain ⟨a', c', e1, _, _, _, hx⟩ := h
  obtain ⟨b, off, e2, hr⟩ := hx i hi
  simp only [Value.slice.injEq] at e1
  exact ⟨b, off, by rw [e1.1, e2], hr⟩
theorem u8At {w : World} {ao : Option Addr} {n cap : Nat} {l : List Int} (h : SliceOf (intE .u8) 1 w (.slice ao n cap) l) (i : Nat) (hi : i < l.length) : ∃ b off, ao = some ⟨b, off, none⟩ ∧ w.cell? ⟨b, off + i, none⟩ = some (.int .u8 l[i]) := by
  obtain ⟨a', c', e1, _, _, _, hx⟩ := h
  obtain ⟨b, off, e2, hr⟩ := hx i hi
  simp only [Value.slice.injEq] at e1
  exact ⟨b, off, by rw [e1.1, e2], by simpa using hr 0 _ rfl⟩
/-- The place that was found last, among the first j. -/
def LastAt (l : List PktT) (p : PktT) (j : Nat) (a : Int) : Prop := (a = -1 ∧ ∀ q (h : q < l.length), q < j → l[q] ≠ p) ∨ ∃ m : Nat, a = m ∧ m < j ∧ ∃ h : m < l.length, l[m] = p
theorem wf_nat (m : Nat) (h : m ≤ 1000000) : (Lit.int .i64 (m : Int)).wf = true := by
  simp [Lit.wf, IntKind.min, IntKind.max, IntKind.signed, IntKind.bits]; omega
theorem wf_u8i {c : Int} (h : (Lit.int .u8 c).wf = true) : (Lit.int .i64 c).wf = true ∧ IntKind.i64.wrap c = c := by
  have hb : 0 ≤ c ∧ c ≤ 255 := by simpa [Lit.wf, IntKind.min, IntKind.max, IntKind.signed, IntKind.bits] using h
  refine ⟨?_, IntWalk.i64_in _ ⟨by omega, by omega⟩⟩
  simp [Lit.wf, IntKind.min, IntKind.max, IntKind.signed, IntKind.bits]; omega
set_option maxRecDepth 100000 in
set_option maxHeartbeats 6400000 in
theorem etherAll_any (v : Value) (l : List PktT) (u : Value) (t : List Int) (w : World) (hs : SliceOf pktE 3 w v l) (_ : ∀ p ∈ l, pktOk p) (ht : SliceOf (intE .u8) 1 w u t) (hu : ∀ n ∈ t, (Lit.int .u8 n).wf = true) :
    Calls Try.prog 11 #[v, u] w fun e w' => e = .returned (.bool true) ∧ Below w.heap.size w w' := by
  have HS := Lib.hid hs; have HT := Lib.hid ht; have HU := Lib.hid hu
  obtain ⟨ao, cap, rfl, hcap, hcm, _, _⟩ := hs
  obtain ⟨au, cu, rfl, hcu, hcmu, _, _⟩ := ht
  clear hu
  go_enter Try.func11, Try.ntmps11
  go_wp2_with fail
  refine (enew_any _).mono ?_
  rintro e w1 ⟨rfl, he1, hb1⟩
  obtain ⟨B, hB⟩ : ∃ B, B = w.heap.size := ⟨_, rfl⟩
  have HBB := Lib.hid hB
  rw [← hB] at he1 hb1 ⊢
  have hT0 : Two B w (w1.alloc (.cells #[.slice none 0 0, .int .i64 0] 89)) B (.slice none 0 0) [] 0 w1.heap.size (.slice none 0 0) [] 0 :=
    ⟨he1.kept ((Below.refl _ _).alloc (Nat.le_refl _) _), ⟨alloc_at _ _, World.ownsRow_nil _ _ _ _⟩, by have := he1.lt; omega, by simp [Value.ownBlock], by simp [Value.ownBlock], by simp [Value.ownBlock], Nat.le_refl _, by have := hb1.size; omega, hb1.alloc (by have := hb1.size; omega) _, by have := hb1.size; simp; omega⟩
  have HT0 := Lib.hid hT0
  clear hT0 he1 hb1 hB
  go_wp2_with fail
  obtain ⟨C, hC⟩ : ∃ C, C = w1.heap.size := ⟨_, rfl⟩
  obtain ⟨W1, hW1⟩ : ∃ W1, W1 = w1.alloc (.cells #[.slice none 0 0, .int .i64 0] 89) := ⟨_, rfl⟩
  rw [← hC, ← hW1] at HT0
  try rw [← hC, ← hW1]
  clear hC hW1
  go_loopg [7] 61 (fun g s7 wr => ∃ (i : Nat) (v1 v2 : Value) (k : List PktT), s7 = .int .i64 i ∧ i ≤ l.length ∧ i ≤ 60 ∧ 61 ≤ i + g ∧ k.length ≤ i ∧ Hid (Two B w wr B v1 k 0 C v2 k 0))
  case atStart => exact ⟨0, _, _, [], rfl, by omega, by omega, by omega, by simp, HT0⟩
  case round =>
    obtain ⟨i, v1, v2, k, rfl, hil, hi60, hg, hkl, HTW⟩ := hrel
    by_cases hlt : i < l.length ∧ i < 60
    · obtain ⟨hlt, h60⟩ := hlt
      have hd1 : decide ((i : Int) < (l.length : Int)) = true := decide_eq_true (by omega)
      have hd2 : decide ((i : Int) < 60) = true := decide_eq_true (by omega)
      obtain ⟨b, off, rfl, hr⟩ := rangeP (HS.out) i hlt
      obtain ⟨p, hp⟩ : ∃ p, p = l[i] := ⟨_, rfl⟩
      rw [← hp] at hr
      have HR0 := Lib.hid hr
      have HR : Hid (wr.rangeAt b (off + i * 3) (pktE p)) := Lib.hid (fun j x hx => cell_below (by rw [← HBB.out]; exact HTW.out.bel) (hr j x hx))
      have HSM := Lib.hid (send_small (p := p) (l := k) (by omega))
      clear hr hp
      obtain ⟨fr, to, bd⟩ := p
      go_wp2_with (refine wpList_load_mid rfl 91 (.tmp 30) rfl b (off + i * 3) rfl (pktE (fr, to, bd)) _ HR.out Try.underlying91 rfl (by kernel_rfl) ?_; unfold pktE)
      refine (send_made _ B v1 k 0 (fr, to, bd) HTW.out.e (by omega) (by omega) (by omega)).mono ?_
      rintro e w2 ⟨rfl, hpst⟩
      rw [HSM.out.1] at hpst
      obtain ⟨v1', htw2⟩ := HTW.out.stepN hpst
      have HTW2 := Lib.hid htw2
      have HR2 : Hid (w2.rangeAt b (off + i * 3) (pktE (fr, to, bd))) := Lib.hid (fun j x hx => cell_below (by rw [← HBB.out]; exact htw2.bel) (HR0.out j x hx))
      clear hpst htw2
      go_wp2_with (refine wpList_load_mid rfl 91 (.tmp 36) rfl b (off + i * 3) rfl (pktE (fr, to, bd)) _ HR2.out Try.underlying91 rfl (by kernel_rfl) ?_; unfold pktE)
      refine (rsend_any _ C v2 k 0 (fr, to, bd) HTW2.out.r (by omega) (by omega)).mono ?_
      rintro e w3 ⟨rfl, hpst⟩
      rw [HSM.out.1] at hpst
      obtain ⟨v2', htw3⟩ := HTW2.out.stepX hpst
      have HTW3 := Lib.hid htw3
      obtain ⟨k', hk'⟩ : ∃ k', k' = (sendR (fr, to, bd) k 0).2.1 := ⟨_, rfl⟩
      have hkl' : k'.length ≤ k.length + 1 := by rw [hk']; exact HSM.out.2
      rw [← hk'] at HTW3
      clear hpst htw3 hk'
      go_wp2
      go_roundg (gk - 1)
      case rel => exact ⟨i + 1, v1', v2', k', by go_num, by omega, by omega, by omega, by omega, HTW3⟩
      case measure => omega
    · have hnotc : ¬ (i < l.length ∧ i < 60) := hlt
      have hguard : (decide ((i : Int) < (l.length : Int)) = true ∧ decide ((i : Int) < 60) = false ∧ i < l.length ∧ 60 ≤ i) ∨ (decide ((i : Int) < (l.length : Int)) = false ∧ l.length ≤ i) := by
        by_cases h1 : i < l.length
        · exact .inl ⟨decide_eq_true (by omega), decide_eq_false (by omega), by omega, by omega⟩
        · exact .inr ⟨decide_eq_false (by omega), by omega⟩
      have hk60 : k.length ≤ 60 := by omega
      have HPERM0 : Hid (k.Perm k) := Lib.hid (List.Perm.refl _)
      clear hlt hnotc hkl hi60 hil hg
      rcases hguard with ⟨hd1, hd2, hi1, hi2⟩ | ⟨hd1, hi1⟩
      · go_wp2
        clear hd1 hi1
        go_loopg [8] 61 (fun g s8 wr2 => ∃ (i2 : Nat) (v1 v2 : Value) (l1 l2 : List PktT), s8 = .int .i64 i2 ∧ i2 ≤ 60 ∧ 61 ≤ i2 + g ∧ l1.length + i2 ≤ 60 ∧ Hid (l1.Perm l2) ∧ Hid (Two B w wr2 B v1 l1 0 C v2 l2 0))
        case atStart => exact ⟨0, v1, v2, k, k, rfl, by omega, by omega, by omega, HPERM0, HTW⟩
        case round =>
          obtain ⟨i2, v1, v2, l1, l2, rfl, hi2, hg2, hls, HP, HTW⟩ := hrel
          obtain ⟨ax, cx, hv2, hlcx, hcx, _, _⟩ := HTW.out.r.slice
          subst hv2
          have hl12 : l1.length = l2.length := HP.out.length_eq
          by_cases hgo : i2 < 60 ∧ 0 < l1.length
          · obtain ⟨h60, hpos⟩ := hgo
            have hd60 : decide ((i2 : Int) < 60) = true := decide_eq_true (by omega)
            have hd0 : decide ((0 : Int) < (l1.length : Int)) = true := decide_eq_true (by omega)
            by_cases htl : i2 < t.length
            · have hdt : decide ((i2 : Int) < (t.length : Int)) = true := decide_eq_true (by omega)
              obtain ⟨bu, ou, rfl, hcu0⟩ := u8At HT.out i2 htl
              have hu8 := wf_u8i (HU.out _ (List.getElem_mem htl))
              obtain ⟨c, hc⟩ : ∃ c, c = t[i2] := ⟨_, rfl⟩
              rw [← hc] at hcu0 hu8
              have hcu1 := cell_below (show Below w.heap.size w wr by rw [← HBB.out]; exact HTW.out.bel) hcu0
              have hwc := hu8.2
              have HKW := Lib.hid hu8.1
              have HCU : Hid (∀ W', Below B w W' → W'.cell? ⟨bu, ou + i2, none⟩ = some (.int .u8 c)) := Lib.hid (fun W' h => cell_below (by rw [← HBB.out]; exact h) hcu0)
              clear hc hu8 hcu0
              obtain ⟨a, ha⟩ : ∃ a : Nat, (c : Int).toNat % l1.length = a := ⟨_, rfl⟩
              have hal : a < l1.length := by rw [← ha]; exact Nat.mod_lt _ (by omega)
              obtain ⟨⟨fr, to, bd⟩, hp⟩ : ∃ p, l1[a] = p := ⟨_, rfl⟩
              have HA := Lib.hid ha; have HPP := Lib.hid hp
              clear ha hp
              go_wp2_with (go_at_call 63; refine (elen_made _ _ _ _ _ HTW.out.e).mono ?_; rintro e w1 ⟨rfl, rfl⟩)
              refine (etake_made _ B v1 l1 0 c a fr to bd HTW.out.e (by omega) HKW.out (by omega) HA.out hal HPP.out).mono ?_
              rintro e w2 ⟨rfl, hpst⟩
              obtain ⟨v1', htw2⟩ := HTW.out.stepN hpst
              have HTW2 := Lib.hid (htw2.kept (w' := w2.alloc (.cells #[.int .i64 fr, .int .i64 to, .string bd] 91)) ((Below.refl _ _).alloc (Nat.le_refl _) _))
              have HBX : Hid (Box3 (w2.alloc (.cells #[.int .i64 fr, .int .i64 to, .string bd] 91)) w2.heap.size (fr, to, bd)) := Lib.hid (alloc_at _ _)
              have hNC : C < w2.heap.size := htw2.r.lt
              clear hpst htw2
              go_wp2
              obtain ⟨N, hN⟩ : ∃ N, N = w2.heap.size := ⟨_, rfl⟩
              obtain ⟨W3, hW3⟩ : ∃ W3, W3 = w2.alloc (.cells #[.int .i64 fr, .int .i64 to, .string bd] 91) := ⟨_, rfl⟩
              rw [← hN] at hNC
              rw [← hN, ← hW3] at HBX
              rw [← hW3] at HTW2
              try rw [← hN, ← hW3]
              clear hN hW3
              obtain ⟨gO, hgO⟩ : ∃ gO, gO = gk := ⟨_, rfl⟩
              rw [← hgO] at hg2
              have HGO := Lib.hid hgO; clear hgO
              go_loopg [12, 13] (l2.length + 1) (fun g s12 s13 wr3 => ∃ (j : Nat) (at' : Int), s13 = .int .i64 j ∧ s12 = .int .i64 at' ∧ j ≤ l2.length ∧ l2.length + 1 ≤ j + g ∧ Hid (LastAt l2 (fr, to, bd) j at') ∧ Hid (Two B w wr3 B v1' (l1.take a ++ l1.drop (a + 1)) 0 C (.slice ax l2.length cx) l2 0) ∧ Hid (Box3 wr3 N (fr, to, bd)))
              case atStart => exact ⟨0, -1, rfl, rfl, by omega, by omega, Lib.hid (.inl ⟨rfl, fun q _ h => absurd h (by omega)⟩), HTW2, HBX⟩
              case round =>
                obtain ⟨j, at', rfl, rfl, hj, hg3, HLA, HTW3, HBX3⟩ := hrel
                have c0 := HTW3.out.r.c0
                by_cases hjl : j < l2.length
                · have hdj : decide ((j : Int) < (l2.length : Int)) = true := decide_eq_true (by omega)
                  obtain ⟨bx, ox, rfl, hrx⟩ := rangeP HTW3.out.r.slice j hjl
                  obtain ⟨⟨f2, t2, d2⟩, hp2⟩ : ∃ p, l2[j] = p := ⟨_, rfl⟩
                  rw [hp2] at hrx
                  have y0 : wr.cell? ⟨bx, ox + j * 3, none⟩ = some (.int .i64 f2) := hrx 0 _ rfl
                  have y1 : wr.cell? ⟨bx, ox + j * 3 + 1, none⟩ = some (.int .i64 t2) := hrx 1 _ rfl
                  have y2 : wr.cell? ⟨bx, ox + j * 3 + 2, none⟩ = some (.string d2) := hrx 2 _ rfl
                  obtain ⟨q0, q1, q2⟩ := HBX3.out.cells
                  have heqp := eq_pkt (f2, t2, d2) (fr, to, bd)
                  unfold pktV at heqp
                  dsimp only at heqp
                  have HP2 := Lib.hid hp2
                  clear hrx hp2
                  by_cases heq : (f2, t2, d2) = (fr, to, bd)
                  · rw [decide_eq_true heq] at heqp
                    have HLA2 : Hid (LastAt l2 (fr, to, bd) (j + 1) (j : Int)) := Lib.hid (.inr ⟨j, rfl, by omega, hjl, HP2.out.trans heq⟩)
                    clear heq
                    go_wp2_with fail
                    go_quiet (fail)
                    obtain ⟨z, hz⟩ : ∃ z, z = nq := ⟨_, rfl⟩
                    rw [← hz]; clear hz
                    go_wp2
                    go_roundg (gk - 1)
                    case rel => exact ⟨j + 1, (j : Int), by go_num, rfl, by omega, by omega, HLA2, Lib.hid (HTW3.out.kept (below_draws (Below.refl _ _) z)), Lib.hid (HBX3.out.kept (below_draws (Below.refl _ _) z))⟩
                    case measure => omega
                  · rw [decide_eq_false heq] at heqp
                    have HLA2 : Hid (LastAt l2 (fr, to, bd) (j + 1) at') := Lib.hid (by
                      rcases HLA.out with ⟨h1, h2⟩ | ⟨m, h1, h2, h3, h4⟩
                      · refine .inl ⟨h1, fun q hq hqj => ?_⟩
                        by_cases e : q = j
                        · subst e; rw [HP2.out]; exact heq
                        · exact h2 q hq (by omega)
                      · exact .inr ⟨m, h1, by omega, h3, h4⟩)
                    clear heq
                    go_wp2_with fail
                    go_quiet (fail)
                    obtain ⟨z, hz⟩ : ∃ z, z = nq := ⟨_, rfl⟩
                    rw [← hz]; clear hz
                    go_wp2
                    go_roundg (gk - 1)
                    case rel => exact ⟨j + 1, at', by go_num, rfl, by omega, by omega, HLA2, Lib.hid (HTW3.out.kept (below_draws (Below.refl _ _) z)), Lib.hid (HBX3.out.kept (below_draws (Below.refl _ _) z))⟩
                    case measure => omega
                · have hdj : decide ((j : Int) < (l2.length : Int)) = false := decide_eq_false (by omega)
                  obtain ⟨m, hat, hml, hpm⟩ : ∃ m : Nat, at' = m ∧ ∃ h : m < l2.length, l2[m] = (fr, to, bd) := by
                    rcases HLA.out with ⟨h1, h2⟩ | ⟨m, h1, h2, h3, h4⟩
                    · exfalso
                      have hmem : (fr, to, bd) ∈ l2 := (HP.out.mem_iff).1 (by rw [← HPP.out]; exact List.getElem_mem _)
                      obtain ⟨q, hq, e⟩ := List.getElem_of_mem hmem
                      exact h2 q hq (by omega) e
                    · exact ⟨m, h1, h3, h4⟩
                  subst hat
                  have hdm : decide ((m : Int) < 0) = false := decide_eq_false (by omega)
                  have HLN : Hid ((l1.take a ++ l1.drop (a + 1)).length = l1.length - 1) := Lib.hid (by rw [List.length_append, List.length_take, List.length_drop]; omega)
                  have HPM := Lib.hid (perm_out HP.out hal hml HPP.out hpm)
                  have HPMM := Lib.hid hpm
                  clear hpm
                  go_wp2_with fail
                  refine (rtake_made _ C _ l2 0 (m : Int) m fr to bd HTW3.out.r (by omega) (wf_nat m (by omega)) (by omega) (by rw [Int.toNat_natCast]; exact Nat.mod_eq_of_lt hml) hml HPMM.out).mono ?_
                  rintro e w5 ⟨rfl, hpst⟩
                  obtain ⟨v2', htw5⟩ := HTW3.out.stepX hpst
                  have HTW5 := Lib.hid htw5
                  clear hpst htw5
                  go_wp2
                  go_roundg (gO - 1)
                  case rel => exact ⟨i2 + 1, v1', v2', l1.take a ++ l1.drop (a + 1), l2.take m ++ l2.drop (m + 1), by go_num, by omega, by omega, by rw [HLN.out]; omega, HPM, HTW5⟩
                  case measure => have := HGO.out; omega
            · have hdt : decide ((i2 : Int) < (t.length : Int)) = false := decide_eq_false (by omega)
              obtain ⟨a, ha⟩ : ∃ a : Nat, (0 : Int).toNat % l1.length = a := ⟨_, rfl⟩
              have hal : a < l1.length := by rw [← ha]; exact Nat.mod_lt _ (by omega)
              obtain ⟨⟨fr, to, bd⟩, hp⟩ : ∃ p, l1[a] = p := ⟨_, rfl⟩
              have HA := Lib.hid ha; have HPP := Lib.hid hp
              clear ha hp
              go_wp2_with (go_at_call 63; refine (elen_made _ _ _ _ _ HTW.out.e).mono ?_; rintro e w1 ⟨rfl, rfl⟩)
              refine (etake_made _ B v1 l1 0 0 a fr to bd HTW.out.e (by omega) (by decide) (by omega) HA.out hal HPP.out).mono ?_
              rintro e w2 ⟨rfl, hpst⟩
              obtain ⟨v1', htw2⟩ := HTW.out.stepN hpst
              have HTW2 := Lib.hid (htw2.kept (w' := w2.alloc (.cells #[.int .i64 fr, .int .i64 to, .string bd] 91)) ((Below.refl _ _).alloc (Nat.le_refl _) _))
              have HBX : Hid (Box3 (w2.alloc (.cells #[.int .i64 fr, .int .i64 to, .string bd] 91)) w2.heap.size (fr, to, bd)) := Lib.hid (alloc_at _ _)
              have hNC : C < w2.heap.size := htw2.r.lt
              clear hpst htw2
              go_wp2
              obtain ⟨N, hN⟩ : ∃ N, N = w2.heap.size := ⟨_, rfl⟩
              obtain ⟨W3, hW3⟩ : ∃ W3, W3 = w2.alloc (.cells #[.int .i64 fr, .int .i64 to, .string bd] 91) := ⟨_, rfl⟩
              rw [← hN] at hNC
              rw [← hN, ← hW3] at HBX
              rw [← hW3] at HTW2
              try rw [← hN, ← hW3]
              clear hN hW3
              obtain ⟨gO, hgO⟩ : ∃ gO, gO = gk := ⟨_, rfl⟩
              rw [← hgO] at hg2
              have HGO := Lib.hid hgO; clear hgO
              go_loopg [12, 13] (l2.length + 1) (fun g s12 s13 wr3 => ∃ (j : Nat) (at' : Int), s13 = .int .i64 j ∧ s12 = .int .i64 at' ∧ j ≤ l2.length ∧ l2.length + 1 ≤ j + g ∧ Hid (LastAt l2 (fr, to, bd) j at') ∧ Hid (Two B w wr3 B v1' (l1.take a ++ l1.drop (a + 1)) 0 C (.slice ax l2.length cx) l2 0) ∧ Hid (Box3 wr3 N (fr, to, bd)))
              case atStart => exact ⟨0, -1, rfl, rfl, by omega, by omega, Lib.hid (.inl ⟨rfl, fun q _ h => absurd h (by omega)⟩), HTW2, HBX⟩
              case round =>
                obtain ⟨j, at', rfl, rfl, hj, hg3, HLA, HTW3, HBX3⟩ := hrel
                have c0 := HTW3.out.r.c0
                by_cases hjl : j < l2.length
                · have hdj : decide ((j : Int) < (l2.length : Int)) = true := decide_eq_true (by omega)
                  obtain ⟨bx, ox, rfl, hrx⟩ := rangeP HTW3.out.r.slice j hjl
                  obtain ⟨⟨f2, t2, d2⟩, hp2⟩ : ∃ p, l2[j] = p := ⟨_, rfl⟩
                  rw [hp2] at hrx
                  have y0 : wr.cell? ⟨bx, ox + j * 3, none⟩ = some (.int .i64 f2) := hrx 0 _ rfl
                  have y1 : wr.cell? ⟨bx, ox + j * 3 + 1, none⟩ = some (.int .i64 t2) := hrx 1 _ rfl
                  have y2 : wr.cell? ⟨bx, ox + j * 3 + 2, none⟩ = some (.string d2) := hrx 2 _ rfl
                  obtain ⟨q0, q1, q2⟩ := HBX3.out.cells
                  have heqp := eq_pkt (f2, t2, d2) (fr, to, bd)
                  unfold pktV at heqp
                  dsimp only at heqp
                  have HP2 := Lib.hid hp2
                  clear hrx hp2
                  by_cases heq : (f2, t2, d2) = (fr, to, bd)
                  · rw [decide_eq_true heq] at heqp
                    have HLA2 : Hid (LastAt l2 (fr, to, bd) (j + 1) (j : Int)) := Lib.hid (.inr ⟨j, rfl, by omega, hjl, HP2.out.trans heq⟩)
                    clear heq
                    go_wp2_with fail
                    go_quiet (fail)
                    obtain ⟨z, hz⟩ : ∃ z, z = nq := ⟨_, rfl⟩
                    rw [← hz]; clear hz
                    go_wp2
                    go_roundg (gk - 1)
                    case rel => exact ⟨j + 1, (j : Int), by go_num, rfl, by omega, by omega, HLA2, Lib.hid (HTW3.out.kept (below_draws (Below.refl _ _) z)), Lib.hid (HBX3.out.kept (below_draws (Below.refl _ _) z))⟩
                    case measure => omega
                  · rw [decide_eq_false heq] at heqp
                    have HLA2 : Hid (LastAt l2 (fr, to, bd) (j + 1) at') := Lib.hid (by
                      rcases HLA.out with ⟨h1, h2⟩ | ⟨m, h1, h2, h3, h4⟩
                      · refine .inl ⟨h1, fun q hq hqj => ?_⟩
                        by_cases e : q = j
                        · subst e; rw [HP2.out]; exact heq
                        · exact h2 q hq (by omega)
                      · exact .inr ⟨m, h1, by omega, h3, h4⟩)
                    clear heq
                    go_wp2_with fail
                    go_quiet (fail)
                    obtain ⟨z, hz⟩ : ∃ z, z = nq := ⟨_, rfl⟩
                    rw [← hz]; clear hz
                    go_wp2
                    go_roundg (gk - 1)
                    case rel => exact ⟨j + 1, at', by go_num, rfl, by omega, by omega, HLA2, Lib.hid (HTW3.out.kept (below_draws (Below.refl _ _) z)), Lib.hid (HBX3.out.kept (below_draws (Below.refl _ _) z))⟩
                    case measure => omega
                · have hdj : decide ((j : Int) < (l2.length : Int)) = false := decide_eq_false (by omega)
                  obtain ⟨m, hat, hml, hpm⟩ : ∃ m : Nat, at' = m ∧ ∃ h : m < l2.length, l2[m] = (fr, to, bd) := by
                    rcases HLA.out with ⟨h1, h2⟩ | ⟨m, h1, h2, h3, h4⟩
                    · exfalso
                      have hmem : (fr, to, bd) ∈ l2 := (HP.out.mem_iff).1 (by rw [← HPP.out]; exact List.getElem_mem _)
                      obtain ⟨q, hq, e⟩ := List.getElem_of_mem hmem
                      exact h2 q hq (by omega) e
                    · exact ⟨m, h1, h3, h4⟩
                  subst hat
                  have hdm : decide ((m : Int) < 0) = false := decide_eq_false (by omega)
                  have HLN : Hid ((l1.take a ++ l1.drop (a + 1)).length = l1.length - 1) := Lib.hid (by rw [List.length_append, List.length_take, List.length_drop]; omega)
                  have HPM := Lib.hid (perm_out HP.out hal hml HPP.out hpm)
                  have HPMM := Lib.hid hpm
                  clear hpm
                  go_wp2_with fail
                  refine (rtake_made _ C _ l2 0 (m : Int) m fr to bd HTW3.out.r (by omega) (wf_nat m (by omega)) (by omega) (by rw [Int.toNat_natCast]; exact Nat.mod_eq_of_lt hml) hml HPMM.out).mono ?_
                  rintro e w5 ⟨rfl, hpst⟩
                  obtain ⟨v2', htw5⟩ := HTW3.out.stepX hpst
                  have HTW5 := Lib.hid htw5
                  clear hpst htw5
                  go_wp2
                  go_roundg (gO - 1)
                  case rel => exact ⟨i2 + 1, v1', v2', l1.take a ++ l1.drop (a + 1), l2.take m ++ l2.drop (m + 1), by go_num, by omega, by omega, by rw [HLN.out]; omega, HPM, HTW5⟩
                  case measure => have := HGO.out; omega
          · have hl0 : l1.length = 0 := by omega
            obtain rfl : l1 = [] := List.eq_nil_of_length_eq_zero hl0
            obtain rfl : l2 = [] := List.eq_nil_of_length_eq_zero (by rw [← hl12]; rfl)
            have c0 := HTW.out.r.c0
            by_cases h60 : i2 < 60
            · have hd60 : decide ((i2 : Int) < 60) = true := decide_eq_true (by omega)
              go_wp2_with (first
                | (go_at_call 63; refine (elen_made _ _ _ _ _ HTW.out.e).mono ?_; rintro e w3 ⟨rfl, rfl⟩)
                | (go_at_call 64; refine (elost_made _ _ _ _ _ HTW.out.e).mono ?_; rintro e w3 ⟨rfl, rfl⟩)
                | (go_at_call 67; refine (awake21 _).mono ?_; rintro e w8 ⟨rfl, hb8⟩))
              go_ret
              exact ⟨rfl, by rw [← HBB.out]; exact HTW.out.bel.trans (hb8.mono HTW.out.sz)⟩
            · have hd60 : decide ((i2 : Int) < 60) = false := decide_eq_false (by omega)
              go_wp2_with (first
                | (go_at_call 63; refine (elen_made _ _ _ _ _ HTW.out.e).mono ?_; rintro e w3 ⟨rfl, rfl⟩)
                | (go_at_call 64; refine (elost_made _ _ _ _ _ HTW.out.e).mono ?_; rintro e w3 ⟨rfl, rfl⟩)
                | (go_at_call 67; refine (awake21 _).mono ?_; rintro e w8 ⟨rfl, hb8⟩))
              go_ret
              exact ⟨rfl, by rw [← HBB.out]; exact HTW.out.bel.trans (hb8.mono HTW.out.sz)⟩
      · go_wp2
        clear hd1 hi1
        go_loopg [8] 61 (fun g s8 wr2 => ∃ (i2 : Nat) (v1 v2 : Value) (l1 l2 : List PktT), s8 = .int .i64 i2 ∧ i2 ≤ 60 ∧ 61 ≤ i2 + g ∧ l1.length + i2 ≤ 60 ∧ Hid (l1.Perm l2) ∧ Hid (Two B w wr2 B v1 l1 0 C v2 l2 0))
        case atStart => exact ⟨0, v1, v2, k, k, rfl, by omega, by omega, by omega, HPERM0, HTW⟩
        case round =>
          obtain ⟨i2, v1, v2, l1, l2, rfl, hi2, hg2, hls, HP, HTW⟩ := hrel
          obtain ⟨ax, cx, hv2, hlcx, hcx, _, _⟩ := HTW.out.r.slice
          subst hv2
          have hl12 : l1.length = l2.length := HP.out.length_eq
          by_cases hgo : i2 < 60 ∧ 0 < l1.length
          · obtain ⟨h60, hpos⟩ := hgo
            have hd60 : decide ((i2 : Int) < 60) = true := decide_eq_true (by omega)
            have hd0 : decide ((0 : Int) < (l1.length : Int)) = true := decide_eq_true (by omega)
            by_cases htl : i2 < t.length
            · have hdt : decide ((i2 : Int) < (t.length : Int)) = true := decide_eq_true (by omega)
              obtain ⟨bu, ou, rfl, hcu0⟩ := u8At HT.out i2 htl
              have hu8 := wf_u8i (HU.out _ (List.getElem_mem htl))
              obtain ⟨c, hc⟩ : ∃ c, c = t[i2] := ⟨_, rfl⟩
              rw [← hc] at hcu0 hu8
              have hcu1 := cell_below (show Below w.heap.size w wr by rw [← HBB.out]; exact HTW.out.bel) hcu0
              have hwc := hu8.2
              have HKW := Lib.hid hu8.1
              have HCU : Hid (∀ W', Below B w W' → W'.cell? ⟨bu, ou + i2, none⟩ = some (.int .u8 c)) := Lib.hid (fun W' h => cell_below (by rw [← HBB.out]; exact h) hcu0)
              clear hc hu8 hcu0
              obtain ⟨a, ha⟩ : ∃ a : Nat, (c : Int).toNat % l1.length = a := ⟨_, rfl⟩
              have hal : a < l1.length := by rw [← ha]; exact Nat.mod_lt _ (by omega)
              obtain ⟨⟨fr, to, bd⟩, hp⟩ : ∃ p, l1[a] = p := ⟨_, rfl⟩
              have HA := Lib.hid ha; have HPP := Lib.hid hp
              clear ha hp
              go_wp2_with (go_at_call 63; refine (elen_made _ _ _ _ _ HTW.out.e).mono ?_; rintro e w1 ⟨rfl, rfl⟩)
              refine (etake_made _ B v1 l1 0 c a fr to bd HTW.out.e (by omega) HKW.out (by omega) HA.out hal HPP.out).mono ?_
              rintro e w2 ⟨rfl, hpst⟩
              obtain ⟨v1', htw2⟩ := HTW.out.stepN hpst
              have HTW2 := Lib.hid (htw2.kept (w' := w2.alloc (.cells #[.int .i64 fr, .int .i64 to, .string bd] 91)) ((Below.refl _ _).alloc (Nat.le_refl _) _))
              have HBX : Hid (Box3 (w2.alloc (.cells #[.int .i64 fr, .int .i64 to, .string bd] 91)) w2.heap.size (fr, to, bd)) := Lib.hid (alloc_at _ _)
              have hNC : C < w2.heap.size := htw2.r.lt
              clear hpst htw2
              go_wp2
              obtain ⟨N, hN⟩ : ∃ N, N = w2.heap.size := ⟨_, rfl⟩
              obtain ⟨W3, hW3⟩ : ∃ W3, W3 = w2.alloc (.cells #[.int .i64 fr, .int .i64 to, .string bd] 91) := ⟨_, rfl⟩
              rw [← hN] at hNC
              rw [← hN, ← hW3] at HBX
              rw [← hW3] at HTW2
              try rw [← hN, ← hW3]
              clear hN hW3
              obtain ⟨gO, hgO⟩ : ∃ gO, gO = gk := ⟨_, rfl⟩
              rw [← hgO] at hg2
              have HGO := Lib.hid hgO; clear hgO
              go_loopg [12, 13] (l2.length + 1) (fun g s12 s13 wr3 => ∃ (j : Nat) (at' : Int), s13 = .int .i64 j ∧ s12 = .int .i64 at' ∧ j ≤ l2.length ∧ l2.length + 1 ≤ j + g ∧ Hid (LastAt l2 (fr, to, bd) j at') ∧ Hid (Two B w wr3 B v1' (l1.take a ++ l1.drop (a + 1)) 0 C (.slice ax l2.length cx) l2 0) ∧ Hid (Box3 wr3 N (fr, to, bd)))
              case atStart => exact ⟨0, -1, rfl, rfl, by omega, by omega, Lib.hid (.inl ⟨rfl, fun q _ h => absurd h (by omega)⟩), HTW2, HBX⟩
              case round =>
                obtain ⟨j, at', rfl, rfl, hj, hg3, HLA, HTW3, HBX3⟩ := hrel
                have c0 := HTW3.out.r.c0
                by_cases hjl : j < l2.length
                · have hdj : decide ((j : Int) < (l2.length : Int)) = true := decide_eq_true (by omega)
                  obtain ⟨bx, ox, rfl, hrx⟩ := rangeP HTW3.out.r.slice j hjl
                  obtain ⟨⟨f2, t2, d2⟩, hp2⟩ : ∃ p, l2[j] = p := ⟨_, rfl⟩
                  rw [hp2] at hrx
                  have y0 : wr.cell? ⟨bx, ox + j * 3, none⟩ = some (.int .i64 f2) := hrx 0 _ rfl
                  have y1 : wr.cell? ⟨bx, ox + j * 3 + 1, none⟩ = some (.int .i64 t2) := hrx 1 _ rfl
                  have y2 : wr.cell? ⟨bx, ox + j * 3 + 2, none⟩ = some (.string d2) := hrx 2 _ rfl
                  obtain ⟨q0, q1, q2⟩ := HBX3.out.cells
                  have heqp := eq_pkt (f2, t2, d2) (fr, to, bd)
                  unfold pktV at heqp
                  dsimp only at heqp
                  have HP2 := Lib.hid hp2
                  clear hrx hp2
                  by_cases heq : (f2, t2, d2) = (fr, to, bd)
                  · rw [decide_eq_true heq] at heqp
                    have HLA2 : Hid (LastAt l2 (fr, to, bd) (j + 1) (j : Int)) := Lib.hid (.inr ⟨j, rfl, by omega, hjl, HP2.out.trans heq⟩)
                    clear heq
                    go_wp2_with fail
                    go_quiet (fail)
                    obtain ⟨z, hz⟩ : ∃ z, z = nq := ⟨_, rfl⟩
                    rw [← hz]; clear hz
                    go_wp2
                    go_roundg (gk - 1)
                    case rel => exact ⟨j + 1, (j : Int), by go_num, rfl, by omega, by omega, HLA2, Lib.hid (HTW3.out.kept (below_draws (Below.refl _ _) z)), Lib.hid (HBX3.out.kept (below_draws (Below.refl _ _) z))⟩
                    case measure => omega
                  · rw [decide_eq_false heq] at heqp
                    have HLA2 : Hid (LastAt l2 (fr, to, bd) (j + 1) at') := Lib.hid (by
                      rcases HLA.out with ⟨h1, h2⟩ | ⟨m, h1, h2, h3, h4⟩
                      · refine .inl ⟨h1, fun q hq hqj => ?_⟩
                        by_cases e : q = j
                        · subst e; rw [HP2.out]; exact heq
                        · exact h2 q hq (by omega)
                      · exact .inr ⟨m, h1, by omega, h3, h4⟩)
                    clear heq
                    go_wp2_with fail
                    go_quiet (fail)
                    obtain ⟨z, hz⟩ : ∃ z, z = nq := ⟨_, rfl⟩
                    rw [← hz]; clear hz
                    go_wp2
                    go_roundg (gk - 1)
                    case rel => exact ⟨j + 1, at', by go_num, rfl, by omega, by omega, HLA2, Lib.hid (HTW3.out.kept (below_draws (Below.refl _ _) z)), Lib.hid (HBX3.out.kept (below_draws (Below.refl _ _) z))⟩
                    case measure => omega
                · have hdj : decide ((j : Int) < (l2.length : Int)) = false := decide_eq_false (by omega)
                  obtain ⟨m, hat, hml, hpm⟩ : ∃ m : Nat, at' = m ∧ ∃ h : m < l2.length, l2[m] = (fr, to, bd) := by
                    rcases HLA.out with ⟨h1, h2⟩ | ⟨m, h1, h2, h3, h4⟩
                    · exfalso
                      have hmem : (fr, to, bd) ∈ l2 := (HP.out.mem_iff).1 (by rw [← HPP.out]; exact List.getElem_mem _)
                      obtain ⟨q, hq, e⟩ := List.getElem_of_mem hmem
                      exact h2 q hq (by omega) e
                    · exact ⟨m, h1, h3, h4⟩
                  subst hat
                  have hdm : decide ((m : Int) < 0) = false := decide_eq_false (by omega)
                  have HLN : Hid ((l1.take a ++ l1.drop (a + 1)).length = l1.length - 1) := Lib.hid (by rw [List.length_append, List.length_take, List.length_drop]; omega)
                  have HPM := Lib.hid (perm_out HP.out hal hml HPP.out hpm)
                  have HPMM := Lib.hid hpm
                  clear hpm
                  go_wp2_with fail
                  refine (rtake_made _ C _ l2 0 (m : Int) m fr to bd HTW3.out.r (by omega) (wf_nat m (by omega)) (by omega) (by rw [Int.toNat_natCast]; exact Nat.mod_eq_of_lt hml) hml HPMM.out).mono ?_
                  rintro e w5 ⟨rfl, hpst⟩
                  obtain ⟨v2', htw5⟩ := HTW3.out.stepX hpst
                  have HTW5 := Lib.hid htw5
                  clear hpst htw5
                  go_wp2
                  go_roundg (gO - 1)
                  case rel => exact ⟨i2 + 1, v1', v2', l1.take a ++ l1.drop (a + 1), l2.take m ++ l2.drop (m + 1), by go_num, by omega, by omega, by rw [HLN.out]; omega, HPM, HTW5⟩
                  case measure => have := HGO.out; omega
            · have hdt : decide ((i2 : Int) < (t.length : Int)) = false := decide_eq_false (by omega)
              obtain ⟨a, ha⟩ : ∃ a : Nat, (0 : Int).toNat % l1.length = a := ⟨_, rfl⟩
              have hal : a < l1.length := by rw [← ha]; exact Nat.mod_lt _ (by omega)
              obtain ⟨⟨fr, to, bd⟩, hp⟩ : ∃ p, l1[a] = p := ⟨_, rfl⟩
              have HA := Lib.hid ha; have HPP := Lib.hid hp
              clear ha hp
              go_wp2_with (go_at_call 63; refine (elen_made _ _ _ _ _ HTW.out.e).mono ?_; rintro e w1 ⟨rfl, rfl⟩)
              refine (etake_made _ B v1 l1 0 0 a fr to bd HTW.out.e (by omega) (by decide) (by omega) HA.out hal HPP.out).mono ?_
              rintro e w2 ⟨rfl, hpst⟩
              obtain ⟨v1', htw2⟩ := HTW.out.stepN hpst
              have HTW2 := Lib.hid (htw2.kept (w' := w2.alloc (.cells #[.int .i64 fr, .int .i64 to, .string bd] 91)) ((Below.refl _ _).alloc (Nat.le_refl _) _))
              have HBX : Hid (Box3 (w2.alloc (.cells #[.int .i64 fr, .int .i64 to, .string bd] 91)) w2.heap.size (fr, to, bd)) := Lib.hid (alloc_at _ _)
              have hNC : C < w2.heap.size := htw2.r.lt
              clear hpst htw2
              go_wp2
              obtain ⟨N, hN⟩ : ∃ N, N = w2.heap.size := ⟨_, rfl⟩
              obtain ⟨W3, hW3⟩ : ∃ W3, W3 = w2.alloc (.cells #[.int .i64 fr, .int .i64 to, .string bd] 91) := ⟨_, rfl⟩
              rw [← hN] at hNC
              rw [← hN, ← hW3] at HBX
              rw [← hW3] at HTW2
              try rw [← hN, ← hW3]
              clear hN hW3
              obtain ⟨gO, hgO⟩ : ∃ gO, gO = gk := ⟨_, rfl⟩
              rw [← hgO] at hg2
              have HGO := Lib.hid hgO; clear hgO
              go_loopg [12, 13] (l2.length + 1) (fun g s12 s13 wr3 => ∃ (j : Nat) (at' : Int), s13 = .int .i64 j ∧ s12 = .int .i64 at' ∧ j ≤ l2.length ∧ l2.length + 1 ≤ j + g ∧ Hid (LastAt l2 (fr, to, bd) j at') ∧ Hid (Two B w wr3 B v1' (l1.take a ++ l1.drop (a + 1)) 0 C (.slice ax l2.length cx) l2 0) ∧ Hid (Box3 wr3 N (fr, to, bd)))
              case atStart => exact ⟨0, -1, rfl, rfl, by omega, by omega, Lib.hid (.inl ⟨rfl, fun q _ h => absurd h (by omega)⟩), HTW2, HBX⟩
              case round =>
                obtain ⟨j, at', rfl, rfl, hj, hg3, HLA, HTW3, HBX3⟩ := hrel
                have c0 := HTW3.out.r.c0
                by_cases hjl : j < l2.length
                · have hdj : decide ((j : Int) < (l2.length : Int)) = true := decide_eq_true (by omega)
                  obtain ⟨bx, ox, rfl, hrx⟩ := rangeP HTW3.out.r.slice j hjl
                  obtain ⟨⟨f2, t2, d2⟩, hp2⟩ : ∃ p, l2[j] = p := ⟨_, rfl⟩
                  rw [hp2] at hrx
                  have y0 : wr.cell? ⟨bx, ox + j * 3, none⟩ = some (.int .i64 f2) := hrx 0 _ rfl
                  have y1 : wr.cell? ⟨bx, ox + j * 3 + 1, none⟩ = some (.int .i64 t2) := hrx 1 _ rfl
                  have y2 : wr.cell? ⟨bx, ox + j * 3 + 2, none⟩ = some (.string d2) := hrx 2 _ rfl
                  obtain ⟨q0, q1, q2⟩ := HBX3.out.cells
                  have heqp := eq_pkt (f2, t2, d2) (fr, to, bd)
                  unfold pktV at heqp
                  dsimp only at heqp
                  have HP2 := Lib.hid hp2
                  clear hrx hp2
                  by_cases heq : (f2, t2, d2) = (fr, to, bd)
                  · rw [decide_eq_true heq] at heqp
                    have HLA2 : Hid (LastAt l2 (fr, to, bd) (j + 1) (j : Int)) := Lib.hid (.inr ⟨j, rfl, by omega, hjl, HP2.out.trans heq⟩)
                    clear heq
                    go_wp2_with fail
                    go_quiet (fail)
                    obtain ⟨z, hz⟩ : ∃ z, z = nq := ⟨_, rfl⟩
                    rw [← hz]; clear hz
                    go_wp2
                    go_roundg (gk - 1)
                    case rel => exact ⟨j + 1, (j : Int), by go_num, rfl, by omega, by omega, HLA2, Lib.hid (HTW3.out.kept (below_draws (Below.refl _ _) z)), Lib.hid (HBX3.out.kept (below_draws (Below.refl _ _) z))⟩
                    case measure => omega
                  · rw [decide_eq_false heq] at heqp
                    have HLA2 : Hid (LastAt l2 (fr, to, bd) (j + 1) at') := Lib.hid (by
                      rcases HLA.out with ⟨h1, h2⟩ | ⟨m, h1, h2, h3, h4⟩
                      · refine .inl ⟨h1, fun q hq hqj => ?_⟩
                        by_cases e : q = j
                        · subst e; rw [HP2.out]; exact heq
                        · exact h2 q hq (by omega)
                      · exact .inr ⟨m, h1, by omega, h3, h4⟩)
                    clear heq
                    go_wp2_with fail
                    go_quiet (fail)
                    obtain ⟨z, hz⟩ : ∃ z, z = nq := ⟨_, rfl⟩
                    rw [← hz]; clear hz
                    go_wp2
                    go_roundg (gk - 1)
                    case rel => exact ⟨j + 1, at', by go_num, rfl, by omega, by omega, HLA2, Lib.hid (HTW3.out.kept (below_draws (Below.refl _ _) z)), Lib.hid (HBX3.out.kept (below_draws (Below.refl _ _) z))⟩
                    case measure => omega
                · have hdj : decide ((j : Int) < (l2.length : Int)) = false := decide_eq_false (by omega)
                  obtain ⟨m, hat, hml, hpm⟩ : ∃ m : Nat, at' = m ∧ ∃ h : m < l2.length, l2[m] = (fr, to, bd) := by
                    rcases HLA.out with ⟨h1, h2⟩ | ⟨m, h1, h2, h3, h4⟩
                    · exfalso
                      have hmem : (fr, to, bd) ∈ l2 := (HP.out.mem_iff).1 (by rw [← HPP.out]; exact List.getElem_mem _)
                      obtain ⟨q, hq, e⟩ := List.getElem_of_mem hmem
                      exact h2 q hq (by omega) e
                    · exact ⟨m, h1, h3, h4⟩
                  subst hat
                  have hdm : decide ((m : Int) < 0) = false := decide_eq_false (by omega)
                  have HLN : Hid ((l1.take a ++ l1.drop (a + 1)).length = l1.length - 1) := Lib.hid (by rw [List.length_append, List.length_take, List.length_drop]; omega)
                  have HPM := Lib.hid (perm_out HP.out hal hml HPP.out hpm)
                  have HPMM := Lib.hid hpm
                  clear hpm
                  go_wp2_with fail
                  refine (rtake_made _ C _ l2 0 (m : Int) m fr to bd HTW3.out.r (by omega) (wf_nat m (by omega)) (by omega) (by rw [Int.toNat_natCast]; exact Nat.mod_eq_of_lt hml) hml HPMM.out).mono ?_
                  rintro e w5 ⟨rfl, hpst⟩
                  obtain ⟨v2', htw5⟩ := HTW3.out.stepX hpst
                  have HTW5 := Lib.hid htw5
                  clear hpst htw5
                  go_wp2
                  go_roundg (gO - 1)
                  case rel => exact ⟨i2 + 1, v1', v2', l1.take a ++ l1.drop (a + 1), l2.take m ++ l2.drop (m + 1), by go_num, by omega, by omega, by rw [HLN.out]; omega, HPM, HTW5⟩
                  case measure => have := HGO.out; omega
          · have hl0 : l1.length = 0 := by omega
            obtain rfl : l1 = [] := List.eq_nil_of_length_eq_zero hl0
            obtain rfl : l2 = [] := List.eq_nil_of_length_eq_zero (by rw [← hl12]; rfl)
            have c0 := HTW.out.r.c0
            by_cases h60 : i2 < 60
            · have hd60 : decide ((i2 : Int) < 60) = true := decide_eq_true (by omega)
              go_wp2_with (first
                | (go_at_call 63; refine (elen_made _ _ _ _ _ HTW.out.e).mono ?_; rintro e w3 ⟨rfl, rfl⟩)
                | (go_at_call 64; refine (elost_made _ _ _ _ _ HTW.out.e).mono ?_; rintro e w3 ⟨rfl, rfl⟩)
                | (go_at_call 67; refine (awake21 _).mono ?_; rintro e w8 ⟨rfl, hb8⟩))
              go_ret
              exact ⟨rfl, by rw [← HBB.out]; exact HTW.out.bel.trans (hb8.mono HTW.out.sz)⟩
            · have hd60 : decide ((i2 : Int) < 60) = false := decide_eq_false (by omega)
              go_wp2_with (first
                | (go_at_call 63; refine (elen_made _ _ _ _ _ HTW.out.e).mono ?_; rintro e w3 ⟨rfl, rfl⟩)
                | (go_at_call 64; refine (elost_made _ _ _ _ _ HTW.out.e).mono ?_; rintro e w3 ⟨rfl, rfl⟩)
                | (go_at_call 67; refine (awake21 _).mono ?_; rintro e w8 ⟨rfl, hb8⟩))
              go_ret
              exact ⟨rfl, by rw [← HBB.out]; exact HTW.out.bel.trans (hb8.mono HTW.out.sz)⟩
end Go.Proofs.Ytjiipmehgcnaeaa
