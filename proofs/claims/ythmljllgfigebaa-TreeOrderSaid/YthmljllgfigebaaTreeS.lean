/- catenalaw15.TreeOrder. Conditions: the texts read as l. -/
import Derived.Test.YthmljllgfigebaaTreeR
namespace Go.Proofs.Ythmljllgfigebaa
open Go.RowKit Go.Shelf
set_option linter.unusedVariables false
theorem Dr.tro {S : Nat → Prop} {w X : World} {tb : Nat} {L : List Kv} {d : Int} (h : TrO S w tb L d) (hX : Dr w X) : TrO S X tb L d := h.gr hX.grown (fun q e => nomatch e)
theorem Dr.sl {w X : World} {v : Value} {l : List ByteArray} (h : SliceOf strE 1 w v l) (hX : Dr w X) : SliceOf strE 1 X v l := h.below (grown_below hX.grown)

set_option maxRecDepth 100000 in
set_option maxHeartbeats 4000000 in
theorem torder_any (v : Value) (l : List ByteArray) (F T : ByteArray) (w : World) (hs : SliceOf strE 1 w v l) (hl : l.length ≤ 8796093022208) (_hg : ∀ s ∈ l, s.size ≤ 140737488351232) (_hF : F.size ≤ 140737488351232) (_hT : T.size ≤ 140737488351232) :
    Calls Try.prog 5 #[v, .string F, .string T] w fun e w' => e = .returned (.bool true) ∧ Below w.heap.size w w' := by
  have HS := Lib.hid hs; have HG := Lib.hid _hg
  obtain ⟨ao, cap, rfl, hcap, hcm, _, _⟩ := hs
  clear _hg
  go_enter Try.func5, Try.ntmps5
  go_wp2_with fail
  refine (tnew_any _).mono ?_
  rintro e w1 ⟨S, rfl, hO, hlo, hb⟩
  have HLO := Lib.hid hlo; have HB := Lib.hid hb; have HO := Lib.hid hO; clear hlo hb hO
  go_wp2_with fail
  refine (tnew_any _).mono ?_
  rintro e w2 ⟨U, rfl, hO2, hlo2, hb2⟩
  have HAP := Lib.hid (show ∀ q, S q → U q → False from fun q h1 h2 => by have := HO.out.ofS q h1; have := hlo2 q h2; omega)
  have HO1 := Lib.hid (HO.out.gr (below_grown hb2) (fun q e => nomatch e)); have HP := Lib.hid hO2; have HBB := Lib.hid (hb_call HB.out hb2)
  have HLU := Lib.hid (show ∀ q, U q → w.heap.size ≤ q from fun q h => Nat.le_trans HB.out.size (hlo2 q h))
  clear hO2 hb2 hlo2 HO HB
  obtain ⟨ub, hub⟩ : ∃ ub, ub = w1.heap.size := ⟨_, rfl⟩
  rw [← hub] at HP ⊢
  clear hub
  go_wp2
  obtain ⟨n, hn⟩ : ∃ n : Nat, min (l.length : Int) 60 = (n : Int) := ⟨min l.length 60, by omega⟩
  have hnl : n ≤ l.length := by omega
  have hn60 : n ≤ 60 := by omega
  rw [hn]; clear hn
  go_loopg [10] (n + 1) (fun g s10 wr => ∃ (i : Nat) (L : List Kv) (d : Int) (S : Nat → Prop) (M : List Kv) (e : Int) (U : Nat → Prop), s10 = .int .i64 i ∧ i ≤ n ∧ n + 1 ≤ i + g ∧ L.length ≤ i ∧ M.length ≤ i ∧ Hid (Put15 l n i L M) ∧ Hid (TrO S wr w.heap.size L d) ∧ Hid (TrO U wr ub M e) ∧ Hid (∀ q, S q → U q → False) ∧ Hid (∀ q, S q → w.heap.size ≤ q) ∧ Hid (∀ q, U q → w.heap.size ≤ q) ∧ Hid (Below w.heap.size w wr))
  case atStart => exact ⟨0, [], 0, S, [], 0, U, rfl, by omega, by omega, by simp, by simp, Lib.hid (Put15.start l n hnl), HO1, HP, HAP, HLO, HLU, HBB⟩
  case round =>
    obtain ⟨i, L, d, S, M, e, U, rfl, hi, hg, hLi, hMi, HPUT, HO1, HP, HAP, HLO, HLU, HBB⟩ := hrel
    by_cases hin : i < n
    · have hd : decide ((i : Int) < (n : Int)) = true := decide_eq_true (by omega)
      have HS2 := Lib.hid (HS.out.below HBB.out)
      obtain ⟨b, off, rfl, k0⟩ := strAt HS2.out i (by omega)
      obtain ⟨b', off', e', k1⟩ := strAt HS2.out (n - 1 - i) (by omega)
      simp only [Option.some.injEq, Addr.mk.injEq, and_true] at e'
      obtain ⟨rfl, rfl⟩ := e'
      obtain ⟨x, hx⟩ : ∃ x, x = l[i] := ⟨_, rfl⟩
      obtain ⟨y, hy⟩ : ∃ y, y = l[n - 1 - i] := ⟨_, rfl⟩
      rw [← hx] at k0; rw [← hy] at k1
      have hput := HPUT.out.step hin hnl
      rw [← hx, ← hy] at hput
      have HPUT2 := Lib.hid hput
      have ej : ((n : Int) - 1 - i).toNat = n - 1 - i := by omega
      have hil : (i : Int) < (l.length : Int) := by omega
      have hjl : (n : Int) - 1 - i < (l.length : Int) := by omega
      have hj0 : (i : Int) ≤ (n : Int) - 1 := by omega
      have hw1 : IntKind.i64.wrap ((n : Int) - 1) = (n : Int) - 1 := IntWalk.i64_in _ ⟨by omega, by omega⟩
      have hw2 : IntKind.i64.wrap ((n : Int) - 1 - i) = (n : Int) - 1 - i := IntWalk.i64_in _ ⟨by omega, by omega⟩
      clear hx hy hput
      have HW : Hid (∀ X, Dr wr X → Calls Try.prog 16 #[pt w.heap.size 0, .string x, .int .i64 x.size] X fun e' w' => ∃ (d2 : Int) (S2 : Nat → Prop), e' = .returned (.bool (hasL L x)) ∧ TrO S2 w' w.heap.size (insL L x x.size) d2 ∧ TrO U w' ub M e ∧ (∀ q, S2 q → U q → False) ∧ (∀ q, S2 q → w.heap.size ≤ q) ∧ Below w.heap.size w w' ∧ SliceOf strE 1 w' (.slice (some ⟨b, off, none⟩) l.length cap) l ∧ w'.cell? ⟨b, off + (n - 1 - i), none⟩ = some (.string y)) := Lib.hid fun X hX => by
        have hg := hX.grown
        refine (tput_any S X _ L d x x.size (HO1.out.gr hg (fun q e => nomatch e)) (by omega)).mono ?_
        rintro e2 w2 ⟨d2, S2, rfl, hO2, hg2⟩
        have hb1 := hb_new HBB.out hg
        have hb2 := hbL hb1 HLO.out hg2.but
        have hU := HP.out.gr hg (fun q e => nomatch e)
        have hlt : (⟨b, off + (n - 1 - i), none⟩ : Addr).block < w.heap.size := by
          obtain ⟨b9, off9, e9, k9⟩ := strAt HS.out (n - 1 - i) (by omega)
          simp only [Option.some.injEq, Addr.mk.injEq, and_true] at e9
          obtain ⟨rfl, rfl⟩ := e9
          exact World.block_lt_of_cell? w _ k9
        exact ⟨d2, S2, rfl, hO2, hU.but hg2.but HAP.out, hg2.ap HAP.out hU.ofS, hg2.lo HLO.out hb1.size, hb2, HS.out.below hb2, (hb2.cell hlt).trans ((HBB.out.cell hlt).symm.trans k1)⟩
      go_wp2_with fail
      go_region_law (first | (go_simp; go_at_call 16; refine Calls.mono (HW.out _ (by repeat (first | exact Dr.o | refine Dr.s ?_))) ?_; rintro e2 w2 ⟨d2, S2, rfl, hO2, hU2, hap2, hlo2, hb2, hs2, k2⟩; have HO2 := Lib.hid hO2; have HU2 := Lib.hid hU2; have HAP2 := Lib.hid hap2; have HLO2 := Lib.hid hlo2; have HB2 := Lib.hid hb2; have HS3 := Lib.hid hs2; clear hO2 hU2 hap2 hlo2 hb2 hs2))
      all_goals
        have HW2 : Hid (∀ X, Dr w2 X → Calls Try.prog 16 #[pt ub 0, .string y, .int .i64 y.size] X fun e' w' => ∃ (e2 : Int) (U2 : Nat → Prop), e' = .returned (.bool (hasL M y)) ∧ TrO U2 w' ub (insL M y y.size) e2 ∧ TrO S2 w' w.heap.size (insL L x x.size) d2 ∧ (∀ q, S2 q → U2 q → False) ∧ (∀ q, U2 q → w.heap.size ≤ q) ∧ Below w.heap.size w w') := Lib.hid fun X hX => by
          have hg := hX.grown
          refine (tput_any U X _ M e y y.size (HU2.out.gr hg (fun q e => nomatch e)) (by omega)).mono ?_
          rintro e3 w3 ⟨e2, U2, rfl, hO3, hg3⟩
          have hb1 := hb_new HB2.out hg
          have hS := HO2.out.gr hg (fun q e => nomatch e)
          exact ⟨e2, U2, rfl, hO3, hS.but hg3.but (ap_symm HAP2.out), ap_symm (hg3.ap (ap_symm HAP2.out) hS.ofS), hg3.lo HLU.out hb1.size, hbL hb1 HLU.out hg3.but⟩
        go_wp2_with fail
        go_region_law (first | (go_simp; go_at_call 16; refine Calls.mono (HW2.out _ (by repeat (first | exact Dr.o | refine Dr.s ?_))) ?_; rintro e3 w3 ⟨e2, U2, rfl, hO3, hS3, hap3, hlo3, hb3⟩; have HO3 := Lib.hid hO3; have HS4 := Lib.hid hS3; have HAP3 := Lib.hid hap3; have HLO3 := Lib.hid hlo3; have HB3 := Lib.hid hb3; clear hO3 hS3 hap3 hlo3 hb3))
        all_goals
          go_wp2
          go_roundg (gk - 1)
          case rel => exact ⟨i + 1, _, d2, S2, _, e2, U2, by go_num, by omega, by omega, Nat.le_trans insL_le (by omega), Nat.le_trans insL_le (by omega), HPUT2, HS4, HO3, HAP3, Lib.hid (by assumption : Hid (∀ q, S2 q → w.heap.size ≤ q)).out, HLO3, HB3⟩
          case measure => omega
    · have hd : decide ((i : Int) < (n : Int)) = false := decide_eq_false (by omega)
      obtain rfl : i = n := by omega
      have hsL := HO1.out.srt
      have hfin := HPUT.out.fin hnl hsL HP.out.srt
      have HSET := Lib.hid hfin.1
      have hlen : M.length = L.length := by rw [← ks_len M, ← ks_len L, hfin.2]
      have HLEN := Lib.hid hlen
      have HKK : Hid (kcut T (wkL F M) = kcut T (wkL F L)) := Lib.hid (by rw [wkL_ks, wkL_ks, hfin.2])
      have hln : (l.take i).length = i := by rw [List.length_take]; omega
      have hsn := sl_take (HS.out.below HBB.out) i hnl
      have HOWN := Lib.hid (fun (x : ByteArray) (hx : x ∈ l.take i) => own_get HPUT.out.2.2.1 hsL ((HPUT.out.1 x).2 (by rw [List.take_of_length_le (by omega)]; exact hx)))
      have H0 : Hid (Two15 w w.heap.size ub S U L M d e (subV (.slice ao l.length cap) 0 i 1) (l.take i) wr) := Lib.hid ⟨HO1.out, HP.out, hsn, HBB.out⟩
      have HSL := Lib.hid (HS.out.below HBB.out)
      clear hsn hfin hsL hd
      go_wp2
      go_loopg [11] (i + 1) (fun g s11 wq => ∃ (j : Nat), s11 = .int .i64 j ∧ j ≤ i ∧ i + 1 ≤ j + g ∧ wq = wr)
      case atStart => exact ⟨0, rfl, by omega, by omega, rfl⟩
      case round =>
        obtain ⟨j, rfl, hj, hg, rfl⟩ := hrel
        by_cases hji : j < i
        · have hd : decide ((j : Int) < (i : Int)) = true := decide_eq_true (by omega)
          have hjl : (j : Int) < (l.length : Int) := by omega
          obtain ⟨b, off, rfl, k0⟩ := strAt HSL.out j (by omega)
          obtain ⟨x, hx⟩ : ∃ x, x = l[j] := ⟨_, rfl⟩
          have HX := Lib.hid (HOWN.out x (by rw [hx]; exact List.mem_of_getElem (h := by rw [hln]; exact hji) (by rw [List.getElem_take])))
          rw [← hx] at k0
          clear hx
          go_wp2_with fail
          refine (tget_any S _ _ L d x H0.out.t).mono ?_
          rintro e1 x1 ⟨rfl, rfl⟩
          rw [HX.out.1, HX.out.2]
          go_wp2
          go_roundg (gk - 1)
          case rel => exact ⟨j + 1, by go_num, by omega, by omega, rfl⟩
          case measure => omega
        · have hd : decide ((j : Int) < (i : Int)) = false := decide_eq_false (by omega)
          have hT0 := H0.out
          have hB0 := H0.out.b
          have hLs : L.length ≤ 80000 := by omega
          have hMs : M.length ≤ 80000 := by omega
          have hKK := HKK.out
          have hK0 : kcut (⟨#[]⟩) (wkL (⟨#[]⟩) L) = ksL L := by rw [wkL_e, kcut_e]; rfl
          have hset := HSET.out
          have hm0 : (l.take i).length ≤ 1000 := by omega
          have hsl : ∀ x, Below w.heap.size w x → SliceOf strE 1 x (.slice ao l.length cap) l := fun x hx => HS.out.below hx
          go_wp2_with fail
          refine dr_gen (fun x => Below w.heap.size w x) (by kernel_rfl) (fun w1 hg2 => ?_) (fun w1 hg2 => ?_)
          ·
           have hz3 := hg2.size
           have hB4 := hb_new hB0 hg2
           exact hB4
          have hz5 := hg2.size
          have hB6 := hb_new hB0 hg2
          refine dk0 0 (v := pt (w.heap.size) 0) (sl_consP (t := 0) (v := .slice ao l.length cap) (sl_consP (t := 1) (v := .string F) (sl_consP (t := 2) (v := .string T) (sl_consP (t := 7) (v := pt w.heap.size 0) (sl_consP (t := 8) (v := pt ub 0) (sl_consP (t := 9) (v := .int .i64 ((i : Nat) : Int)) (sl_nilP rfl rfl) rfl) rfl) rfl) rfl) rfl) rfl) rfl rfl hB6 fun a7 h7 => ?_
          refine dk0 2 (v := pt ub 0) h7 rfl rfl hB6 fun a8 h8 => ?_; clear h7
          have hT11 := Two15.gr hT0 hg2
          refine d1 1 h8 rfl rfl (op_call (args := #[pt (w.heap.size) 0]) (R := fun res xw => res = .int .i64 ((L.length : Nat) : Int) ∧ w1 = xw) rfl rfl rfl (by kernel_rfl) (by kernel_rfl) (Try.call27 _ _) (tlen_any S w1 (w.heap.size) L d hT11.t) (by rintro e x ⟨rfl, rfl⟩; exact ⟨_, rfl, rfl, rfl⟩)) ?_ ?_; clear h8
          ·
           rintro _ _ ⟨rfl, rfl⟩
           exact hB6
          rintro _ _ a9 ⟨rfl, rfl⟩ h9
          refine d1 3 h9 rfl rfl (op_call (args := #[pt ub 0]) (R := fun res xw => res = .int .i64 ((M.length : Nat) : Int) ∧ w1 = xw) rfl rfl rfl (by kernel_rfl) (by kernel_rfl) (Try.call27 _ _) (tlen_any U w1 ub M e hT11.u) (by rintro e x ⟨rfl, rfl⟩; exact ⟨_, rfl, rfl, rfl⟩)) ?_ ?_; clear h9
          ·
           rintro _ _ ⟨rfl, rfl⟩
           exact hB6
          rintro _ _ a12 ⟨rfl, rfl⟩ h12
          refine dk0 4 (v := .bool (((L.length : Nat) : Int) == ((M.length : Nat) : Int))) h12 rfl rfl hB6 fun a14 h14 => ?_; clear h12
          refine dk0 5 (v := .bool (((L.length : Nat) : Int) == ((M.length : Nat) : Int))) h14 rfl rfl hB6 fun a15 h15 => ?_; clear h14
          have hc16 : (((L.length : Nat) : Int) == ((M.length : Nat) : Int)) = true := by rw [hlen]; exact beq_self_eq_true _
          rw [hc16] at h15
          refine dk0 6 (v := pt (w.heap.size) 0) h15 rfl rfl hB6 fun a17 h17 => ?_; clear h15
          refine dk0 7 (v := .string F) h17 rfl rfl hB6 fun a18 h18 => ?_; clear h17
          refine dk0 8 (v := .string T) h18 rfl rfl hB6 fun a19 h19 => ?_; clear h18
          refine dk0 10 (v := pt ub 0) h19 rfl rfl hB6 fun a20 h20 => ?_; clear h19
          refine dk0 11 (v := .string F) h20 rfl rfl hB6 fun a21 h21 => ?_; clear h20
          refine dk0 12 (v := .string T) h21 rfl rfl hB6 fun a22 h22 => ?_; clear h21
          refine d1 9 h22 rfl rfl (op_call (args := #[pt (w.heap.size) 0, .string F, .string T]) (R := fun res xw => ∃ u, res = u ∧ Two15 w (w.heap.size) ub S U L M d e (subV (.slice ao l.length cap) 0 i 1) (l.take i) xw ∧ SliceOf strE 1 xw u (kcut T (wkL F L)) ∧ ∀ u' m', SliceOf strE 1 w1 u' m' → SliceOf strE 1 xw u' m') rfl rfl rfl (by kernel_rfl) (by kernel_rfl) (Try.call25 _ _) (keys_one hT11 hT11.t F T (Dr.o) hLs) (by rintro e x ⟨u, rfl, h⟩; exact ⟨_, rfl, u, rfl, h⟩)) ?_ ?_; clear h22
          ·
           rintro u25 w24 ⟨_, rfl, hT26, hR27, hc28⟩
           have hB29 := hT26.b
           have hz30 := hB29.size
           exact hB29
          rintro u25 w24 a23 ⟨_, rfl, hT26, hR27, hc28⟩ h23
          have hB29 := hT26.b
          have hz30 := hB29.size
          refine d1 13 h23 rfl rfl (op_call (args := #[pt ub 0, .string F, .string T]) (R := fun res xw => ∃ u, res = u ∧ Two15 w (w.heap.size) ub S U L M d e (subV (.slice ao l.length cap) 0 i 1) (l.take i) xw ∧ SliceOf strE 1 xw u (kcut T (wkL F M)) ∧ ∀ u' m', SliceOf strE 1 w24 u' m' → SliceOf strE 1 xw u' m') rfl rfl rfl (by kernel_rfl) (by kernel_rfl) (Try.call25 _ _) (keys_two hT26 F T (Dr.o) hMs) (by rintro e x ⟨u, rfl, h⟩; exact ⟨_, rfl, u, rfl, h⟩)) ?_ ?_; clear h23
          ·
           rintro u33 w32 ⟨_, rfl, hT34, hR35, hc36⟩
           have hR37 := hc36 _ _ hR27
           have hB38 := hT34.b
           have hz39 := hB38.size
           exact hB38
          rintro u33 w32 a31 ⟨_, rfl, hT34, hR35, hc36⟩ h31
          have hR37 := hc36 _ _ hR27
          have hB38 := hT34.b
          have hz39 := hB38.size
          refine d1 14 h31 rfl rfl (op_call (args := #[u25, u33]) (R := fun res xw => res = .bool true ∧ Two15 w (w.heap.size) ub S U L M d e (subV (.slice ao l.length cap) 0 i 1) (l.take i) xw ∧ ∀ u' m', SliceOf strE 1 w32 u' m' → SliceOf strE 1 xw u' m') rfl rfl rfl (by kernel_rfl) (by kernel_rfl) (Try.call24 _ _) (same_two hT34 hR37 (hKK ▸ hR35) (Dr.o)) (by rintro e x ⟨rfl, h⟩; exact ⟨_, rfl, rfl, h⟩)) ?_ ?_; clear h31
          ·
           rintro _ w41 ⟨rfl, hT42, hc43⟩
           have hR44 := hc43 _ _ hR37
           have hR45 := hc43 _ _ hR35
           have hB46 := hT42.b
           have hz47 := hB46.size
           exact hB46
          rintro _ w41 a40 ⟨rfl, hT42, hc43⟩ h40
          have hR44 := hc43 _ _ hR37
          have hR45 := hc43 _ _ hR35
          have hB46 := hT42.b
          have hz47 := hB46.size
          refine dk0 15 (v := .bool true) h40 rfl rfl hB46 fun a48 h48 => ?_; clear h40
          refine dk0 16 (v := .bool true) h48 rfl rfl hB46 fun a49 h49 => ?_; clear h48
          refine dk0 17 (v := pt (w.heap.size) 0) h49 rfl rfl hB46 fun a50 h50 => ?_; clear h49
          refine dk0 19 (v := (.slice ao l.length cap)) h50 rfl rfl hB46 fun a51 h51 => ?_; clear h50
          refine dk0 20 (v := .int .i64 ((i : Nat) : Int)) h51 rfl rfl hB46 fun a52 h52 => ?_; clear h51
          refine dk 21 (v := (subV (.slice ao l.length cap) 0 i 1)) h52 rfl rfl hB46 (fun x hx => (rn_sliceTo rfl rfl rfl Try.underlying38 Try.sizeOf9 (hsl x hx) rfl (by omega))) fun a53 h53 => ?_; clear h52
          refine d1 18 h53 rfl rfl (op_call (args := #[pt (w.heap.size) 0, .string (⟨#[]⟩), .string (⟨#[]⟩)]) (R := fun res xw => ∃ u, res = u ∧ Two15 w (w.heap.size) ub S U L M d e (subV (.slice ao l.length cap) 0 i 1) (l.take i) xw ∧ SliceOf strE 1 xw u (kcut (⟨#[]⟩) (wkL (⟨#[]⟩) L)) ∧ ∀ u' m', SliceOf strE 1 w41 u' m' → SliceOf strE 1 xw u' m') rfl rfl rfl (by kernel_rfl) (by kernel_rfl) (Try.call25 _ _) (keys_one hT42 hT42.t (⟨#[]⟩) (⟨#[]⟩) (Dr.o) hLs) (by rintro e x ⟨u, rfl, h⟩; exact ⟨_, rfl, u, rfl, h⟩)) ?_ ?_; clear h53
          ·
           rintro u56 w55 ⟨_, rfl, hT57, hR58, hc59⟩
           have hR60 := hc59 _ _ hR44
           have hR61 := hc59 _ _ hR45
           have hB62 := hT57.b
           have hz63 := hB62.size
           exact hB62
          rintro u56 w55 a54 ⟨_, rfl, hT57, hR58, hc59⟩ h54
          have hR60 := hc59 _ _ hR44
          have hR61 := hc59 _ _ hR45
          have hB62 := hT57.b
          have hz63 := hB62.size
          refine d1 22 h54 rfl rfl (op_call (args := #[(subV (.slice ao l.length cap) 0 i 1)]) (R := fun res xw => ∃ u, res = u ∧ Two15 w (w.heap.size) ub S U L M d e (subV (.slice ao l.length cap) 0 i 1) (l.take i) xw ∧ SliceOf strE 1 xw u (ksL L) ∧ ∀ u' m', SliceOf strE 1 w55 u' m' → SliceOf strE 1 xw u' m') rfl rfl rfl (by kernel_rfl) (by kernel_rfl) (Try.call31 _ _) (set_two hT57 (Dr.o) hm0 hset) (by rintro e x ⟨u, rfl, h⟩; exact ⟨_, rfl, u, rfl, h⟩)) ?_ ?_; clear h54
          ·
           rintro u66 w65 ⟨_, rfl, hT67, hR68, hc69⟩
           have hR70 := hc69 _ _ hR60
           have hR71 := hc69 _ _ hR61
           have hR72 := hc69 _ _ hR58
           have hB73 := hT67.b
           have hz74 := hB73.size
           exact hB73
          rintro u66 w65 a64 ⟨_, rfl, hT67, hR68, hc69⟩ h64
          have hR70 := hc69 _ _ hR60
          have hR71 := hc69 _ _ hR61
          have hR72 := hc69 _ _ hR58
          have hB73 := hT67.b
          have hz74 := hB73.size
          refine d1 23 h64 rfl rfl (op_call (args := #[u56, u66]) (R := fun res xw => res = .bool true ∧ Two15 w (w.heap.size) ub S U L M d e (subV (.slice ao l.length cap) 0 i 1) (l.take i) xw ∧ ∀ u' m', SliceOf strE 1 w65 u' m' → SliceOf strE 1 xw u' m') rfl rfl rfl (by kernel_rfl) (by kernel_rfl) (Try.call24 _ _) (same_two hT67 (hK0 ▸ hR72) hR68 (Dr.o)) (by rintro e x ⟨rfl, h⟩; exact ⟨_, rfl, rfl, h⟩)) ?_ ?_; clear h64
          ·
           rintro _ w76 ⟨rfl, hT77, hc78⟩
           have hR79 := hc78 _ _ hR70
           have hR80 := hc78 _ _ hR71
           have hR81 := hc78 _ _ hR72
           have hR82 := hc78 _ _ hR68
           have hB83 := hT77.b
           have hz84 := hB83.size
           exact hB83
          rintro _ w76 a75 ⟨rfl, hT77, hc78⟩ h75
          have hR79 := hc78 _ _ hR70
          have hR80 := hc78 _ _ hR71
          have hR81 := hc78 _ _ hR72
          have hR82 := hc78 _ _ hR68
          have hB83 := hT77.b
          have hz84 := hB83.size
          refine dk0 24 (v := .bool true) h75 rfl rfl hB83 fun a85 h85 => ?_; clear h75
          refine dk0 25 (v := .bool true) h85 rfl rfl hB83 fun a86 h86 => ?_; clear h85
          refine d1 26 h86 rfl rfl (op_call (args := #[]) (R := fun res xw => res = .bool true ∧ Two15 w (w.heap.size) ub S U L M d e (subV (.slice ao l.length cap) 0 i 1) (l.take i) xw) rfl rfl rfl (by kernel_rfl) (by kernel_rfl) (Try.call28 _ _) (awake_two hT77 (Dr.o)) (by rintro e x ⟨rfl, h⟩; exact ⟨_, rfl, rfl, h⟩)) ?_ ?_; clear h86
          ·
           rintro _ w88 ⟨rfl, hT89⟩
           have hB91 := hT89.b
           exact hB91
          rintro _ w88 a87 ⟨rfl, hT89⟩ h87
          have hB91 := hT89.b
          refine dk0 27 (v := .bool true) h87 rfl rfl hB91 fun a92 h92 => ?_; clear h87
          refine dk0 28 (v := .bool true) h92 rfl rfl hB91 fun a93 h93 => ?_; clear h92
          refine dr_done (by kernel_rfl) ?_
          refine co_then ?_
          refine (‹∀ (a : Act) (w : World), Code.wp Try.prog Code.ret _ a w → _›) _ _ ?_
          refine wp_ret ?_
          exact co_ret1 h93 rfl rfl ⟨rfl, hB91⟩
end Go.Proofs.Ythmljllgfigebaa
