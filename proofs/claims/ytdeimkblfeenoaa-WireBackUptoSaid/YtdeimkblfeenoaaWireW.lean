/- Package catenalaw02: WireBack. Conditions: texts of at most 2^20 bytes. -/
import Derived.Test.YtdeimkblfeenoaaWireV
namespace Go.Proofs.Ytdeimkblfeenoaa
open Go.RowKit Go.PlainAid

def BK (N : Nat) (w wr : World) (l : List UInt8) : Prop := Wr wr N (N + 1) l 0 ∧ Below N w wr
theorem BK.step {N : Nat} {w wr w1 : World} {l l' : List UInt8} (h : BK N w wr l) (hN : N = w.heap.size) (h1 : Wr w1 N (N + 1) l' 0) (hb1 : But (WrOnly N (N + 1)) wr w1) : BK N w w1 l' := by
  refine ⟨h1, ?_⟩
  exact below_but h.2 hb1 (by have := h.2.size; omega) (fun k _ hk => by rcases hk with hk | hk <;> omega)
def RK (R : Nat) (T : ByteArray) (a : Nat) (w wr : World) : Prop := Rd wr R T a 0 ∧ Below w.heap.size w wr
theorem RK.step {R : Nat} {T : ByteArray} {a : Nat} {c : Nat} {c1 : Int} {w wr w1 : World} (h : RK R T a w wr) (hR : w.heap.size ≤ R) (h1 : RE w1 R T c1 0) (hc : c1 = c) (hb : But (Own R) wr w1) : RK R T c w w1 := by
  subst hc
  exact ⟨h1.ok, below_but h.2 hb h.2.size (fun k _ hk => by unfold Own at hk; omega)⟩
theorem wNum_ok {n : Int} (l : List UInt8) (h : 0 ≤ n) : wNum n (l, 0) = (l ++ putL n, 0) := by unfold wNum; rw [if_neg (by simp), if_neg (by omega)]
theorem wBig_ok (n : Int) (l : List UInt8) : wBig n (l, 0) = (l ++ putL n, 0) := by unfold wBig; rw [if_neg (by simp)]
theorem wText_ok (s : ByteArray) (l : List UInt8) : wText s (l, 0) = (l ++ (putL (s.size : Int) ++ s.data.toList), 0) := by unfold wText; rw [if_neg (by simp), List.append_assoc]
theorem wFlag_ok (f : Bool) (l : List UInt8) : wFlag f (l, 0) = (l ++ [flagB f], 0) := by unfold wFlag; rw [if_neg (by simp)]
set_option maxRecDepth 100000 in
set_option maxHeartbeats 12800000 in
theorem wireBack_any (v : Value) (l : List PartT) (c : ByteArray) (w : World) (hs : SliceOf partE 5 w v l) (hp : ∀ p ∈ l, PartOk 1048576 p) (hcs : c.size ≤ 140737488351232) :
    Calls Try.prog 5 #[v, .string c] w fun e w' => e = .returned (.bool true) ∧ Below w.heap.size w w' := by
  obtain ⟨ao, cap, rfl, hcap, hcm, _, hcell⟩ := hs
  have HC := Lib.hid hcell; have HP := Lib.hid hp; clear hcell hp
  obtain ⟨N, hN⟩ : ∃ N, N = w.heap.size := ⟨_, rfl⟩
  have HN := Lib.hid hN
  obtain ⟨M, hM⟩ : ∃ M : Nat, (if (40 : Int) < (l.length : Int) then (40 : Int) else (l.length : Int)) = (M : Int) := ⟨min l.length 40, by split <;> omega⟩
  have hMl : M ≤ l.length ∧ M ≤ 40 := by split at hM <;> omega
  obtain ⟨hMl, hM40⟩ := hMl
  have hcase : (40 ≤ M ∧ 40 < l.length) ∨ (l.length ≤ M ∧ l.length ≤ 40) := by split at hM <;> omega
  clear hM
  go_enter Try.func5, Try.ntmps5
  go_wp2_with fail
  refine (wnew_any _).mono ?_
  rintro e w1 ⟨rfl, hm, hz, hb⟩
  have HX : Hid (BK N w w1 []) := Lib.hid ⟨by rw [hN]; exact hm.wr (Below.refl _ _) (by omega) (by omega), by rw [hN]; exact hb⟩
  clear hm hz hb hN
  rcases hcase with ⟨hge, h40⟩ | ⟨hge, h40⟩
  all_goals
    go_wp2_with fail
    rw [← HN.out]
    go_loopg [5, 7] (M + 1) (fun g s5 s7 wr => ∃ i : Nat, s5 = .pointer (some ⟨N, 0, none⟩) ∧ s7 = .int .i64 i ∧ i ≤ M ∧ M + 1 ≤ i + g ∧ BK N w wr (catP (l.take i)) ∧ (catP (l.take i)).length ≤ i * 2000000)
    case atStart => exact ⟨0, rfl, rfl, by omega, by omega, HX.out, by simp [catP]⟩
    clear HX
    obtain ⟨i, rfl, rfl, hiM, hg, hbk, hlen⟩ := hrel
    have HI := Lib.hid hbk
    by_cases hlt : i < M
    · have hi1 : i < 40 := by omega
      have hi2 : i < l.length := by omega
      obtain ⟨b, off, rfl, hr⟩ := HC.out i hi2
      have hbel : Below w.heap.size w wr := by have := hbk.2; rw [HN.out] at this; exact this
      have hok := HP.out _ (List.getElem_mem hi2)
      have hts := take_snoc hi2
      obtain ⟨p, hpe⟩ : ∃ p, p = l[i] := ⟨_, rfl⟩
      rw [← hpe] at hr hok hts
      have d0 := cell_below hbel (hr 0 _ rfl); have d1 := cell_below hbel (hr 1 _ rfl); have d2 := cell_below hbel (hr 2 _ rfl); have d3 := cell_below hbel (hr 3 _ rfl); have d4 := cell_below hbel (hr 4 _ rfl)
      rw [Nat.add_zero] at d0
      have HT := Lib.hid hts
      have hel := encP_len p
      have HL : Hid ((catP (l.take (i + 1))).length ≤ (i + 1) * 2000000) := Lib.hid (by rw [hts, catP_snoc, List.length_append]; have := hok.s1; omega)
      obtain ⟨n0, n1, b0, b1, s1⟩ := hok
      clear hr hts hpe hel hbel hbk
      by_cases k0 : p.k = 0
      · have t0 : (p.k == 0) = true := by simp [k0]
        have K0 := Lib.hid k0
        clear k0
        by_cases hn : p.n < 0
        · have HN0 := Lib.hid hn
          have hst : Hid (catP (l.take (i + 1)) = catP (l.take i) ++ putL 0) := Lib.hid (by rw [HT.out, catP_snoc]; congr 1; unfold encP; rw [if_pos K0.out, if_pos HN0.out])
          go_wp2_with fail
          refine (wNum_any N (N + 1) (catP (l.take i)) 0 0 _ HI.out.1 (by omega) (by omega)).mono ?_
          rintro e w2 ⟨rfl, hm, hb⟩
          rw [wNum_ok _ (by omega), ← hst.out] at hm
          have HS := Lib.hid (HI.out.step HN.out hm hb)
          clear hm hb
          go_wp2
          go_roundg (gk - 1)
          case rel => exact ⟨i + 1, rfl, by go_num, by omega, by omega, HS.out, HL.out⟩
          case measure => omega
        · have HN0 := Lib.hid hn
          have hn0 : 0 ≤ p.n := by omega
          clear hn
          have hst : Hid (catP (l.take (i + 1)) = catP (l.take i) ++ putL p.n) := Lib.hid (by rw [HT.out, catP_snoc]; congr 1; unfold encP; rw [if_pos K0.out, if_neg HN0.out])
          go_wp2_with fail
          refine (wNum_any N (N + 1) (catP (l.take i)) 0 p.n _ HI.out.1 (by omega) n1).mono ?_
          rintro e w2 ⟨rfl, hm, hb⟩
          rw [wNum_ok _ hn0, ← hst.out] at hm
          have HS := Lib.hid (HI.out.step HN.out hm hb)
          clear hm hb
          go_wp2
          go_roundg (gk - 1)
          case rel => exact ⟨i + 1, rfl, by go_num, by omega, by omega, HS.out, HL.out⟩
          case measure => omega
      · have t0 : (p.k == 0) = false := by simp [k0]
        have K0 := Lib.hid k0
        clear k0
        by_cases k1 : p.k = 1
        · have t1 : (p.k == 1) = true := by simp [k1]
          have K1 := Lib.hid k1
          clear k1
          have hst : Hid (catP (l.take (i + 1)) = catP (l.take i) ++ putL p.b) := Lib.hid (by rw [HT.out, catP_snoc]; congr 1; unfold encP; rw [if_neg K0.out, if_pos K1.out])
          go_wp2_with fail
          refine (wBig_any N (N + 1) (catP (l.take i)) 0 p.b _ HI.out.1 (by omega) b0 b1).mono ?_
          rintro e w2 ⟨rfl, hm, hb⟩
          rw [wBig_ok, ← hst.out] at hm
          have HS := Lib.hid (HI.out.step HN.out hm hb)
          clear hm hb
          go_wp2
          go_roundg (gk - 1)
          case rel => exact ⟨i + 1, rfl, by go_num, by omega, by omega, HS.out, HL.out⟩
          case measure => omega
        · have t1 : (p.k == 1) = false := by simp [k1]
          have K1 := Lib.hid k1
          clear k1
          by_cases k2 : p.k = 2
          · have t2 : (p.k == 2) = true := by simp [k2]
            have K2 := Lib.hid k2
            clear k2
            have hst : Hid (catP (l.take (i + 1)) = catP (l.take i) ++ (putL (p.s.size : Int) ++ p.s.data.toList)) := Lib.hid (by rw [HT.out, catP_snoc]; congr 1; unfold encP; rw [if_neg K0.out, if_neg K1.out, if_pos K2.out])
            go_wp2_with fail
            refine (wText_any N (N + 1) (catP (l.take i)) 0 p.s _ HI.out.1 (by omega)).mono ?_
            rintro e w2 ⟨rfl, hm, hb⟩
            rw [wText_ok, ← hst.out] at hm
            have HS := Lib.hid (HI.out.step HN.out hm hb)
            clear hm hb
            go_wp2
            go_roundg (gk - 1)
            case rel => exact ⟨i + 1, rfl, by go_num, by omega, by omega, HS.out, HL.out⟩
            case measure => omega
          · have t2 : (p.k == 2) = false := by simp [k2]
            have K2 := Lib.hid k2
            clear k2
            have hst : Hid (catP (l.take (i + 1)) = catP (l.take i) ++ [flagB p.f]) := Lib.hid (by rw [HT.out, catP_snoc]; congr 1; unfold encP; rw [if_neg K0.out, if_neg K1.out, if_neg K2.out])
            go_wp2_with fail
            refine (wFlag_any N (N + 1) (catP (l.take i)) 0 p.f _ HI.out.1 (by omega)).mono ?_
            rintro e w2 ⟨rfl, hm, hb⟩
            rw [wFlag_ok, ← hst.out] at hm
            have HS := Lib.hid (HI.out.step HN.out hm hb)
            clear hm hb
            go_wp2
            go_roundg (gk - 1)
            case rel => exact ⟨i + 1, rfl, by go_num, by omega, by omega, HS.out, HL.out⟩
            case measure => omega
    · obtain rfl : i = M := by omega
      have HTl : Hid ((⟨(catP (l.take i)).toArray⟩ ++ c : ByteArray).size ≤ 9223372036854775807) := Lib.hid (by rw [size_front]; omega)
      have hcc := concat_run ⟨(catP (l.take i)).toArray⟩ c (by have := HTl.out; rw [ByteArray.size_append] at this; exact this)
      obtain ⟨T, hT⟩ : ∃ T, T = (⟨(catP (l.take i)).toArray⟩ ++ c : ByteArray) := ⟨_, rfl⟩
      rw [← hT] at hcc HTl
      have hTs := HTl
      have HB0 : Hid (Below w.heap.size w wr) := Lib.hid (by have := hbk.2; rw [HN.out] at this; exact this)
      have HT0 := Lib.hid hT
      clear hbk hT hlt
      go_wp2_with fail
      refine (wDone_ok N (N + 1) (catP (l.take i)) _ HI.out.1).mono ?_
      rintro e w5 ⟨rfl, rfl⟩
      go_wp2_with fail
      refine (open_size T _).mono ?_
      rintro e w2 ⟨rfl, hm, hz, hb⟩
      obtain ⟨R, hR⟩ : ∃ R, R = wr.heap.size := ⟨_, rfl⟩
      have HRN : Hid (w.heap.size ≤ R) := Lib.hid (by rw [hR]; exact HB0.out.size)
      rw [← hR] at hm ⊢
      have HX2 : Hid (RK R T 0 w w2) := Lib.hid ⟨hm, HB0.out.trans (hb.mono HB0.out.size)⟩
      obtain ⟨M, hMi⟩ : ∃ M, M = i := ⟨_, rfl⟩
      rw [← hMi] at HT0 hge hMl hM40 ⊢
      clear hm hz hb hR HI HB0 hcc hiM hg hlen hMi
      go_wp2_with fail
      go_loopg [11] (M + 1) (fun g s11 wr => ∃ i : Nat, s11 = .int .i64 i ∧ i ≤ M ∧ M + 1 ≤ i + g ∧ RK R T (catP (l.take i)).length w wr)
      case atStart => exact ⟨0, rfl, by omega, by omega, HX2.out⟩
      clear HX2
      obtain ⟨i, rfl, hiM, hg, hrk⟩ := hrel
      have HI := Lib.hid hrk
      by_cases hlt : i < M
      · have hi1 : i < 40 := by omega
        have hi2 : i < l.length := by omega
        obtain ⟨b, off, rfl, hr⟩ := HC.out i hi2
        have hbel := hrk.2
        have hok := HP.out _ (List.getElem_mem hi2)
        have hts := take_snoc hi2
        have hhas := back_has c hlt hMl
        rw [← HT0.out] at hhas
        obtain ⟨p, hpe⟩ : ∃ p, p = l[i] := ⟨_, rfl⟩
        rw [← hpe] at hr hok hts hhas
        have HH := Lib.hid hhas
        have HR := Lib.hid (fun (w' : World) (hb : Below w.heap.size w w') => (⟨cell_below hb (hr 0 _ rfl), cell_below hb (hr 1 _ rfl), cell_below hb (hr 2 _ rfl), cell_below hb (hr 3 _ rfl), cell_below hb (hr 4 _ rfl)⟩ : w'.cell? ⟨b, off + i * 5 + 0, none⟩ = some (.int .i64 p.k) ∧ w'.cell? ⟨b, off + i * 5 + 1, none⟩ = some (.int .i64 p.n) ∧ w'.cell? ⟨b, off + i * 5 + 2, none⟩ = some (.int .u64 p.b) ∧ w'.cell? ⟨b, off + i * 5 + 3, none⟩ = some (.string p.s) ∧ w'.cell? ⟨b, off + i * 5 + 4, none⟩ = some (.bool p.f)))
        have hbd := hbel.drew
        obtain ⟨d0, d1, _⟩ := HR.out _ hbel
        rw [Nat.add_zero] at d0
        have HT := Lib.hid hts
        have HI0 : Hid (RK R T (catP (l.take i)).length w wr.drew) := Lib.hid ⟨hrk.1.below (Below.refl _ _).drew, hbel.drew⟩
        have HRD := Lib.hid HI0.out.1
        have HRD1 := Lib.hid HI.out.1
        obtain ⟨n0, n1, b0, b1, s1⟩ := hok
        clear hr hts hpe hbel hrk hhas
        by_cases k0 : p.k = 0
        · have t0 : (p.k == 0) = true := by simp [k0]
          have K0 := Lib.hid k0
          clear k0
          by_cases hn : p.n < 0
          · have HN0 := Lib.hid hn
            have hen : Hid (encP p = putL 0) := Lib.hid (by unfold encP; rw [if_pos K0.out, if_pos HN0.out])
            have hq : numR T (catP (l.take i)).length 0 0 = (0, (((catP (l.take i)).length + (putL 0).length : Nat) : Int), 0) := numR_put (by omega) (by omega) (by rw [← hen.out]; exact HH.out.1) (by have := HH.out.2; rw [hen.out] at this; exact this)
            have hnl : Hid ((((catP (l.take i)).length + (putL 0).length : Nat) : Int) = ((catP (l.take (i + 1))).length : Nat)) := Lib.hid (by simp only [HT.out, catP_snoc, hen.out, List.length_append])
            have HQ := Lib.hid hq
            clear hq
            go_wp2_with fail
            refine (rNum_any R T (catP (l.take i)).length 0 0 _ HRD1.out hTs.out (by omega)).mono ?_
            rintro e w3 ⟨rfl, hm, hb⟩
            rw [HQ.out] at hm ⊢
            have hrk := HI.out.step HRN.out hm hnl.out hb
            have hb3 := hrk.2
            have HK := Lib.hid hrk
            clear hm hb hrk
            go_wp2
            go_roundg (gk - 1)
            case rel => exact ⟨i + 1, by go_num, by omega, by omega, HK.out⟩
            case measure => omega
          · have HN0 := Lib.hid hn
            have hn0 : 0 ≤ p.n := by omega
            clear hn
            have hen : Hid (encP p = putL p.n) := Lib.hid (by unfold encP; rw [if_pos K0.out, if_neg HN0.out])
            have hq : numR T (catP (l.take i)).length 0 p.n = (p.n, (((catP (l.take i)).length + (putL p.n).length : Nat) : Int), 0) := numR_put hn0 n1 (by rw [← hen.out]; exact HH.out.1) (by have := HH.out.2; rw [hen.out] at this; exact this)
            have hnl : Hid ((((catP (l.take i)).length + (putL p.n).length : Nat) : Int) = ((catP (l.take (i + 1))).length : Nat)) := Lib.hid (by simp only [HT.out, catP_snoc, hen.out, List.length_append])
            have HQ := Lib.hid hq
            clear hq
            go_wp2_with fail
            refine (rNum_any R T (catP (l.take i)).length 0 p.n _ HRD1.out hTs.out n1).mono ?_
            rintro e w3 ⟨rfl, hm, hb⟩
            rw [HQ.out] at hm ⊢
            have hrk := HI.out.step HRN.out hm hnl.out hb
            have hb3 := hrk.2
            have HK := Lib.hid hrk
            clear hm hb hrk
            go_wp2
            go_roundg (gk - 1)
            case rel => exact ⟨i + 1, by go_num, by omega, by omega, HK.out⟩
            case measure => omega
        · have t0 : (p.k == 0) = false := by simp [k0]
          have K0 := Lib.hid k0
          clear k0
          by_cases k1 : p.k = 1
          · have t1 : (p.k == 1) = true := by simp [k1]
            have K1 := Lib.hid k1
            clear k1
            have hen : Hid (encP p = putL p.b) := Lib.hid (by unfold encP; rw [if_neg K0.out, if_pos K1.out])
            have hq : bigR T (catP (l.take i)).length 0 = (p.b, (((catP (l.take i)).length + (putL p.b).length : Nat) : Int), 0) := bigR_put b0 b1 (by rw [← hen.out]; exact HH.out.1) (by have := HH.out.2; rw [hen.out] at this; exact this)
            have hnl : Hid ((((catP (l.take i)).length + (putL p.b).length : Nat) : Int) = ((catP (l.take (i + 1))).length : Nat)) := Lib.hid (by simp only [HT.out, catP_snoc, hen.out, List.length_append])
            have HQ := Lib.hid hq
            clear hq
            go_wp2_with fail
            go_region_held3 (fun w' => w'.cell? ⟨b, off + i * 5 + 2, none⟩ = some (.int .u64 p.b)) (first | exact (HR.out _ (by assumption)).2.2.1) (first | (go_at_call 30; refine (rBig_any R T (catP (l.take i)).length 0 _ HRD.out hTs.out).mono ?_; rintro e w3 ⟨rfl, hm, hb⟩; rw [HQ.out] at hm ⊢; have hrk := HI0.out.step HRN.out hm hnl.out hb; have hb3 := hrk.2; have HK := Lib.hid hrk; clear hm hb hrk))
            go_wp2
            go_roundg (gk - 1)
            case rel => exact ⟨i + 1, by go_num, by omega, by omega, HK.out⟩
            case measure => omega
          · have t1 : (p.k == 1) = false := by simp [k1]
            have K1 := Lib.hid k1
            clear k1
            by_cases k2 : p.k = 2
            · have t2 : (p.k == 2) = true := by simp [k2]
              have K2 := Lib.hid k2
              clear k2
              have hen : Hid (encP p = putL (p.s.size : Int) ++ p.s.data.toList) := Lib.hid (by unfold encP; rw [if_neg K0.out, if_neg K1.out, if_pos K2.out])
              have hq : textR T (catP (l.take i)).length 0 (p.s.size : Int) = (p.s, (((catP (l.take i)).length + (putL (p.s.size : Int) ++ p.s.data.toList).length : Nat) : Int), 0) := textR_put (by omega) (by rw [← hen.out]; exact HH.out.1) (by have := HH.out.2; rw [hen.out] at this; exact this)
              have hnl : Hid ((((catP (l.take i)).length + (putL (p.s.size : Int) ++ p.s.data.toList).length : Nat) : Int) = ((catP (l.take (i + 1))).length : Nat)) := Lib.hid (by simp only [HT.out, catP_snoc, hen.out, List.length_append])
              have HQ := Lib.hid hq
              clear hq
              go_wp2_with fail
              go_region_held3 (fun w' => w'.cell? ⟨b, off + i * 5 + 3, none⟩ = some (.string p.s)) (first | exact (HR.out _ (by assumption)).2.2.2.1) (first | (go_at_call 32; refine (rText_any R T (catP (l.take i)).length 0 (p.s.size : Int) _ HRD.out hTs.out (by omega)).mono ?_; rintro e w3 ⟨rfl, hm, hb⟩; rw [HQ.out] at hm ⊢; have hrk := HI0.out.step HRN.out hm hnl.out hb; have hb3 := hrk.2; have HK := Lib.hid hrk; clear hm hb hrk))
              go_wp2
              go_roundg (gk - 1)
              case rel => exact ⟨i + 1, by go_num, by omega, by omega, HK.out⟩
              case measure => omega
            · have t2 : (p.k == 2) = false := by simp [k2]
              have K2 := Lib.hid k2
              clear k2
              have hen : Hid (encP p = [flagB p.f]) := Lib.hid (by unfold encP; rw [if_neg K0.out, if_neg K1.out, if_neg K2.out])
              have hq : flagR T (catP (l.take i)).length 0 = (p.f, (((catP (l.take i)).length + ([flagB p.f]).length : Nat) : Int), 0) := flagR_put (by rw [← hen.out]; exact HH.out.1) (by have := HH.out.2; rw [hen.out] at this; exact this)
              have hnl : Hid ((((catP (l.take i)).length + ([flagB p.f]).length : Nat) : Int) = ((catP (l.take (i + 1))).length : Nat)) := Lib.hid (by simp only [HT.out, catP_snoc, hen.out, List.length_append])
              have HQ := Lib.hid hq
              clear hq
              go_wp2_with fail
              go_region_held3 (fun w' => w'.cell? ⟨b, off + i * 5 + 4, none⟩ = some (.bool p.f)) (first | exact (HR.out _ (by assumption)).2.2.2.2) (first | (go_at_call 34; refine (rFlag_any R T (catP (l.take i)).length 0 _ HRD.out hTs.out (by have := HH.out.2; omega)).mono ?_; rintro e w3 ⟨rfl, hm, hb⟩; rw [HQ.out] at hm ⊢; have hrk := HI0.out.step HRN.out hm hnl.out hb; have hb3 := hrk.2; have HK := Lib.hid hrk; clear hm hb hrk))
              go_wp2
              go_roundg (gk - 1)
              case rel => exact ⟨i + 1, by go_num, by omega, by omega, HK.out⟩
              case measure => omega
      · obtain rfl : i = M := by omega
        have hTz : T.size = (catP (l.take i)).length + c.size := by rw [HT0.out, size_front]
        have HTz := Lib.hid hTz
        have hsub : ((T.size : Int) - (catP (l.take i)).length) = (c.size : Int) := by omega
        have HSub := Lib.hid hsub
        have HRD1 := Lib.hid HI.out.1
        have HBl := Lib.hid HI.out.2
        clear hrk hTz hsub hlt
        go_wp2_with fail
        refine (err_made R T (catP (l.take i)).length 0 _ HRD1.out).mono ?_
        rintro e w5 ⟨rfl, rfl⟩
        go_wp2_with fail
        refine (left_ok R T (catP (l.take i)).length _ HRD1.out hTs.out (by have := HTz.out; omega)).mono ?_
        rintro e w6 ⟨rfl, hb⟩
        rw [HSub.out]
        have HB6 := Lib.hid (HBl.out.trans (hb.mono HBl.out.size)); clear hb
        go_wp2_with fail
        refine (awake_any _).mono ?_
        rintro e w7 ⟨rfl, hb⟩
        have HB7 := Lib.hid (HB6.out.trans (hb.mono HB6.out.size)); clear hb
        go_wp2
        go_ret
        exact ⟨rfl, HB7.out⟩
theorem wireBack_law {m : Nat} (v : Value) (l : List PartT) (c : ByteArray) (w : World) (hs : SliceOf partE 5 w v l) (hp : ∀ p ∈ l, PartOk m p) (hcs : c.size ≤ 140737488351232) (hm : m ≤ 1048576) (_ : c.size ≤ 1048576) :
    Calls Try.prog 5 #[v, .string c] w fun e w' => e = .returned (.bool true) ∧ Below w.heap.size w w' :=
  wireBack_any v l c w hs (fun p h => (hp p h).mono hm) hcs
end Go.Proofs.Ytdeimkblfeenoaa
