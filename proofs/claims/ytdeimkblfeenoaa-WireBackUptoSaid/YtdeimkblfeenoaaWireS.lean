/- Package catenalaw02: WireWrites. Conditions: texts of at most 2^20 bytes. -/
import Derived.Test.YtdeimkblfeenoaaWireR
import Derived.Test.YtdeimkblfeenoaaParts
namespace Go.Proofs.Ytdeimkblfeenoaa
open Go.RowKit Go.PlainAid

/-- What a part makes of what was written. -/
def stP (p : PartT) (q : List UInt8 × Int) : List UInt8 × Int := if p.k = 0 then wNum p.n q else if p.k = 1 then wBig p.b q else if p.k = 2 then wText p.s q else wFlag p.f q
def foldP (l : List PartT) : List UInt8 × Int := l.foldl (fun q p => stP p q) ([], 0)
theorem foldP_snoc (l : List PartT) (p : PartT) : foldP (l ++ [p]) = stP p (foldP l) := by unfold foldP; rw [List.foldl_append]; rfl
theorem take_snoc {α : Type} {l : List α} {i : Nat} (h : i < l.length) : l.take (i + 1) = l.take i ++ [l[i]] := by
  rw [List.take_add_one, List.getElem?_eq_getElem h]; rfl
theorem stP_len (p : PartT) (q : List UInt8 × Int) : (stP p q).1.length ≤ q.1.length + 9 + p.s.size := by
  have h1 := putL_le p.n; have h2 := putL_le p.b; have h3 := putL_le (p.s.size : Int)
  unfold stP wNum wBig wText wFlag
  repeat' split
  all_goals (try simp only [List.length_append, List.length_cons, List.length_nil, Array.length_toList, ByteArray.size_data])
  all_goals omega
/-- A writer that was just made. -/
structure FreshW (w : World) (b : Nat) : Prop where
  made : w.cell? ⟨b, 0, none⟩ = some (.bool true)
  buf : w.cell? ⟨b, 1, none⟩ = some (.slice none 0 0)
  err : w.cell? ⟨b, 2, none⟩ = some (.int .i64 0)
  fr1 : w.frozen? ⟨b, 1, none⟩ = false
  fr2 : w.frozen? ⟨b, 2, none⟩ = false
theorem FreshW.wr {w w' : World} {b B : Nat} (h : FreshW w b) (hb : Below w.heap.size w w') (h1 : b < B) (h2 : B ≤ w'.heap.size) : Wr w' b B [] 0 := by
  have hl := World.block_lt_of_cell? w _ h.made
  exact ⟨cell_below hb h.made, cell_below hb h.err, (hb.frozen (p := ⟨b, 1, none⟩) hl).trans h.fr1, (hb.frozen (p := ⟨b, 2, none⟩) hl).trans h.fr2, h1, h2, _, cell_below hb h.buf, rfl, Or.inl ⟨rfl, rfl⟩⟩
set_option maxRecDepth 100000 in
set_option maxHeartbeats 1600000 in
theorem wnew_any (w : World) :
    Calls Try.prog 15 #[] w fun e w' => e = .returned (.pointer (some ⟨w.heap.size, 0, none⟩)) ∧ FreshW w' w.heap.size ∧ w'.heap.size = w.heap.size + 1 ∧ Below w.heap.size w w' := by
  go_enter Try.func15, Try.ntmps15
  go_wp2
  go_ret
  refine ⟨rfl, ⟨by simp, by simp, by simp, by simp, by simp⟩, by simp, (Below.refl _ _).alloc (Nat.le_refl _) _⟩
def CM (N : Nat) (w wr : World) (i : Nat) (q : List UInt8 × Int) : Prop := Wr wr N (N + 2) q.1 q.2 ∧ RWr wr (N + 1) q.1 q.2 ∧ Below N w wr
theorem CM.start {w w1 w2 : World} (hf : FreshW w1 w.heap.size) (hz : w1.heap.size = w.heap.size + 1) (hb : Below w.heap.size w w1) (hx : RWr w2 (w.heap.size + 1) [] 0) (hb2 : Below w1.heap.size w1 w2) (hz2 : w.heap.size + 2 ≤ w2.heap.size) : CM w.heap.size w w2 0 ([], 0) :=
  ⟨hf.wr hb2 (by omega) hz2, hx, hb.trans (hb2.mono hb.size)⟩
theorem CM.step {N : Nat} {w wr w1 w2 : World} {i : Nat} {q q' : List UInt8 × Int} (h : CM N w wr i q) (hN : N = w.heap.size) (h1 : Wr w1 N (N + 2) q'.1 q'.2) (hb1 : But (WrOnly N (N + 2)) wr w1) (h2 : RWr w2 (N + 1) q'.1 q'.2) (hb2 : But (Own (N + 1)) w1 w2) : CM N w w2 (i + 1) q' := by
  refine ⟨h1.but hb2 (by unfold Own; omega) (fun k hk => by unfold Own; omega), h2, ?_⟩
  exact below_but (below_but h.2.2 hb1 (by have := h.2.2.size; omega) (fun k _ hk => by rcases hk with hk | hk <;> omega)) hb2 (by have := h.2.2.size; have := hb1.size; omega) (fun k _ hk => by unfold Own at hk; omega)
theorem CM.mid {N : Nat} {w wr w1 : World} {i : Nat} {q : List UInt8 × Int} (h : CM N w wr i q) (hN : N = w.heap.size) (hb1 : But (WrOnly N (N + 2)) wr w1) : RWr w1 (N + 1) q.1 q.2 ∧ Below w.heap.size w w1 := by
  refine ⟨h.2.1.but hb1 (fun hk => by rcases hk with hk | hk <;> omega), ?_⟩
  subst hN
  exact below_but h.2.2 hb1 h.2.2.size (fun k _ hk => by rcases hk with hk | hk <;> omega)
set_option maxRecDepth 100000 in
set_option maxHeartbeats 3200000 in
theorem wireWrites_any (v : Value) (l : List PartT) (w : World) (hs : SliceOf partE 5 w v l) (hp : ∀ p ∈ l, PartOk 1048576 p) :
    Calls Try.prog 3 #[v] w fun e w' => e = .returned (.bool true) ∧ Below w.heap.size w w' := by
  obtain ⟨ao, cap, rfl, hcap, hcm, _, hcell⟩ := hs
  have HC := Lib.hid hcell; have HP := Lib.hid hp; clear hcell hp
  obtain ⟨N, hN⟩ : ∃ N, N = w.heap.size := ⟨_, rfl⟩
  have HN := Lib.hid hN
  go_enter Try.func3, Try.ntmps3
  go_wp2_with fail
  refine (wnew_any _).mono ?_
  rintro e w1 ⟨rfl, hm, hz, hb⟩
  have HM := Lib.hid hm; have HB := Lib.hid hb; have HZ := Lib.hid hz; clear hm hb hz
  go_wp2_with fail
  have HX : Hid (CM w.heap.size w (w1.alloc (.cells #[.string ⟨#[]⟩, .int .i64 0] 27)) 0 ([], 0)) := Lib.hid (CM.start HM.out HZ.out HB.out (by
    rw [← HZ.out]
    exact ⟨by simp, by simp, by simp, by simp⟩) ((Below.refl _ _).alloc (Nat.le_refl _) _) (by have := HZ.out; simp; omega))
  rw [HZ.out]
  rw [← HN.out] at HX ⊢
  clear HM HB HZ hN
  go_loopg [3, 5] 41 (fun g s3 s5 wr => ∃ (i : Nat) (q : List UInt8 × Int), s3 = .pointer (some ⟨N, 0, none⟩) ∧ s5 = .int .i64 i ∧ i ≤ l.length ∧ i ≤ 40 ∧ 41 ≤ i + g ∧ CM N w wr i q ∧ q = foldP (l.take i) ∧ q.1.length ≤ i * 2000000)
  case atStart => exact ⟨0, ([], 0), rfl, rfl, by omega, by omega, by omega, HX.out, rfl, by simp⟩
  case round =>
    clear HX
    obtain ⟨i, q, rfl, rfl, hil, hi40, hg, hcm1, hq, hql⟩ := hrel
    have HI := Lib.hid hcm1; have HQ := Lib.hid hq
    clear hcm1 hq
    by_cases hlt : i < l.length ∧ i < 40
    · obtain ⟨hlt, h40⟩ := hlt
      obtain ⟨b, off, rfl, hr⟩ := HC.out i hlt
      have hbel : Below w.heap.size w wr := by have := HI.out.2.2; rw [HN.out] at this; exact this
      have hok := HP.out _ (List.getElem_mem hlt)
      have hts := take_snoc hlt
      obtain ⟨p, hpe⟩ : ∃ p, p = l[i] := ⟨_, rfl⟩
      rw [← hpe] at hr hok hts
      have HR := Lib.hid (fun (w' : World) (hb : Below w.heap.size w w') => (⟨cell_below hb (hr 0 _ rfl), cell_below hb (hr 1 _ rfl), cell_below hb (hr 2 _ rfl), cell_below hb (hr 3 _ rfl), cell_below hb (hr 4 _ rfl)⟩ : w'.cell? ⟨b, off + i * 5 + 0, none⟩ = some (.int .i64 p.k) ∧ w'.cell? ⟨b, off + i * 5 + 1, none⟩ = some (.int .i64 p.n) ∧ w'.cell? ⟨b, off + i * 5 + 2, none⟩ = some (.int .u64 p.b) ∧ w'.cell? ⟨b, off + i * 5 + 3, none⟩ = some (.string p.s) ∧ w'.cell? ⟨b, off + i * 5 + 4, none⟩ = some (.bool p.f)))
      have hfq : Hid (foldP (l.take (i + 1)) = stP p q) := Lib.hid (by rw [hts, foldP_snoc, HQ.out])
      have hlen := stP_len p q
      have HL : Hid ((stP p q).1.length ≤ (i + 1) * 2000000) := Lib.hid (by have := hok.s1; omega)
      obtain ⟨n0, n1, b0, b1, s1⟩ := hok
      obtain ⟨d0, d1, d2, d3, d4⟩ := HR.out wr hbel
      rw [Nat.add_zero] at d0
      have HBel := Lib.hid hbel
      clear hr hts hpe hlen HQ hbel
      by_cases k0 : p.k = 0
      · have t0 : (p.k == 0) = true := by simp [k0]
        have K0 := Lib.hid k0
        clear k0
        have hst : Hid (stP p q = wNum p.n (q.1, q.2)) := Lib.hid (by unfold stP; rw [if_pos K0.out])
        go_wp2_with fail
        refine (wNum_any N (N + 2) q.1 q.2 p.n _ HI.out.1 (by omega) n1).mono ?_
        rintro e w2 ⟨rfl, hm, hb⟩
        have HM := Lib.hid hm; have HB2 := Lib.hid hb
        have hmid := HI.out.mid HN.out hb
        obtain ⟨g0, g1, g2, g3, g4⟩ := HR.out w2 hmid.2
        rw [Nat.add_zero] at g0
        have HX2 := Lib.hid hmid.1
        clear hm hb hmid
        go_wp2_with fail
        refine (xNum_any (N + 1) q.1 q.2 p.n _ HX2.out (by omega) n1).mono ?_
        rintro e w3 ⟨rfl, hm, hb⟩
        have HS := Lib.hid (HI.out.step HN.out (q' := wNum p.n (q.1, q.2)) HM.out HB2.out hm hb)
        clear hm hb
        go_wp2
        go_roundg (gk - 1)
        case rel => exact ⟨i + 1, wNum p.n (q.1, q.2), rfl, by go_num, by omega, by omega, by omega, HS.out, by rw [hfq.out, hst.out], by rw [← hst.out]; exact HL.out⟩
        case measure => omega
      · have t0 : (p.k == 0) = false := by simp [k0]
        have K0 := Lib.hid k0
        clear k0
        by_cases k1 : p.k = 1
        · have t1 : (p.k == 1) = true := by simp [k1]
          have K1 := Lib.hid k1
          clear k1
          have hst : Hid (stP p q = wBig p.b (q.1, q.2)) := Lib.hid (by unfold stP; rw [if_neg K0.out, if_pos K1.out])
          go_wp2_with fail
          refine (wBig_any N (N + 2) q.1 q.2 p.b _ HI.out.1 (by omega) b0 b1).mono ?_
          rintro e w2 ⟨rfl, hm, hb⟩
          have HM := Lib.hid hm; have HB2 := Lib.hid hb
          have hmid := HI.out.mid HN.out hb
          obtain ⟨g0, g1, g2, g3, g4⟩ := HR.out w2 hmid.2
          rw [Nat.add_zero] at g0
          have HX2 := Lib.hid hmid.1
          clear hm hb hmid
          go_wp2_with fail
          refine (xBig_any (N + 1) q.1 q.2 p.b _ HX2.out (by omega) b0 b1).mono ?_
          rintro e w3 ⟨rfl, hm, hb⟩
          have HS := Lib.hid (HI.out.step HN.out (q' := wBig p.b (q.1, q.2)) HM.out HB2.out hm hb)
          clear hm hb
          go_wp2
          go_roundg (gk - 1)
          case rel => exact ⟨i + 1, wBig p.b (q.1, q.2), rfl, by go_num, by omega, by omega, by omega, HS.out, by rw [hfq.out, hst.out], by rw [← hst.out]; exact HL.out⟩
          case measure => omega
        · have t1 : (p.k == 1) = false := by simp [k1]
          have K1 := Lib.hid k1
          clear k1
          by_cases k2 : p.k = 2
          · have t2 : (p.k == 2) = true := by simp [k2]
            have K2 := Lib.hid k2
            clear k2
            have hst : Hid (stP p q = wText p.s (q.1, q.2)) := Lib.hid (by unfold stP; rw [if_neg K0.out, if_neg K1.out, if_pos K2.out])
            go_wp2_with fail
            refine (wText_any N (N + 2) q.1 q.2 p.s _ HI.out.1 (by omega)).mono ?_
            rintro e w2 ⟨rfl, hm, hb⟩
            have HM := Lib.hid hm; have HB2 := Lib.hid hb
            have hmid := HI.out.mid HN.out hb
            obtain ⟨g0, g1, g2, g3, g4⟩ := HR.out w2 hmid.2
            rw [Nat.add_zero] at g0
            have HX2 := Lib.hid hmid.1
            clear hm hb hmid
            go_wp2_with fail
            refine (xText_any (N + 1) q.1 q.2 p.s _ HX2.out (by omega)).mono ?_
            rintro e w3 ⟨rfl, hm, hb⟩
            have HS := Lib.hid (HI.out.step HN.out (q' := wText p.s (q.1, q.2)) HM.out HB2.out hm hb)
            clear hm hb
            go_wp2
            go_roundg (gk - 1)
            case rel => exact ⟨i + 1, wText p.s (q.1, q.2), rfl, by go_num, by omega, by omega, by omega, HS.out, by rw [hfq.out, hst.out], by rw [← hst.out]; exact HL.out⟩
            case measure => omega
          · have t2 : (p.k == 2) = false := by simp [k2]
            have K2 := Lib.hid k2
            clear k2
            have hst : Hid (stP p q = wFlag p.f (q.1, q.2)) := Lib.hid (by unfold stP; rw [if_neg K0.out, if_neg K1.out, if_neg K2.out])
            go_wp2_with fail
            refine (wFlag_any N (N + 2) q.1 q.2 p.f _ HI.out.1 (by omega)).mono ?_
            rintro e w2 ⟨rfl, hm, hb⟩
            have HM := Lib.hid hm; have HB2 := Lib.hid hb
            have hmid := HI.out.mid HN.out hb
            obtain ⟨g0, g1, g2, g3, g4⟩ := HR.out w2 hmid.2
            rw [Nat.add_zero] at g0
            have HX2 := Lib.hid hmid.1
            clear hm hb hmid
            go_wp2_with fail
            refine (xFlag_any (N + 1) q.1 q.2 p.f _ HX2.out (by omega)).mono ?_
            rintro e w3 ⟨rfl, hm, hb⟩
            have HS := Lib.hid (HI.out.step HN.out (q' := wFlag p.f (q.1, q.2)) HM.out HB2.out hm hb)
            clear hm hb
            go_wp2
            go_roundg (gk - 1)
            case rel => exact ⟨i + 1, wFlag p.f (q.1, q.2), rfl, by go_num, by omega, by omega, by omega, HS.out, by rw [hfq.out, hst.out], by rw [← hst.out]; exact HL.out⟩
            case measure => omega
    · have hbel : Below w.heap.size w wr := by have := HI.out.2.2; rw [HN.out] at this; exact this
      have HB0 := Lib.hid hbel
      have hcond : (l.length : Int) ≤ i ∨ (40 : Int) ≤ i := by omega
      clear hbel
      by_cases hx : q.2 = 0
      · have hwr : Wr wr N (N + 2) q.1 0 := by rw [← hx]; exact HI.out.1
        have hxr : RWr wr (N + 1) q.1 0 := by rw [← hx]; exact HI.out.2.1
        have HW := Lib.hid hwr; have HXR := Lib.hid hxr
        clear hwr hxr hx HI
        rcases (show l.length ≤ i ∨ (i < l.length ∧ 40 ≤ i) by omega) with h1 | ⟨h1, h2⟩
        all_goals
          clear hcond hlt
          go_wp2_with fail
          refine (wDone_ok N (N + 2) q.1 _ HW.out).mono ?_
          rintro e w5 ⟨rfl, rfl⟩
          go_wp2_with fail
          refine (xDone_any (N + 1) q.1 0 _ HXR.out).mono ?_
          rintro e w6 ⟨rfl, hb⟩
          rw [if_pos rfl]
          have HB6 := Lib.hid (HB0.out.trans (hb.mono HB0.out.size)); clear hb
          go_wp2_with fail
          refine (awake_any _).mono ?_
          rintro e w7 ⟨rfl, hb⟩
          have HB7 := Lib.hid (HB6.out.trans (hb.mono HB6.out.size)); clear hb
          go_wp2
          go_ret
          exact ⟨rfl, HB7.out⟩
      · have HQ2 := Lib.hid hx
        clear hx
        rcases (show l.length ≤ i ∨ (i < l.length ∧ 40 ≤ i) by omega) with h1 | ⟨h1, h2⟩
        all_goals
          clear hcond hlt
          go_wp2_with fail
          refine (wDone_err N (N + 2) q.1 q.2 _ HI.out.1 HQ2.out).mono ?_
          rintro e w5 ⟨rfl, hb⟩
          have HB5 := Lib.hid (HB0.out.trans (hb.mono HB0.out.size))
          have HX5 := Lib.hid (HI.out.2.1.below hb); clear hb
          go_wp2_with fail
          refine (xDone_any (N + 1) q.1 q.2 _ HX5.out).mono ?_
          rintro e w6 ⟨rfl, hb⟩
          rw [if_neg HQ2.out]
          have HB6 := Lib.hid (HB5.out.trans (hb.mono HB5.out.size)); clear hb
          go_wp2_with fail
          refine (awake_any _).mono ?_
          rintro e w7 ⟨rfl, hb⟩
          have HB7 := Lib.hid (HB6.out.trans (hb.mono HB6.out.size)); clear hb
          go_wp2
          go_ret
          exact ⟨rfl, HB7.out⟩
theorem wireWrites_law {m : Nat} (v : Value) (l : List PartT) (w : World) (hs : SliceOf partE 5 w v l) (hp : ∀ p ∈ l, PartOk m p) (hm : m ≤ 1048576) :
    Calls Try.prog 3 #[v] w fun e w' => e = .returned (.bool true) ∧ Below w.heap.size w w' :=
  wireWrites_any v l w hs (fun p h => (hp p h).mono hm)
end Go.Proofs.Ytdeimkblfeenoaa
