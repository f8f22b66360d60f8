/- Package catenalaw02: WireReads. Conditions: a text of at most 2^63-1 bytes. -/
import Derived.Test.YtdeimkblfeenoaaWireT
import Derived.Test.YtdeimkblfeenoaaParts
namespace Go.Proofs.Ytdeimkblfeenoaa
open Go.RowKit Go.PlainAid

/-- Both readers stand alike. -/
def ST (N : Nat) (s : ByteArray) (a x : Int) (w w' : World) : Prop := RE w' N s a x ∧ XRE w' (N + 1) s a x ∧ Below w.heap.size w w'
theorem ST.start {N : Nat} {s : ByteArray} {a x : Int} {w w' : World} (h : ST N s a x w w') : w'.drew.cell? ⟨N + 1, 2, none⟩ = some (.int .i64 x) ∧ ST N s a x w w'.drew :=
  ⟨h.2.1.cell, h.1.below (Below.refl _ _).drew, h.2.1.below (Below.refl _ _).drew, h.2.2.drew⟩
theorem ST.step {N : Nat} {s : ByteArray} {a x : Int} {w w1 w2 : World} (h : w1.cell? ⟨N + 1, 2, none⟩ = some (.int .i64 x) ∧ ST N s a x w w1) (hb : Below w1.heap.size w1 w2) : w2.cell? ⟨N + 1, 2, none⟩ = some (.int .i64 x) ∧ ST N s a x w w2 :=
  ⟨cell_below hb h.1, h.2.1.below hb, h.2.2.1.below hb, h.2.2.2.trans (hb.mono h.2.2.2.size)⟩
theorem ST.one {N : Nat} {s : ByteArray} {a x a' x' : Int} {w w1 w2 : World} (h : ST N s a x w w1) (hN : N = w.heap.size) (h1 : RE w2 N s a' x') (hb : But (Own N) w1 w2) : XRE w2 (N + 1) s a x ∧ Below w.heap.size w w2 := by
  subst hN
  exact ⟨h.2.1.but hb (by unfold Own; omega), below_but h.2.2 hb h.2.2.size (fun k _ hk => by unfold Own at hk; omega)⟩
theorem ST.two {N : Nat} {s : ByteArray} {a' x' : Int} {w w2 w3 : World} (hN : N = w.heap.size) (h1 : RE w2 N s a' x') (hbl : Below w.heap.size w w2) (h2 : XRE w3 (N + 1) s a' x') (hb : But (Own (N + 1)) w2 w3) : ST N s a' x' w w3 := by
  subst hN
  exact ⟨h1.but hb (by unfold Own; omega), h2, below_but hbl hb hbl.size (fun k _ hk => by unfold Own at hk; omega)⟩
theorem ST.out {N : Nat} {s : ByteArray} {a x : Int} {w w' : World} (h : w'.cell? ⟨N + 1, 2, none⟩ = some (.int .i64 x) ∧ ST N s a x w w') : ST N s a x w w' := h.2
theorem ST.re {N : Nat} {s : ByteArray} {a x : Int} {w w' : World} (h : w'.cell? ⟨N + 1, 2, none⟩ = some (.int .i64 x) ∧ ST N s a x w w') : RE w' N s a x := h.2.1
theorem ST.xre {N : Nat} {s : ByteArray} {a x : Int} {w w' : World} (h : w'.cell? ⟨N + 1, 2, none⟩ = some (.int .i64 x) ∧ ST N s a x w w') : XRE w' (N + 1) s a x := h.2.2.1
set_option maxRecDepth 100000 in
set_option maxHeartbeats 1600000 in
theorem open_size (s : ByteArray) (w : World) :
    Calls Try.prog 27 #[.string s] w fun e w' => e = .returned (.pointer (some ⟨w.heap.size, 0, none⟩)) ∧ Rd w' w.heap.size s 0 0 ∧ w'.heap.size = w.heap.size + 1 ∧ Below w.heap.size w w' := by
  go_enter Try.func27, Try.ntmps27
  go_wp2
  go_ret
  exact ⟨rfl, ⟨by simp, by simp, by simp, by simp, by simp, by simp⟩, by simp, (Below.refl _ _).alloc (Nat.le_refl _) _⟩
set_option maxRecDepth 100000 in
set_option maxHeartbeats 3200000 in
theorem wireReads_any (s : ByteArray) (v : Value) (l : List PartT) (w : World) (hss : s.size ≤ 9223372036854775807) (hs : SliceOf partE 5 w v l) (hp : ∀ p ∈ l, -9223372036854775808 ≤ p.n ∧ p.n ≤ 9223372036854775807) :
    Calls Try.prog 4 #[.string s, v] w fun e w' => e = .returned (.bool true) ∧ Below w.heap.size w w' := by
  obtain ⟨ao, cap, rfl, hcap, hcm, _, hcell⟩ := hs
  have HC := Lib.hid hcell; have HP := Lib.hid hp; clear hcell hp
  obtain ⟨N, hN⟩ : ∃ N, N = w.heap.size := ⟨_, rfl⟩
  have HN := Lib.hid hN
  go_enter Try.func4, Try.ntmps4
  go_wp2_with fail
  refine (open_size s _).mono ?_
  rintro e w1 ⟨rfl, hm, hz, hb⟩
  have HM := Lib.hid hm; have HB := Lib.hid hb; have HZ := Lib.hid hz; clear hm hb hz
  go_wp2_with fail
  have HX : Hid (ST w.heap.size s 0 0 w (w1.alloc (.cells #[.string s, .int .i64 0, .int .i64 0] 50))) := Lib.hid (by
    have hb2 : Below w1.heap.size w1 (w1.alloc (.cells #[.string s, .int .i64 0, .int .i64 0] 50)) := (Below.refl _ _).alloc (Nat.le_refl _) _
    refine ⟨RE.good (HM.out.below hb2), XRE.good ?_, HB.out.trans (hb2.mono HB.out.size)⟩
    rw [← HZ.out]
    exact ⟨by simp, by simp, by simp, by simp, by simp⟩)
  rw [HZ.out]
  rw [← HN.out] at HX ⊢
  clear HM HB HZ hN
  go_loopg [7] 41 (fun g s7 wr => ∃ (i a : Nat) (x : Int), s7 = .int .i64 i ∧ i ≤ l.length ∧ i ≤ 40 ∧ 41 ≤ i + g ∧ ST N s a x w wr ∧ (x = 0 → a ≤ s.size))
  case atStart => exact ⟨0, 0, 0, rfl, by omega, by omega, by omega, HX.out, by omega⟩
  case round =>
    clear HX
    obtain ⟨i, a, x, rfl, hil, hi40, hg, hst, hax⟩ := hrel
    have HI := Lib.hid hst; have HA := Lib.hid hax
    clear hst hax
    by_cases hlt : i < l.length ∧ i < 40
    · obtain ⟨hlt, h40⟩ := hlt
      obtain ⟨b, off, rfl, hr⟩ := HC.out i hlt
      have hbel : Below w.heap.size w wr := HI.out.2.2
      obtain ⟨n0, n1⟩ := HP.out _ (List.getElem_mem hlt)
      obtain ⟨p, hpe⟩ : ∃ p, p = l[i] := ⟨_, rfl⟩
      rw [← hpe] at hr n0 n1
      have HR := Lib.hid (fun (w' : World) (hb : Below w.heap.size w w') => (⟨cell_below hb (hr 0 _ rfl), cell_below hb (hr 1 _ rfl)⟩ : w'.cell? ⟨b, off + i * 5 + 0, none⟩ = some (.int .i64 p.k) ∧ w'.cell? ⟨b, off + i * 5 + 1, none⟩ = some (.int .i64 p.n)))
      have hbd : Below w.heap.size w wr.drew := hbel.drew
      have HST0 : Hid (ST N s a x w wr.drew) := Lib.hid (HI.out.start).2
      obtain ⟨d0, d1⟩ := HR.out wr hbel
      rw [Nat.add_zero] at d0
      have HBel := Lib.hid hbel
      clear hr hpe hbel
      by_cases k0 : p.k = 0
      · have t0 : (p.k == 0) = true := by simp [k0]
        clear k0
        obtain ⟨nv, a', x', hq⟩ : ∃ nv a' x', (numR s a x p.n).1 = nv ∧ (numR s a x p.n).2.1 = a' ∧ (numR s a x p.n).2.2 = x' := ⟨_, _, _, rfl, rfl, rfl⟩
        obtain ⟨q1, q2, q3⟩ := hq
        have HQ1 := Lib.hid q1; have HQ2 := Lib.hid q2; have HQ3 := Lib.hid q3
        have HAT : Hid (x' = 0 → 0 ≤ a' ∧ a' ≤ s.size) := Lib.hid (fun hx => by rw [← q2]; exact numR_at (by rw [q3, hx]))
        clear q1 q2 q3
        go_wp2_with fail
        go_region_held3 (fun w' => w'.cell? ⟨b, off + i * 5 + 1, none⟩ = some (.int .i64 p.n)) (first | exact (HR.out _ (by assumption)).2) (first | (go_at_call 28; refine (rNum_re N s a x  p.n _ HST0.out.1 hss n1).mono ?_; rintro e w2 ⟨rfl, hm, hb⟩; rw [HQ1.out]; rw [HQ2.out, HQ3.out] at hm; have HM := Lib.hid hm; have hmid := HST0.out.one HN.out hm hb; have hb2 := hmid.2; have HX2 := Lib.hid hmid.1; clear hm hb hmid) | (go_at_call 29; refine (xrNum_re (N + 1) s a x  p.n _ HX2.out hss n1).mono ?_; rintro e w3 ⟨rfl, hm, hb⟩; rw [HQ1.out]; rw [HQ2.out, HQ3.out] at hm; have hst3 := ST.two HN.out HM.out hb2 hm hb; have hb3 := hst3.2.2; have HST3 := Lib.hid hst3; clear hm hb hst3))
        have HS0 := Lib.hid (HST3.out.start)
        have HA' : Hid (x' = 0 → a'.toNat ≤ s.size) := Lib.hid (fun hx => by have := HAT.out hx; omega)
        have HS1 : Hid (w3.drew.cell? ⟨N + 1, 2, none⟩ = some (.int .i64 x') ∧ ST N s a'.toNat x' w w3.drew) := Lib.hid (by
          refine ⟨HS0.out.1, ?_, ?_, HS0.out.2.2.2⟩
          · by_cases hx : x' = 0
            · have := HAT.out hx
              rw [show ((a'.toNat : Nat) : Int) = a' by omega]; exact HS0.out.2.1
            · exact RE.weak hx HS0.out.2.1
          · by_cases hx : x' = 0
            · have := HAT.out hx
              rw [show ((a'.toNat : Nat) : Int) = a' by omega]; exact HS0.out.2.2.1
            · exact XRE.weak hx HS0.out.2.2.1)
        obtain ⟨c, hc⟩ : ∃ c, c = a'.toNat := ⟨_, rfl⟩
        rw [← hc] at HS1 HA'
        obtain ⟨lv, hlv⟩ : ∃ lv, lv = leftV s c x' := ⟨_, rfl⟩
        obtain ⟨ev, hev⟩ : ∃ ev, ev = endV s c x' := ⟨_, rfl⟩
        have HL := Lib.hid hlv; have HE := Lib.hid hev
        clear hc hlv hev HS0 HAT
        go_wp2_with fail
        go_region_held3 (fun w' => w'.cell? ⟨N + 1, 2, none⟩ = some (.int .i64 x') ∧ ST N s c x' w w') (first | exact HS1.out | exact ST.step (by assumption) hb7 | exact ST.step (by assumption) hb8 | exact ST.step (by assumption) hb9 | exact ST.step (by assumption) hb10 | assumption) (first
          | (go_at_call 36; have ht := ST.re (by assumption : _ ∧ ST N s c x' w _); (with_reducible refine (err_re N s c x' _ ht).mono ?_); rintro e w6 ⟨rfl, rfl⟩; clear ht)
          | (go_at_call 37; have ht := ST.re (by assumption : _ ∧ ST N s c x' w _); (with_reducible refine (left_re N s c x' _ ht hss HA'.out).mono ?_); rintro e w7 ⟨rfl, hb7⟩; rw [← HL.out]; clear ht)
          | (go_at_call 38; have ht := ST.xre (by assumption : _ ∧ ST N s c x' w _); (with_reducible refine (xleft_re (N + 1) s c x' _ ht hss HA'.out).mono ?_); rintro e w8 ⟨rfl, hb8⟩; rw [← HL.out]; clear ht)
          | (go_at_call 39; have ht := ST.re (by assumption : _ ∧ ST N s c x' w _); (with_reducible refine (end_re N s c x' _ ht hss HA'.out).mono ?_); rintro e w9 ⟨rfl, hb9⟩; rw [← HE.out]; clear ht)
          | (go_at_call 40; have ht := ST.xre (by assumption : _ ∧ ST N s c x' w _); (with_reducible refine (xend_re (N + 1) s c x' _ ht hss HA'.out).mono ?_); rintro e w10 ⟨rfl, hb10⟩; rw [← HE.out]; clear ht))
        have HF := Lib.hid (ST.out (by assumption : _ ∧ ST N s c x' w _))
        go_wp2
        go_roundg (gk - 1)
        case rel => exact ⟨i + 1, c, x', by go_num, by omega, by omega, by omega, HF.out, HA'.out⟩
        case measure => omega
      · have t0 : (p.k == 0) = false := by simp [k0]
        clear k0
        by_cases k1 : p.k = 1
        · have t1 : (p.k == 1) = true := by simp [k1]
          clear k1
          obtain ⟨nv, a', x', hq⟩ : ∃ nv a' x', (bigR s a x).1 = nv ∧ (bigR s a x).2.1 = a' ∧ (bigR s a x).2.2 = x' := ⟨_, _, _, rfl, rfl, rfl⟩
          obtain ⟨q1, q2, q3⟩ := hq
          have HQ1 := Lib.hid q1; have HQ2 := Lib.hid q2; have HQ3 := Lib.hid q3
          have HAT : Hid (x' = 0 → 0 ≤ a' ∧ a' ≤ s.size) := Lib.hid (fun hx => by rw [← q2]; exact bigR_at (by rw [q3, hx]))
          clear q1 q2 q3
          go_wp2_with fail
          refine (rBig_re N s a x  _ HI.out.1 hss).mono ?_
          rintro e w2 ⟨rfl, hm, hb⟩
          rw [HQ1.out]
          rw [HQ2.out, HQ3.out] at hm
          have HM := Lib.hid hm
          have hmid := HI.out.one HN.out hm hb
          have hb2 := hmid.2
          have HX2 := Lib.hid hmid.1
          clear hm hb hmid
          go_wp2_with fail
          refine (xrBig_re (N + 1) s a x  _ HX2.out hss).mono ?_
          rintro e w3 ⟨rfl, hm, hb⟩
          rw [HQ1.out]
          rw [HQ2.out, HQ3.out] at hm
          have hst3 := ST.two HN.out HM.out hb2 hm hb
          have hb3 := hst3.2.2
          have HST3 := Lib.hid hst3
          clear hm hb hst3
          have HS0 := Lib.hid (HST3.out.start)
          have HA' : Hid (x' = 0 → a'.toNat ≤ s.size) := Lib.hid (fun hx => by have := HAT.out hx; omega)
          have HS1 : Hid (w3.drew.cell? ⟨N + 1, 2, none⟩ = some (.int .i64 x') ∧ ST N s a'.toNat x' w w3.drew) := Lib.hid (by
            refine ⟨HS0.out.1, ?_, ?_, HS0.out.2.2.2⟩
            · by_cases hx : x' = 0
              · have := HAT.out hx
                rw [show ((a'.toNat : Nat) : Int) = a' by omega]; exact HS0.out.2.1
              · exact RE.weak hx HS0.out.2.1
            · by_cases hx : x' = 0
              · have := HAT.out hx
                rw [show ((a'.toNat : Nat) : Int) = a' by omega]; exact HS0.out.2.2.1
              · exact XRE.weak hx HS0.out.2.2.1)
          obtain ⟨c, hc⟩ : ∃ c, c = a'.toNat := ⟨_, rfl⟩
          rw [← hc] at HS1 HA'
          obtain ⟨lv, hlv⟩ : ∃ lv, lv = leftV s c x' := ⟨_, rfl⟩
          obtain ⟨ev, hev⟩ : ∃ ev, ev = endV s c x' := ⟨_, rfl⟩
          have HL := Lib.hid hlv; have HE := Lib.hid hev
          clear hc hlv hev HS0 HAT
          go_wp2_with fail
          go_region_held3 (fun w' => w'.cell? ⟨N + 1, 2, none⟩ = some (.int .i64 x') ∧ ST N s c x' w w') (first | exact HS1.out | exact ST.step (by assumption) hb7 | exact ST.step (by assumption) hb8 | exact ST.step (by assumption) hb9 | exact ST.step (by assumption) hb10 | assumption) (first
            | (go_at_call 36; have ht := ST.re (by assumption : _ ∧ ST N s c x' w _); (with_reducible refine (err_re N s c x' _ ht).mono ?_); rintro e w6 ⟨rfl, rfl⟩; clear ht)
            | (go_at_call 37; have ht := ST.re (by assumption : _ ∧ ST N s c x' w _); (with_reducible refine (left_re N s c x' _ ht hss HA'.out).mono ?_); rintro e w7 ⟨rfl, hb7⟩; rw [← HL.out]; clear ht)
            | (go_at_call 38; have ht := ST.xre (by assumption : _ ∧ ST N s c x' w _); (with_reducible refine (xleft_re (N + 1) s c x' _ ht hss HA'.out).mono ?_); rintro e w8 ⟨rfl, hb8⟩; rw [← HL.out]; clear ht)
            | (go_at_call 39; have ht := ST.re (by assumption : _ ∧ ST N s c x' w _); (with_reducible refine (end_re N s c x' _ ht hss HA'.out).mono ?_); rintro e w9 ⟨rfl, hb9⟩; rw [← HE.out]; clear ht)
            | (go_at_call 40; have ht := ST.xre (by assumption : _ ∧ ST N s c x' w _); (with_reducible refine (xend_re (N + 1) s c x' _ ht hss HA'.out).mono ?_); rintro e w10 ⟨rfl, hb10⟩; rw [← HE.out]; clear ht))
          have HF := Lib.hid (ST.out (by assumption : _ ∧ ST N s c x' w _))
          go_wp2
          go_roundg (gk - 1)
          case rel => exact ⟨i + 1, c, x', by go_num, by omega, by omega, by omega, HF.out, HA'.out⟩
          case measure => omega
        · have t1 : (p.k == 1) = false := by simp [k1]
          clear k1
          by_cases k2 : p.k = 2
          · have t2 : (p.k == 2) = true := by simp [k2]
            clear k2
            obtain ⟨nv, a', x', hq⟩ : ∃ nv a' x', (textR s a x p.n).1 = nv ∧ (textR s a x p.n).2.1 = a' ∧ (textR s a x p.n).2.2 = x' := ⟨_, _, _, rfl, rfl, rfl⟩
            obtain ⟨q1, q2, q3⟩ := hq
            have HQ1 := Lib.hid q1; have HQ2 := Lib.hid q2; have HQ3 := Lib.hid q3
            have HAT : Hid (x' = 0 → 0 ≤ a' ∧ a' ≤ s.size) := Lib.hid (fun hx => by rw [← q2]; exact textR_at (by rw [q3, hx]))
            clear q1 q2 q3
            go_wp2_with fail
            go_region_held3 (fun w' => w'.cell? ⟨b, off + i * 5 + 1, none⟩ = some (.int .i64 p.n)) (first | exact (HR.out _ (by assumption)).2) (first | (go_at_call 32; refine (rText_re N s a x  p.n _ HST0.out.1 hss n1).mono ?_; rintro e w2 ⟨rfl, hm, hb⟩; rw [HQ1.out]; rw [HQ2.out, HQ3.out] at hm; have HM := Lib.hid hm; have hmid := HST0.out.one HN.out hm hb; have hb2 := hmid.2; have HX2 := Lib.hid hmid.1; clear hm hb hmid) | (go_at_call 33; refine (xrText_re (N + 1) s a x  p.n _ HX2.out hss n1).mono ?_; rintro e w3 ⟨rfl, hm, hb⟩; rw [HQ1.out]; rw [HQ2.out, HQ3.out] at hm; have hst3 := ST.two HN.out HM.out hb2 hm hb; have hb3 := hst3.2.2; have HST3 := Lib.hid hst3; clear hm hb hst3))
            have HS0 := Lib.hid (HST3.out.start)
            have HA' : Hid (x' = 0 → a'.toNat ≤ s.size) := Lib.hid (fun hx => by have := HAT.out hx; omega)
            have HS1 : Hid (w3.drew.cell? ⟨N + 1, 2, none⟩ = some (.int .i64 x') ∧ ST N s a'.toNat x' w w3.drew) := Lib.hid (by
              refine ⟨HS0.out.1, ?_, ?_, HS0.out.2.2.2⟩
              · by_cases hx : x' = 0
                · have := HAT.out hx
                  rw [show ((a'.toNat : Nat) : Int) = a' by omega]; exact HS0.out.2.1
                · exact RE.weak hx HS0.out.2.1
              · by_cases hx : x' = 0
                · have := HAT.out hx
                  rw [show ((a'.toNat : Nat) : Int) = a' by omega]; exact HS0.out.2.2.1
                · exact XRE.weak hx HS0.out.2.2.1)
            obtain ⟨c, hc⟩ : ∃ c, c = a'.toNat := ⟨_, rfl⟩
            rw [← hc] at HS1 HA'
            obtain ⟨lv, hlv⟩ : ∃ lv, lv = leftV s c x' := ⟨_, rfl⟩
            obtain ⟨ev, hev⟩ : ∃ ev, ev = endV s c x' := ⟨_, rfl⟩
            have HL := Lib.hid hlv; have HE := Lib.hid hev
            clear hc hlv hev HS0 HAT
            go_wp2_with fail
            go_region_held3 (fun w' => w'.cell? ⟨N + 1, 2, none⟩ = some (.int .i64 x') ∧ ST N s c x' w w') (first | exact HS1.out | exact ST.step (by assumption) hb7 | exact ST.step (by assumption) hb8 | exact ST.step (by assumption) hb9 | exact ST.step (by assumption) hb10 | assumption) (first
              | (go_at_call 36; have ht := ST.re (by assumption : _ ∧ ST N s c x' w _); (with_reducible refine (err_re N s c x' _ ht).mono ?_); rintro e w6 ⟨rfl, rfl⟩; clear ht)
              | (go_at_call 37; have ht := ST.re (by assumption : _ ∧ ST N s c x' w _); (with_reducible refine (left_re N s c x' _ ht hss HA'.out).mono ?_); rintro e w7 ⟨rfl, hb7⟩; rw [← HL.out]; clear ht)
              | (go_at_call 38; have ht := ST.xre (by assumption : _ ∧ ST N s c x' w _); (with_reducible refine (xleft_re (N + 1) s c x' _ ht hss HA'.out).mono ?_); rintro e w8 ⟨rfl, hb8⟩; rw [← HL.out]; clear ht)
              | (go_at_call 39; have ht := ST.re (by assumption : _ ∧ ST N s c x' w _); (with_reducible refine (end_re N s c x' _ ht hss HA'.out).mono ?_); rintro e w9 ⟨rfl, hb9⟩; rw [← HE.out]; clear ht)
              | (go_at_call 40; have ht := ST.xre (by assumption : _ ∧ ST N s c x' w _); (with_reducible refine (xend_re (N + 1) s c x' _ ht hss HA'.out).mono ?_); rintro e w10 ⟨rfl, hb10⟩; rw [← HE.out]; clear ht))
            have HF := Lib.hid (ST.out (by assumption : _ ∧ ST N s c x' w _))
            go_wp2
            go_roundg (gk - 1)
            case rel => exact ⟨i + 1, c, x', by go_num, by omega, by omega, by omega, HF.out, HA'.out⟩
            case measure => omega
          · have t2 : (p.k == 2) = false := by simp [k2]
            clear k2
            obtain ⟨nv, a', x', hq⟩ : ∃ nv a' x', (flagR s a x).1 = nv ∧ (flagR s a x).2.1 = a' ∧ (flagR s a x).2.2 = x' := ⟨_, _, _, rfl, rfl, rfl⟩
            obtain ⟨q1, q2, q3⟩ := hq
            have HQ1 := Lib.hid q1; have HQ2 := Lib.hid q2; have HQ3 := Lib.hid q3
            have HAT : Hid (x' = 0 → 0 ≤ a' ∧ a' ≤ s.size) := Lib.hid (fun hx => by rw [← q2]; exact flagR_at HA.out (by rw [q3, hx]))
            clear q1 q2 q3
            go_wp2_with fail
            refine (rFlag_re N s a x  _ HI.out.1 hss HA.out).mono ?_
            rintro e w2 ⟨rfl, hm, hb⟩
            rw [HQ1.out]
            rw [HQ2.out, HQ3.out] at hm
            have HM := Lib.hid hm
            have hmid := HI.out.one HN.out hm hb
            have hb2 := hmid.2
            have HX2 := Lib.hid hmid.1
            clear hm hb hmid
            go_wp2_with fail
            refine (xrFlag_re (N + 1) s a x  _ HX2.out hss HA.out).mono ?_
            rintro e w3 ⟨rfl, hm, hb⟩
            rw [HQ1.out]
            rw [HQ2.out, HQ3.out] at hm
            have hst3 := ST.two HN.out HM.out hb2 hm hb
            have hb3 := hst3.2.2
            have HST3 := Lib.hid hst3
            clear hm hb hst3
            have HS0 := Lib.hid (HST3.out.start)
            have HA' : Hid (x' = 0 → a'.toNat ≤ s.size) := Lib.hid (fun hx => by have := HAT.out hx; omega)
            have HS1 : Hid (w3.drew.cell? ⟨N + 1, 2, none⟩ = some (.int .i64 x') ∧ ST N s a'.toNat x' w w3.drew) := Lib.hid (by
              refine ⟨HS0.out.1, ?_, ?_, HS0.out.2.2.2⟩
              · by_cases hx : x' = 0
                · have := HAT.out hx
                  rw [show ((a'.toNat : Nat) : Int) = a' by omega]; exact HS0.out.2.1
                · exact RE.weak hx HS0.out.2.1
              · by_cases hx : x' = 0
                · have := HAT.out hx
                  rw [show ((a'.toNat : Nat) : Int) = a' by omega]; exact HS0.out.2.2.1
                · exact XRE.weak hx HS0.out.2.2.1)
            obtain ⟨c, hc⟩ : ∃ c, c = a'.toNat := ⟨_, rfl⟩
            rw [← hc] at HS1 HA'
            obtain ⟨lv, hlv⟩ : ∃ lv, lv = leftV s c x' := ⟨_, rfl⟩
            obtain ⟨ev, hev⟩ : ∃ ev, ev = endV s c x' := ⟨_, rfl⟩
            have HL := Lib.hid hlv; have HE := Lib.hid hev
            clear hc hlv hev HS0 HAT
            go_wp2_with fail
            go_region_held3 (fun w' => w'.cell? ⟨N + 1, 2, none⟩ = some (.int .i64 x') ∧ ST N s c x' w w') (first | exact HS1.out | exact ST.step (by assumption) hb7 | exact ST.step (by assumption) hb8 | exact ST.step (by assumption) hb9 | exact ST.step (by assumption) hb10 | assumption) (first
              | (go_at_call 36; have ht := ST.re (by assumption : _ ∧ ST N s c x' w _); (with_reducible refine (err_re N s c x' _ ht).mono ?_); rintro e w6 ⟨rfl, rfl⟩; clear ht)
              | (go_at_call 37; have ht := ST.re (by assumption : _ ∧ ST N s c x' w _); (with_reducible refine (left_re N s c x' _ ht hss HA'.out).mono ?_); rintro e w7 ⟨rfl, hb7⟩; rw [← HL.out]; clear ht)
              | (go_at_call 38; have ht := ST.xre (by assumption : _ ∧ ST N s c x' w _); (with_reducible refine (xleft_re (N + 1) s c x' _ ht hss HA'.out).mono ?_); rintro e w8 ⟨rfl, hb8⟩; rw [← HL.out]; clear ht)
              | (go_at_call 39; have ht := ST.re (by assumption : _ ∧ ST N s c x' w _); (with_reducible refine (end_re N s c x' _ ht hss HA'.out).mono ?_); rintro e w9 ⟨rfl, hb9⟩; rw [← HE.out]; clear ht)
              | (go_at_call 40; have ht := ST.xre (by assumption : _ ∧ ST N s c x' w _); (with_reducible refine (xend_re (N + 1) s c x' _ ht hss HA'.out).mono ?_); rintro e w10 ⟨rfl, hb10⟩; rw [← HE.out]; clear ht))
            have HF := Lib.hid (ST.out (by assumption : _ ∧ ST N s c x' w _))
            go_wp2
            go_roundg (gk - 1)
            case rel => exact ⟨i + 1, c, x', by go_num, by omega, by omega, by omega, HF.out, HA'.out⟩
            case measure => omega
    · have HB0 := Lib.hid HI.out.2.2
      rcases (show l.length ≤ i ∨ (i < l.length ∧ 40 ≤ i) by omega) with h1 | ⟨h1, h2⟩
      all_goals
        clear hlt
        go_wp2_with fail
        refine (awake_any _).mono ?_
        rintro e w7 ⟨rfl, hb⟩
        have HB7 := Lib.hid (HB0.out.trans (hb.mono HB0.out.size)); clear hb
        go_wp2
        go_ret
        exact ⟨rfl, HB7.out⟩
theorem wireReads_law {m : Nat} (s : ByteArray) (v : Value) (l : List PartT) (w : World) (hss : s.size ≤ 140737488351232) (hs : SliceOf partE 5 w v l) (hp : ∀ p ∈ l, PartOk m p) :
    Calls Try.prog 4 #[.string s, v] w fun e w' => e = .returned (.bool true) ∧ Below w.heap.size w w' :=
  wireReads_any s v l w (by omega) hs (fun p h => ⟨(hp p h).n0, (hp p h).n1⟩)
end Go.Proofs.Ytdeimkblfeenoaa
