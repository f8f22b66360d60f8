/- catenalaw04: FrameTurned. Conditions: the table reads as it is laid. -/
import Derived.Test.YtkicaomcbmmjpaaDoorFrameE
import Derived.Lib.ConvBytes
namespace Go.Proofs.YtkicaomcbmmjpaaDoor
open Go.RowKit Go.PlainAid Go.Deep

theorem wrap_u8' (n : Int) : IntKind.u8.wrap n = n % 256 := by simp [IntKind.wrap, IntKind.bits, IntKind.signed]
theorem bits_xor_u8 (a b : Nat) (ha : a < 256) (hb : b < 256) : bits .xor .u8 (a : Int) (b : Int) = ((a ^^^ b : Nat) : Int) := by
  have hx : a ^^^ b < 2 ^ 8 := Nat.xor_lt_two_pow (by omega) (by omega)
  have h1 : (BitVec.ofInt 8 (a : Int)).toNat = a := by
    rw [BitVec.ofInt_natCast, BitVec.toNat_ofNat]; exact Nat.mod_eq_of_lt (by omega)
  have h2 : (BitVec.ofInt 8 (b : Int)).toNat = b := by
    rw [BitVec.ofInt_natCast, BitVec.toNat_ofNat]; exact Nat.mod_eq_of_lt (by omega)
  show IntKind.u8.wrap ((BitVec.ofInt 8 (a : Int) ^^^ BitVec.ofInt 8 (b : Int)).toNat : Int) = _
  rw [BitVec.toNat_xor, h1, h2, wrap_u8']
  omega
theorem wf_u32 {a : Int} (h : (Lit.int .u32 a).wf = true) : ∃ c : Nat, a = c ∧ c < 4294967296 := by
  have : 0 ≤ a ∧ a ≤ 4294967295 := by simpa [Lit.wf, IntKind.min, IntKind.max, IntKind.signed, IntKind.bits] using h
  exact ⟨a.toNat, by omega, by omega⟩
theorem bytes_conv (w : World) (e : TypeId) (s : ByteArray) : Bytes (Lib.bytesWorld w e s) w.heap.size s.size (fun j => s.data.toList.getD j 0) := by
  intro j hj
  refine ⟨Lib.bytesWorld_cell w e s j hj, ?_⟩
  unfold World.frozen?
  rw [Lib.bytesWorld_at_new]
  have : s.size ≤ (Lib.bytesCells w e s).size := by
    have h := Lib.bytesWorld_cell w e s j hj
    rcases Nat.lt_or_ge ((Lib.bytesCells w e s).size) s.size with h1 | h1
    · have h2 := Lib.bytesWorld_cell w e s (Lib.bytesCells w e s).size h1
      unfold World.cell? at h2
      rw [Lib.bytesWorld_at_new] at h2
      simp at h2
    · exact h1
  simp; omega
theorem bytes_conv_below (w : World) (e : TypeId) (s : ByteArray) : Below w.heap.size w (Lib.bytesWorld w e s) :=
  ⟨rfl, rfl, rfl, by rw [Lib.bytesWorld_size]; omega, fun k hk => Lib.bytesWorld_at_old w e s k hk⟩

theorem shl_xor (y t z : UInt8) (r : Nat) (hr : r < 8) (ht : t.toNat = 2 ^ r) (hz : z = y ^^^ t) : bits .xor .u8 ((y.toNat : Nat) : Int) (2 ^ r % 256) = ((z.toNat : Nat) : Int) := by
  have h2 : (2 : Int) ^ r % 256 = ((t.toNat : Nat) : Int) := by
    have h8 : 2 ^ r < 256 := Nat.pow_lt_pow_right (a := 2) (m := r) (n := 8) (by omega) hr
    rw [ht, show (2 : Int) ^ r = ((2 ^ r : Nat) : Int) by rw [Int.natCast_pow]; rfl]
    omega
  rw [h2, hz, UInt8.toNat_xor]
  exact bits_xor_u8 _ _ (u8_lt _) (u8_lt _)
theorem bit_and (p i : Nat) (hp : p < 4294967296) : bits .and .u32 ((p : Int) / 2 ^ i) 1 = if p.testBit i = true then 1 else 0 := by
  have h : (p : Int) / 2 ^ i = ((p / 2 ^ i : Nat) : Int) := by
    rw [Int.natCast_ediv, Int.natCast_pow]; rfl
  rw [h, bits_and_1 _ (Nat.lt_of_le_of_lt (Nat.div_le_self _ _) hp), Nat.testBit_eq_decide_div_mod_eq]
  have : p / 2 ^ i % 2 = 0 ∨ p / 2 ^ i % 2 = 1 := by omega
  rcases this with h | h <;> simp [h]

theorem size_pos' (s : ByteArray) (h : ¬ s.toList.isEmpty = true) : 0 < s.size := by
  rcases Nat.eq_zero_or_pos s.size with h0 | h0
  · exfalso
    apply h
    have : s = ⟨#[]⟩ := by
      apply ByteArray.ext
      exact Array.eq_empty_of_size_eq_zero h0
    rw [this]; exact empty_beq
  · exact h0
theorem num_app : ∀ (x y : List UInt8), num (x ++ y) = num x ^^^ 2 ^ (8 * x.length) * num y
  | [], y => by simp [num]
  | b :: x, y => by
    rw [List.cons_append, num, num, num_app x y, List.length_cons, show (256 : Nat) = 2 ^ 8 by rfl, mul_xor, ← Nat.mul_assoc, ← Nat.pow_add, show 8 + 8 * x.length = 8 * (x.length + 1) by omega, Nat.xor_assoc]

set_option maxRecDepth 100000 in
set_option maxHeartbeats 1600000 in
theorem turned_law (s : ByteArray) (ai pi : Int) (behind : ByteArray) (w : World) (ht : Tab w) (hs : s.size ≤ 140737488351232) (ha : (Lit.int .u16 ai).wf = true) (hp : (Lit.int .u32 pi).wf = true) (hbh : behind.size ≤ 140737488351232) :
    Calls Tryd.prog 6 #[.string s, .int .u16 ai, .int .u32 pi, .string behind] w fun e w' => e = .returned (.bool true) ∧ Below w.heap.size w w' := by
  obtain ⟨at', rfl, hal⟩ := wf_u16 ha
  obtain ⟨p, rfl, hpl⟩ := wf_u32 hp
  have hpos := tab_pos ht
  have HT := Lib.hid ht
  clear ht ha hp
  by_cases hemp : s.toList.isEmpty = true
  · go_enter Tryd.func6, Tryd.ntmps6
    go_wp2_with fail
    refine (awake04 _ HT.out).mono ?_
    rintro e w5 ⟨rfl, hb5⟩
    have HB5 := Lib.hid hb5; clear hb5
    go_wp2
    go_ret
    exact ⟨rfl, HB5.out⟩
  have hs0 := size_pos' s hemp
  have hne2 : s.toList.isEmpty = false := by simpa using hemp
  clear hemp
  by_cases h500 : 500 < s.size
  · go_enter Tryd.func6, Tryd.ntmps6
    go_wp2_with fail
    refine (awake04 _ HT.out).mono ?_
    rintro e w5 ⟨rfl, hb5⟩
    have HB5 := Lib.hid hb5; clear hb5
    go_wp2
    go_ret
    exact ⟨rfl, HB5.out⟩
  obtain ⟨F, hF⟩ : ∃ F, F = frameB s := ⟨_, rfl⟩
  have hFs := frameB_size s
  have hll := putL_len (s.size : Int)
  have hlb := lenOf_bd (s.size : Int)
  rw [← hF] at hFs
  have HP : Hid (putR s = (F, 0)) := Lib.hid (by rw [hF]; exact putR_small s (by omega))
  obtain ⟨n, hn⟩ : ∃ n, n = s.size := ⟨_, rfl⟩
  obtain ⟨hd, hhd⟩ : ∃ hd : List UInt8, hd = (numB s ++ fourB (addOf 0 (numB s ++ s).data.toList)).data.toList := ⟨_, rfl⟩
  have hdl : hd.length = (putL (s.size : Int)).length + 4 := by rw [hhd, list_len, ByteArray.size_append, numB, mk_size]; rfl
  have hFl : F.data.toList = hd ++ s.data.toList := by rw [hF, hhd, ← app_list]; rfl
  obtain ⟨h, hh⟩ : ∃ h, h = hd.length := ⟨_, rfl⟩
  have hFn : F.size = h + n := by omega
  have hh13 : h ≤ 13 := by omega
  obtain ⟨f, hf⟩ : ∃ f, f = at' % (8 * s.size) := ⟨_, rfl⟩
  have hf8 : f < 8 * n := by rw [hf, hn]; exact Nat.mod_lt _ (by omega)
  have hmod : (at' : Int) % (8 * (n : Int)) = (f : Int) := by rw [hf, hn, Int.natCast_emod, Int.natCast_mul]; rfl
  have hn500 : n ≤ 500 := by omega
  have hn0 : 0 < n := by omega
  have hwi : IntKind.i64.wrap (at' : Int) = (at' : Int) := IntWalk.i64_in _ ⟨by omega, by omega⟩
  have HN := Lib.hid hn; have HFl := Lib.hid hFl; have HH := Lib.hid hh; have HHd := Lib.hid hhd; have HMod := Lib.hid hmod; have HFn := Lib.hid hFn
  clear hF hFs hll hlb hdl hFl hh hf hn hhd hmod hFn
  have hs2 : s.size ≤ 65536 := by omega
  go_enter Tryd.func6, Tryd.ntmps6
  go_wp2_with fail
  refine (put_frame s _ HT.out hs).mono ?_
  rintro e w1 ⟨rfl, hb1⟩
  have HB1 := Lib.hid hb1; have HT1 := Lib.hid (HT.out.below hb1); clear hb1
  rw [HP.out]
  unfold putV
  have hcv := Lib.run_convert_string_bytes (P := Tryd.prog) w1 9 40 5 F Tryd.underlying9 Tryd.underlying40 Tryd.underlying5
  have HM0 := Lib.hid (bytes_conv w1 5 F)
  have HB0 := Lib.hid (HB1.out.trans ((bytes_conv_below w1 5 F).mono HB1.out.size))
  obtain ⟨B, hBe⟩ : ∃ B, B = w1.heap.size := ⟨_, rfl⟩
  have hBw : w.heap.size ≤ B := by rw [hBe]; exact HB1.out.size
  have hfs : (F.size : Int) = (h : Int) + (n : Int) := by rw [HFn.out]; omega
  have hsn : (s.size : Int) = (n : Int) := by rw [HN.out]
  go_wp2
  simp only [HMod.out, HFn.out, ← hBe]
  obtain ⟨gc, hgc⟩ : ∃ gc, gc = grownCap w1 (h + n) 0 5 := ⟨_, rfl⟩
  rw [← hgc]
  rw [← hBe, HFn.out] at HM0
  clear hcv hgc hwi hfs hne2 hBe HMod h500
  go_loopg [14] 33 (fun g s14 wr => ∃ (i : Nat) (k : List UInt8), s14 = .int .i64 i ∧ i ≤ 32 ∧ f + i ≤ 8 * n ∧ 33 ≤ i + g ∧ k.length = n ∧ Bytes wr B (h + n) (fun j => (hd ++ k).getD j 0) ∧ Hid (num k = num s.data.toList ^^^ 2 ^ f * turned p i) ∧ Below w.heap.size w wr)
  case atStart => exact ⟨0, s.data.toList, rfl, by omega, by omega, by omega, by rw [list_len]; exact HN.out.symm, by rw [← HFl.out]; exact HM0.out, Lib.hid (by simp [turned]), HB0.out⟩
  case round =>
    obtain ⟨i, k, rfl, hi32, hif, hg, hk, hm, hnum, hb⟩ := hrel
    have HM := Lib.hid hm; have HBr := Lib.hid hb; have HK := Lib.hid hk
    clear hm hb hk
    by_cases hcond : i < 32 ∧ f + i < 8 * n
    · obtain ⟨hi, hif2⟩ := hcond
      obtain ⟨q, hq⟩ : ∃ q, q = (f + i) / 8 := ⟨_, rfl⟩
      obtain ⟨r, hr⟩ : ∃ r, r = (f + i) % 8 := ⟨_, rfl⟩
      have hr8 : r < 8 := by omega
      have hdd : f + i = 8 * q + r := by omega
      have hqn : q < n := by omega
      have hq' : ((f : Int) + (i : Int)) / 8 = (q : Int) := by omega
      have hr' : ((f : Int) + (i : Int)) % 8 = (r : Int) := by omega
      have hqk : q < k.length := by rw [HK.out]; exact hqn
      have hqh : h + q < h + n := by omega
      obtain ⟨y, hy⟩ : ∃ y, y = k[q] := ⟨_, rfl⟩
      have hky : (hd ++ k).getD (h + q) 0 = y := by
        rw [hy, List.getD, List.getElem?_append_right (by rw [HH.out]; omega), HH.out, Nat.add_sub_cancel_left, List.getElem?_eq_getElem hqk]; rfl
      have k0 : wr.cell? ⟨B, h + q, none⟩ = some (.int .u8 (y.toNat : Nat)) := by have := (HM.out (h + q) hqh).1; simp only [hky] at this; exact this
      have z0 := (HM.out (h + q) hqh).2
      obtain ⟨t, htb⟩ : ∃ t : UInt8, t.toNat = 2 ^ r := ⟨UInt8.ofNat (2 ^ r), by
        rw [UInt8.toNat_ofNat']
        exact Nat.mod_eq_of_lt (Nat.pow_lt_pow_right (by omega) hr8)⟩
      obtain ⟨z, hz⟩ : ∃ z, z = y ^^^ t := ⟨_, rfl⟩
      have hzn : z.toNat = k[q].toNat ^^^ 2 ^ r := by rw [hz, UInt8.toNat_xor, htb, hy]
      have hxz := shl_xor y t z r hr8 htb hz
      have HZ := Lib.hid hzn
      have HM2 : Hid (Bytes (wr.setCell ⟨B, h + q, none⟩ (.int .u8 (z.toNat : Nat))) B (h + n) (fun j => (hd ++ k.set q z).getD j 0)) := Lib.hid ((HM.out.set hqh z).congr (fun j _ => by
        have hset : hd ++ k.set q z = (hd ++ k).set (h + q) z := by
          rw [HH.out, List.set_append_right _ _ (by omega)]
          congr 2; omega
        rw [hset]
        have hlen : h + q < (hd ++ k).length := by rw [List.length_append, ← HH.out]; omega
        by_cases e : j = h + q
        · subst e
          rw [if_pos rfl, List.getD, List.getElem?_set_self hlen]; rfl
        · rw [if_neg e, List.getD, List.getD, List.getElem?_set_ne (fun h => e h.symm)]))
      have HB2 : Hid (Below w.heap.size w (wr.setCell ⟨B, h + q, none⟩ (.int .u8 (z.toNat : Nat)))) := Lib.hid (HBr.out.setCell hBw _)
      have HKS : Hid ((k.set q z).length = n) := Lib.hid (by rw [List.length_set]; exact HK.out)
      have HD := Lib.hid hdd
      clear hq hr hdd hy hky htb hz hzn
      by_cases hi0 : i = 0
      · subst hi0
        have hq0 : (f : Int) / 8 = (q : Int) := by omega
        have hr0 : (f : Int) % 8 = (r : Int) := by omega
        have HNum : Hid (num (k.set q z) = num s.data.toList ^^^ 2 ^ f * turned p (0 + 1)) := Lib.hid (num_turn hnum.out z q hqk HD.out hr8 HZ.out (Or.inl rfl))
        clear hq' hr' hnum
        go_wp2
        go_roundg (gk - 1)
        case rel => exact ⟨0 + 1, k.set q z, by go_num, by omega, by omega, by omega, HKS.out, HM2.out, HNum.out, HB2.out⟩
        case measure => omega
      · have hif0 : ((i : Int) == 0) = false := by simp; omega
        by_cases hbit : p.testBit i = true
        · have hand : bits .and .u32 ((p : Int) / 2 ^ i) 1 = 1 := by rw [bit_and p i hpl, if_pos hbit]
          have HNum : Hid (num (k.set q z) = num s.data.toList ^^^ 2 ^ f * turned p (i + 1)) := Lib.hid (num_turn hnum.out z q hqk HD.out hr8 HZ.out (Or.inr hbit))
          clear hbit hnum hi0
          go_wp2
          go_roundg (gk - 1)
          case rel => exact ⟨i + 1, k.set q z, by go_num, by omega, by omega, by omega, HKS.out, HM2.out, HNum.out, HB2.out⟩
          case measure => omega
        · have hand : bits .and .u32 ((p : Int) / 2 ^ i) 1 = 0 := by rw [bit_and p i hpl, if_neg hbit]
          have HNum : Hid (num k = num s.data.toList ^^^ 2 ^ f * turned p (i + 1)) := Lib.hid (by
            rw [turned_skip (fun h => by rcases h with h | h; exact hi0 h; exact hbit h)]; exact hnum.out)
          clear hbit hnum hi0
          go_wp2
          go_roundg (gk - 1)
          case rel => exact ⟨i + 1, k, by go_num, by omega, by omega, by omega, HK.out, HM.out, HNum.out, HBr.out⟩
          case measure => omega
    · obtain ⟨i', hi'⟩ : ∃ i', i = i' + 1 := ⟨i - 1, by omega⟩
      obtain ⟨G, hG⟩ : ∃ G : ByteArray, G = ⟨(hd ++ k).toArray⟩ := ⟨_, rfl⟩
      have hcv := (HM.out).text (cap := gc) Tryd.underlying40 Tryd.underlying5 Tryd.underlying9
      have hkl : (hd ++ k).length = h + n := by rw [List.length_append, HK.out, HH.out]
      have hrk : (List.range (h + n)).map (fun j => (hd ++ k).getD j 0) = hd ++ k := by
        apply List.ext_getElem
        · simp [hkl]
        · intro j h1 h2
          simp only [List.getElem_map, List.getElem_range]
          rw [List.getD, List.getElem?_eq_getElem h2]; rfl
      rw [hrk, ← hG] at hcv
      have hGs : G.size = h + n := by rw [hG, mk_size]; exact hkl
      have hNx : nextR (G ++ behind) 0 = (⟨#[]⟩, 0, 9) := by
        have h5 := next_parts ⟨#[]⟩ ⟨k.toArray⟩ (fourB (addOf 0 (numB s ++ s).data.toList)) behind rfl s.size (by have h1 := mk_size k; have h2 := HK.out; have h3 := HN.out; omega) hs2
        have e1 : (⟨#[]⟩ : ByteArray) ++ ⟨(putL (s.size : Int)).toArray⟩ ++ fourB (addOf 0 (numB s ++ s).data.toList) ++ ⟨k.toArray⟩ ++ behind = G ++ behind := by
          apply bytes_eq
          rw [app_list, app_list, app_list, app_list, app_list, hG, HHd.out, app_list]
          simp [numB]
        rw [e1, show (⟨#[]⟩ : ByteArray).size = 0 from rfl] at h5
        rw [show ((0 : Nat) : Int) = 0 from rfl] at h5
        rw [h5]
        refine if_neg (fun e => ?_)
        have e2 := fourB_inj (addOf_lt _ _) (addOf_lt _ _) e
        rw [app_list, app_list] at e2
        refine burst ((numB s).data.toList ++ s.data.toList) ((numB s).data.toList ++ k) (turned p i) (8 * (numB s).data.toList.length + f) ?_ ?_ ?_ (Nat.lt_of_lt_of_le (turned_lt p i) (Nat.pow_le_pow_right (n := 2) (by omega) hi32)) (by rw [hi']; exact turned_ne p i') ?_
        · rw [List.length_append, List.length_append, HK.out, list_len s, HN.out]
        · rw [num_app, num_app, hnum.out, mul_xor, ← Nat.xor_assoc, ← Nat.mul_assoc, ← Nat.pow_add]
        · rw [List.length_append, list_len s, ← HN.out]; omega
        · simpa [numB] using e2
      have hcat := concat_run G behind (by rw [hGs]; omega)
      have hsz : (G ++ behind).size ≤ 281474976710656 := by rw [ByteArray.size_append, hGs]; omega
      have HNx := Lib.hid hNx; have HSZ := Lib.hid hsz
      have HT9 : Hid (Tab wr) := Lib.hid (HT.out.since hpos HBr.out)
      have hemp := empty_beq
      clear hi' hG hkl hrk hGs hNx hnum hsz
      by_cases h32 : i < 32
      · have hfi : ¬ ((i : Int) < 8 * (n : Int) - (f : Int)) := by omega
        clear hcond
        go_wp2_with fail
        refine (next_any (G ++ behind) 0 _ HT9.out HSZ.out).mono ?_
        rintro e w2 ⟨rfl, hb2⟩
        have HB3 := Lib.hid (HBr.out.trans (hb2.mono HBr.out.size)); have HT3 := Lib.hid (HT9.out.below hb2); clear hb2
        rw [HNx.out]
        unfold nextV
        go_wp2_with fail
        refine (awake04 _ HT3.out).mono ?_
        rintro e w3 ⟨rfl, hb3⟩
        have HB4 := Lib.hid (HB3.out.trans (hb3.mono HB3.out.size)); clear hb3
        go_wp2
        go_ret
        exact ⟨rfl, HB4.out⟩
      · clear hcond
        go_wp2_with fail
        refine (next_any (G ++ behind) 0 _ HT9.out HSZ.out).mono ?_
        rintro e w2 ⟨rfl, hb2⟩
        have HB3 := Lib.hid (HBr.out.trans (hb2.mono HBr.out.size)); have HT3 := Lib.hid (HT9.out.below hb2); clear hb2
        rw [HNx.out]
        unfold nextV
        go_wp2_with fail
        refine (awake04 _ HT3.out).mono ?_
        rintro e w3 ⟨rfl, hb3⟩
        have HB4 := Lib.hid (HB3.out.trans (hb3.mono HB3.out.size)); clear hb3
        go_wp2
        go_ret
        exact ⟨rfl, HB4.out⟩
end Go.Proofs.YtkicaomcbmmjpaaDoor
