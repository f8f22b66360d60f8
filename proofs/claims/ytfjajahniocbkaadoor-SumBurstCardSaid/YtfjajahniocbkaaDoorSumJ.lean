/- SumBurst. Conditions: the table reads as it is laid. -/
import Derived.Test.YtfjajahniocbkaaDoorSumI
import Derived.Test.YtfjajahniocbkaaDoorCrcB
import Derived.Lib.ConvBytes
namespace Go.Proofs.YtfjajahniocbkaaDoor
open Go.RowKit Go.PlainAid Go.Deep

theorem wf_u16 {a : Int} (h : (Lit.int .u16 a).wf = true) : ∃ c : Nat, a = c ∧ c < 65536 := by
  have : 0 ≤ a ∧ a ≤ 65535 := by simpa [Lit.wf, IntKind.min, IntKind.max, IntKind.signed, IntKind.bits] using h
  exact ⟨a.toNat, by omega, by omega⟩
theorem size_pos (s : ByteArray) (h : ¬ s.toList.isEmpty = true) : 0 < s.size := by
  rcases Nat.eq_zero_or_pos s.size with h0 | h0
  · exfalso
    apply h
    have : s = ⟨#[]⟩ := by
      apply ByteArray.ext
      exact Array.eq_empty_of_size_eq_zero h0
    rw [this]; unfold ByteArray.toList ByteArray.toList.loop; simp [ByteArray.size]
  · exact h0
theorem bytes_conv (w : World) (e : TypeId) (s : ByteArray) : Bytes (Lib.bytesWorld w e s) w.heap.size s.size (fun j => s.data.toList.getD j 0) := by
  intro j hj
  refine ⟨Lib.bytesWorld_cell w e s j hj, ?_⟩
  unfold World.frozen?
  rw [Lib.bytesWorld_at_new]
  have : s.size ≤ (Lib.bytesCells w e s).size := by
    have h := Lib.bytesWorld_cell w e s j hj
    rcases Nat.lt_or_ge ((Lib.bytesCells w e s).size) s.size with h1 | h1
    · have h2 := Lib.bytesWorld_cell w e s (Lib.bytesCells w e s).size h1
      unfold World.cell? at h2
      rw [Lib.bytesWorld_at_new] at h2
      simp at h2
    · exact h1
  simp; omega
theorem bytes_conv_below (w : World) (e : TypeId) (s : ByteArray) : Below w.heap.size w (Lib.bytesWorld w e s) :=
  ⟨rfl, rfl, rfl, by rw [Lib.bytesWorld_size]; omega, fun k hk => Lib.bytesWorld_at_old w e s k hk⟩

theorem shl_xor (y t z : UInt8) (r : Nat) (hr : r < 8) (ht : t.toNat = 2 ^ r) (hz : z = y ^^^ t) : bits .xor .u8 ((y.toNat : Nat) : Int) (2 ^ r % 256) = ((z.toNat : Nat) : Int) := by
  have h2 : (2 : Int) ^ r % 256 = ((t.toNat : Nat) : Int) := by
    have h8 : 2 ^ r < 256 := Nat.pow_lt_pow_right (a := 2) (m := r) (n := 8) (by omega) hr
    rw [ht, show (2 : Int) ^ r = ((2 ^ r : Nat) : Int) by rw [Int.natCast_pow]; rfl]
    omega
  rw [h2, hz, UInt8.toNat_xor]
  exact bits_xor_u8 _ _ (u8_lt _) (u8_lt _)
theorem bit_and (p i : Nat) (hp : p < 4294967296) : bits .and .u32 ((p : Int) / 2 ^ i) 1 = if p.testBit i = true then 1 else 0 := by
  have h : (p : Int) / 2 ^ i = ((p / 2 ^ i : Nat) : Int) := by
    rw [Int.natCast_ediv, Int.natCast_pow]; rfl
  rw [h, bits_and_1 _ (Nat.lt_of_le_of_lt (Nat.div_le_self _ _) hp), Nat.testBit_eq_decide_div_mod_eq]
  have : p / 2 ^ i % 2 = 0 ∨ p / 2 ^ i % 2 = 1 := by omega
  rcases this with h | h <;> simp [h]

set_option maxRecDepth 100000 in
set_option maxHeartbeats 1600000 in
theorem sburst_law (s : ByteArray) (ai pi : Int) (w : World) (ht : Tab w) (hs : s.size ≤ 140737488351232) (ha : (Lit.int .u16 ai).wf = true) (hp : (Lit.int .u32 pi).wf = true) :
    Calls Tryd.prog 5 #[.string s, .int .u16 ai, .int .u32 pi] w fun e w' => e = .returned (.bool true) ∧ Below w.heap.size w w' := by
  obtain ⟨at', rfl, ha⟩ := wf_u16 ha
  obtain ⟨p, rfl, hpl⟩ := wf_u32 hp
  have hpos := tab_pos ht
  have HT := Lib.hid ht
  clear ht
  by_cases hemp : s.toList.isEmpty = true
  · go_enter Tryd.func5, Tryd.ntmps5
    go_wp2_with fail
    refine (awake03 _ HT.out).mono ?_
    rintro e w5 ⟨rfl, hb5⟩
    have HB5 := Lib.hid hb5; clear hb5
    go_wp2
    go_ret
    exact ⟨rfl, HB5.out⟩
  have hs0 := size_pos s hemp
  have hne2 : s.toList.isEmpty = false := by simpa using hemp
  have hcv := Lib.run_convert_string_bytes (P := Tryd.prog) w 9 33 5 s Tryd.underlying9 Tryd.underlying33 Tryd.underlying5
  have hwi : IntKind.i64.wrap (at' : Int) = (at' : Int) := IntWalk.i64_in _ ⟨by omega, by omega⟩
  obtain ⟨n, hn⟩ : ∃ n, n = s.size := ⟨_, rfl⟩
  obtain ⟨f, hf⟩ : ∃ f, f = at' % (8 * s.size) := ⟨_, rfl⟩
  have hf8 : f < 8 * n := by rw [hf, hn]; exact Nat.mod_lt _ (by omega)
  have hmod : (at' : Int) % (8 * (s.size : Int)) = (f : Int) := by rw [hf, Int.natCast_emod, Int.natCast_mul]; rfl
  have HM0 := Lib.hid (bytes_conv w 5 s)
  have HB0 := Lib.hid (bytes_conv_below w 5 s)
  rw [← hn] at HM0
  have HN := Lib.hid hn
  have hn47 : n ≤ 140737488351232 := by omega
  clear hf hn hemp
  go_enter Tryd.func5, Tryd.ntmps5
  go_wp2
  simp only [hmod]
  simp only [← HN.out]
  obtain ⟨gc, hgc⟩ : ∃ gc, gc = grownCap w n 0 5 := ⟨_, rfl⟩
  rw [← hgc]
  clear hcv hmod hne2 hgc hwi
  go_loopg [9] 33 (fun g s9 wr => ∃ (i : Nat) (k : List UInt8), s9 = .int .i64 i ∧ i ≤ 32 ∧ f + i ≤ 8 * n ∧ 33 ≤ i + g ∧ k.length = n ∧ Bytes wr w.heap.size n (fun j => k.getD j 0) ∧ Hid (num k = num s.data.toList ^^^ 2 ^ f * turned p i) ∧ Below w.heap.size w wr)
  case atStart => exact ⟨0, s.data.toList, rfl, by omega, by omega, by omega, by rw [HN.out]; simp, HM0.out, Lib.hid (by simp [turned]), HB0.out⟩
  case round =>
    obtain ⟨i, k, rfl, hi32, hif, hg, hk, hm, hnum, hb⟩ := hrel
    have HM := Lib.hid hm; have HBr := Lib.hid hb; have HK := Lib.hid hk
    clear hm hb hk
    by_cases hcond : i < 32 ∧ f + i < 8 * n
    · obtain ⟨hi, hif2⟩ := hcond
      obtain ⟨q, hq⟩ : ∃ q, q = (f + i) / 8 := ⟨_, rfl⟩
      obtain ⟨r, hr⟩ : ∃ r, r = (f + i) % 8 := ⟨_, rfl⟩
      have hr8 : r < 8 := by omega
      have hd : f + i = 8 * q + r := by omega
      have hqn : q < n := by omega
      have hq' : ((f : Int) + (i : Int)) / 8 = (q : Int) := by omega
      have hr' : ((f : Int) + (i : Int)) % 8 = (r : Int) := by omega
      have hqk : q < k.length := by rw [HK.out]; exact hqn
      obtain ⟨y, hy⟩ : ∃ y, y = k[q] := ⟨_, rfl⟩
      have hky : k.getD q 0 = y := by rw [hy, List.getD, List.getElem?_eq_getElem hqk]; rfl
      have k0 : wr.cell? ⟨w.heap.size, q, none⟩ = some (.int .u8 (y.toNat : Nat)) := by have := (HM.out q hqn).1; simp only [hky] at this; exact this
      have z0 := (HM.out q hqn).2
      obtain ⟨t, htb⟩ : ∃ t : UInt8, t.toNat = 2 ^ r := ⟨UInt8.ofNat (2 ^ r), by
        rw [UInt8.toNat_ofNat']
        exact Nat.mod_eq_of_lt (Nat.pow_lt_pow_right (by omega) hr8)⟩
      obtain ⟨z, hz⟩ : ∃ z, z = y ^^^ t := ⟨_, rfl⟩
      have hzn : z.toNat = k[q].toNat ^^^ 2 ^ r := by rw [hz, UInt8.toNat_xor, htb, hy]
      have hxz := shl_xor y t z r hr8 htb hz
      have HZ := Lib.hid hzn
      have HM2 : Hid (Bytes (wr.setCell ⟨w.heap.size, q, none⟩ (.int .u8 (z.toNat : Nat))) w.heap.size n (fun j => (k.set q z).getD j 0)) := Lib.hid ((HM.out.set hqn z).congr (fun j _ => by
        by_cases e : j = q
        · subst e
          rw [if_pos rfl, List.getD, List.getElem?_set_self hqk]; rfl
        · rw [if_neg e, List.getD, List.getD, List.getElem?_set_ne (fun h => e h.symm)]))
      have HB2 : Hid (Below w.heap.size w (wr.setCell ⟨w.heap.size, q, none⟩ (.int .u8 (z.toNat : Nat)))) := Lib.hid (HBr.out.setCell (Nat.le_refl _) _)
      have HKS : Hid ((k.set q z).length = n) := Lib.hid (by rw [List.length_set]; exact HK.out)
      have HD := Lib.hid hd
      clear hq hr hd hy hky htb hz hzn
      by_cases hi0 : i = 0
      · subst hi0
        have hq0 : (f : Int) / 8 = (q : Int) := by omega
        have hr0 : (f : Int) % 8 = (r : Int) := by omega
        have HNum : Hid (num (k.set q z) = num s.data.toList ^^^ 2 ^ f * turned p (0 + 1)) := Lib.hid (num_turn hnum.out z q hqk HD.out hr8 HZ.out (Or.inl rfl))
        clear hq' hr' hnum
        go_wp2
        go_roundg (gk - 1)
        case rel => exact ⟨0 + 1, k.set q z, by go_num, by omega, by omega, by omega, HKS.out, HM2.out, HNum.out, HB2.out⟩
        case measure => omega
      · have hif0 : ((i : Int) == 0) = false := by simp; omega
        by_cases hbit : p.testBit i = true
        · have hand : bits .and .u32 ((p : Int) / 2 ^ i) 1 = 1 := by rw [bit_and p i hpl, if_pos hbit]
          have HNum : Hid (num (k.set q z) = num s.data.toList ^^^ 2 ^ f * turned p (i + 1)) := Lib.hid (num_turn hnum.out z q hqk HD.out hr8 HZ.out (Or.inr hbit))
          clear hbit hnum hi0
          go_wp2
          go_roundg (gk - 1)
          case rel => exact ⟨i + 1, k.set q z, by go_num, by omega, by omega, by omega, HKS.out, HM2.out, HNum.out, HB2.out⟩
          case measure => omega
        · have hand : bits .and .u32 ((p : Int) / 2 ^ i) 1 = 0 := by rw [bit_and p i hpl, if_neg hbit]
          have HNum : Hid (num k = num s.data.toList ^^^ 2 ^ f * turned p (i + 1)) := Lib.hid (by
            rw [turned_skip (fun h => by rcases h with h | h; exact hi0 h; exact hbit h)]; exact hnum.out)
          clear hbit hnum hi0
          go_wp2
          go_roundg (gk - 1)
          case rel => exact ⟨i + 1, k, by go_num, by omega, by omega, by omega, HK.out, HM.out, HNum.out, HBr.out⟩
          case measure => omega
    · obtain ⟨i', hi'⟩ : ∃ i', i = i' + 1 := ⟨i - 1, by omega⟩
      have hne : addOf 0 k ≠ addOf 0 s.data.toList := burst s.data.toList k (turned p i) f (by rw [HK.out, HN.out]; simp) hnum.out (by rw [HN.out] at hf8; simp; omega) (Nat.lt_of_lt_of_le (turned_lt p i) (Nat.pow_le_pow_right (n := 2) (by omega) hi32)) (by rw [hi']; exact turned_ne p i')
      have hcv := (HM.out).text (cap := gc) Tryd.underlying33 Tryd.underlying5 Tryd.underlying9
      have hrk : (List.range n).map (fun j => k.getD j 0) = k := by
        apply List.ext_getElem
        · simp [HK.out]
        · intro j h1 h2
          simp [List.getD, List.getElem?_eq_getElem h2]
      rw [hrk] at hcv
      obtain ⟨A, hA⟩ : ∃ A, addOf 0 (⟨k.toArray⟩ : ByteArray).data.toList = A := ⟨_, rfl⟩
      obtain ⟨B, hB⟩ : ∃ B, addOf 0 s.data.toList = B := ⟨_, rfl⟩
      have hAB : A ≠ B := by rw [← hA, ← hB]; exact hne
      have hb1 : ((A : Int) == (B : Int)) = false := by simp; omega
      have hb2 : ((A : Int) != (B : Int)) = true := by simp; omega
      have hks : (⟨k.toArray⟩ : ByteArray).size ≤ 140737488351232 := by
        have : (⟨k.toArray⟩ : ByteArray).size = n := by simp [ByteArray.size, HK.out]
        omega
      have HA := Lib.hid hA; have HBs := Lib.hid hB; have HKs := Lib.hid hks
      have HT9 : Hid (Tab wr) := Lib.hid (fun j hj => by rw [HBr.out.cell (p := ⟨0, j, none⟩) hpos]; exact HT.out j hj)
      clear hi' hne hrk hA hB hAB hks hnum
      by_cases h32 : i < 32
      · have hfi : ¬ ((i : Int) < 8 * (n : Int) - (f : Int)) := by omega
        clear hcond
        go_wp2_with fail
        refine (sum_is _ A _ HA.out HT9.out HKs.out).mono ?_
        rintro e w2 ⟨rfl, rfl⟩
        go_wp2_with fail
        refine (sum_is _ B _ HBs.out HT9.out hs).mono ?_
        rintro e w2 ⟨rfl, rfl⟩
        go_wp2_with fail
        refine (awake03 _ HT9.out).mono ?_
        rintro e w5 ⟨rfl, hb5⟩
        have HB5 := Lib.hid (HBr.out.trans (hb5.mono HBr.out.size)); clear hb5
        go_wp2
        go_ret
        exact ⟨rfl, HB5.out⟩
      · clear hcond
        go_wp2_with fail
        refine (sum_is _ A _ HA.out HT9.out HKs.out).mono ?_
        rintro e w2 ⟨rfl, rfl⟩
        go_wp2_with fail
        refine (sum_is _ B _ HBs.out HT9.out hs).mono ?_
        rintro e w2 ⟨rfl, rfl⟩
        go_wp2_with fail
        refine (awake03 _ HT9.out).mono ?_
        rintro e w5 ⟨rfl, hb5⟩
        have HB5 := Lib.hid (HBr.out.trans (hb5.mono HBr.out.size)); clear hb5
        go_wp2
        go_ret
        exact ⟨rfl, HB5.out⟩
end Go.Proofs.YtfjajahniocbkaaDoor
