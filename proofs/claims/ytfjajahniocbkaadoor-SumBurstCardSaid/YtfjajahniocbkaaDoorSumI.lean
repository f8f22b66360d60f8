/- SumThree. Conditions: the table reads as it is laid. -/
import Derived.Test.YtfjajahniocbkaaDoorSumH
import Derived.Test.YtfjajahniocbkaaDoorBytes
import Derived.Deep.RegionHeld3
import Derived.Deep.OwnRows
namespace Go.Proofs.YtfjajahniocbkaaDoor
open Go.RowKit Go.PlainAid Go.Deep

theorem ext_take (a : ByteArray) (n : Nat) : (a.extract 0 n).data.toList = a.data.toList.take n := by simp [ByteArray.data_extract]
theorem sum_is (s : ByteArray) (A : Nat) (w : World) (h : addOf 0 s.data.toList = A) (ht : Tab w) (hs : s.size ≤ 140737488351232) :
    Calls Tryd.prog 9 #[.string s] w fun e w' => e = .returned (.int .u32 (A : Nat)) ∧ w = w' :=
  (sum_any s w ht (by omega)).mono fun _ _ ⟨he, hw⟩ => ⟨by rw [he, h], hw⟩
def at0 (a : ByteArray) (j : Nat) : UInt8 := a.data.toList.getD j 0
theorem at0_eq (a : ByteArray) (j : Nat) (h : j < a.size) : at0 a j = a[j] := by
  unfold at0
  have hl : j < a.data.toList.length := by simpa using h
  rw [List.getD, List.getElem?_eq_getElem hl]; rfl
def mix (a b c : ByteArray) (j : Nat) : UInt8 := at0 a j ^^^ (at0 b j ^^^ at0 c j)
theorem mix_list (a b c : ByteArray) (n : Nat) (ha : n ≤ a.size) (hb : n ≤ b.size) (hc : n ≤ c.size) :
    (List.range n).map (mix a b c) = List.zipWith (· ^^^ ·) (a.data.toList.take n) (List.zipWith (· ^^^ ·) (b.data.toList.take n) (c.data.toList.take n)) := by
  have la : a.data.toList.length = a.size := by simp
  have lb : b.data.toList.length = b.size := by simp
  have lc : c.data.toList.length = c.size := by simp
  apply List.ext_getElem
  · simp only [List.length_map, List.length_range, List.length_zipWith, List.length_take]; omega
  · intro i h1 h2
    have hi : i < n := by simpa using h1
    simp only [List.getElem_map, List.getElem_range, List.getElem_zipWith, List.getElem_take]
    unfold mix at0
    rw [List.getD, List.getD, List.getD, List.getElem?_eq_getElem (by omega), List.getElem?_eq_getElem (by omega), List.getElem?_eq_getElem (by omega)]; rfl
theorem mix_sum (a b c : ByteArray) (n : Nat) (ha : n ≤ a.size) (hb : n ≤ b.size) (hc : n ≤ c.size) :
    addOf 0 ((List.range n).map (mix a b c)) = (addOf 0 (a.data.toList.take n) ^^^ addOf 0 (b.data.toList.take n)) ^^^ addOf 0 (c.data.toList.take n) := by
  have la : a.data.toList.length = a.size := by simp
  have lb : b.data.toList.length = b.size := by simp
  have lc : c.data.toList.length = c.size := by simp
  rw [mix_list a b c n ha hb hc, sum_three _ _ _ (by simp only [List.length_take]; omega) (by simp only [List.length_take]; omega), Nat.xor_assoc]
theorem info_u8 : (Tryd.prog.info? 5).map (fun i => (i.zero, i.size, i.bytes)) = some (some (.int .u8 0), 1, 1) := by kernel_rfl
/-- What the last statement leans on. -/
def Stands (w : World) (b n : Nat) (f : Nat → UInt8) (wr : World) : Prop := Tab wr ∧ Below w.heap.size w wr ∧ Bytes wr b n f

theorem keep3 {w wr : World} {b n : Nat} {f : Nat → UInt8} (hm : Bytes wr b n f) (ht : Tab wr) (hb : Below w.heap.size w wr) {P : Program} {src dst e : TypeId} (hs : P.underlying src = some (.slice e)) (he : P.underlying e = some (.int .u8)) (hd : P.underlying dst = some .string) :
    (convert src dst (.slice (some ⟨b, 0, none⟩) n n)).run P wr.drew = .ok (.string ⟨((List.range n).map f).toArray⟩) wr.drew ∧ Stands w b n f wr.drew :=
  ⟨Bytes.text (w := wr.drew) (show Bytes wr.drew b n f from hm) hs he hd, ⟨ht, hb.drew, hm⟩⟩
theorem keep4 {w w1 w2 : World} {b n : Nat} {f : Nat → UInt8} {p : Prop} (h : p ∧ Stands w b n f w1) (hb : Below w1.heap.size w1 w2) {P : Program} {src dst e : TypeId} (hs : P.underlying src = some (.slice e)) (he : P.underlying e = some (.int .u8)) (hd : P.underlying dst = some .string) :
    (convert src dst (.slice (some ⟨b, 0, none⟩) n n)).run P w2 = .ok (.string ⟨((List.range n).map f).toArray⟩) w2 ∧ Stands w b n f w2 :=
  ⟨Bytes.text (h.2.2.2.below hb) hs he hd, ⟨h.2.1.below hb, h.2.2.1.trans (hb.mono h.2.2.1.size), h.2.2.2.below hb⟩⟩
theorem tab_of {w wr : World} {b n : Nat} {f : Nat → UInt8} {p : Prop} (h : p ∧ Stands w b n f wr) : Tab wr := h.2.1
theorem below_of {w wr : World} {b n : Nat} {f : Nat → UInt8} {p : Prop} (h : p ∧ Stands w b n f wr) : Below w.heap.size w wr := h.2.2.1
set_option maxRecDepth 100000 in
set_option maxHeartbeats 1600000 in
theorem sthree_law (a b c : ByteArray) (w : World) (ht : Tab w) (ha : a.size ≤ 140737488351232) (hb : b.size ≤ 140737488351232) (hc : c.size ≤ 140737488351232) :
    Calls Tryd.prog 6 #[.string a, .string b, .string c] w fun e w' => e = .returned (.bool true) ∧ Below w.heap.size w w' := by
  obtain ⟨i0, hi, hz0, hz1, hz2⟩ := info_parts info_u8
  have hpos := tab_pos ht
  have HT := Lib.hid ht
  have hmk : ∀ (n : Nat) (w : World), n ≤ 140737488351232 → (Instr.makeSlice 33 (.int .i64 (n : Int)) (.int .i64 (n : Int))).run Tryd.prog w = .ok (.slice (some ⟨w.heap.size, 0, none⟩) n n) (w.alloc (.cells (madeCells #[.int .u8 0] n) 5)) := fun n w hn =>
    run_make_row (P := Tryd.prog) 33 5 i0 (.int .u8 0) Tryd.underlying33 hi hz0 hz1 rfl .i64 .i64 n (by rw [hz2]; omega) (by omega) w
  have hmka := fun w => hmk a.size w ha
  have hmkb := fun w => hmk b.size w hb
  have hmkc := fun w => hmk c.size w hc
  clear ht hi hz0 hz1 hz2 hmk
  obtain ⟨n, hna, hnb, hnc, hcase⟩ : ∃ n : Nat, n ≤ a.size ∧ n ≤ b.size ∧ n ≤ c.size ∧ (b.size < a.size ∧ c.size < b.size ∧ n = c.size ∨ b.size < a.size ∧ ¬ c.size < b.size ∧ n = b.size ∨ ¬ b.size < a.size ∧ c.size < a.size ∧ n = c.size ∨ ¬ b.size < a.size ∧ ¬ c.size < a.size ∧ n = a.size) := by
    by_cases h1 : b.size < a.size
    · by_cases h2 : c.size < b.size
      · exact ⟨c.size, by omega, by omega, by omega, Or.inl ⟨h1, h2, rfl⟩⟩
      · exact ⟨b.size, by omega, by omega, by omega, Or.inr (Or.inl ⟨h1, h2, rfl⟩)⟩
    · by_cases h2 : c.size < a.size
      · exact ⟨c.size, by omega, by omega, by omega, Or.inr (Or.inr (Or.inl ⟨h1, h2, rfl⟩))⟩
      · exact ⟨a.size, by omega, by omega, by omega, Or.inr (Or.inr (Or.inr ⟨h1, h2, rfl⟩))⟩
  obtain ⟨A, hA⟩ : ∃ A, addOf 0 (a.extract 0 n).data.toList = A := ⟨_, rfl⟩
  obtain ⟨B, hB⟩ : ∃ B, addOf 0 (b.extract 0 n).data.toList = B := ⟨_, rfl⟩
  obtain ⟨C, hC⟩ : ∃ C, addOf 0 (c.extract 0 n).data.toList = C := ⟨_, rfl⟩
  obtain ⟨D, hD⟩ : ∃ D, D = A ^^^ B := ⟨_, rfl⟩
  obtain ⟨E, hE⟩ : ∃ E, E = D ^^^ C := ⟨_, rfl⟩
  have hx1 : bits .xor .u32 (A : Int) (B : Int) = (D : Int) := by rw [hD]; exact bits_xor_u32 _ _ (by rw [← hA]; exact addOf_lt _ _) (by rw [← hB]; exact addOf_lt _ _)
  have hx2 : bits .xor .u32 (D : Int) (C : Int) = (E : Int) := by
    rw [hE]; refine bits_xor_u32 _ _ ?_ (by rw [← hC]; exact addOf_lt _ _)
    rw [hD]; exact Nat.xor_lt_two_pow (n := 32) (by rw [← hA]; exact addOf_lt _ _) (by rw [← hB]; exact addOf_lt _ _)
  have hX : addOf 0 (List.range n |>.map (mix a b c)) = E := by
    rw [mix_sum a b c n hna hnb hnc, ← ext_take, ← ext_take, ← ext_take, hA, hB, hC, hE, hD]
  have HA := Lib.hid hA; have HB := Lib.hid hB; have HC := Lib.hid hC; have HX := Lib.hid hX; have HX1 := Lib.hid hx1; have HX2 := Lib.hid hx2
  clear hA hB hC hD hE hX hx1 hx2
  rcases hcase with ⟨h1, h2, hn⟩ | ⟨h1, h2, hn⟩ | ⟨h1, h2, hn⟩ | ⟨h1, h2, hn⟩
  all_goals
    have HN := Lib.hid hn
    clear hn
    go_enter Tryd.func6, Tryd.ntmps6
    go_wp2
    simp only [← HN.out]
    clear HN hmka hmkb hmkc h1 h2
    have HB0 : Hid (Below w.heap.size w (w.alloc (.cells (madeCells #[.int .u8 0] n) 5))) := Lib.hid ((Below.refl _ _).alloc (Nat.le_refl _) _)
    have HM0 := Lib.hid (made_bytes w n 5)
    go_loopg [9] (n + 1) (fun g s9 wr => ∃ i : Nat, s9 = .int .i64 i ∧ i ≤ n ∧ n + 1 ≤ i + g ∧ Bytes wr w.heap.size n (fun j => if j < i then mix a b c j else 0) ∧ Below w.heap.size w wr)
    case atStart => exact ⟨0, rfl, by omega, by omega, HM0.out.congr (fun j _ => by simp), HB0.out⟩
    case round =>
      obtain ⟨i, rfl, hin, hg, hm, hb⟩ := hrel
      have HM := Lib.hid hm; have HBr := Lib.hid hb
      clear hm hb
      by_cases hlt : i < n
      · have hia : i < a.size := by omega
        have hib : i < b.size := by omega
        have hic : i < c.size := by omega
        obtain ⟨p, hp⟩ : ∃ p : UInt8, p = a[i] ^^^ b[i] := ⟨_, rfl⟩
        have hq : p ^^^ c[i] = mix a b c i := by unfold mix; rw [at0_eq a i hia, at0_eq b i hib, at0_eq c i hic, hp, UInt8.xor_assoc]
        have e1 : bits .xor .u8 ((a[i].toNat : Nat) : Int) ((b[i].toNat : Nat) : Int) = ((p.toNat : Nat) : Int) := by rw [hp, UInt8.toNat_xor]; exact bits_xor_u8 _ _ (u8_lt _) (u8_lt _)
        have e2 : bits .xor .u8 ((p.toNat : Nat) : Int) ((c[i].toNat : Nat) : Int) = (((mix a b c i).toNat : Nat) : Int) := by rw [← hq, UInt8.toNat_xor]; exact bits_xor_u8 _ _ (u8_lt _) (u8_lt _)
        clear hp hq
        have hd := (HM.out i hlt).1
        have k0 : wr.drew.cell? ⟨w.heap.size, i, none⟩ = some (.int .u8 ((if i < i then mix a b c i else 0 : UInt8).toNat : Nat)) := hd
        have z0 : wr.drew.frozen? ⟨w.heap.size, i, none⟩ = false := (HM.out i hlt).2
        clear hd
        have HM2 : Hid (Bytes (wr.drew.setCell ⟨w.heap.size, i, none⟩ (.int .u8 (mix a b c i).toNat)) w.heap.size n (fun j => if j < i + 1 then mix a b c j else 0)) := Lib.hid ((Bytes.set (w := wr.drew) (show Bytes wr.drew _ _ _ from HM.out) hlt (mix a b c i)).congr (fun j _ => by
          by_cases hji : j = i
          · subst hji; simp
          · simp only [if_neg hji]
            by_cases h5 : j < i
            · rw [if_pos h5, if_pos (by omega)]
            · rw [if_neg h5, if_neg (by omega)]))
        have HB2 : Hid (Below w.heap.size w (wr.drew.setCell ⟨w.heap.size, i, none⟩ (.int .u8 (mix a b c i).toNat))) := Lib.hid (HBr.out.drew.setCell (Nat.le_refl _) _)
        go_wp2_with fail
        go_region_held3 (fun w' => True) (trivial) (fail)
        all_goals
          go_wp2
          go_roundg (gk - 1)
          case rel => exact ⟨i + 1, by go_num, by omega, by omega, HM2.out, HB2.out⟩
          case measure => omega
      · obtain rfl : i = n := by omega
        have HM9 : Hid (Bytes wr w.heap.size i (mix a b c)) := Lib.hid (HM.out.congr (fun j hj => if_pos hj))
        have HT9 : Hid (Tab wr) := Lib.hid (fun j hj => by rw [HBr.out.cell (p := ⟨0, j, none⟩) hpos]; exact HT.out j hj)
        have hsA : (a.extract 0 i).size ≤ 140737488351232 := by rw [ByteArray.size_extract]; omega
        have hsB : (b.extract 0 i).size ≤ 140737488351232 := by rw [ByteArray.size_extract]; omega
        have hsC : (c.extract 0 i).size ≤ 140737488351232 := by rw [ByteArray.size_extract]; omega
        have hsX : (⟨((List.range i).map (mix a b c)).toArray⟩ : ByteArray).size ≤ 140737488351232 := by
          have : (⟨((List.range i).map (mix a b c)).toArray⟩ : ByteArray).size = i := by simp [ByteArray.size]
          omega
        have HSA := Lib.hid hsA; have HSB := Lib.hid hsB; have HSC := Lib.hid hsC; have HSX := Lib.hid hsX
        clear hsA hsB hsC hsX
        have hx1 := HX1.out
        have hx2 := HX2.out
        go_wp2_with fail
        go_region_held3 (fun w' => (convert 33 9 (.slice (some ⟨w.heap.size, 0, none⟩) i i)).run Tryd.prog w' = .ok (.string ⟨((List.range i).map (mix a b c)).toArray⟩) w' ∧ Stands w w.heap.size i (mix a b c) w') (first | exact keep3 HM9.out HT9.out HBr.out Tryd.underlying33 Tryd.underlying5 Tryd.underlying9 | exact keep4 (by assumption) hb8 Tryd.underlying33 Tryd.underlying5 Tryd.underlying9 | assumption) (first | (go_at_call 9; have ht9 : Tab _ := tab_of (by assumption); (with_reducible refine (sum_is _ A _ HA.out ht9 HSA.out).mono ?_); rintro e w7 ⟨rfl, rfl⟩) | (go_at_call 9; have ht9 : Tab _ := tab_of (by assumption); (with_reducible refine (sum_is _ B _ HB.out ht9 HSB.out).mono ?_); rintro e w7 ⟨rfl, rfl⟩) | (go_at_call 9; have ht9 : Tab _ := tab_of (by assumption); (with_reducible refine (sum_is _ C _ HC.out ht9 HSC.out).mono ?_); rintro e w7 ⟨rfl, rfl⟩) | (go_at_call 9; have ht9 : Tab _ := tab_of (by assumption); (with_reducible refine (sum_is _ E _ HX.out ht9 HSX.out).mono ?_); rintro e w7 ⟨rfl, rfl⟩) | (go_at_call 14; have ht9 : Tab _ := tab_of (by assumption); (with_reducible refine (awake03 _ ht9).mono ?_); rintro e w8 ⟨rfl, hb8⟩))
        have hq : Below w.heap.size w _ := below_of (by assumption)
        go_wp2
        go_ret
        exact ⟨rfl, hq⟩
end Go.Proofs.YtfjajahniocbkaaDoor
