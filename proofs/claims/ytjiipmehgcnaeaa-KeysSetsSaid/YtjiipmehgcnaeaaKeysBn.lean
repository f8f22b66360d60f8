/- Package keys: what Next, Check, In answer for every text. Conditions: texts within the form's own reach. -/
import Derived.Test.YtjiipmehgcnaeaaKeysA
namespace Go.Proofs.Ytjiipmehgcnaeaa
open Go.RowKit Go.PlainAid

theorem bt_data (s : ByteArray) (i : Nat) : bt s i = ((s.data.toList.getD i 0).toNat : Int) := by
  unfold bt
  by_cases h : i < s.size
  · rw [dif_pos h]
    have h' : i < s.data.toList.length := by simpa using h
    simp only [List.getD, List.getElem?_eq_getElem h', Option.getD_some]
    rfl
  · rw [dif_neg h]
    have h' : s.data.toList.length ≤ i := by simpa using h
    simp [List.getD, List.getElem?_eq_none h']
theorem str_lit (s : ByteArray) (l : List UInt8) (h : s.data.toList = l) : s = ⟨l.toArray⟩ := by
  apply ByteArray.ext; rw [← h]

theorem str_ext (s : ByteArray) (n : Nat) (b : UInt8) : s.extract 0 n ++ ⟨#[b]⟩ = ⟨(s.data.toList.take n ++ [b]).toArray⟩ := by
  apply ByteArray.ext; rw [ByteArray.data_append]; apply Array.ext'; simp

def checkE (s : ByteArray) : Int := if 1 ≤ s.size ∧ s.size ≤ 8 then 0 else 10
theorem check_yes {s : ByteArray} (h : 1 ≤ s.size ∧ s.size ≤ 8) : checkE s = 0 := if_pos h
theorem check_no {s : ByteArray} (h : ¬ (1 ≤ s.size ∧ s.size ≤ 8)) : checkE s = 10 := if_neg h

set_option maxRecDepth 100000 in
set_option maxHeartbeats 400000 in
theorem check_any (s : ByteArray) (w : World) :
    Calls Try.prog 16 #[.string s] w fun e w' => e = .returned (.int .i64 (checkE s)) ∧ w = w' := by
  by_cases h : 1 ≤ s.size ∧ s.size ≤ 8
  · rw [check_yes h]; obtain ⟨h1, h2⟩ := h
    go_enter Try.func16, Try.ntmps16
    go_wp2
    go_ret
    exact ⟨rfl, rfl⟩
  · rw [check_no h]
    by_cases h1 : 1 ≤ s.size
    · have h2 : 8 < s.size := by omega
      clear h
      go_enter Try.func16, Try.ntmps16
      go_wp2
      go_ret
      exact ⟨rfl, rfl⟩
    · have h2 : s.size < 1 := by omega
      clear h h1
      go_enter Try.func16, Try.ntmps16
      go_wp2
      go_ret
      exact ⟨rfl, rfl⟩

/-- The byte at a place, and one more. -/
theorem run_one (w : World) (v : Int) (h0 : 0 ≤ v) (h1 : v ≤ 255) :
    (convert 105 9 (.slice (some ⟨w.heap.size, 0, none⟩) 1 1)).run Try.prog (w.alloc (.cells #[.int .u8 v] 5)).drew = .ok (.string ⟨#[UInt8.ofNat v.toNat]⟩) (w.alloc (.cells #[.int .u8 v] 5)).drew :=
  run_convert_bytes_back (P := Try.prog) (w.alloc (.cells #[.int .u8 v] 5)).drew 105 9 5 ⟨w.heap.size, 0, none⟩ 1 [UInt8.ofNat v.toNat] Try.underlying105 Try.underlying5 Try.underlying9
    (by intro j hj; simp at hj; subst hj; rw [Addr.add_lit]; show (w.alloc (.cells #[.int .u8 v] 5)).cell? ⟨w.heap.size, 0 + 0, none⟩ = _; rw [World.cell?_alloc_mark]; simp; omega)

set_option maxRecDepth 100000 in
set_option maxHeartbeats 400000 in
theorem next_short (s : ByteArray) (w : World) (hs : s.size < 8) :
    Calls Try.prog 20 #[.string s] w fun e w' => e = .returned (.string ⟨(nextL s.data.toList).toArray⟩) ∧ Below w.heap.size w w' := by
  have e : (⟨(nextL s.data.toList).toArray⟩ : ByteArray) = s ++ { data := #[0] } := by
    unfold nextL
    rw [nx_short 8 _ (by simpa using hs)]
    apply ByteArray.ext; rw [ByteArray.data_append]; apply Array.ext'; simp
  rw [e]; clear e
  go_enter Try.func20, Try.ntmps20
  go_wp2
  go_ret
  exact ⟨rfl, Below.refl _ _⟩

set_option maxRecDepth 100000 in
set_option maxHeartbeats 400000 in
theorem next_long (s : ByteArray) (w : World) (hs : 8 ≤ s.size) (hm : s.size ≤ 9223372036854775807) :
    Calls Try.prog 20 #[.string s] w fun e w' => e = .returned (.string ⟨(nextL s.data.toList).toArray⟩) ∧ Below w.heap.size w w' := by
  have hb := get_bt s
  go_enter Try.func20, Try.ntmps20
  go_wp2
  go_loopg [10] 9 (fun g s10 wr => ∃ i : Nat, s10 = .int .i64 i ∧ i ≤ 8 ∧ 9 ≤ i + g ∧ nx i (s.data.toList.drop (8 - i)) = none ∧ w = wr)
  case atStart => exact ⟨0, rfl, by omega, by omega, rfl, rfl⟩
  case round =>
    obtain ⟨i, rfl, hi, hg, hnone, rfl⟩ := hrel
    have HN := Lib.hid hnone; clear hnone
    by_cases hlt : i < 8
    · have hl : 7 - i < s.data.toList.length := by simp; omega
      have hd : s.data.toList.drop (7 - i) = s.data.toList[7 - i] :: s.data.toList.drop (8 - i) := by
        rw [List.drop_eq_getElem_cons hl, show 7 - i + 1 = 8 - i by omega]
      have hbt : bt s (7 - i) = (s.data.toList[7 - i].toNat : Int) := by
        rw [bt_data]; simp only [List.getD, List.getElem?_eq_getElem hl, Option.getD_some]
      have h255 := bt_le s (7 - i)
      have h0 := bt_nonneg s (7 - i)
      by_cases hc : bt s (7 - i) < 255
      · have hn : nx (i + 1) (s.data.toList.drop (7 - i)) = some [UInt8.ofNat (s.data.toList[7 - i].toNat + 1)] := by
          rw [hd, nx, HN.out]; simp only; rw [if_pos (by omega)]
        have hx := nx_drop (7 - i) (i + 1) s.data.toList _ (by omega) hn
        rw [show i + 1 + (7 - i) = 8 by omega] at hx
        have hr : nextL s.data.toList = s.data.toList.take (7 - i) ++ [UInt8.ofNat (bt s (7 - i) + 1).toNat] := by
          unfold nextL; rw [hx, hbt]; simp only [Option.getD_some]; congr 3
        have HR := Lib.hid hr
        have hconv := run_one w (bt s (7 - i) + 1) (by omega) (by omega)
        clear hn hx hr hd hbt hl
        go_wp2_with fail
        go_region
        go_wp2
        go_ret
        exact ⟨by rw [HR.out, ← str_ext]; rfl, ((Below.refl _ _).alloc (Nat.le_refl _) _).drew⟩
      · have hn : nx (i + 1) (s.data.toList.drop (8 - (i + 1))) = none := by
          rw [show 8 - (i + 1) = 7 - i by omega, hd, nx, HN.out]; simp only; rw [if_neg (by omega)]
        have HN2 := Lib.hid hn
        clear hn hd hbt hl
        go_wp2
        go_roundg (gk - 1)
        case rel => exact ⟨i + 1, by go_num, by omega, by omega, HN2.out, rfl⟩
        case measure => omega
    · obtain rfl : i = 8 := by omega
      have hr : nextL s.data.toList = [] := by unfold nextL; rw [show s.data.toList = s.data.toList.drop (8 - 8) by simp, HN.out]; rfl
      have HR := Lib.hid hr; clear hr
      go_wp2
      go_ret
      exact ⟨by rw [HR.out]; rfl, Below.refl _ _⟩

theorem next_any (s : ByteArray) (w : World) (hm : s.size ≤ 9223372036854775807) :
    Calls Try.prog 20 #[.string s] w fun e w' => e = .returned (.string ⟨(nextL s.data.toList).toArray⟩) ∧ Below w.heap.size w w' := by
  by_cases h : s.size < 8
  · exact next_short s w h
  · exact next_long s w (by omega) hm

/-- What In answers. -/
def inL (k a b : List UInt8) : Bool := !(Op.bytesLess k a) && (b == [] || Op.bytesLess k b)

set_option maxRecDepth 100000 in
set_option maxHeartbeats 400000 in
theorem awake_any (w : World) :
    Calls Try.prog 15 #[] w fun e w' => e = .returned (.bool true) ∧ Below w.heap.size w w' := by
  have e1 : nextL [97] = [97, 0] := by decide
  have e2 : nextL [255, 255, 255, 255, 255, 255, 255, 255] = [] := by decide
  go_enter Try.func15, Try.ntmps15
  go_wp2_with fail
  refine (next_any _ _ (by decide)).mono ?_
  rintro e w1 ⟨rfl, hb1⟩
  rw [show nextL (⟨#[97]⟩ : ByteArray).data.toList = [97, 0] from e1]
  have HB1 := Lib.hid hb1; clear hb1
  go_wp2_with fail
  refine (next_any _ _ (by decide)).mono ?_
  rintro e w2 ⟨rfl, hb2⟩
  rw [show nextL (⟨#[255, 255, 255, 255, 255, 255, 255, 255]⟩ : ByteArray).data.toList = [] from e2]
  have HB2 := Lib.hid (HB1.out.trans (hb2.mono HB1.out.size)); clear hb2
  go_wp2
  go_ret
  exact ⟨rfl, HB2.out⟩

end Go.Proofs.Ytjiipmehgcnaeaa
