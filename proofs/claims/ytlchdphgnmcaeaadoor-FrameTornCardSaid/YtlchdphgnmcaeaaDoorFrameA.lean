/- Package frame, and the document's own: four bytes of a sum; Put. Conditions: the table reads as it is laid. -/
import Derived.Test.YtlchdphgnmcaeaaDoorTab
import Derived.Test.YtlchdphgnmcaeaaDoorVnG
namespace Go.Proofs.YtlchdphgnmcaeaaDoor
open Go.RowKit Go.PlainAid

def fourL (c : Nat) : List UInt8 := [UInt8.ofNat (c / 16777216), UInt8.ofNat (c / 65536), UInt8.ofNat (c / 256), UInt8.ofNat c]
def fourB (c : Nat) : ByteArray := ⟨(fourL c).toArray⟩
theorem four_cells (c : Nat) (w : World) (hc : c < 4294967296) : ∀ j (hj : j < (fourL c).length), (w.alloc (.cells #[.int .u8 ((c : Int) / 16777216), .int .u8 ((c : Int) / 65536 % 256), .int .u8 ((c : Int) / 256 % 256), .int .u8 ((c : Int) % 256)] 5)).cell? ((⟨w.heap.size, 0, none⟩ : Addr).add j) = some (.int .u8 ((fourL c)[j].toNat : Int)) := by
  intro j hj
  have h : (w.alloc (.cells #[.int .u8 ((c : Int) / 16777216), .int .u8 ((c : Int) / 65536 % 256), .int .u8 ((c : Int) / 256 % 256), .int .u8 ((c : Int) % 256)] 5)).heap[w.heap.size]? = some (.cells #[.int .u8 ((c : Int) / 16777216), .int .u8 ((c : Int) / 65536 % 256), .int .u8 ((c : Int) / 256 % 256), .int .u8 ((c : Int) % 256)] 5 (0, 0)) := by
    show (w.heap.push _)[w.heap.size]? = _
    simp
  have hj4 : j < 4 := hj
  rw [Addr.add_lit]
  unfold World.cell?
  rw [h]
  match j, hj4 with
  | 0, _ => simp [fourL]; omega
  | 1, _ => simp [fourL]
  | 2, _ => simp [fourL]
  | 3, _ => simp [fourL]
set_option maxHeartbeats 400000 in
theorem four_any (c : Nat) (w : World) (hc : c < 4294967296) :
    Calls Tryd.prog 14 #[.int .u32 c] w fun e w' => e = .returned (.string (fourB c)) ∧ Below w.heap.size w w' := by
  have hcv := run_convert_bytes_back (P := Tryd.prog) (w.alloc (.cells #[.int .u8 ((c : Int) / 16777216), .int .u8 ((c : Int) / 65536 % 256), .int .u8 ((c : Int) / 256 % 256), .int .u8 ((c : Int) % 256)] 5)) 55 9 5 ⟨w.heap.size, 0, none⟩ 4 (fourL c) Tryd.underlying55 Tryd.underlying5 Tryd.underlying9 (four_cells c w hc)
  rw [show (fourL c).length = 4 from rfl] at hcv
  go_enter Tryd.func14, Tryd.ntmps14
  go_wp2
  go_ret
  exact ⟨rfl, (Below.refl _ _).alloc (Nat.le_refl _) _⟩
set_option maxHeartbeats 400000 in
theorem rfour_any (c : Nat) (w : World) (hc : c < 4294967296) :
    Calls Tryd.prog 17 #[.int .u32 c] w fun e w' => e = .returned (.string (fourB c)) ∧ Below w.heap.size w w' := by
  have hcv := run_convert_bytes_back (P := Tryd.prog) (w.alloc (.cells #[.int .u8 ((c : Int) / 16777216), .int .u8 ((c : Int) / 65536 % 256), .int .u8 ((c : Int) / 256 % 256), .int .u8 ((c : Int) % 256)] 5)) 55 9 5 ⟨w.heap.size, 0, none⟩ 4 (fourL c) Tryd.underlying55 Tryd.underlying5 Tryd.underlying9 (four_cells c w hc)
  rw [show (fourL c).length = 4 from rfl] at hcv
  go_enter Tryd.func17, Tryd.ntmps17
  go_wp2
  go_ret
  exact ⟨rfl, (Below.refl _ _).alloc (Nat.le_refl _) _⟩

theorem mk_size (l : List UInt8) : (⟨l.toArray⟩ : ByteArray).size = l.length := rfl
/-- A frame: how long the text is, the sum of that and the text, the text. -/
def numB (s : ByteArray) : ByteArray := ⟨(putL (s.size : Int)).toArray⟩
def frameB (s : ByteArray) : ByteArray := numB s ++ fourB (addOf 0 (numB s ++ s).data.toList) ++ s
theorem numB_size (s : ByteArray) : (numB s).size ≤ 9 := by
  have h := putL_len (s.size : Int)
  have h2 := lenOf_bd (s.size : Int)
  have : (numB s).size = (putL (s.size : Int)).length := mk_size _
  omega
def putR (s : ByteArray) : ByteArray × Int := if 65536 < s.size then (⟨#[]⟩, 3) else (frameB s, 0)
def putV (r : ByteArray × Int) : Value := .tuple #[.string r.1, .int .i64 r.2]

set_option maxRecDepth 100000 in
set_option maxHeartbeats 800000 in
theorem put_frame (s : ByteArray) (w : World) (ht : Tab w) (hs : s.size ≤ 140737488351232) :
    Calls Tryd.prog 5 #[.string s] w fun e w' => e = .returned (putV (putR s)) ∧ Below w.heap.size w w' := by
  by_cases h : 65536 < s.size
  · have HR := Lib.hid (show putR s = (⟨#[]⟩, 3) from if_pos h)
    rw [HR.out]
    clear ht
    go_enter Tryd.func5, Tryd.ntmps5
    go_wp2
    go_ret2
    exact ⟨rfl, Below.refl _ _⟩
  · have HR := Lib.hid (show putR s = (frameB s, 0) from if_neg h)
    rw [HR.out]
    have HT := Lib.hid ht
    have hnb := numB_size s
    have hsz : (numB s ++ s).size ≤ 9223372036854775807 := by rw [ByteArray.size_append]; omega
    have hn2 : ¬ (9223372036854775807 < (numB s).size + s.size) := by omega
    have hf4 : ∀ c, (fourB c).size = 4 := fun _ => rfl
    have hn3 : ¬ (9223372036854775807 < (numB s).size + (fourB (addOf 0 (numB s ++ s).data.toList)).size) := by rw [hf4]; omega
    have hn4 : ¬ (9223372036854775807 < (numB s ++ fourB (addOf 0 (numB s ++ s).data.toList)).size + s.size) := by rw [ByteArray.size_append, hf4]; omega
    obtain ⟨C, hC⟩ : ∃ C, addOf 0 (numB s ++ s).data.toList = C := ⟨_, rfl⟩
    have hCl : C < 4294967296 := by rw [← hC]; exact addOf_lt _ _
    rw [hC] at hn3 hn4
    have HF : Hid (frameB s = numB s ++ fourB C ++ s) := Lib.hid (by rw [← hC]; rfl)
    have HC := Lib.hid hC; have HSZ := Lib.hid hsz
    clear hC hsz hf4 ht
    have hwu : IntKind.u64.wrap (s.size : Int) = (s.size : Int) := u64_nonneg (by omega) (by omega)
    go_enter Tryd.func5, Tryd.ntmps5
    go_wp2_with fail
    refine (put_any (s.size : Int) _ (by omega) (by omega)).mono ?_
    rintro e w1 ⟨rfl, hb1⟩
    have HB1 := Lib.hid hb1; have HT1 := Lib.hid (HT.out.below hb1)
    clear hb1
    obtain ⟨nb, hnbe⟩ : ∃ nb, nb = numB s := ⟨_, rfl⟩
    have e1 : (⟨(putL (s.size : Int)).toArray⟩ : ByteArray) = nb := by rw [hnbe]; rfl
    rw [e1]
    rw [← hnbe] at hnb HSZ hn2 hn3 hn4 HC HF
    clear e1 hnbe hwu
    go_wp2_with fail
    refine (sum_is _ C _ HC.out HT1.out HSZ.out).mono ?_
    rintro e w2 ⟨rfl, rfl⟩
    go_wp2_with fail
    refine (four_any C _ hCl).mono ?_
    rintro e w2 ⟨rfl, hb2⟩
    have HB2 := Lib.hid (HB1.out.trans (hb2.mono HB1.out.size))
    clear hb2
    go_wp2
    go_ret2
    exact ⟨by rw [HF.out]; rfl, HB2.out⟩
set_option maxRecDepth 100000 in
set_option maxHeartbeats 800000 in
theorem rput_frame (s : ByteArray) (w : World) (hs : s.size ≤ 140737488351232) :
    Calls Tryd.prog 6 #[.string s] w fun e w' => e = .returned (putV (putR s)) ∧ Below w.heap.size w w' := by
  by_cases h : 65536 < s.size
  · have HR := Lib.hid (show putR s = (⟨#[]⟩, 3) from if_pos h)
    rw [HR.out]
    go_enter Tryd.func6, Tryd.ntmps6
    go_wp2
    go_ret2
    exact ⟨rfl, Below.refl _ _⟩
  · have HR := Lib.hid (show putR s = (frameB s, 0) from if_neg h)
    rw [HR.out]
    have hnb := numB_size s
    have hsz : (numB s ++ s).size ≤ 9223372036854775807 := by rw [ByteArray.size_append]; omega
    have hn2 : ¬ (9223372036854775807 < (numB s).size + s.size) := by omega
    have hf4 : ∀ c, (fourB c).size = 4 := fun _ => rfl
    have hn3 : ¬ (9223372036854775807 < (numB s).size + (fourB (addOf 0 (numB s ++ s).data.toList)).size) := by rw [hf4]; omega
    have hn4 : ¬ (9223372036854775807 < (numB s ++ fourB (addOf 0 (numB s ++ s).data.toList)).size + s.size) := by rw [ByteArray.size_append, hf4]; omega
    obtain ⟨C, hC⟩ : ∃ C, addOf 0 (numB s ++ s).data.toList = C := ⟨_, rfl⟩
    have hCl : C < 4294967296 := by rw [← hC]; exact addOf_lt _ _
    rw [hC] at hn3 hn4
    have HF : Hid (frameB s = numB s ++ fourB C ++ s) := Lib.hid (by rw [← hC]; rfl)
    have HC := Lib.hid hC; have HSZ := Lib.hid hsz
    clear hC hsz hf4
    have hwu : IntKind.u64.wrap (s.size : Int) = (s.size : Int) := u64_nonneg (by omega) (by omega)
    go_enter Tryd.func6, Tryd.ntmps6
    go_wp2_with fail
    refine (rput_any (s.size : Int) _ (by omega) (by omega)).mono ?_
    rintro e w1 ⟨rfl, hb1⟩
    have HB1 := Lib.hid hb1
    clear hb1
    obtain ⟨nb, hnbe⟩ : ∃ nb, nb = numB s := ⟨_, rfl⟩
    have e1 : (⟨(putL (s.size : Int)).toArray⟩ : ByteArray) = nb := by rw [hnbe]; rfl
    rw [e1]
    rw [← hnbe] at hnb HSZ hn2 hn3 hn4 HC HF
    clear e1 hnbe hwu
    go_wp2_with fail
    refine (rsum_is _ C _ HC.out HSZ.out).mono ?_
    rintro e w2 ⟨rfl, rfl⟩
    go_wp2_with fail
    refine (rfour_any C _ hCl).mono ?_
    rintro e w2 ⟨rfl, hb2⟩
    have HB2 := Lib.hid (HB1.out.trans (hb2.mono HB1.out.size))
    clear hb2
    go_wp2
    go_ret2
    exact ⟨by rw [HF.out]; rfl, HB2.out⟩
end Go.Proofs.YtlchdphgnmcaeaaDoor
