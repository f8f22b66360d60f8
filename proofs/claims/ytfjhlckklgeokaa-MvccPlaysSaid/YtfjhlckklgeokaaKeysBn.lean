/- Package keys: what Next, Check, In answer for every text. Conditions: texts within the form's own reach. -/
import Derived.Test.YtfjhlckklgeokaaKeysA
namespace Go.Proofs.Ytfjhlckklgeokaa
open Go.RowKit Go.PlainAid

theorem bt_data (s : ByteArray) (i : Nat) : bt s i = ((s.data.toList.getD i 0).toNat : Int) := by
  unfold bt
  by_cases h : i < s.size
  · rw [dif_pos h]
    have h' : i < s.data.toList.length := by simpa using h
    simp only [List.getD, List.getElem?_eq_getElem h', Option.getD_some]
    rfl
  · rw [dif_neg h]
    have h' : s.data.toList.length ≤ i := by simpa using h
    simp [List.getD, List.getElem?_eq_none h']
theorem str_lit (s : ByteArray) (l : List UInt8) (h : s.data.toList = l) : s = ⟨l.toArray⟩ := by
  apply ByteArray.ext; rw [← h]

theorem str_ext (s : ByteArray) (n : Nat) (b : UInt8) : s.extract 0 n ++ ⟨#[b]⟩ = ⟨(s.data.toList.take n ++ [b]).toArray⟩ := by
  apply ByteArray.ext; rw [ByteArray.data_append]; apply Array.ext'; simp

def checkE (s : ByteArray) : Int := if 1 ≤ s.size ∧ s.size ≤ 8 then 0 else 10
theorem check_yes {s : ByteArray} (h : 1 ≤ s.size ∧ s.size ≤ 8) : checkE s = 0 := if_pos h
theorem check_no {s : ByteArray} (h : ¬ (1 ≤ s.size ∧ s.size ≤ 8)) : checkE s = 10 := if_neg h

set_option maxRecDepth 100000 in
set_option maxHeartbeats 400000 in
theorem check_any (s : ByteArray) (w : World) :
    Calls Try.prog 52 #[.string s] w fun e w' => e = .returned (.int .i64 (checkE s)) ∧ w = w' := by
  by_cases h : 1 ≤ s.size ∧ s.size ≤ 8
  · rw [check_yes h]; obtain ⟨h1, h2⟩ := h
    go_enter Try.func52, Try.ntmps52
    go_wp2
    go_ret
    exact ⟨rfl, rfl⟩
  · rw [check_no h]
    by_cases h1 : 1 ≤ s.size
    · have h2 : 8 < s.size := by omega
      clear h
      go_enter Try.func52, Try.ntmps52
      go_wp2
      go_ret
      exact ⟨rfl, rfl⟩
    · have h2 : s.size < 1 := by omega
      clear h h1
      go_enter Try.func52, Try.ntmps52
      go_wp2
      go_ret
      exact ⟨rfl, rfl⟩

/-- The byte at a place, and one more. -/
theorem run_one (w : World) (v : Int) (h0 : 0 ≤ v) (h1 : v ≤ 255) :
    (convert 82 9 (.slice (some ⟨w.heap.size, 0, none⟩) 1 1)).run Try.prog (w.alloc (.cells #[.int .u8 v] 5)).drew = .ok (.string ⟨#[UInt8.ofNat v.toNat]⟩) (w.alloc (.cells #[.int .u8 v] 5)).drew :=
  run_convert_bytes_back (P := Try.prog) (w.alloc (.cells #[.int .u8 v] 5)).drew 82 9 5 ⟨w.heap.size, 0, none⟩ 1 [UInt8.ofNat v.toNat] Try.underlying82 Try.underlying5 Try.underlying9
    (by intro j hj; simp at hj; subst hj; rw [Addr.add_lit]; show (w.alloc (.cells #[.int .u8 v] 5)).cell? ⟨w.heap.size, 0 + 0, none⟩ = _; rw [World.cell?_alloc_mark]; simp; omega)

-- left out here













-- left out here

















































-- left out here





/-- What In answers. -/
def inL (k a b : List UInt8) : Bool := !(Op.bytesLess k a) && (b == [] || Op.bytesLess k b)

-- left out here




















end Go.Proofs.Ytfjhlckklgeokaa
