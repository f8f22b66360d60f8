/- What is put is read as it was: without the program. Conditions: none. -/
import Derived.Test.YthmljllgfigebaaLb4
import Derived.Test.YthmljllgfigebaaVnD
namespace Go.Proofs.Ythmljllgfigebaa
open Go.RowKit Go.PlainAid

/-- A part's bytes. -/
theorem has_front (l : List UInt8) (c : ByteArray) : has (⟨l.toArray⟩ ++ c) 0 l := by
  intro j hj
  rw [Nat.zero_add, bt_app_left _ _ _ (show j < (⟨l.toArray⟩ : ByteArray).size from hj), bt_lit _ _ hj]
theorem size_front (l : List UInt8) (c : ByteArray) : ((⟨l.toArray⟩ ++ c : ByteArray)).size = l.length + c.size := by
  rw [ByteArray.size_append]; rfl
/-- The part that stands at place i. -/
theorem numR_put {T : ByteArray} {a : Nat} {m : Int} (h0 : 0 ≤ m) (h1 : m ≤ 9223372036854775807) (h : has T a (putL m)) (hs : a + (putL m).length ≤ T.size) : numR T a 0 m = (m, ((a + (putL m).length : Nat) : Int), 0) := by
  have hg := get_put m h0 (by omega) hs h
  have hl := putL_len m
  have hu := upR_of (m := m) (x := 5) hg
  rw [if_neg (by simp), if_neg (by omega)] at hu
  unfold numR
  rw [if_neg (by simp), hu]
  simp only [if_true]
  congr 2; omega
theorem bigR_put {T : ByteArray} {a : Nat} {m : Int} (h0 : 0 ≤ m) (h1 : m < 18446744073709551616) (h : has T a (putL m)) (hs : a + (putL m).length ≤ T.size) : bigR T a 0 = (m, ((a + (putL m).length : Nat) : Int), 0) := by
  have hg := get_put m h0 (by omega) hs h
  have hl := putL_len m
  unfold bigR
  rw [if_neg (by simp), hg]
  simp only [if_true]
  congr 2; omega
theorem extract_has {T t : ByteArray} {a : Nat} (h : has T a t.data.toList) (hs : a + t.size ≤ T.size) : T.extract a (a + t.size) = t := by
  apply ByteArray.ext
  apply Array.ext
  · simp; omega
  · intro j h1 h2
    have hj : j < t.data.toList.length := by simpa using h2
    have hb := h j hj
    rw [bt_data] at hb
    have hl : a + j < T.data.toList.length := by
      have : j < t.size := by simpa using h2
      simp only [Array.length_toList, ByteArray.size_data]; omega
    rw [List.getD_eq_getElem?_getD, List.getElem?_eq_getElem hl, Option.getD_some] at hb
    have hb2 : T.data.toList[a + j] = t.data.toList[j] := UInt8.toNat_inj.1 (by omega)
    simp only [ByteArray.data_extract, Array.getElem_extract]
    simpa using hb2
theorem textR_put {T t : ByteArray} {a : Nat} (ht : t.size ≤ 9223372036854775807) (h : has T a (putL (t.size : Int) ++ t.data.toList)) (hs : a + (putL (t.size : Int) ++ t.data.toList).length ≤ T.size) :
    textR T a 0 (t.size : Int) = (t, ((a + (putL (t.size : Int) ++ t.data.toList).length : Nat) : Int), 0) := by
  have hlt : t.data.toList.length = t.size := by simp
  rw [List.length_append, hlt] at hs
  obtain ⟨h1, h2⟩ := has_app h
  have hg := get_put (t.size : Int) (by omega) (by omega) (by omega) h1
  have hl := putL_len (t.size : Int)
  have hu := upR_of (m := (t.size : Int)) (x := 3) hg
  rw [if_neg (by simp), if_neg (by omega)] at hu
  have hn : ((a : Int) + lenOf (t.size : Int)).toNat = a + (putL (t.size : Int)).length := by omega
  unfold textR
  rw [if_neg (by simp), hu, if_neg (by simp)]
  simp only
  rw [if_neg (by omega), hn, Int.toNat_natCast, extract_has h2 (by omega), List.length_append, hlt]
  refine Prod.ext rfl (Prod.ext ?_ rfl)
  show (a : Int) + lenOf (t.size : Int) + (t.size : Int) = ((a + ((putL (t.size : Int)).length + t.size) : Nat) : Int)
  omega
theorem flagR_put {T : ByteArray} {a : Nat} {f : Bool} (h : has T a [flagB f]) (hs : a + 1 ≤ T.size) : flagR T a 0 = (f, ((a + 1 : Nat) : Int), 0) := by
  have hb := h 0 (by simp)
  simp only [Nat.add_zero, List.getElem_cons_zero] at hb
  unfold flagR
  rw [if_neg (by simp), if_neg (by omega), hb]
  cases f <;> simp [flagB]

end Go.Proofs.Ythmljllgfigebaa
