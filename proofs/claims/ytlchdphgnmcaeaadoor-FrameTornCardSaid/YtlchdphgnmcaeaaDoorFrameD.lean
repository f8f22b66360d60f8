/- A frame among other bytes: what Next answers; texts as lists. Conditions: none. -/
import Derived.Test.YtlchdphgnmcaeaaDoorFrameC
import Derived.Test.YtlchdphgnmcaeaaDoorCrcB
namespace Go.Proofs.YtlchdphgnmcaeaaDoor
open Go.RowKit Go.PlainAid

theorem bytes_eq {a b : ByteArray} (h : a.data.toList = b.data.toList) : a = b := by
  apply ByteArray.ext
  exact Array.toList_inj.1 h
theorem ext_list (x : ByteArray) (i j : Nat) : (x.extract i j).data.toList = (x.data.toList.take j).drop i := by
  simp [ByteArray.data_extract, List.drop_take]
theorem list_len (x : ByteArray) : x.data.toList.length = x.size := by simp
theorem app_list (x y : ByteArray) : (x ++ y).data.toList = x.data.toList ++ y.data.toList := by rw [ByteArray.data_append, Array.toList_append]
theorem mid_extract (p m q : ByteArray) : (p ++ m ++ q).extract p.size (p.size + m.size) = m := by
  apply bytes_eq
  rw [ext_list, app_list, app_list]
  have hp := list_len p; have hm := list_len m
  rw [List.take_append_of_le_length (by rw [List.length_append]; omega), List.take_of_length_le (by rw [List.length_append]; omega), List.drop_append_of_le_length (by omega), List.drop_of_length_le (by omega), List.nil_append]
theorem loop_list (bs : ByteArray) : ∀ (k i : Nat) (r : List UInt8), bs.size - i = k → ByteArray.toList.loop bs i r = r.reverse ++ bs.data.toList.drop i
  | 0, i, r, h => by
    unfold ByteArray.toList.loop
    rw [if_neg (by omega), List.drop_of_length_le (by rw [list_len]; omega), List.append_nil]
  | k + 1, i, r, h => by
    unfold ByteArray.toList.loop
    have hi : i < bs.size := by omega
    have hl : i < bs.data.toList.length := by rw [list_len]; exact hi
    rw [if_pos hi, loop_list bs k (i + 1) _ (by omega), List.reverse_cons, List.append_assoc, List.drop_eq_getElem_cons hl]
    congr 2
    simp [ByteArray.get!, hi]
theorem toList_data (bs : ByteArray) : bs.toList = bs.data.toList := by
  unfold ByteArray.toList
  rw [loop_list bs bs.size 0 [] rfl]
  simp
theorem toList_beq (a b : ByteArray) : ((a.toList == b.toList) = true) ↔ a = b := by
  rw [beq_iff_eq, toList_data, toList_data]
  exact ⟨fun h => bytes_eq h, fun h => by rw [h]⟩
theorem app_assoc (x y z : ByteArray) : x ++ y ++ z = x ++ (y ++ z) := ByteArray.append_assoc

/-- What Next answers where a number, four bytes and a text stand. -/
theorem next_parts (pre s four post : ByteArray) (h4 : four.size = 4) (n : Nat) (hn : n = s.size) (hs : n ≤ 65536) :
    nextR (pre ++ ⟨(putL (n : Int)).toArray⟩ ++ four ++ s ++ post) (pre.size : Int) = if fourB (addOf 0 ((⟨(putL (n : Int)).toArray⟩ : ByteArray) ++ s).data.toList) = four then (s, ((pre.size + (putL (n : Int)).length + 4 + n : Nat) : Int), 0) else (⟨#[]⟩, 0, 9) := by
  subst hn
  obtain ⟨nb, hnb⟩ : ∃ nb : ByteArray, nb = ⟨(putL (s.size : Int)).toArray⟩ := ⟨_, rfl⟩
  have hnl : nb.size = (putL (s.size : Int)).length := by rw [hnb]; exact mk_size _
  have hsz : (pre ++ nb ++ four ++ s ++ post).size = pre.size + nb.size + 4 + s.size + post.size := by
    simp only [ByteArray.size_append]; omega
  have hhas : has (pre ++ nb ++ four ++ s ++ post) pre.size (putL (s.size : Int)) := by
    rw [app_assoc, app_assoc, hnb]
    exact has_mid pre _ _
  have hg := get_put (s := pre ++ nb ++ four ++ s ++ post) (a := pre.size) (s.size : Int) (by omega) (by omega) (by rw [hsz, ← hnl]; omega) hhas
  have hll := putL_len (s.size : Int)
  have hlb := lenOf_bd (s.size : Int)
  rw [← hnb]
  have hR : nextR (pre ++ nb ++ four ++ s ++ post) (pre.size : Int) = nextG (pre ++ nb ++ four ++ s ++ post) pre.size (pre.size + nb.size) s.size := by
    have t1 : ((pre.size : Nat) : Int).toNat = pre.size := by omega
    have t2 : (((pre.size : Nat) : Int) + lenOf (s.size : Int)).toNat = pre.size + nb.size := by rw [hnl]; omega
    have t3 : ((s.size : Nat) : Int).toNat = s.size := by omega
    unfold nextR
    rw [hg]
    show (if (0 : Int) = 0 then nextG _ ((pre.size : Nat) : Int).toNat (((pre.size : Nat) : Int) + lenOf (s.size : Int)).toNat ((s.size : Nat) : Int).toNat else _) = _
    rw [if_pos rfl, t1, t2, t3]
  rw [hR]
  unfold nextG
  rw [if_neg (by omega), if_neg (by rw [hsz]; omega)]
  have e1 : (pre ++ nb ++ four ++ s ++ post).extract pre.size (pre.size + nb.size) = nb := by
    rw [app_assoc, app_assoc]; exact mid_extract pre nb _
  have e2 : (pre ++ nb ++ four ++ s ++ post).extract (pre.size + nb.size) (pre.size + nb.size + 4) = four := by
    rw [app_assoc]
    have := mid_extract (pre ++ nb) four (s ++ post)
    rw [ByteArray.size_append, h4] at this
    exact this
  have e3 : (pre ++ nb ++ four ++ s ++ post).extract (pre.size + nb.size + 4) (pre.size + nb.size + 4 + s.size) = s := by
    have := mid_extract (pre ++ nb ++ four) s post
    rw [ByteArray.size_append, ByteArray.size_append, h4] at this
    exact this
  have e4 : sumAt (pre ++ nb ++ four ++ s ++ post) pre.size (pre.size + nb.size) s.size = addOf 0 (nb ++ s).data.toList := by
    unfold sumAt; rw [e1, e3]
  rw [e4, e2, e3]
  by_cases h : fourB (addOf 0 (nb ++ s).data.toList) = four
  · rw [if_pos ((toList_beq _ _).2 h), if_pos h, hnl]
  · rw [if_neg (fun h2 => h ((toList_beq _ _).1 h2)), if_neg h]
theorem frameB_parts (s : ByteArray) : frameB s = ⟨(putL (s.size : Int)).toArray⟩ ++ fourB (addOf 0 (numB s ++ s).data.toList) ++ s := rfl
theorem frameB_size (s : ByteArray) : (frameB s).size = (putL (s.size : Int)).length + 4 + s.size := by
  rw [frameB_parts, ByteArray.size_append, ByteArray.size_append, mk_size]; rfl
/-- A frame, whatever stands ahead and behind. -/
theorem next_frame (pre s post : ByteArray) (hs : s.size ≤ 65536) : nextR (pre ++ frameB s ++ post) (pre.size : Int) = (s, ((pre.size + (frameB s).size : Nat) : Int), 0) := by
  have h := next_parts pre s (fourB (addOf 0 (numB s ++ s).data.toList)) post rfl s.size rfl hs
  have h2 := h.trans (if_pos rfl)
  rw [frameB_size, frameB_parts, ← app_assoc, ← app_assoc, h2, show pre.size + ((putL (s.size : Int)).length + 4 + s.size) = pre.size + (putL (s.size : Int)).length + 4 + s.size by omega]
theorem fourB_inj {c d : Nat} (hc : c < 4294967296) (hd : d < 4294967296) (h : fourB c = fourB d) : c = d := by
  have h2 : fourL c = fourL d := by
    have := congrArg (fun x : ByteArray => x.data.toList) h
    simpa [fourB] using this
  simp only [fourL, List.cons.injEq, and_true] at h2
  have f : ∀ x y : Nat, UInt8.ofNat x = UInt8.ofNat y → x % 256 = y % 256 := fun x y e => by
    have := congrArg UInt8.toNat e
    simpa using this
  obtain ⟨h0, h1, h3, h4⟩ := h2
  have g0 := f _ _ h0; have g1 := f _ _ h1; have g2 := f _ _ h3; have g3 := f _ _ h4
  omega
end Go.Proofs.YtlchdphgnmcaeaaDoor
