/- Frames of which the last is cut off, in numbers. No conditions. -/
import Derived.Test.YtlchdphgnmcaeaaDoorFrameG
namespace Go.Proofs.YtlchdphgnmcaeaaDoor
open Go.RowKit Go.PlainAid

theorem two_parts {q : ByteArray} {l m : List UInt8} (h : q.data.toList = l ++ m) : q = ⟨l.toArray⟩ ++ ⟨m.toArray⟩ := by
  apply bytes_eq
  rw [app_list, h]
theorem frameB_list (s : ByteArray) : (frameB s).data.toList = putL (s.size : Int) ++ ((fourB (addOf 0 (numB s ++ s).data.toList)).data.toList ++ s.data.toList) := by
  rw [frameB_parts, app_list, app_list, List.append_assoc]
theorem next_torn (pre q x : ByteArray) (hx : x.size ≤ 65536) (hq : q.data.toList <+: (frameB x).data.toList) (h0 : 0 < q.size) (hlt : q.size < (frameB x).size) : (nextR (pre ++ q) (pre.size : Int)).2.2 = 2 := by
  have hfs := frameB_size x
  have hsz : (pre ++ q).size = pre.size + q.size := ByteArray.size_append
  have hql := list_len q
  rw [frameB_list] at hq
  have hpl := putL_len (x.size : Int)
  have hw := wd_bd (x.size : Int)
  by_cases hk : q.size < (putL (x.size : Int)).length
  · -- the number itself is cut off
    have hn : ¬ (x.size : Int) < 248 := by
      intro h
      have : (putL (x.size : Int)).length = 1 := by rw [putL_small _ h]; rfl
      omega
    have hpre : q.data.toList <+: putL (x.size : Int) := by
      obtain ⟨r, hr⟩ := hq
      refine List.prefix_of_prefix_length_le ⟨r, hr⟩ (List.prefix_append _ _) (by omega)
    have hb := putL_big (x.size : Int) hn
    have hlen : (putL (x.size : Int)).length = 1 + (wd (x.size : Int)).toNat := by rw [hb]; simp [be_len]; omega
    rw [hb] at hpre
    have hqc : ∃ q', q.data.toList = [UInt8.ofNat (247 + wd (x.size : Int)).toNat] ++ q' := by
      cases hql' : q.data.toList with
      | nil => rw [hql'] at hql; simp at hql; omega
      | cons b t =>
        rw [hql'] at hpre
        obtain ⟨r, hr⟩ := hpre
        simp only [List.cons_append, List.cons.injEq] at hr
        exact ⟨t, by rw [hr.1]; rfl⟩
    obtain ⟨q', hq'⟩ := hqc
    have hhas := has_mid pre ⟨q'.toArray⟩ [UInt8.ofNat (247 + wd (x.size : Int)).toNat]
    rw [app_assoc, ← two_parts hq'] at hhas
    have hbt := hhas 0 (by simp)
    simp only [Nat.add_zero, List.getElem_cons_zero, UInt8.toNat_ofNat', show (2 : Nat) ^ 8 = 256 from rfl] at hbt
    have hg : getR (pre ++ q) (pre.size : Int) = (0, 0, 2) := by
      unfold getR
      rw [if_neg (by omega), if_neg (by omega), Int.toNat_natCast, if_neg (by omega), if_pos (by omega)]
    rw [show nextR (pre ++ q) (pre.size : Int) = (⟨#[]⟩, 0, (getR (pre ++ q) (pre.size : Int)).2.2) from if_neg (by rw [hg]; simp), hg]
  · -- the number is whole
    have hqc : ∃ q', q.data.toList = putL (x.size : Int) ++ q' := by
      obtain ⟨r, hr⟩ := hq
      obtain ⟨t, ht⟩ := List.prefix_of_prefix_length_le (List.prefix_append (putL (x.size : Int)) _) ⟨r, hr⟩ (by omega)
      exact ⟨t, ht.symm⟩
    obtain ⟨q', hq'⟩ := hqc
    have hhas := has_mid pre ⟨q'.toArray⟩ (putL (x.size : Int))
    rw [app_assoc, ← two_parts hq'] at hhas
    have hg := get_put (s := pre ++ q) (a := pre.size) (x.size : Int) (by omega) (by omega) (by omega) hhas
    have hg0 : (getR (pre ++ q) (pre.size : Int)).2.2 = 0 := by rw [hg]
    rw [show nextR (pre ++ q) (pre.size : Int) = nextG (pre ++ q) (pre.size : Int).toNat (getR (pre ++ q) (pre.size : Int)).2.1.toNat (getR (pre ++ q) (pre.size : Int)).1.toNat from if_pos hg0, hg]
    unfold nextG
    rw [if_neg (by simp only [Int.toNat_natCast]; omega), if_pos (by simp only [Int.toNat_natCast]; omega)]
/-- Frames one behind the other. -/
def catF (l : List ByteArray) : ByteArray := l.foldl (fun s x => s ++ frameB x) ⟨#[]⟩
theorem catF_snoc (l : List ByteArray) (x : ByteArray) : catF (l ++ [x]) = catF l ++ frameB x := by simp [catF]
theorem catF_list (l m : List ByteArray) : ∃ r, (catF (l ++ m)).data.toList = (catF l).data.toList ++ r := by
  induction m generalizing l with
  | nil => exact ⟨[], by simp⟩
  | cons x m ih =>
    obtain ⟨r, hr⟩ := ih (l ++ [x])
    exact ⟨(frameB x).data.toList ++ r, by rw [show l ++ x :: m = l ++ [x] ++ m by simp, hr, catF_snoc, app_list, List.append_assoc]⟩
theorem catF_take (l : List ByteArray) (k : Nat) : (catF (l.take k)).data.toList <+: (catF l).data.toList := by
  obtain ⟨r, hr⟩ := catF_list (l.take k) (l.drop k)
  rw [List.take_append_drop] at hr
  exact ⟨r, hr.symm⟩
theorem cut_at {C P S : ByteArray} (hC : C.data.toList <+: S.data.toList) (hP : P.data.toList <+: S.data.toList) (h : P.size ≤ C.size) : ∃ q : ByteArray, C = P ++ q := by
  obtain ⟨r, hr⟩ := List.prefix_of_prefix_length_le hP hC (by rw [list_len, list_len]; exact h)
  exact ⟨⟨r.toArray⟩, bytes_eq (by rw [app_list, ← hr])⟩
theorem take_next {l : List ByteArray} {k : Nat} (h : k < l.length) : catF (l.take (k + 1)) = catF (l.take k) ++ frameB l[k] := by
  rw [List.take_succ_eq_append_getElem h, catF_snoc]
theorem run_cut (l : List ByteArray) (hl : ∀ x ∈ l, x.size ≤ 65536) (C : ByteArray) (hC : C.data.toList <+: (catF l).data.toList) : ∀ k, k ≤ l.length → (catF (l.take k)).size ≤ C.size → Run C 0 (l.take k) ((catF (l.take k)).size : Int)
  | 0, _, _ => by rw [List.take_zero]; exact rfl
  | k + 1, hk, hle => by
    have hk' : k < l.length := hk
    have hn := take_next hk'
    have hsz : (catF (l.take (k + 1))).size = (catF (l.take k)).size + (frameB l[k]).size := by rw [hn, ByteArray.size_append]
    have hf := frameB_size l[k]
    have hrun := run_cut l hl C hC k (by omega) (by omega)
    obtain ⟨q, hq⟩ := cut_at hC (catF_take l (k + 1)) hle
    rw [hn] at hq
    have hnx := next_frame (catF (l.take k)) l[k] q (hl _ (List.getElem_mem hk'))
    rw [← hq] at hnx
    have h := hrun.snoc (by omega) (by rw [hnx])
    rw [hnx] at h
    rw [List.take_succ_eq_append_getElem hk', ← List.take_succ_eq_append_getElem hk', hsz]
    rw [List.take_succ_eq_append_getElem hk']
    exact h
theorem all_cut (l : List ByteArray) (hl : ∀ x ∈ l, x.size ≤ 65536) (C : ByteArray) (hC : C.data.toList <+: (catF l).data.toList) (k : Nat) (hk : k ≤ l.length) (hle : (catF (l.take k)).size ≤ C.size)
    (hlast : k = l.length ∨ C.size < (catF (l.take (k + 1))).size) : Run C 0 (l.take k) ((catF (l.take k)).size : Int) ∧ Ends C ((catF (l.take k)).size : Int) (if (catF (l.take k)).size = C.size then 0 else 2) := by
  refine ⟨run_cut l hl C hC k hk hle, ?_⟩
  by_cases he : (catF (l.take k)).size = C.size
  · rw [if_pos he]; exact .inl ⟨by omega, rfl⟩
  · rw [if_neg he]
    refine .inr ⟨by omega, ?_, by omega⟩
    have hCl : C.size ≤ (catF l).size := by
      have := hC.length_le; rw [list_len, list_len] at this; exact this
    have hk' : k < l.length := by
      rcases Nat.lt_or_ge k l.length with h | h
      · exact h
      · have : l.take k = l := List.take_of_length_le h
        rw [this] at he hle; omega
    have hlt : C.size < (catF (l.take (k + 1))).size := by
      rcases hlast with h | h
      · omega
      · exact h
    obtain ⟨q, hq⟩ := cut_at hC (catF_take l k) hle
    have hn := take_next hk'
    have hpre : C.data.toList <+: (catF (l.take (k + 1))).data.toList := List.prefix_of_prefix_length_le hC (catF_take l (k + 1)) (by rw [list_len, list_len]; omega)
    rw [hn, app_list, hq, app_list] at hpre
    have hqp := (List.prefix_append_right_inj _).1 hpre
    have hqs : C.size = (catF (l.take k)).size + q.size := by rw [hq, ByteArray.size_append]
    have hns : (catF (l.take (k + 1))).size = (catF (l.take k)).size + (frameB l[k]).size := by rw [hn, ByteArray.size_append]
    have := next_torn (catF (l.take k)) q l[k] (hl _ (List.getElem_mem hk')) hqp (by omega) (by omega)
    rw [← hq] at this
    exact this.symm
end Go.Proofs.YtlchdphgnmcaeaaDoor
