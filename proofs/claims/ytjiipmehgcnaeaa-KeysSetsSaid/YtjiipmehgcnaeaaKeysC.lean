/- Package keys: Set. Conditions: the texts read as l, within the form's reach. -/
import Derived.Test.YtjiipmehgcnaeaaKeysBn
import Derived.Test.YtjiipmehgcnaeaaStrs
import Derived.Maps.OwnSet
import Derived.Maps.OwnOps
import Derived.Maps.RangeWalk
import Derived.Sort.KeysCollected
import Derived.Sort.OwnSorted
import Derived.Shelf.Sort.Plain
import Derived.Test.YtjiipmehgcnaeaaLay190
namespace Go.Proofs.Ytjiipmehgcnaeaa
open Go.RowKit Go.PlainAid Go.WideMaps Go.Maps Go.Sort Go.Shelf

theorem bl_lt (x y : List UInt8) : Op.bytesLess x y = decide (x < y) := bytesLess_eq x y
/-- A text's bytes. -/
abbrev kb (s : ByteArray) : List UInt8 := s.data.toList
/-- ys rises, and has just what l has. -/
def SetOf (ys l : List ByteArray) : Prop := (ys.map kb).Pairwise (· < ·) ∧ ∀ x, x ∈ ys.map kb ↔ x ∈ l.map kb
def mkB (x : List UInt8) : ByteArray := ⟨x.toArray⟩
theorem kb_mk (x : List UInt8) : kb (mkB x) = x := by simp [kb, mkB]
theorem mk_kb (s : ByteArray) : mkB (kb s) = s := by apply ByteArray.ext; simp [kb, mkB]
theorem kb_inj {a b : ByteArray} (h : kb a = kb b) : a = b := by rw [← mk_kb a, h, mk_kb]
theorem map_kb_mk : ∀ l : List (List UInt8), (l.map mkB).map kb = l
  | [] => rfl
  | x :: l => by rw [List.map_cons, List.map_cons, kb_mk, map_kb_mk l]
theorem map_mk_kb : ∀ l : List ByteArray, (l.map kb).map mkB = l
  | [] => rfl
  | x :: l => by rw [List.map_cons, List.map_cons, mk_kb, map_mk_kb l]
theorem map_kb_inj {a b : List ByteArray} (h : a.map kb = b.map kb) : a = b := by rw [← map_mk_kb a, h, map_mk_kb]
theorem enc_mk (l : List (List UInt8)) : l.map encStr = (l.map mkB).flatMap strE := by
  induction l with
  | nil => rfl
  | cons x l ih => rw [List.map_cons, List.map_cons, List.flatMap_cons, ih]; rfl
theorem rising_eq : ∀ {a b : List (List UInt8)}, a.Pairwise (· < ·) → b.Pairwise (· < ·) → (∀ x, x ∈ a ↔ x ∈ b) → a = b
  | [], [], _, _, _ => rfl
  | [], y :: b, _, _, h => absurd ((h y).2 (by simp)) (by simp)
  | x :: a, [], _, _, h => absurd ((h x).1 (by simp)) (by simp)
  | x :: a, y :: b, ha, hb, h => by
    rw [List.pairwise_cons] at ha hb
    have hxy : x = y := by
      have h1 := (h x).1 (by simp)
      have h2 := (h y).2 (by simp)
      rcases List.mem_cons.1 h1 with e | h1
      · exact e
      · rcases List.mem_cons.1 h2 with e | h2
        · exact e.symm
        · exact absurd (List.lt_trans (ha.1 y h2) (hb.1 x h1)) (List.lt_irrefl x)
    subst hxy
    rw [rising_eq ha.2 hb.2 (fun z => ?_)]
    have hz := h z
    simp only [List.mem_cons] at hz
    constructor
    · intro hm
      rcases hz.1 (.inr hm) with e | k
      · subst e; exact absurd (ha.1 z hm) (List.lt_irrefl z)
      · exact k
    · intro hm
      rcases hz.2 (.inr hm) with e | k
      · subst e; exact absurd (hb.1 z hm) (List.lt_irrefl z)
      · exact k
theorem SetOf.uniq {a b l : List ByteArray} (h : SetOf a l) (k : SetOf b l) : a = b := map_kb_inj (rising_eq h.1 k.1 (fun x => (h.2 x).trans (k.2 x).symm))
theorem sorted_set {ss : List (List UInt8)} {l : List ByteArray} (hn : ss.Nodup) (hm : ∀ x, x ∈ ss ↔ x ∈ l.map kb) : SetOf ((ss.mergeSort fun x y => decide (x ≤ y)).map mkB) l := by
  unfold SetOf
  rw [map_kb_mk]
  have hp := List.mergeSort_perm ss (fun x y => decide (x ≤ y))
  refine ⟨?_, fun x => (hp.mem_iff).trans (hm x)⟩
  have hs : (ss.mergeSort fun x y => decide (x ≤ y)).Pairwise (fun a b => decide (a ≤ b) = true) :=
    List.pairwise_mergeSort (le := fun x y => decide (x ≤ y)) (fun a b c h1 h2 => by simp only [decide_eq_true_eq] at *; exact List.le_trans h1 h2) (fun a b => by simp only [Bool.or_eq_true, decide_eq_true_eq]; exact List.le_total a b) ss
  have hd : (ss.mergeSort fun x y => decide (x ≤ y)).Nodup := hp.symm.nodup hn
  refine List.Pairwise.imp₂ (fun {a b} h1 h2 => ?_) hs hd
  have h1' : a ≤ b := by simpa using h1
  rcases List.le_iff_lt_or_eq.1 h1' with h | h
  · exact h
  · exact absurd h h2

theorem lawS : Keyed Try.prog 9 := string_keyed Try.underlying9
theorem zeroI (w : World) : (zeroValue 3).run Try.prog w = .ok (.int .i64 0) w := by kernel_rfl
theorem info_strK : (Try.prog.info? 9).map (fun i => (i.zero, i.size, i.bytes)) = some (some (.string ⟨#[]⟩), 1, 16) := by kernel_rfl
/-- The map's keys are the texts. -/
def KeysIn (D : DataW Unit) (l : List ByteArray) : Prop := ∀ x, has D (.string x) = true ↔ x ∈ l.map kb
theorem KeysIn.nil : KeysIn (.map []) [] := fun x => by simp [has]
theorem KeysIn.put {D : DataW Unit} {l : List ByteArray} (h : KeysIn D l) (hm : IsMap D) (s : ByteArray) (hs : s.size ≤ maxLen) (d : DataW Unit) : KeysIn (D.put (.string (kb s)) d) (l ++ [s]) := fun x => by
  have hk : WideAt.IsKeyLit (Lit.string (kb s)) := by first | exact trivial | simp [WideAt.IsKeyLit]
  by_cases e : x = kb s
  · subst e
    rw [has_put_same hm hk]
    simp
  · rw [has_put_other (by simpa using e), h x]
    simp [e]

theorem own_lowK {w : World} {B B' : Nat} {e : TypeId} {k : Nat} {v : Value} {n : Nat} {xs : List Value} (h : w.ownsRow B e k v n xs) (hb : B' ≤ B) : w.ownsRow B' e k v n xs := by
  obtain ⟨h1, h2⟩ := h
  refine ⟨h1, ?_⟩
  rcases h2 with h2 | ⟨g, cap, cur, hv, hg, r⟩
  · exact Or.inl h2
  · exact Or.inr ⟨g, cap, cur, hv, Nat.le_trans hb hg, r⟩
theorem sort_strs (blk off cap : Nat) (ss : List (List UInt8)) (w : World) (hH : Holds encStr w blk off ss.toArray) (hblk : blk < w.heap.size) (hsz : ss.length < 4611686018427387904) :
    Calls Try.prog 83 #[.slice (some ⟨blk, off, none⟩) ss.length cap] w fun e w' =>
      e = .returned (.tuple #[]) ∧ ∃ n os, w' = grow (putRow encStr (Sort.ahead w n) blk off (ss.mergeSort fun x y => decide (x ≤ y)).toArray) os :=
  Any.slices_Sort_string Try.lays190 blk off cap ss w hH hblk hsz

set_option maxRecDepth 100000 in
set_option maxHeartbeats 1600000 in
theorem set_any (v : Value) (l : List ByteArray) (w : World) (hs : SliceOf strE 1 w v l) (hl : l.length ≤ 8796093022208) (hsz : ∀ s ∈ l, s.size ≤ 140737488351232) :
    Calls Try.prog 25 #[v] w fun e w' => ∃ g cap ys, e = .returned (.slice (some ⟨g, 0, none⟩) ys.length cap) ∧ SetOf ys l ∧ ys.length ≤ l.length ∧ w'.ownsRow w.heap.size 9 1 (.slice (some ⟨g, 0, none⟩) ys.length cap) ys.length (ys.flatMap strE) ∧ Below w.heap.size w w' := by
  obtain ⟨i0, hi, hz0, hz1, hz2⟩ := info_parts info_strK
  have hmm := @run_makeMap Try.prog
  have HS := Lib.hid hs; have HZ := Lib.hid hsz; clear hsz
  obtain ⟨ao, cap, rfl, hcap, hcm, _, _⟩ := hs
  go_enter Try.func25, Try.ntmps25
  go_wp2
  go_loopg [11] (l.length + 1) (fun g s11 wr => ∃ (k : Nat) (D : DataW Unit), s11 = .int .i64 k ∧ k ≤ l.length ∧ l.length + 1 ≤ k + g ∧ Hid (wr.ownsMap Try.prog 9 (plainElem Try.prog 3) w.heap.size k D) ∧ Hid (KeysIn D (l.take k)) ∧ Hid (Below w.heap.size w wr))
  case atStart => exact ⟨0, .map [], rfl, by omega, by omega, Lib.hid (World.ownsMap_made _ _ _ _), Lib.hid KeysIn.nil, Lib.hid ((Below.refl _ _).alloc (Nat.le_refl _) _)⟩
  case round =>
    obtain ⟨k, D, rfl, hk, hg, HO, HK, HB⟩ := hrel
    by_cases hlt : k < l.length
    · obtain ⟨ao', cap', e1, _, _, _, hx⟩ := HS.out.below HB.out
      simp only [Value.slice.injEq] at e1
      obtain ⟨rfl, _, rfl⟩ := e1
      obtain ⟨b, off, rfl, hr⟩ := hx k hlt
      have hss := HZ.out _ (List.getElem_mem hlt)
      have HT : Hid (l.take (k + 1) = l.take k ++ [l[k]]) := Lib.hid (by rw [List.take_add_one, List.getElem?_eq_getElem hlt]; rfl)
      obtain ⟨s, hs⟩ : ∃ s, s = l[k] := ⟨_, rfl⟩
      rw [← hs] at hr hss HT
      have k0 : wr.cell? ⟨b, off + k, none⟩ = some (.string s) := by simpa using hr 0 _ rfl
      have hkey : keyOf Try.prog 9 (.string s) = some (.string (kb s)) := keyOf_string_mk Try.underlying9 (by unfold maxLen; omega)
      have hdl : decide ((k : Int) < (l.length : Int)) = true := decide_eq_true (by omega)
      have HSS := Lib.hid hss
      clear hs hx hr hss
      go_wp2_with (first
        | (at_lookup; refine wpList_lookup_own_int _ rfl _ _ 128 rfl 9 3 .i64 lawS Try.underlying128 Try.underlying3 (zeroI _) w.heap.size k D rfl HO.out _ _ rfl hkey ?_; intro c hat hwc)
        | (at_mapUpdate; refine wpList_mapUpdate_own _ rfl _ _ _ 128 rfl 9 3 lawS Try.underlying128 _ w.heap.size k _ rfl HO.out (by unfold maxLen; omega) _ _ _ rfl rfl hkey _ [] (plainElem_int Try.underlying3 (wrap64_wf _)) ?_; intro w1 hown1 hgrow1))
      have HO1 := Lib.hid hown1
      have HB1 := Lib.hid (HB.out.grown hgrow1 HB.out.size (fun j hj => by cases hj; exact Nat.le_refl _))
      have HK1 := Lib.hid (HK.out.put HO.out.isMap s (Nat.le_trans HSS.out (by unfold maxLen; decide)) (.lit (.int .i64 (wrap64 (c + 1)))))
      rw [← HT.out] at HK1
      clear hown1 hgrow1 hat hwc
      go_wp2
      go_roundg (gk - 1)
      case rel => exact ⟨k + 1, _, by go_num, by omega, by omega, HO1, HK1, HB1⟩
      case measure => omega
    · obtain rfl : k = l.length := by omega
      have hdl : decide ((l.length : Int) < (l.length : Int)) = false := decide_eq_false (by omega)
      rw [List.take_length] at HK
      have hms := HO.out.size_le
      have hbl := HO.out.lt
      obtain ⟨ms, hmsv⟩ : ∃ ms, ms = Maps.size D := ⟨_, rfl⟩
      have HMS := Lib.hid hmsv
      rw [← hmsv] at hms
      have hsz1 := HB.out.size
      clear hmsv
      go_wp2_with (first
        | (at_len; refine wpList_len_own _ rfl _ 128 rfl 9 3 Try.underlying128 _ w.heap.size l.length _ rfl HO.out ?_; rw [← HMS.out])
        | (at_make; refine wpList_make_own _ rfl _ _ 22 rfl (w.heap.size + 1) 9 i0 (.string ⟨#[]⟩) 1 Try.underlying22 hi hz0 hz1 _ _ _ ms rfl rfl rfl (by rw [hz2]; omega) (by unfold maxLen; omega) hbl ?_; intro w1 hrow1 hg1)
        | (at_range; refine wpList_range_own _ rfl _ 128 rfl 9 3 lawS Try.underlying128 _ w.heap.size l.length D rfl (HO.out.kept hg1 (by simp)) ?_; intro w0 hrg0 hg0 hs0))
      go_frame
      have HS1 := Lib.hid hg1.size
      have HR0 := Lib.hid hrg0
      have HW0 := Lib.hid (hrow1.kept hg0 (Or.inr (by simp [Value.ownBlock])))
      have HB0 := Lib.hid ((HB.out.grown hg1 hsz1 (fun j hj => by cases hj)).grown hg0 (Nat.le_trans hsz1 hg1.size) (fun j hj => by cases hj))
      have HN0 := Lib.hid hg0.size
      obtain ⟨r, hr⟩ : ∃ r, r = w1.heap.size := ⟨_, rfl⟩
      rw [← hr] at HS1 HN0 HR0 ⊢
      have hrb : w.heap.size ≤ r := by have := HS1.out; omega
      clear hr hs0 hg0 hg1 hrow1 hrg0 HS1
      go_loopg [6] (ms + 1) (fun g s6 w2 => ∃ (left : Lit → Bool) (cnt : Nat) (ss : List (List UInt8)), cnt + 1 ≤ g ∧ ss.length + cnt ≤ ms ∧ Hid (w2.ranges Try.prog 9 (plainElem Try.prog 3) w.heap.size r l.length D left cnt) ∧
        Hid (w2.ownsRow (w.heap.size + 1) 9 1 s6 ss.length (ss.map encStr)) ∧ Hid (s6 ≠ .slice none 0 0) ∧ Hid (Collected D left ss) ∧ Hid (Below w.heap.size w w2) ∧ Hid (r ≤ w2.heap.size))
      case atStart =>
        exact ⟨_, _, [], by rw [← HMS.out]; omega, by rw [← HMS.out]; simp, HR0, HW0, Lib.hid (by simp), Lib.hid (Collected.start D), HB0, HN0⟩
      case round =>
        obtain ⟨left, cnt, ss, hg2, hcs, HR, HW, HN, HC, HB2, HSZ⟩ := hrel
        go_wp2_with (at_next; refine wpList_next_ranges _ rfl _ rfl 9 lawS (plainElem Try.prog 3) encStr (Value.int .i64) (fun key kl hk => by obtain ⟨x, hx, _⟩ := Maps.keyOf_str Try.underlying9 hk; exact ⟨x, hx⟩) (fun v y hv => by obtain ⟨c, rfl, _⟩ := plainElem_int_inv Try.underlying3 hv; exact ⟨c, rfl⟩) w.heap.size r l.length _ _ _ rfl HR.out ?_ ?_)
        · intro hc0 hl0
          rcases HW.out.2 with ⟨hnil, _⟩ | ⟨g, cap', cur, rfl, hbase, hb, h1, h2, h3, h4⟩
          · exact absurd hnil HN.out
          have hH : Holds encStr wr g 0 ss.toArray := holds_of_block hb (by simpa using h4)
          have hgl : g < wr.heap.size := (Array.getElem?_eq_some_iff.1 hb).1
          have hc := sort_strs g 0 cap' ss wr hH hgl (by omega)
          have HSET := Lib.hid (sorted_set (ss := ss) (l := l) HC.out.1 (fun x => (HC.out.2 x).trans (by rw [hl0]; simpa using HK.out x)))
          have HL := Lib.hid hl0; have HBK := Lib.hid hb; have HCC := Lib.hid hc; have H3 := Lib.hid h3; have HH1 := Lib.hid h1; have HH2 := Lib.hid h2
          clear hl0 hb hc h3 h4 hH h1 h2
          go_wp2_with (go_at_call 83; refine HCC.out.mono ?_; rintro e w' ⟨rfl, nn, os, rfl⟩)
          go_ret
          refine ⟨g, cap', (ss.mergeSort fun x y => decide (x ≤ y)).map mkB, ?_, HSET.out, by rw [List.length_map, List.length_mergeSort]; omega, ?_, ?_⟩
          · rw [List.length_map, List.length_mergeSort]; rfl
          · rw [List.length_map, List.length_mergeSort, ← enc_mk]
            exact own_lowK (ownsRow_sorted (by simp) hbase HBK.out HH1.out HH2.out H3.out) (Nat.le_succ _)
          · exact HB2.out.grown (grownBy_sorted _) HB2.out.size (fun j hj => by cases hj; omega)
        · intro x c kl yd yp w3 cnt2 hkey hlk hv hat hrg2 hlt hg3 hs2 hen
          obtain ⟨x', ex, rfl, _⟩ := Maps.keyOf_str Try.underlying9 hkey
          obtain rfl : x = x' := encStr_inj ex
          have hrow2 := HW.out.kept hg3 (Or.inr (row_ne_iter HW.out HR.out).symm)
          have hsz3 : w.heap.size + 1 ≤ w3.heap.size := by have := HR.out.owns.lt; have := hg3.size; omega
          have HG3 := Lib.hid hg3; have HR2 := Lib.hid hrg2; have HLK := Lib.hid hlk; have HAT := Lib.hid hat; have HW2 := Lib.hid hrow2
          clear hs2 hg3 hrg2 hlk hat hkey hv hrow2
          go_wp2_with (at_builtin; refine wpList_append_own _ rfl _ _ 22 rfl (w.heap.size + 1) 9 i0 (.string ⟨#[]⟩) 1 16 Try.underlying22 hi hz0 hz1 hz2 rfl (by decide) _ _ _ rfl (HW2.out.alloc _) ⟨w3.heap.size, 0, none⟩ 1 1 [encStr x] rfl rfl (cell_one_new _ _ _) (by simp [Value.oneCell', encStr]) (by unfold maxLen at *; omega) (by omega) (by simp; omega) ?_; intro v' w4 hown' hg4 hnil4)
          have HR4 := Lib.hid ((HR2.out.alloc (.cells #[encStr x] 9)).kept hg4 (row_ne_low HW2.out (Nat.lt_succ_self _)) (row_ne_iter HW2.out HR2.out))
          have HW4 := Lib.hid (show w4.ownsRow (w.heap.size + 1) 9 1 v' (ss ++ [x]).length ((ss ++ [x]).map encStr) by simpa using hown')
          have HN4 : Hid (v' ≠ .slice none 0 0) := Lib.hid (fun hv' => by have := (hnil4.1 hv').2; omega)
          have HC4 := Lib.hid (HC.out.step HLK.out HAT.out)
          have HB4 := Lib.hid (((HB2.out.grown HG3.out HB2.out.size (fun j hj => by cases hj; exact hrb)).alloc (by omega) (.cells #[encStr x] 9)).grown hg4 (by simp; omega) (fun j hj => Nat.le_of_succ_le (HW2.out.lt j hj).1))
          have HS4 : Hid (r ≤ w4.heap.size) := Lib.hid (by have h5 := hg4.size; have h6 := HG3.out.size; have h7 := HSZ.out; simp at h5; omega)
          have hlen : (ss ++ [x]).length = ss.length + 1 := by simp
          clear hown' hg4 hnil4
          go_wp2
          go_roundg (gk - 1)
          case rel => exact ⟨_, cnt2, ss ++ [x], by omega, by rw [hlen]; omega, HR4, HW4, HN4, HC4, HB4, HS4⟩
          case measure => omega
end Go.Proofs.Ytjiipmehgcnaeaa
