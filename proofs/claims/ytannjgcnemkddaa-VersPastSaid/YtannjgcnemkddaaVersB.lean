/- Package vers: what Right, lastOf, place, At, Clone, Prune, Put answer. Conditions: lists of at most 1000 versions where one is copied. -/
import Derived.Test.YtannjgcnemkddaaVersA
import Derived.ScopeJumps
import Derived.WalkMore
import Derived.Test.YtannjgcnemkddaaAgreeA
namespace Go.Proofs.Ytannjgcnemkddaa
open Go.RowKit Go.PlainAid

theorem take_rises {l : List CellT} {i : Nat} (h : i < l.length) : rises 0 (l.take (i + 1)) = (rises 0 (l.take i) && decide (lastTs 0 (l.take i) < l[i].1)) := by
  rw [take_snoc h, rises_snoc]
theorem take_last {l : List CellT} {i : Nat} (h : i < l.length) : lastTs 0 (l.take (i + 1)) = l[i].1 := by
  rw [take_snoc h, lastTs_snoc]
theorem rises_take {l : List CellT} (i : Nat) (h : rises 0 (l.take i) = false) : rises 0 l = false := by
  have key : ∀ (a : Int) (x y : List CellT), rises a (x ++ y) = true → rises a x = true := by
    intro a x; induction x generalizing a with
    | nil => intro y _; rfl
    | cons c x ih => intro y h; simp only [List.cons_append, rises, Bool.and_eq_true] at h ⊢; exact ⟨h.1, ih _ y h.2⟩
  rw [← List.take_append_drop i l]
  cases e : rises 0 (l.take i ++ l.drop i) with
  | false => rfl
  | true => rw [key _ _ _ e] at h; cases h

set_option maxRecDepth 100000 in
set_option maxHeartbeats 400000 in
theorem right_any (v : Value) (l : List CellT) (w : World) (hs : SliceOf cellE 3 w v l) (hw : ∀ c ∈ l, cellOk c) :
    Calls Try.prog 32 #[v] w fun e w' => e = .returned (.bool (rises 0 l)) ∧ Below w.heap.size w w' := by
  obtain ⟨ao, cap, rfl, hcap, hcm, _, hcell⟩ := hs
  have HC := Lib.hid hcell; clear hcell
  go_enter Try.func32, Try.ntmps32
  go_wp2
  go_loopg [3, 8] (l.length + 1) (fun g s3 s8 wr => ∃ i : Nat, s8 = .int .i64 i ∧ i ≤ l.length ∧ l.length + 1 ≤ i + g ∧ s3 = .int .u64 (lastTs 0 (l.take i)) ∧ rises 0 (l.take i) = true ∧ Below w.heap.size w wr)
  case atStart => exact ⟨0, rfl, by omega, by omega, rfl, rfl, Below.refl _ _⟩
  case round =>
    obtain ⟨i, rfl, hi, hg, rfl, hri, hbel⟩ := hrel
    have HB := Lib.hid hbel; have hsz := hbel.size; have HRI := Lib.hid hri
    clear hbel hri
    by_cases hlt : i < l.length
    · obtain ⟨b, off, rfl, hr⟩ := HC.out i hlt
      have hr1 : wr.rangeAt b (off + i * 3) (cellE l[i]) := fun j u hu => cell_below HB.out (hr j u hu)
      have h1 := take_rises hlt
      have h2 := take_last hlt
      obtain ⟨c, hc⟩ : ∃ c, c = l[i] := ⟨_, rfl⟩
      rw [← hc] at hr1 h1 h2
      obtain ⟨p, hp⟩ : ∃ p, p = lastTs 0 (l.take i) := ⟨_, rfl⟩
      rw [← hp] at h1
      rw [← hp]
      have H1 := Lib.hid h1; have H2 := Lib.hid h2; have HR := Lib.hid hr1
      clear hr h1 h2 hr1 hc hp
      by_cases hlo : p < c.1
      · go_wp2_with (refine wpList_load_mid rfl 38 (.tmp 10) rfl b (off + i * 3) rfl (cellE c) _ HR.out Try.underlying38 rfl (by kernel_rfl) ?_; unfold cellE)
        go_roundg (gk - 1)
        case rel => exact ⟨i + 1, by go_num, by omega, by omega, by rw [H2.out], by rw [H1.out, HRI.out, decide_eq_true hlo]; rfl, HB.out.alloc hsz _⟩
        case measure => omega
      · have HF := Lib.hid (rises_take (i + 1) (by rw [H1.out, decide_eq_false hlo, Bool.and_false]))
        go_wp2_with (refine wpList_load_mid rfl 38 (.tmp 10) rfl b (off + i * 3) rfl (cellE c) _ HR.out Try.underlying38 rfl (by kernel_rfl) ?_; unfold cellE)
        go_ret
        exact ⟨by rw [HF.out]; rfl, HB.out.alloc hsz _⟩
    · have HT := Lib.hid (show rises 0 l = true by have := HRI.out; rwa [List.take_of_length_le (by omega)] at this)
      go_wp2
      go_ret
      exact ⟨by rw [HT.out]; rfl, HB.out⟩

set_option maxRecDepth 100000 in
set_option maxHeartbeats 400000 in
theorem lastOf_any (v : Value) (l : List CellT) (t : Int) (w : World) (hs : SliceOf cellE 3 w v l) :
    Calls Try.prog 80 #[v, .int .u64 t] w fun e w' => e = .returned (.int .i64 (lastI l t)) ∧ w = w' := by
  obtain ⟨ao, cap, rfl, hcap, hcm, _, hcell⟩ := hs
  have HC := Lib.hid hcell; clear hcell
  go_enter Try.func80, Try.ntmps80
  go_wp2
  go_loopg [5] (l.length + 1) (fun g s5 wr => ∃ k : Nat, s5 = .int .i64 ((k : Int) - 1) ∧ k ≤ l.length ∧ k + 1 ≤ g ∧ lastI l t = down l t k ∧ w = wr)
  case atStart => exact ⟨l.length, rfl, by omega, by omega, rfl, rfl⟩
  case round =>
    obtain ⟨k, rfl, hk, hg, hd, rfl⟩ := hrel
    have HD := Lib.hid hd; clear hd
    by_cases h0 : 0 < k
    · obtain ⟨i, rfl⟩ : ∃ i, k = i + 1 := ⟨k - 1, by omega⟩
      have hi : i < l.length := by omega
      obtain ⟨b, off, rfl, hr⟩ := HC.out i hi
      have hc := hr 0 _ rfl
      rw [Nat.add_zero] at hc
      have hix : ((i + 1 : Nat) : Int) - 1 = (i : Int) := by omega
      have hx := ts_get hi
      obtain ⟨x, hxe⟩ : ∃ x, x = l[i].1 := ⟨_, rfl⟩
      rw [← hxe] at hc hx
      have HX := Lib.hid hx
      clear hr hx hxe
      by_cases hle : x ≤ t
      · have HF := Lib.hid (show lastI l t = i by rw [HD.out, down, HX.out, if_pos hle])
        clear HD
        go_wp2
        go_ret
        exact ⟨ret_int (by rw [HF.out]; omega), rfl⟩
      · have HF := Lib.hid (show lastI l t = down l t i by rw [HD.out, down, HX.out, if_neg hle])
        clear HD
        go_wp2
        go_roundg (gk - 1)
        case rel => exact ⟨i, rfl, by omega, by omega, HF.out, rfl⟩
        case measure => omega
    · obtain rfl : k = 0 := by omega
      have HF := Lib.hid (show lastI l t = -1 from HD.out)
      have hneg : ((0 : Nat) : Int) - 1 = -1 := by omega
      clear HD
      go_wp2
      go_ret
      exact ⟨by rw [HF.out]; rfl, rfl⟩
end Go.Proofs.Ytannjgcnemkddaa
