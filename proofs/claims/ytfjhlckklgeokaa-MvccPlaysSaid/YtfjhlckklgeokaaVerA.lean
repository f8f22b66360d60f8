/- Package vers: what the program's Right, place, At, Put, Prune answer; rows of their own; what follows of versions that rise. Conditions: at most 900 versions. -/
import Derived.Test.YtfjhlckklgeokaaOpen
import Derived.Test.YtfjhlckklgeokaaPexB
import Derived.ScopeJumps
import Derived.WalkMore
import Derived.Deep.AppendLies
import Derived.Deep.RegionLaw
namespace Go.Proofs.Ytfjhlckklgeokaa
open Go.RowKit Go.PlainAid
set_option linter.unusedVariables false



/-- A version: timestamp, value, is it gone. -/
abbrev CellT := Int × ByteArray × Bool
def cellE (c : CellT) : List Value := [.int .u64 c.1, .string c.2.1, .bool c.2.2]
def cellOk (c : CellT) : Prop := (Lit.int .u64 c.1).wf = true
section
variable {H : Type} {enc : TypeId × Value → H} {w : World} {base : Nat} {spare : Nat → Bool} {held : Bool}
set_option maxRecDepth 10000 in
theorem elem_cell (n : Nat) (cs : List Value) (x : DataW H × List MemPlace) (h : DataW.trod enc Try.prog w base spare held n 71 cs = some x) : ∃ p, cs = cellE p ∧ cellOk p := by
  obtain ⟨hl, m, hf⟩ := trod_fields Try.underlying71 (by kernel_rfl) (by kernel_rfl) h
  have hl3 : cs.length = 3 := hl
  clear hl
  match cs, hl3 with
  | [c0, c1, c2], _ =>
    obtain ⟨_, y0, e0, h0⟩ := hf 0 _ rfl
    obtain ⟨_, y1, e1, h1⟩ := hf 1 _ rfl
    obtain ⟨_, y2, e2, h2⟩ := hf 2 _ rfl
    cases e0; cases e1; cases e2
    obtain ⟨a, e0, _, w0⟩ := DataW.trod_int Try.underlying29 h0
    obtain ⟨b, e1, _, _⟩ := DataW.trod_string Try.underlying9 h1
    obtain ⟨c, e2, _⟩ := DataW.trod_bool Try.underlying4 h2
    simp only [List.cons.injEq, and_true] at e0 e1 e2
    subst e0 e1 e2
    exact ⟨(a, b, c), rfl, w0⟩
theorem open_cells {fuel : Nat} {cs : List Value} {x : DataW H × List MemPlace} (h : DataW.trod enc Try.prog w base spare held fuel 62 cs = some x) :
    ∃ (l : List CellT) (v : Value), cs = [v] ∧ SliceOf cellE 3 w v l ∧ ∀ p ∈ l, cellOk p :=
  open_rows cellE 3 cellOk Try.underlying62 (by kernel_rfl) (by omega) elem_cell h
end

/-- The timestamp at a place. -/
def ts (l : List CellT) (i : Nat) : Int := (l.getD i (0, ByteArray.empty, false)).1
theorem ts_get {l : List CellT} {i : Nat} (h : i < l.length) : ts l i = l[i].1 := by
  simp [ts, List.getD, List.getElem?_eq_getElem h]
/-- Do the timestamps rise, the first one above a? -/
def rises : Int → List CellT → Bool
  | _, [] => true
  | a, c :: r => decide (a < c.1) && rises c.1 r
/-- The last timestamp, a without. -/
def lastTs : Int → List CellT → Int
  | a, [] => a
  | _, c :: r => lastTs c.1 r
theorem rises_snoc : ∀ (a : Int) (l : List CellT) (c : CellT), rises a (l ++ [c]) = (rises a l && decide (lastTs a l < c.1))
  | a, [], c => by show (decide (a < c.1) && true) = (true && decide (a < c.1)); rw [Bool.and_true, Bool.true_and]
  | a, d :: r, c => by
    show (decide (a < d.1) && rises d.1 (r ++ [c])) = ((decide (a < d.1) && rises d.1 r) && decide (lastTs d.1 r < c.1))
    rw [rises_snoc d.1 r c, Bool.and_assoc]
theorem lastTs_snoc : ∀ (a : Int) (l : List CellT) (c : CellT), lastTs a (l ++ [c]) = c.1
  | _, [], _ => rfl
  | _, d :: r, c => lastTs_snoc d.1 r c
theorem lastTs_ts (a : Int) (l : List CellT) (h : 0 < l.length) : lastTs a l = ts l (l.length - 1) := by
  obtain ⟨r, c, rfl⟩ : ∃ r c, l = r ++ [c] := ⟨_, _, (List.dropLast_concat_getLast (by intro e; subst e; simp at h)).symm⟩
  rw [lastTs_snoc, ts_get (by simp)]; simp
theorem rises_lt : ∀ (a : Int) (l : List CellT), rises a l = true → ∀ i j, i < j → j < l.length → a < ts l i ∧ ts l i < ts l j
  | a, [], _, i, j, _, hj => absurd hj (by simp)
  | a, c :: r, h, i, j, hij, hj => by
    simp only [rises, Bool.and_eq_true, decide_eq_true_eq] at h
    obtain ⟨h1, h2⟩ := h
    have key : ∀ k, k < r.length → c.1 < ts r k := fun k hk => by
      cases k with
      | zero => cases r with
        | nil => simp at hk
        | cons d r => simp only [rises, Bool.and_eq_true, decide_eq_true_eq] at h2; exact h2.1
      | succ k => exact Int.lt_trans (rises_lt c.1 r h2 0 (k + 1) (by omega) hk).1 (rises_lt c.1 r h2 0 (k + 1) (by omega) hk).2
    obtain ⟨j, rfl⟩ : ∃ k, j = k + 1 := ⟨j - 1, by omega⟩
    have hj' : j < r.length := by simpa using hj
    cases i with
    | zero => exact ⟨h1, key j hj'⟩
    | succ i =>
      have := rises_lt c.1 r h2 i j (by omega) hj'
      exact ⟨Int.lt_trans h1 this.1, this.2⟩

/-- The last place below k whose timestamp is not above t; -1 without. -/
def down (l : List CellT) (t : Int) : Nat → Int
  | 0 => -1
  | k + 1 => if ts l k ≤ t then k else down l t k
def lastI (l : List CellT) (t : Int) : Int := down l t l.length
theorem down_at {l : List CellT} {t : Int} (k : Nat) : ∀ (n : Nat), k ≤ n → (∀ j, j < k → ts l j ≤ t) → (∀ j, k ≤ j → j < n → t < ts l j) → down l t n = (k : Int) - 1
  | 0, h, _, _ => by obtain rfl : k = 0 := by omega
                     rfl
  | n + 1, h, h1, h2 => by
    by_cases hk : k ≤ n
    · have := h2 n hk (by omega)
      rw [down, if_neg (by omega)]
      exact down_at k n hk h1 (fun j hj hjn => h2 j hj (by omega))
    · obtain rfl : k = n + 1 := by omega
      have := h1 n (by omega)
      rw [down, if_pos this]; omega
theorem down_bd (l : List CellT) (t : Int) : ∀ n, -1 ≤ down l t n ∧ down l t n < n ∧ (0 ≤ down l t n → ts l (down l t n).toNat ≤ t)
  | 0 => by simp [down]
  | n + 1 => by
    rw [down]
    split
    · refine ⟨by omega, by omega, fun _ => ?_⟩
      rw [Int.toNat_natCast]; assumption
    · have := down_bd l t n
      exact ⟨this.1, by omega, this.2.2⟩



theorem takeV_snoc {α : Type} {l : List α} {i : Nat} (h : i < l.length) : l.take (i + 1) = l.take i ++ [l[i]] := by
  rw [List.take_add_one, List.getElem?_eq_getElem h]; rfl
theorem take_rises {l : List CellT} {i : Nat} (h : i < l.length) : rises 0 (l.take (i + 1)) = (rises 0 (l.take i) && decide (lastTs 0 (l.take i) < l[i].1)) := by
  rw [takeV_snoc h, rises_snoc]
theorem take_last {l : List CellT} {i : Nat} (h : i < l.length) : lastTs 0 (l.take (i + 1)) = l[i].1 := by
  rw [takeV_snoc h, lastTs_snoc]
theorem rises_take {l : List CellT} (i : Nat) (h : rises 0 (l.take i) = false) : rises 0 l = false := by
  have key : ∀ (a : Int) (x y : List CellT), rises a (x ++ y) = true → rises a x = true := by
    intro a x; induction x generalizing a with
    | nil => intro y _; rfl
    | cons c x ih => intro y h; simp only [List.cons_append, rises, Bool.and_eq_true] at h ⊢; exact ⟨h.1, ih _ y h.2⟩
  rw [← List.take_append_drop i l]
  cases e : rises 0 (l.take i ++ l.drop i) with
  | false => rfl
  | true => rw [key _ _ _ e] at h; cases h

set_option maxRecDepth 100000 in
set_option maxHeartbeats 400000 in
theorem right_any (v : Value) (l : List CellT) (w : World) (hs : SliceOf cellE 3 w v l) (hw : ∀ c ∈ l, cellOk c) :
    Calls Try.prog 56 #[v] w fun e w' => e = .returned (.bool (rises 0 l)) ∧ Below w.heap.size w w' := by
  obtain ⟨ao, cap, rfl, hcap, hcm, _, hcell⟩ := hs
  have HC := Lib.hid hcell; clear hcell
  go_enter Try.func56, Try.ntmps56
  go_wp2
  go_loopg [3, 8] (l.length + 1) (fun g s3 s8 wr => ∃ i : Nat, s8 = .int .i64 i ∧ i ≤ l.length ∧ l.length + 1 ≤ i + g ∧ s3 = .int .u64 (lastTs 0 (l.take i)) ∧ rises 0 (l.take i) = true ∧ Below w.heap.size w wr)
  case atStart => exact ⟨0, rfl, by omega, by omega, rfl, rfl, Below.refl _ _⟩
  case round =>
    obtain ⟨i, rfl, hi, hg, rfl, hri, hbel⟩ := hrel
    have HB := Lib.hid hbel; have hsz := hbel.size; have HRI := Lib.hid hri
    clear hbel hri
    by_cases hlt : i < l.length
    · obtain ⟨b, off, rfl, hr⟩ := HC.out i hlt
      have hr1 : wr.rangeAt b (off + i * 3) (cellE l[i]) := fun j u hu => cell_below HB.out (hr j u hu)
      have h1 := take_rises hlt
      have h2 := take_last hlt
      obtain ⟨c, hc⟩ : ∃ c, c = l[i] := ⟨_, rfl⟩
      rw [← hc] at hr1 h1 h2
      obtain ⟨p, hp⟩ : ∃ p, p = lastTs 0 (l.take i) := ⟨_, rfl⟩
      rw [← hp] at h1
      rw [← hp]
      have H1 := Lib.hid h1; have H2 := Lib.hid h2; have HR := Lib.hid hr1
      clear hr h1 h2 hr1 hc hp
      by_cases hlo : p < c.1
      · go_wp2_with (refine wpList_load_mid rfl 71 (.tmp 10) rfl b (off + i * 3) rfl (cellE c) _ HR.out Try.underlying71 rfl (by kernel_rfl) ?_; unfold cellE)
        go_roundg (gk - 1)
        case rel => exact ⟨i + 1, by go_num, by omega, by omega, by rw [H2.out], by rw [H1.out, HRI.out, decide_eq_true hlo]; rfl, HB.out.alloc hsz _⟩
        case measure => omega
      · have HF := Lib.hid (rises_take (i + 1) (by rw [H1.out, decide_eq_false hlo, Bool.and_false]))
        go_wp2_with (refine wpList_load_mid rfl 71 (.tmp 10) rfl b (off + i * 3) rfl (cellE c) _ HR.out Try.underlying71 rfl (by kernel_rfl) ?_; unfold cellE)
        go_ret
        exact ⟨by rw [HF.out]; rfl, HB.out.alloc hsz _⟩
    · have HT := Lib.hid (show rises 0 l = true by have := HRI.out; rwa [List.take_of_length_le (by omega)] at this)
      go_wp2
      go_ret
      exact ⟨by rw [HT.out]; rfl, HB.out⟩

set_option maxRecDepth 100000 in
set_option maxHeartbeats 400000 in
theorem lastOf_any (v : Value) (l : List CellT) (t : Int) (w : World) (hs : SliceOf cellE 3 w v l) :
    Calls Try.prog 57 #[v, .int .u64 t] w fun e w' => e = .returned (.int .i64 (lastI l t)) ∧ w = w' := by
  obtain ⟨ao, cap, rfl, hcap, hcm, _, hcell⟩ := hs
  have HC := Lib.hid hcell; clear hcell
  go_enter Try.func57, Try.ntmps57
  go_wp2
  go_loopg [5] (l.length + 1) (fun g s5 wr => ∃ k : Nat, s5 = .int .i64 ((k : Int) - 1) ∧ k ≤ l.length ∧ k + 1 ≤ g ∧ lastI l t = down l t k ∧ w = wr)
  case atStart => exact ⟨l.length, rfl, by omega, by omega, rfl, rfl⟩
  case round =>
    obtain ⟨k, rfl, hk, hg, hd, rfl⟩ := hrel
    have HD := Lib.hid hd; clear hd
    by_cases h0 : 0 < k
    · obtain ⟨i, rfl⟩ : ∃ i, k = i + 1 := ⟨k - 1, by omega⟩
      have hi : i < l.length := by omega
      obtain ⟨b, off, rfl, hr⟩ := HC.out i hi
      have hc := hr 0 _ rfl
      rw [Nat.add_zero] at hc
      have hix : ((i + 1 : Nat) : Int) - 1 = (i : Int) := by omega
      have hx := ts_get hi
      obtain ⟨x, hxe⟩ : ∃ x, x = l[i].1 := ⟨_, rfl⟩
      rw [← hxe] at hc hx
      have HX := Lib.hid hx
      clear hr hx hxe
      by_cases hle : x ≤ t
      · have HF := Lib.hid (show lastI l t = i by rw [HD.out, down, HX.out, if_pos hle])
        clear HD
        go_wp2
        go_ret
        exact ⟨ret_int (by rw [HF.out]; omega), rfl⟩
      · have HF := Lib.hid (show lastI l t = down l t i by rw [HD.out, down, HX.out, if_neg hle])
        clear HD
        go_wp2
        go_roundg (gk - 1)
        case rel => exact ⟨i, rfl, by omega, by omega, HF.out, rfl⟩
        case measure => omega
    · obtain rfl : k = 0 := by omega
      have HF := Lib.hid (show lastI l t = -1 from HD.out)
      have hneg : ((0 : Nat) : Int) - 1 = -1 := by omega
      clear HD
      go_wp2
      go_ret
      exact ⟨by rw [HF.out]; rfl, rfl⟩



set_option maxRecDepth 100000 in
set_option maxHeartbeats 800000 in
theorem place_rising (v : Value) (l : List CellT) (t : Int) (w : World) (hs : SliceOf cellE 3 w v l) (hw : ∀ c ∈ l, cellOk c) (hr : rises 0 l = true) :
    Calls Try.prog 46 #[v, .int .u64 t] w fun e w' => e = .returned (.int .i64 (lastI l t)) ∧ Below w.heap.size w w' := by
  have HS := Lib.hid hs; have HW := Lib.hid hw; have HR := Lib.hid hr
  obtain ⟨ao, cap, rfl, hcap, hcm, _, hcell⟩ := hs
  have HC := Lib.hid hcell; clear hcell hr
  go_enter Try.func46, Try.ntmps46
  go_wp2
  refine wp_scope_jumps 0 (fun a' w' => ∃ (low high : Nat) (u7 u16 u17 u18 u19 u20 u21 u22 u23 u24 u25 u26 u27 u28 u29 u30 u31 u32 u33 u34 : Value), a' = { tmps := #[.slice ao l.length cap, .int .u64 t, undef, undef, .int .i64 0, .int .i64 low, .int .i64 high, u7, .slice ao l.length cap, .bool true, .bool false, undef, undef, undef, .slice ao l.length cap, .int .i64 l.length, u16, u17, u18, u19, u20, u21, u22, u23, u24, u25, u26, u27, u28, u29, u30, u31, u32, u33, u34, undef, undef], defers := [] } ∧ low ≤ high ∧ high ≤ l.length ∧ (∀ j, j < low → ts l j ≤ t) ∧ (∀ j, high ≤ j → j < l.length → t < ts l j) ∧ Below w.heap.size w w')
    (fun a' _ => (intOf (a'.tmps.getD 6 undef) - intOf (a'.tmps.getD 5 undef)).toNat) rfl ?_ ?_
  · go_wp2_with fail
    refine (right_any _ _ _ HS.out HW.out).mono ?_
    rintro e w1 ⟨rfl, hb1⟩
    rw [HR.out]
    have HB := Lib.hid hb1; clear hb1
    go_wp2_with fail
    go_step3
    have H1 : Hid (∀ j, j < 0 → ts l j ≤ t) := fun j hj => absurd hj (by omega)
    have H2 : Hid (∀ j, l.length ≤ j → j < l.length → t < ts l j) := fun j h1 h2 => absurd h1 (by omega)
    by_cases hlt : 0 < l.length
    · have hmid : l.length / 2 < l.length := by omega
      obtain ⟨b, off, rfl, hrr⟩ := HC.out _ hmid
      obtain ⟨mid, hm⟩ : ∃ mid, mid = l.length / 2 := ⟨_, rfl⟩
      have hc := cell_below HB.out (hrr 0 _ rfl)
      rw [Nat.add_zero] at hc
      have hx := ts_get hmid
      obtain ⟨x, hxe⟩ : ∃ x, x = (l[l.length / 2]'hmid).1 := ⟨_, rfl⟩
      rw [← hxe] at hc hx
      rw [← hm] at hx
      have HX := Lib.hid hx; have HM := Lib.hid hm
      have hml : 0 ≤ mid := by omega
      have hmh : mid < l.length := by omega
      have hmL : mid < l.length := by omega
      clear hrr hx hxe hm hmid
      have hup : ∀ i j, i < j → j < l.length → ts l i < ts l j := fun i j hij hj => (rises_lt 0 l HR.out i j hij hj).2
      have HUP := Lib.hid hup; clear hup
      by_cases hle : x ≤ t
      · go_wp2
        go_step3
        have e1 : (l.length : Int) / 2 + 1 = ((mid + 1 : Nat) : Int) := by have := HM.out; omega
        rw [e1]
        refine ⟨rfl, ⟨mid + 1, l.length, _, _, _, _, _, _, _, _, _, _, _, _, _, _, _, _, _, _, _, _, rfl, ?_⟩⟩
        have := HX.out
        refine ⟨by omega, by omega, fun j hj => ?_, H2.out, HB.out⟩
        by_cases hjm : j = mid
        · subst hjm; omega
        · have := HUP.out j mid (by omega) hmL; omega
      · go_wp2
        go_step3
        have e1 : (l.length : Int) / 2 = ((mid : Nat) : Int) := by have := HM.out; omega
        rw [e1]
        refine ⟨rfl, ⟨0, mid, _, _, _, _, _, _, _, _, _, _, _, _, _, _, _, _, _, _, _, _, rfl, ?_⟩⟩
        have := HX.out
        refine ⟨by omega, by omega, H1.out, fun j hj hjl => ?_, HB.out⟩
        by_cases hjm : j = mid
        · subst hjm; omega
        · have := HUP.out mid j (by omega) hjl; omega
    · have HF := Lib.hid (show lastI l t = (0 : Int) - 1 from down_at 0 l.length (by omega) H1.out (fun j hj => H2.out j (by omega)))
      go_wp2
      simp only [Exit.jump]
      go_ret
      exact ⟨ret_int (by have := HF.out; omega), HB.out⟩
  · rintro a' w' ⟨low, high, u7, u16, u17, u18, u19, u20, u21, u22, u23, u24, u25, u26, u27, u28, u29, u30, u31, u32, u33, u34, rfl, hlh, hhigh, h1, h2, hbel⟩
    have HB := Lib.hid hbel; have H1 := Lib.hid h1; have H2 := Lib.hid h2
    clear hbel h1 h2
    by_cases hlt : low < high
    · have hmid : low + (high - low) / 2 < l.length := by omega
      obtain ⟨b, off, rfl, hrr⟩ := HC.out _ hmid
      obtain ⟨mid, hm⟩ : ∃ mid, mid = low + (high - low) / 2 := ⟨_, rfl⟩
      have hc := cell_below HB.out (hrr 0 _ rfl)
      rw [Nat.add_zero] at hc
      have hx := ts_get hmid
      obtain ⟨x, hxe⟩ : ∃ x, x = (l[low + (high - low) / 2]'hmid).1 := ⟨_, rfl⟩
      rw [← hxe] at hc hx
      rw [← hm] at hx
      have HX := Lib.hid hx; have HM := Lib.hid hm
      have hml : low ≤ mid := by omega
      have hmh : mid < high := by omega
      have hmL : mid < l.length := by omega
      clear hrr hx hxe hm hmid
      have hup : ∀ i j, i < j → j < l.length → ts l i < ts l j := fun i j hij hj => (rises_lt 0 l HR.out i j hij hj).2
      have HUP := Lib.hid hup; clear hup
      by_cases hle : x ≤ t
      · go_wp2
        go_step3
        have e1 : (low : Int) + ((high : Int) - (low : Int)) / 2 + 1 = ((mid + 1 : Nat) : Int) := by have := HM.out; omega
        rw [e1]
        refine ⟨rfl, ⟨mid + 1, high, _, _, _, _, _, _, _, _, _, _, _, _, _, _, _, _, _, _, _, _, rfl, ?_⟩, ?_⟩
        rotate_left
        · (simp [intOf] <;> omega)
        have := HX.out
        refine ⟨by omega, by omega, fun j hj => ?_, H2.out, HB.out⟩
        by_cases hjm : j = mid
        · subst hjm; omega
        · have := HUP.out j mid (by omega) hmL; omega
      · go_wp2
        go_step3
        have e1 : (low : Int) + ((high : Int) - (low : Int)) / 2 = ((mid : Nat) : Int) := by have := HM.out; omega
        rw [e1]
        refine ⟨rfl, ⟨low, mid, _, _, _, _, _, _, _, _, _, _, _, _, _, _, _, _, _, _, _, _, rfl, ?_⟩, ?_⟩
        rotate_left
        · (simp [intOf] <;> omega)
        have := HX.out
        refine ⟨by omega, by omega, H1.out, fun j hj hjl => ?_, HB.out⟩
        by_cases hjm : j = mid
        · subst hjm; omega
        · have := HUP.out mid j (by omega) hjl; omega
    · have HF := Lib.hid (show lastI l t = (low : Int) - 1 from down_at low l.length (by omega) H1.out (fun j hj => H2.out j (by omega)))
      go_wp2
      simp only [Exit.jump]
      go_ret
      exact ⟨ret_int (by have := HF.out; omega), HB.out⟩

theorem place_any (v : Value) (l : List CellT) (t : Int) (w : World) (hs : SliceOf cellE 3 w v l) (hw : ∀ c ∈ l, cellOk c) :
    Calls Try.prog 46 #[v, .int .u64 t] w fun e w' => e = .returned (.int .i64 (lastI l t)) ∧ Below w.heap.size w w' := by
  cases hr : rises 0 l with
  | true => exact place_rising v l t w hs hw hr
  | false =>
    have HS := Lib.hid hs; have HW := Lib.hid hw; have HR := Lib.hid hr
    clear hs hw hr
    go_enter Try.func46, Try.ntmps46
    go_wp2
    go_step3
    go_wp2_with fail
    refine (right_any _ _ _ HS.out HW.out).mono ?_
    rintro e w1 ⟨rfl, hb1⟩
    rw [HR.out]
    have HB := Lib.hid hb1; have HS1 := Lib.hid (HS.out.below hb1); clear hb1
    go_wp2_with fail
    refine (lastOf_any _ _ _ _ HS1.out).mono ?_
    rintro e w2 ⟨rfl, rfl⟩
    go_wp2
    rw [Exit.noGoto_ret]
    go_ret
    exact ⟨rfl, HB.out⟩
end Go.Proofs.Ytfjhlckklgeokaa
