/- Package catenaref02: a Writer. Conditions: what is written is at most 2^47 bytes. -/
import Derived.Test.YthmljllgfigebaaLb2
import Derived.Test.YthmljllgfigebaaLb3
import Derived.Test.YthmljllgfigebaaVnF
namespace Go.Proofs.Ythmljllgfigebaa
open Go.RowKit Go.PlainAid

theorem ba_app (l k : List UInt8) : (⟨l.toArray⟩ ++ ⟨k.toArray⟩ : ByteArray) = ⟨(l ++ k).toArray⟩ := by
  apply ByteArray.ext
  simp
theorem ba_of (s : ByteArray) : s = ⟨s.data.toList.toArray⟩ := by simp
theorem ba_app2 (k : List UInt8) (s : ByteArray) : (⟨k.toArray⟩ ++ s : ByteArray) = ⟨(k ++ s.data.toList).toArray⟩ := by
  apply ByteArray.ext
  simp
/-- The document's own Writer: block b. -/
structure RWr (w : World) (b : Nat) (l : List UInt8) (e : Int) : Prop where
  txt : w.cell? ⟨b, 0, none⟩ = some (.string ⟨l.toArray⟩)
  err : w.cell? ⟨b, 1, none⟩ = some (.int .i64 e)
  fr0 : w.frozen? ⟨b, 0, none⟩ = false
  fr1 : w.frozen? ⟨b, 1, none⟩ = false
theorem RWr.lt {w : World} {b : Nat} {l : List UInt8} {e : Int} (h : RWr w b l e) : b < w.heap.size := World.block_lt_of_cell? w _ h.txt
theorem RWr.but {S : Nat → Prop} {w w' : World} {b : Nat} {l : List UInt8} {e : Int} (h : RWr w b l e) (hb : But S w w') (hs : ¬ S b) : RWr w' b l e :=
  ⟨hb.cell hs h.txt, hb.cell hs h.err, by rw [hb.frozen h.lt hs]; exact h.fr0, by rw [hb.frozen h.lt hs]; exact h.fr1⟩
theorem RWr.below {w w' : World} {b : Nat} {l : List UInt8} {e : Int} (h : RWr w b l e) (hb : Below w.heap.size w w') : RWr w' b l e := h.but (But.of_below (S := fun _ => False) hb) id
theorem RWr.setTxt {w : World} {b : Nat} {l : List UInt8} {e : Int} (h : RWr w b l e) (k : List UInt8) : RWr (w.setCell ⟨b, 0, none⟩ (.string ⟨k.toArray⟩)) b k e :=
  ⟨World.cell?_setCell_same _ _ _ h.txt, by rw [World.cell?_setCell_other _ _ _ _ (by simp)]; exact h.err, by rw [World.frozen?_setCell]; exact h.fr0, by rw [World.frozen?_setCell]; exact h.fr1⟩
theorem RWr.setErr {w : World} {b : Nat} {l : List UInt8} {e : Int} (h : RWr w b l e) (x : Int) : RWr (w.setCell ⟨b, 1, none⟩ (.int .i64 x)) b l x :=
  ⟨by rw [World.cell?_setCell_other _ _ _ _ (by simp)]; exact h.txt, World.cell?_setCell_same _ _ _ h.err, by rw [World.frozen?_setCell]; exact h.fr0, by rw [World.frozen?_setCell]; exact h.fr1⟩
theorem RWr.grown {w w2 : World} {b : Nat} {l : List UInt8} {e : Int} (h : RWr w b l e) (hb : Below w.heap.size w w2) (k : List UInt8) : RWr (w2.setCell ⟨b, 0, none⟩ (.string ⟨k.toArray⟩)) b k e ∧ But (Own b) w (w2.setCell ⟨b, 0, none⟩ (.string ⟨k.toArray⟩)) :=
  ⟨(h.below hb).setTxt k, (But.of_below (S := Own b) hb).setCell (p := ⟨b, 0, none⟩) (fun _ => rfl) _⟩
set_option maxRecDepth 100000 in
set_option maxHeartbeats 1600000 in
theorem xBig_any (b : Nat) (l : List UInt8) (x : Int) (n : Int) (w : World) (h : RWr w b l x) (hl : l.length ≤ 140737488355000) (h0 : 0 ≤ n) (h1 : n < 18446744073709551616) :
    Calls Try.prog 115 #[.pointer (some ⟨b, 0, none⟩), .int .u64 n] w fun e w' => e = .returned (.tuple #[]) ∧ RWr w' b (wBig n (l, x)).1 (wBig n (l, x)).2 ∧ But (Own b) w w' := by
  have H := Lib.hid h
  have k0 := h.err
  by_cases hx : x = 0
  · subst hx
    have hq : wBig n (l, 0) = (l ++ putL n, 0) := by simp [wBig]
    rw [hq]
    have hpl := putL_le n
    have hcat := concat_run ⟨l.toArray⟩ ⟨(putL n).toArray⟩ (show l.length + (putL n).length ≤ _ by omega)
    rw [ba_app] at hcat
    have k1 : w.drew.cell? ⟨b, 0, none⟩ = some (.string ⟨l.toArray⟩) := h.txt
    clear h hpl hq
    go_enter Try.func115, Try.ntmps115
    go_wp2_with fail
    go_region_law (first | (go_simp; go_at_call 114; refine Calls.mono (rput_any n _ h0 h1) ?_; rintro e w2 ⟨rfl, hb2⟩; have hb3 : Below w.heap.size w w2 := Below.trans ((Below.refl _ _).drew) hb2; have c1 := (H.out.below hb3).txt; have z1 := (H.out.below hb3).fr0; have HB2 := Lib.hid hb3; clear hb2 hb3))
    all_goals
      have HF := Lib.hid (H.out.grown HB2.out (l ++ putL n))
      go_wp2
      go_end0
      exact ⟨rfl, HF.out.1, HF.out.2⟩
  · have hq : wBig n (l, x) = (l, x) := by simp [wBig, hx]
    rw [hq]
    have hne : (x == 0) = false := by simp [hx]
    clear h hq
    go_enter Try.func115, Try.ntmps115
    go_wp2
    go_end0
    exact ⟨rfl, H.out, But.refl _ _⟩
set_option maxRecDepth 100000 in
set_option maxHeartbeats 1600000 in
theorem xNum_any (b : Nat) (l : List UInt8) (x : Int) (n : Int) (w : World) (h : RWr w b l x) (hl : l.length ≤ 140737488355000) (hn1 : n ≤ 9223372036854775807) :
    Calls Try.prog 83 #[.pointer (some ⟨b, 0, none⟩), .int .i64 n] w fun e w' => e = .returned (.tuple #[]) ∧ RWr w' b (wNum n (l, x)).1 (wNum n (l, x)).2 ∧ But (Own b) w w' := by
  have H := Lib.hid h
  have c0 := h.err
  by_cases hx : x = 0
  · subst hx
    by_cases hn : n < 0
    · have hq : wNum n (l, 0) = (l, 5) := by simp [wNum, hn]
      rw [hq]
      have z0 := h.fr1
      have HF := Lib.hid (h.setErr 5)
      have HB := Lib.hid ((But.refl (Own b) w).setCell (p := ⟨b, 1, none⟩) (fun _ => rfl) (.int .i64 5))
      clear h hq
      go_enter Try.func83, Try.ntmps83
      go_wp2
      go_end0
      exact ⟨rfl, HF.out, HB.out⟩
    · have h0 : 0 ≤ n := by omega
      have h1 : n < 18446744073709551616 := by omega
      have hwu : IntKind.u64.wrap n = n := u64_nonneg h0 (by omega)
      have hq : wNum n (l, 0) = (l ++ putL n, 0) := by simp [wNum, hn]
      rw [hq]
      have hpl := putL_le n
      have hcat := concat_run ⟨l.toArray⟩ ⟨(putL n).toArray⟩ (show l.length + (putL n).length ≤ _ by omega)
      rw [ba_app] at hcat
      have k1 : w.drew.cell? ⟨b, 0, none⟩ = some (.string ⟨l.toArray⟩) := h.txt
      clear h hpl hq
      go_enter Try.func83, Try.ntmps83
      go_wp2_with fail
      go_region_law (first | (go_simp; go_at_call 114; refine Calls.mono (rput_any n _ h0 h1) ?_; rintro e w2 ⟨rfl, hb2⟩; have hb3 : Below w.heap.size w w2 := Below.trans ((Below.refl _ _).drew) hb2; have c1 := (H.out.below hb3).txt; have z1 := (H.out.below hb3).fr0; have HB2 := Lib.hid hb3; clear hb2 hb3))
      all_goals
        have HF := Lib.hid (H.out.grown HB2.out (l ++ putL n))
        go_wp2
        go_end0
        exact ⟨rfl, HF.out.1, HF.out.2⟩
  · have hq : wNum n (l, x) = (l, x) := by simp [wNum, hx]
    rw [hq]
    have hne : (x == 0) = false := by simp [hx]
    clear h hq
    go_enter Try.func83, Try.ntmps83
    go_wp2
    go_end0
    exact ⟨rfl, H.out, But.refl _ _⟩
set_option maxRecDepth 100000 in
set_option maxHeartbeats 1600000 in
theorem xText_any (b : Nat) (l : List UInt8) (x : Int) (s : ByteArray) (w : World) (h : RWr w b l x) (hl : l.length + s.size ≤ 140737488355000) :
    Calls Try.prog 85 #[.pointer (some ⟨b, 0, none⟩), .string s] w fun e w' => e = .returned (.tuple #[]) ∧ RWr w' b (wText s (l, x)).1 (wText s (l, x)).2 ∧ But (Own b) w w' := by
  have H := Lib.hid h
  have c0 := h.err
  by_cases hx : x = 0
  · subst hx
    have hq : wText s (l, 0) = (l ++ putL (s.size : Int) ++ s.data.toList, 0) := by simp [wText]
    rw [hq]
    have hpl := putL_le (s.size : Int)
    have h0 : 0 ≤ (s.size : Int) := by omega
    have h1 : (s.size : Int) < 18446744073709551616 := by omega
    have hwu : IntKind.u64.wrap (s.size : Int) = (s.size : Int) := u64_nonneg h0 (by omega)
    have hcat := concat_run ⟨l.toArray⟩ ⟨(putL (s.size : Int)).toArray⟩ (show l.length + (putL (s.size : Int)).length ≤ _ by omega)
    rw [ba_app] at hcat
    have hcat2 := concat_run ⟨(l ++ putL (s.size : Int)).toArray⟩ s (show (l ++ putL (s.size : Int)).length + s.size ≤ _ by rw [List.length_append]; omega)
    rw [ba_app2] at hcat2
    obtain ⟨m, hm⟩ : ∃ m, m = l ++ putL (s.size : Int) ++ s.data.toList := ⟨_, rfl⟩
    rw [← hm] at hcat2 ⊢
    clear hm
    have k1 : w.drew.cell? ⟨b, 0, none⟩ = some (.string ⟨l.toArray⟩) := h.txt
    clear h hpl hq
    go_enter Try.func85, Try.ntmps85
    go_wp2_with fail
    go_region_law (first | (go_simp; go_at_call 114; refine Calls.mono (rput_any (s.size : Int) _ h0 h1) ?_; rintro e w2 ⟨rfl, hb2⟩; have hb3 : Below w.heap.size w w2 := Below.trans ((Below.refl _ _).drew) hb2; have c1 := (H.out.below hb3).txt; have z1 := (H.out.below hb3).fr0; have HB2 := Lib.hid hb3; clear hb2 hb3))
    all_goals
      have HF := Lib.hid (H.out.grown HB2.out m)
      go_wp2
      go_end0
      exact ⟨rfl, HF.out.1, HF.out.2⟩
  · have hq : wText s (l, x) = (l, x) := by simp [wText, hx]
    rw [hq]
    have hne : (x == 0) = false := by simp [hx]
    clear h hq
    go_enter Try.func85, Try.ntmps85
    go_wp2
    go_end0
    exact ⟨rfl, H.out, But.refl _ _⟩
theorem flag_big (f : Bool) (p : List UInt8 × Int) : wFlag f p = wBig (if f then 1 else 0) p := by
  unfold wFlag wBig; cases f <;> rfl
set_option maxRecDepth 100000 in
set_option maxHeartbeats 1600000 in
theorem xFlag_any (b : Nat) (l : List UInt8) (x : Int) (f : Bool) (w : World) (h : RWr w b l x) (hl : l.length ≤ 140737488355000) :
    Calls Try.prog 84 #[.pointer (some ⟨b, 0, none⟩), .bool f] w fun e w' => e = .returned (.tuple #[]) ∧ RWr w' b (wFlag f (l, x)).1 (wFlag f (l, x)).2 ∧ But (Own b) w w' := by
  have H := Lib.hid h
  rw [flag_big]
  clear h
  cases f
  · go_enter Try.func84, Try.ntmps84
    go_wp2_with fail
    refine (xBig_any b l x 0 _ H.out hl (by omega) (by omega)).mono ?_
    rintro e w1 ⟨rfl, hm, hb⟩
    have HM := Lib.hid hm; have HB := Lib.hid hb; clear hm hb
    go_wp2
    go_end0
    exact ⟨rfl, HM.out, HB.out⟩
  · go_enter Try.func84, Try.ntmps84
    go_wp2_with fail
    refine (xBig_any b l x 1 _ H.out hl (by omega) (by omega)).mono ?_
    rintro e w1 ⟨rfl, hm, hb⟩
    have HM := Lib.hid hm; have HB := Lib.hid hb; clear hm hb
    go_wp2
    go_end0
    exact ⟨rfl, HM.out, HB.out⟩
set_option maxRecDepth 100000 in
set_option maxHeartbeats 1600000 in
theorem xDone_any (b : Nat) (l : List UInt8) (x : Int)  (w : World) (h : RWr w b l x) :
    Calls Try.prog 86 #[.pointer (some ⟨b, 0, none⟩)] w fun e w' => e = .returned (.tuple #[.string (if x = 0 then ⟨l.toArray⟩ else ⟨#[]⟩), .int .i64 x]) ∧ Below w.heap.size w w' := by
  have c0 := h.txt; have c1 := h.err
  clear h
  by_cases hx : x = 0
  · subst hx
    rw [if_pos rfl]
    go_enter Try.func86, Try.ntmps86
    go_wp2
    go_ret2
    exact ⟨rfl, Below.refl _ _⟩
  · rw [if_neg hx]
    have hq : (x != 0) = true := by simp [hx]
    go_enter Try.func86, Try.ntmps86
    go_wp2_with fail
    go_quiet (fail)
    go_wp2
    go_ret2
    exact ⟨rfl, below_draws (Below.refl _ _) _⟩
end Go.Proofs.Ythmljllgfigebaa
