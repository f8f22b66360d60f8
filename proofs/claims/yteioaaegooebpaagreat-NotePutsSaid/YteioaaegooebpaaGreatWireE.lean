/- Package wire: a writer's calls. Conditions: none. -/
import Derived.Test.YteioaaegooebpaaGreatWireD
namespace Go.Proofs.YteioaaegooebpaaGreat
open Go.RowKit Go.PlainAid

set_option maxRecDepth 100000 in
set_option maxHeartbeats 1600000 in
theorem add_made (b B : Nat) (l : List UInt8) (st : Value) (Post : World → Prop) (w : World) (h : Wr w b B l 0) (hr : Calls Tryz.prog 141 #[.pointer (some ⟨b, 0, none⟩), st] w fun e w' => e = .returned (.tuple #[]) ∧ Post w') :
    Calls Tryz.prog 91 #[.pointer (some ⟨b, 0, none⟩), st] w fun e w' => e = .returned (.pointer (some ⟨b, 0, none⟩)) ∧ Post w' := by
  have c0 := h.made; have c2 := h.err
  clear h
  go_enter Tryz.func91, Tryz.ntmps91
  go_wp2_with fail
  refine hr.mono ?_
  rintro e w1 ⟨rfl, hb⟩
  have HB := Lib.hid hb; clear hb
  go_wp2
  go_ret
  exact ⟨rfl, HB.out⟩
set_option maxRecDepth 100000 in
set_option maxHeartbeats 1600000 in
theorem add_err (b B : Nat) (l : List UInt8) (x : Int) (st : Value) (w : World) (h : Wr w b B l x) (hx : x ≠ 0) :
    Calls Tryz.prog 91 #[.pointer (some ⟨b, 0, none⟩), st] w fun e w' => e = .returned (.pointer (some ⟨b, 0, none⟩)) ∧ w = w' := by
  have c0 := h.made; have c2 := h.err
  have hq : (x = 0) = False := by simp [hx]
  clear h
  go_enter Tryz.func91, Tryz.ntmps91
  go_wp2
  go_ret
  exact ⟨rfl, rfl⟩
set_option maxRecDepth 100000 in
set_option maxHeartbeats 1600000 in
theorem add_unmade (b : Nat) (st : Value) (w : World) (h : w.cell? ⟨b, 0, none⟩ = some (.bool false)) :
    Calls Tryz.prog 91 #[.pointer (some ⟨b, 0, none⟩), st] w fun e w' => e = .returned (.pointer (some ⟨b, 0, none⟩)) ∧ w = w' := by
  go_enter Tryz.func91, Tryz.ntmps91
  go_wp2
  go_ret
  exact ⟨rfl, rfl⟩
set_option maxRecDepth 100000 in
set_option maxHeartbeats 1600000 in
theorem add_nil (st : Value) (w : World) :
    Calls Tryz.prog 91 #[.pointer none, st] w fun e w' => e = .returned (.pointer none) ∧ w = w' := by
  go_enter Tryz.func91, Tryz.ntmps91
  go_wp2
  go_ret
  exact ⟨rfl, rfl⟩
/-- Two boxes are laid. -/
theorem two_boxes (w : World) (u v : Value) (t t' : TypeId) : Below w.heap.size w ((w.alloc (.cells #[u] t)).alloc (.cells #[v] t')) := ((Below.refl _ _).alloc (Nat.le_refl _) _).alloc (by simp) _
theorem Wr.not_rw {w w' : World} {b B : Nat} {l : List UInt8} {e : Int} (h : Wr w b B l e) (hb : Below w.heap.size w w') {k : Nat} (hk : w.heap.size ≤ k) : ¬ Rw w' b k := by
  have h1 := h.lt; have h2 := h.le
  rintro (h3 | h3)
  · omega
  · rw [h.rw_below hb] at h3
    have := (h.row h3).2
    omega
def wNum (n : Int) (p : List UInt8 × Int) : List UInt8 × Int := if p.2 ≠ 0 then p else if n < 0 then (p.1, 5) else (p.1 ++ putL n, 0)
def wBig (n : Int) (p : List UInt8 × Int) : List UInt8 × Int := if p.2 ≠ 0 then p else (p.1 ++ putL n, 0)
def wText (s : ByteArray) (p : List UInt8 × Int) : List UInt8 × Int := if p.2 ≠ 0 then p else (p.1 ++ putL (s.size : Int) ++ s.data.toList, 0)
def wFlag (f : Bool) (p : List UInt8 × Int) : List UInt8 × Int := if p.2 ≠ 0 then p else (p.1 ++ [flagB f], 0)
set_option maxRecDepth 100000 in
set_option maxHeartbeats 1600000 in
theorem wNum_rw (b B : Nat) (l : List UInt8) (x : Int) (n : Int) (w : World) (h : Wr w b B l x) (hl : l.length ≤ 140737488355000) (h1 : n ≤ 9223372036854775807) :
    Calls Tryz.prog 30 #[.pointer (some ⟨b, 0, none⟩), .int .i64 n] w fun e w' => e = .returned (.pointer (some ⟨b, 0, none⟩)) ∧ Wr w' b B (wNum n (l, x)).1 (wNum n (l, x)).2 ∧ But (Rw w b) w w' := by
  have hmf : ∀ (fn : Fn) (first cap : Array Value) (w : World), (Instr.makeFunc fn first cap).run Tryz.prog w = .ok (.func fn first cap) w := fun _ _ _ _ => rfl
  have hb1 := two_boxes w (.pointer (some ⟨b, 0, none⟩)) (.int .i64 n) 67 3
  have H1 := Lib.hid (h.below hb1)
  have HRB := Lib.hid (fun k (hk : Rw _ b k) => h.rw_back hb1 hk)
  have p1 : ((w.alloc (.cells #[.pointer (some ⟨b, 0, none⟩)] 67)).alloc (.cells #[.int .i64 n] 3)).cell? ⟨w.heap.size, 0, none⟩ = some (.pointer (some ⟨b, 0, none⟩)) := by simp
  have n1 : ((w.alloc (.cells #[.pointer (some ⟨b, 0, none⟩)] 67)).alloc (.cells #[.int .i64 n] 3)).cell? ⟨w.heap.size + 1, 0, none⟩ = some (.int .i64 n) := by simp
  have r1 := h.not_rw hb1 (k := w.heap.size) (Nat.le_refl _)
  have r2 := h.not_rw hb1 (k := w.heap.size + 1) (by omega)
  have HB := Lib.hid (But.of_below (S := Rw w b) hb1)
  have P1 := Lib.hid p1; have N1 := Lib.hid n1; have R1 := Lib.hid r1; have R2 := Lib.hid r2
  clear h hb1 n1 r1 r2
  go_enter Tryz.func30, Tryz.ntmps30
  go_wp2_with fail
  refine Calls.mono (R := fun e w' => e = .returned (.pointer (some ⟨b, 0, none⟩)) ∧ Wr w' b B (wNum n (l, x)).1 (wNum n (l, x)).2 ∧ But (Rw w b) w w') ?_ ?_
  · by_cases hx : x = 0
    · subst hx
      by_cases h9 : n < 0
      · have hq : wNum n (l, 0) = (l, 5) := by simp [wNum, h9]
        rw [hq]
        refine (add_made b B l _ _ _ H1.out (runNum_bad ⟨w.heap.size + 1, 0, none⟩ ⟨w.heap.size, 0, none⟩ b B l n _ N1.out P1.out H1.out h9)).mono ?_
        rintro e w1 ⟨rfl, hm, hb⟩
        exact ⟨rfl, hm, HB.out.trans (hb.mono (fun k _ hk => HRB.out k hk))⟩
      · have hq : wNum n (l, 0) = (l ++ putL n, 0) := by simp [wNum, h9]
        rw [hq]
        refine (add_made b B l _ _ _ H1.out (runNum_good ⟨w.heap.size + 1, 0, none⟩ ⟨w.heap.size, 0, none⟩ b B l n _ N1.out P1.out H1.out hl (by omega) h1)).mono ?_
        rintro e w1 ⟨rfl, hm, hb⟩
        exact ⟨rfl, hm, HB.out.trans (hb.mono (fun k _ hk => HRB.out k hk))⟩
    · refine (add_err b B l x _ _ H1.out hx).mono ?_
      rintro e w1 ⟨rfl, rfl⟩
      have hq : wNum n (l, x) = (l, x) := by simp [wNum, hx]
      rw [hq]
      exact ⟨rfl, H1.out, HB.out⟩
  rintro e w1 ⟨rfl, hm, hb⟩
  have HM := Lib.hid hm; have HB3 := Lib.hid hb; clear hm hb
  go_wp2
  go_ret
  exact ⟨rfl, HM.out, HB3.out⟩
set_option maxRecDepth 100000 in
set_option maxHeartbeats 1600000 in
theorem wBig_rw (b B : Nat) (l : List UInt8) (x : Int) (n : Int) (w : World) (h : Wr w b B l x) (hl : l.length ≤ 140737488355000) (h0 : 0 ≤ n) (h1 : n < 18446744073709551616) :
    Calls Tryz.prog 69 #[.pointer (some ⟨b, 0, none⟩), .int .u64 n] w fun e w' => e = .returned (.pointer (some ⟨b, 0, none⟩)) ∧ Wr w' b B (wBig n (l, x)).1 (wBig n (l, x)).2 ∧ But (Rw w b) w w' := by
  have hmf : ∀ (fn : Fn) (first cap : Array Value) (w : World), (Instr.makeFunc fn first cap).run Tryz.prog w = .ok (.func fn first cap) w := fun _ _ _ _ => rfl
  have hb1 := two_boxes w (.pointer (some ⟨b, 0, none⟩)) (.int .u64 n) 67 22
  have H1 := Lib.hid (h.below hb1)
  have HRB := Lib.hid (fun k (hk : Rw _ b k) => h.rw_back hb1 hk)
  have p1 : ((w.alloc (.cells #[.pointer (some ⟨b, 0, none⟩)] 67)).alloc (.cells #[.int .u64 n] 22)).cell? ⟨w.heap.size, 0, none⟩ = some (.pointer (some ⟨b, 0, none⟩)) := by simp
  have n1 : ((w.alloc (.cells #[.pointer (some ⟨b, 0, none⟩)] 67)).alloc (.cells #[.int .u64 n] 22)).cell? ⟨w.heap.size + 1, 0, none⟩ = some (.int .u64 n) := by simp
  have r1 := h.not_rw hb1 (k := w.heap.size) (Nat.le_refl _)
  have r2 := h.not_rw hb1 (k := w.heap.size + 1) (by omega)
  have HB := Lib.hid (But.of_below (S := Rw w b) hb1)
  have P1 := Lib.hid p1; have N1 := Lib.hid n1; have R1 := Lib.hid r1; have R2 := Lib.hid r2
  clear h hb1 n1 r1 r2
  go_enter Tryz.func69, Tryz.ntmps69
  go_wp2_with fail
  refine Calls.mono (R := fun e w' => e = .returned (.pointer (some ⟨b, 0, none⟩)) ∧ Wr w' b B (wBig n (l, x)).1 (wBig n (l, x)).2 ∧ But (Rw w b) w w') ?_ ?_
  · by_cases hx : x = 0
    · subst hx
      have hq : wBig n (l, 0) = (l ++ putL n, 0) := by simp [wBig]
      rw [hq]
      refine (add_made b B l _ _ _ H1.out (runBig ⟨w.heap.size + 1, 0, none⟩ ⟨w.heap.size, 0, none⟩ b B l n _ N1.out P1.out H1.out hl h0 h1)).mono ?_
      rintro e w1 ⟨rfl, hm, hb⟩
      exact ⟨rfl, hm, HB.out.trans (hb.mono (fun k _ hk => HRB.out k hk))⟩
    · refine (add_err b B l x _ _ H1.out hx).mono ?_
      rintro e w1 ⟨rfl, rfl⟩
      have hq : wBig n (l, x) = (l, x) := by simp [wBig, hx]
      rw [hq]
      exact ⟨rfl, H1.out, HB.out⟩
  rintro e w1 ⟨rfl, hm, hb⟩
  have HM := Lib.hid hm; have HB3 := Lib.hid hb; clear hm hb
  go_wp2
  go_ret
  exact ⟨rfl, HM.out, HB3.out⟩
set_option maxRecDepth 100000 in
set_option maxHeartbeats 1600000 in
theorem wText_rw (b B : Nat) (l : List UInt8) (x : Int) (s : ByteArray) (w : World) (h : Wr w b B l x) (hl : l.length + s.size ≤ 140737488355000) :
    Calls Tryz.prog 67 #[.pointer (some ⟨b, 0, none⟩), .string s] w fun e w' => e = .returned (.pointer (some ⟨b, 0, none⟩)) ∧ Wr w' b B (wText s (l, x)).1 (wText s (l, x)).2 ∧ But (Rw w b) w w' := by
  have hmf : ∀ (fn : Fn) (first cap : Array Value) (w : World), (Instr.makeFunc fn first cap).run Tryz.prog w = .ok (.func fn first cap) w := fun _ _ _ _ => rfl
  have hb1 := two_boxes w (.pointer (some ⟨b, 0, none⟩)) (.string s) 67 9
  have H1 := Lib.hid (h.below hb1)
  have HRB := Lib.hid (fun k (hk : Rw _ b k) => h.rw_back hb1 hk)
  have p1 : ((w.alloc (.cells #[.pointer (some ⟨b, 0, none⟩)] 67)).alloc (.cells #[.string s] 9)).cell? ⟨w.heap.size, 0, none⟩ = some (.pointer (some ⟨b, 0, none⟩)) := by simp
  have n1 : ((w.alloc (.cells #[.pointer (some ⟨b, 0, none⟩)] 67)).alloc (.cells #[.string s] 9)).cell? ⟨w.heap.size + 1, 0, none⟩ = some (.string s) := by simp
  have r1 := h.not_rw hb1 (k := w.heap.size) (Nat.le_refl _)
  have r2 := h.not_rw hb1 (k := w.heap.size + 1) (by omega)
  have HB := Lib.hid (But.of_below (S := Rw w b) hb1)
  have P1 := Lib.hid p1; have N1 := Lib.hid n1; have R1 := Lib.hid r1; have R2 := Lib.hid r2
  clear h hb1 n1 r1 r2
  go_enter Tryz.func67, Tryz.ntmps67
  go_wp2_with fail
  refine Calls.mono (R := fun e w' => e = .returned (.pointer (some ⟨b, 0, none⟩)) ∧ Wr w' b B (wText s (l, x)).1 (wText s (l, x)).2 ∧ But (Rw w b) w w') ?_ ?_
  · by_cases hx : x = 0
    · subst hx
      have hq : wText s (l, 0) = (l ++ putL (s.size : Int) ++ s.data.toList, 0) := by simp [wText]
      rw [hq]
      refine (add_made b B l _ _ _ H1.out (runText ⟨w.heap.size + 1, 0, none⟩ ⟨w.heap.size, 0, none⟩ b B l s _ N1.out P1.out H1.out hl R2.out R1.out)).mono ?_
      rintro e w1 ⟨rfl, hm, hb⟩
      exact ⟨rfl, hm, HB.out.trans (hb.mono (fun k _ hk => HRB.out k hk))⟩
    · refine (add_err b B l x _ _ H1.out hx).mono ?_
      rintro e w1 ⟨rfl, rfl⟩
      have hq : wText s (l, x) = (l, x) := by simp [wText, hx]
      rw [hq]
      exact ⟨rfl, H1.out, HB.out⟩
  rintro e w1 ⟨rfl, hm, hb⟩
  have HM := Lib.hid hm; have HB3 := Lib.hid hb; clear hm hb
  go_wp2
  go_ret
  exact ⟨rfl, HM.out, HB3.out⟩
set_option maxRecDepth 100000 in
set_option maxHeartbeats 1600000 in
theorem wFlag_rw (b B : Nat) (l : List UInt8) (x : Int) (f : Bool) (w : World) (h : Wr w b B l x) (hl : l.length ≤ 140737488355000) :
    Calls Tryz.prog 94 #[.pointer (some ⟨b, 0, none⟩), .bool f] w fun e w' => e = .returned (.pointer (some ⟨b, 0, none⟩)) ∧ Wr w' b B (wFlag f (l, x)).1 (wFlag f (l, x)).2 ∧ But (Rw w b) w w' := by
  have hmf : ∀ (fn : Fn) (first cap : Array Value) (w : World), (Instr.makeFunc fn first cap).run Tryz.prog w = .ok (.func fn first cap) w := fun _ _ _ _ => rfl
  have hb1 := two_boxes w (.pointer (some ⟨b, 0, none⟩)) (.bool f) 67 4
  have H1 := Lib.hid (h.below hb1)
  have HRB := Lib.hid (fun k (hk : Rw _ b k) => h.rw_back hb1 hk)
  have p1 : ((w.alloc (.cells #[.pointer (some ⟨b, 0, none⟩)] 67)).alloc (.cells #[.bool f] 4)).cell? ⟨w.heap.size, 0, none⟩ = some (.pointer (some ⟨b, 0, none⟩)) := by simp
  have n1 : ((w.alloc (.cells #[.pointer (some ⟨b, 0, none⟩)] 67)).alloc (.cells #[.bool f] 4)).cell? ⟨w.heap.size + 1, 0, none⟩ = some (.bool f) := by simp
  have r1 := h.not_rw hb1 (k := w.heap.size) (Nat.le_refl _)
  have r2 := h.not_rw hb1 (k := w.heap.size + 1) (by omega)
  have HB := Lib.hid (But.of_below (S := Rw w b) hb1)
  have P1 := Lib.hid p1; have N1 := Lib.hid n1; have R1 := Lib.hid r1; have R2 := Lib.hid r2
  clear h hb1 n1 r1 r2
  go_enter Tryz.func94, Tryz.ntmps94
  go_wp2_with fail
  refine Calls.mono (R := fun e w' => e = .returned (.pointer (some ⟨b, 0, none⟩)) ∧ Wr w' b B (wFlag f (l, x)).1 (wFlag f (l, x)).2 ∧ But (Rw w b) w w') ?_ ?_
  · by_cases hx : x = 0
    · subst hx
      have hq : wFlag f (l, 0) = (l ++ [flagB f], 0) := by simp [wFlag]
      rw [hq]
      refine (add_made b B l _ _ _ H1.out (runFlag ⟨w.heap.size + 1, 0, none⟩ ⟨w.heap.size, 0, none⟩ b B l f _ N1.out P1.out H1.out hl R1.out)).mono ?_
      rintro e w1 ⟨rfl, hm, hb⟩
      exact ⟨rfl, hm, HB.out.trans (hb.mono (fun k _ hk => HRB.out k hk))⟩
    · refine (add_err b B l x _ _ H1.out hx).mono ?_
      rintro e w1 ⟨rfl, rfl⟩
      have hq : wFlag f (l, x) = (l, x) := by simp [wFlag, hx]
      rw [hq]
      exact ⟨rfl, H1.out, HB.out⟩
  rintro e w1 ⟨rfl, hm, hb⟩
  have HM := Lib.hid hm; have HB3 := Lib.hid hb; clear hm hb
  go_wp2
  go_ret
  exact ⟨rfl, HM.out, HB3.out⟩
theorem wNum_any (b B : Nat) (l : List UInt8) (x : Int) (n : Int) (w : World) (h : Wr w b B l x) (hl : l.length ≤ 140737488355000) (h1 : n ≤ 9223372036854775807) :
    Calls Tryz.prog 30 #[.pointer (some ⟨b, 0, none⟩), .int .i64 n] w fun e w' => e = .returned (.pointer (some ⟨b, 0, none⟩)) ∧ Wr w' b B (wNum n (l, x)).1 (wNum n (l, x)).2 ∧ But (WrOnly b B) w w' :=
  (wNum_rw b B l x n w h hl h1).mono fun _ _ ⟨h1, h2, h3⟩ => ⟨h1, h2, h3.mono (fun _ _ hk => h.only hk)⟩
theorem wBig_any (b B : Nat) (l : List UInt8) (x : Int) (n : Int) (w : World) (h : Wr w b B l x) (hl : l.length ≤ 140737488355000) (h0 : 0 ≤ n) (h1 : n < 18446744073709551616) :
    Calls Tryz.prog 69 #[.pointer (some ⟨b, 0, none⟩), .int .u64 n] w fun e w' => e = .returned (.pointer (some ⟨b, 0, none⟩)) ∧ Wr w' b B (wBig n (l, x)).1 (wBig n (l, x)).2 ∧ But (WrOnly b B) w w' :=
  (wBig_rw b B l x n w h hl h0 h1).mono fun _ _ ⟨h1, h2, h3⟩ => ⟨h1, h2, h3.mono (fun _ _ hk => h.only hk)⟩
theorem wText_any (b B : Nat) (l : List UInt8) (x : Int) (s : ByteArray) (w : World) (h : Wr w b B l x) (hl : l.length + s.size ≤ 140737488355000) :
    Calls Tryz.prog 67 #[.pointer (some ⟨b, 0, none⟩), .string s] w fun e w' => e = .returned (.pointer (some ⟨b, 0, none⟩)) ∧ Wr w' b B (wText s (l, x)).1 (wText s (l, x)).2 ∧ But (WrOnly b B) w w' :=
  (wText_rw b B l x s w h hl).mono fun _ _ ⟨h1, h2, h3⟩ => ⟨h1, h2, h3.mono (fun _ _ hk => h.only hk)⟩
theorem wFlag_any (b B : Nat) (l : List UInt8) (x : Int) (f : Bool) (w : World) (h : Wr w b B l x) (hl : l.length ≤ 140737488355000) :
    Calls Tryz.prog 94 #[.pointer (some ⟨b, 0, none⟩), .bool f] w fun e w' => e = .returned (.pointer (some ⟨b, 0, none⟩)) ∧ Wr w' b B (wFlag f (l, x)).1 (wFlag f (l, x)).2 ∧ But (WrOnly b B) w w' :=
  (wFlag_rw b B l x f w h hl).mono fun _ _ ⟨h1, h2, h3⟩ => ⟨h1, h2, h3.mono (fun _ _ hk => h.only hk)⟩
end Go.Proofs.YteioaaegooebpaaGreat
