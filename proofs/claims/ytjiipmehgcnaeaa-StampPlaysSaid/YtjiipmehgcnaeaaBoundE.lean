/- The document's own Right and Last of a log. Conditions: none. -/
import Derived.Test.YtjiipmehgcnaeaaBoundD
namespace Go.Proofs.Ytjiipmehgcnaeaa
open Go.RowKit Go.PlainAid

def entV (e : EntT) : Value := .agg #[.int .i64 e.client, .int .i64 e.req, e.ops, .int .u64 e.ts]
def SomeB (w : World) (e : Ending) (w' : World) : Prop := ∃ x : Bool, e = .returned (.bool x) ∧ Below w.heap.size w w'
theorem SomeB.mk {w w' : World} {x : Bool} (h : Below w.heap.size w w') : SomeB w (.returned (.bool x)) w' := ⟨x, rfl, h⟩
set_option maxRecDepth 100000 in
set_option maxHeartbeats 1600000 in
theorem rent_some (e : EntT) (w : World) (h : SliceOf opE 3 w e.ops e.opl) :
    Calls Try.prog 91 #[entV e] w (SomeR w) := by
  obtain ⟨W, hW⟩ : ∃ W, W = w.alloc (.cells #[.int .i64 e.client, .int .i64 e.req, e.ops, .int .u64 e.ts] 64) := ⟨_, rfl⟩
  have hb1 : Below w.heap.size w W := by rw [hW]; exact (Below.refl _ _).alloc (Nat.le_refl _) _
  have HB := Lib.hid hb1; have HS := Lib.hid (h.below hb1); have HW := Lib.hid hW
  clear h hb1 hW
  unfold entV
  go_enter Try.func91, Try.ntmps91
  go_wp2_with fail
  rw [← HW.out]
  refine (rbatch_some e.client e.req e.ops e.opl _ HS.out).mono ?_
  rintro e w1 ⟨n, rfl, hb⟩
  have HB1 := Lib.hid (HB.out.trans (hb.mono HB.out.size)); clear hb
  go_wp2
  go_ret
  exact SomeR.mk HB1.out
set_option maxRecDepth 100000 in
set_option maxHeartbeats 1600000 in
theorem twins_some (a b : EntT) (w : World) :
    Calls Try.prog 92 #[entV a, entV b] w (SomeB w) := by
  have hb1 : Below w.heap.size w ((w.alloc (.cells #[.int .i64 a.client, .int .i64 a.req, a.ops, .int .u64 a.ts] 64)).alloc (.cells #[.int .i64 b.client, .int .i64 b.req, b.ops, .int .u64 b.ts] 64)) := ((Below.refl _ _).alloc (Nat.le_refl _) _).alloc (by simp) _
  have HB := Lib.hid hb1
  clear hb1
  unfold entV
  by_cases h : a.client = b.client
  · have hb : (a.client == b.client) = true := beq_iff_eq.2 h
    clear h
    go_enter Try.func92, Try.ntmps92
    go_wp2
    go_ret
    exact SomeB.mk HB.out
  · have hb : (a.client == b.client) = false := beq_eq_false_iff_ne.2 h
    clear h
    go_enter Try.func92, Try.ntmps92
    go_wp2
    go_ret
    exact SomeB.mk HB.out
/-- Timestamps rise: what has one stands behind one that has a lower one. -/
def Rises (l : List EntT) (m : Nat) : Prop := ∀ j, 0 < j → j < m → tsAt l j ≠ 0 → tsAt l (j - 1) ≠ 0 ∧ tsAt l (j - 1) < tsAt l j
def RightR (l : List EntT) (w : World) (e : Ending) (w' : World) : Prop := ∃ n : Int, e = .returned (.int .i64 n) ∧ (n = 0 → Rises l l.length) ∧ Below w.heap.size w w'
theorem RightR.no {l : List EntT} {w w' : World} {n : Int} (hn : n ≠ 0) (h : Below w.heap.size w w') : RightR l w (.returned (.int .i64 n)) w' := ⟨n, rfl, fun e => absurd e hn, h⟩
theorem Rises.step {l : List EntT} {i : Nat} (h : Rises l i) (hi : 0 < i → tsAt l i ≠ 0 → tsAt l (i - 1) ≠ 0 ∧ tsAt l (i - 1) < tsAt l i) : Rises l (i + 1) := by
  intro j h0 hj ht
  by_cases e : j = i
  · subst e; exact hi h0 ht
  · exact h j h0 (by omega) ht
def Cells4 (w : World) (b o : Nat) (e : EntT) : Prop := w.cell? ⟨b, o, none⟩ = some (.int .i64 e.client) ∧ w.cell? ⟨b, o + 1, none⟩ = some (.int .i64 e.req) ∧ w.cell? ⟨b, o + 2, none⟩ = some e.ops ∧ w.cell? ⟨b, o + 3, none⟩ = some (.int .u64 e.ts)
theorem Cells4.below {w w' : World} {b o : Nat} {e : EntT} (h : Cells4 w b o e) (hb : Below w.heap.size w w') : Cells4 w' b o e := ⟨cell_below hb h.1, cell_below hb h.2.1, cell_below hb h.2.2.1, cell_below hb h.2.2.2⟩
theorem Cells4.of {w : World} {b o : Nat} {e : EntT} (h : w.rangeAt b o (entE e)) : Cells4 w b o e := ⟨by have := h 0 _ rfl; rwa [Nat.add_zero] at this, h 1 _ rfl, h 2 _ rfl, h 3 _ rfl⟩
def Two4 (b o p : Nat) (x y : EntT) (w' : World) : Prop := w'.cell? ⟨b, o, none⟩ = some (.int .i64 x.client) ∧ w'.cell? ⟨b, o + 1, none⟩ = some (.int .i64 x.req) ∧ w'.cell? ⟨b, o + 2, none⟩ = some x.ops ∧ w'.cell? ⟨b, o + 3, none⟩ = some (.int .u64 x.ts) ∧
  w'.cell? ⟨b, p, none⟩ = some (.int .i64 y.client) ∧ w'.cell? ⟨b, p + 1, none⟩ = some (.int .i64 y.req) ∧ w'.cell? ⟨b, p + 2, none⟩ = some y.ops ∧ w'.cell? ⟨b, p + 3, none⟩ = some (.int .u64 y.ts)
theorem Two4.mk {b o p : Nat} {x y : EntT} {w' : World} (h : Cells4 w' b o x) (k : Cells4 w' b p y) : Two4 b o p x y w' := ⟨h.1, h.2.1, h.2.2.1, h.2.2.2, k.1, k.2.1, k.2.2.1, k.2.2.2⟩
set_option maxRecDepth 100000 in
set_option maxHeartbeats 12800000 in
theorem right_any (v : Value) (l : List EntT) (w : World) (hs : SliceOf entE 4 w v l) (hok : ∀ e ∈ l, EntOk w e) :
    Calls Try.prog 46 #[v] w (RightR l w) := by
  obtain ⟨ao, cap, rfl, hcap, hcm, _, hcell⟩ := hs
  have HC := Lib.hid hcell; have HOk := Lib.hid hok
  clear hcell hok
  go_enter Try.func46, Try.ntmps46
  go_wp2_with fail
  go_loopg [3] (l.length + 1) (fun g s3 wr => ∃ i : Nat, s3 = .int .i64 i ∧ i ≤ l.length ∧ l.length + 1 ≤ i + g ∧ Rises l i ∧ Below w.heap.size w wr)
  case atStart => exact ⟨0, rfl, by omega, by omega, fun j _ hj => absurd hj (by omega), Below.refl _ _⟩
  case round =>
    obtain ⟨i, rfl, hi, hg, hri, hbel⟩ := hrel
    have HRi := Lib.hid hri; have HB := Lib.hid hbel
    clear hri hbel
    by_cases hlt : i < l.length
    · obtain ⟨b, off, rfl, hr⟩ := HC.out i hlt
      have HAll : Hid (∀ k, (h : k < l.length) → Cells4 w b (off + k * 4) l[k]) := Lib.hid (fun k h => by
        obtain ⟨bb, oo, he, hh⟩ := HC.out k h
        injection he with he; injection he with e1 e2 e3
        subst e1 e2
        exact Cells4.of hh)
      have hr1 : wr.rangeAt b (off + i * 4) (entE l[i]) := fun j u hu => cell_below HB.out (hr j u hu)
      have hts := tsAt_get hlt
      have hops := (HOk.out _ (List.getElem_mem hlt)).ops.below HB.out
      have HCi := Lib.hid (HAll.out i hlt)
      obtain ⟨x, hx⟩ : ∃ x, x = l[i] := ⟨_, rfl⟩
      rw [← hx] at hr1 hts hops HCi
      have HR := Lib.hid hr1; have HTs := Lib.hid hts; have HOps := Lib.hid hops
      clear hr hr1 hts hx hops
      go_wp2_with (refine wpList_load_mid rfl 64 (.tmp 14) rfl b (off + i * 4) rfl (entE x) _ HR.out Try.underlying64 rfl (by kernel_rfl) ?_; unfold entE)
      refine (rent_some x _ HOps.out).mono ?_
      rintro e w1 ⟨n, rfl, hb⟩
      have HB1 := Lib.hid (HB.out.trans (hb.mono HB.out.size)); clear hb
      by_cases hn : n = 0
      · have hnb : (n != 0) = false := by simp [hn]
        clear hn
        go_wp2_with fail
        obtain ⟨gO, hgO⟩ : ∃ gO, gO = gk := ⟨_, rfl⟩
        rw [← hgO] at hg
        have HGO := Lib.hid hgO
        clear hgO
        go_loopg [5] (i + 1) (fun g s5 wr => ∃ k : Nat, s5 = .int .i64 k ∧ k ≤ i ∧ i + 1 ≤ k + g ∧ Below w.heap.size w wr)
        case atStart => exact ⟨0, rfl, by omega, by omega, HB1.out⟩
        case round =>
          obtain ⟨k, rfl, hk, hg2, hbel2⟩ := hrel
          have HB2 := Lib.hid hbel2
          clear hbel2
          by_cases hlt2 : k < i
          · have hkl : k < l.length := by omega
            have HCk := Lib.hid (HAll.out k hkl)
            obtain ⟨y, hy⟩ : ∃ y, y = l[k] := ⟨_, rfl⟩
            rw [← hy] at HCk
            have hbd := HB2.out.drew
            have HS : Hid (∀ w', Below w.heap.size w w' → Two4 b (off + k * 4) (off + i * 4) y x w') := Lib.hid (fun w' h => Two4.mk (HCk.out.below h) (HCi.out.below h))
            clear hy
            go_wp2_with fail
            go_region_held3 (fun w' => w'.cell? ⟨b, off + k * 4, none⟩ = some (.int .i64 y.client) ∧ w'.cell? ⟨b, off + k * 4 + 1, none⟩ = some (.int .i64 y.req) ∧ w'.cell? ⟨b, off + k * 4 + 2, none⟩ = some y.ops ∧ w'.cell? ⟨b, off + k * 4 + 3, none⟩ = some (.int .u64 y.ts) ∧ w'.cell? ⟨b, off + i * 4, none⟩ = some (.int .i64 x.client) ∧ w'.cell? ⟨b, off + i * 4 + 1, none⟩ = some (.int .i64 x.req) ∧ w'.cell? ⟨b, off + i * 4 + 2, none⟩ = some x.ops ∧ w'.cell? ⟨b, off + i * 4 + 3, none⟩ = some (.int .u64 x.ts)) (first | exact HS.out _ (by assumption)) (first
              | (go_at_call 92; refine (twins_some y x _).mono ?_; rintro e w5 ⟨t, rfl, hb⟩; have hb5 : Below w.heap.size w w5 := hbd.trans (hb.mono hbd.size); clear hb))
            have HB5 := Lib.hid hb5
            clear hbd hb5
            cases t with
            | true =>
              go_wp2
              go_ret
              exact RightR.no (by decide) HB5.out
            | false =>
              go_wp2
              go_roundg (gk - 1)
              case rel => exact ⟨k + 1, by go_num, by omega, by omega, HB5.out⟩
              case measure => omega
          · by_cases hi0 : i = 0
            · have hib2 : decide (0 < (i : Int)) = false := decide_eq_false (by omega)
              have hib4 : decide (0 < i) = false := decide_eq_false (by omega)
              have HRn := Lib.hid (HRi.out.step (fun h => absurd h (by omega)))
              clear hi0
              go_wp2_with fail
              go_quiet (fail)
              go_wp2
              go_roundg (gO - 1)
              case rel => exact ⟨i + 1, by go_num, by omega, by omega, HRn.out, below_draws HB2.out _⟩
              case measure => have := HGO.out; omega
            · obtain ⟨j, hj⟩ : ∃ j, i - 1 = j := ⟨_, rfl⟩
              have hjl : j < l.length := by omega
              have HCj := Lib.hid (HAll.out j hjl)
              have htj := tsAt_get hjl
              obtain ⟨z, hz⟩ : ∃ z, z = l[j] := ⟨_, rfl⟩
              rw [← hz] at HCj htj
              have p3 := (HCj.out.below HB2.out).2.2.2
              have x3 := (HCi.out.below HB2.out).2.2.2
              have hsub : IntKind.i64.wrap ((i : Int) - 1) = (j : Int) := by rw [show (i : Int) - 1 = (j : Int) by omega]; exact IntWalk.i64_in _ ⟨by omega, by omega⟩
              have HStep : Hid ((x.ts ≠ 0 → z.ts ≠ 0 ∧ z.ts < x.ts) → Rises l (i + 1)) := Lib.hid (fun h => HRi.out.step (fun _ ht => by
                rw [hj, htj]; rw [HTs.out] at ht ⊢; exact h ht))
              have hib2 : decide (0 < (i : Int)) = true := decide_eq_true (by omega)
              have hib3 : 0 < i := by omega
              have hib4 : decide (0 < i) = true := decide_eq_true (by omega)
              clear hi0 hj htj hz
              by_cases hx0 : x.ts = 0
              · have hxb : (x.ts != 0) = false := by simp [hx0]
                have HRn := Lib.hid (HStep.out (fun h => absurd hx0 h))
                clear hx0
                go_wp2_with fail
                go_quiet (fail)
                go_wp2
                go_roundg (gO - 1)
                case rel => exact ⟨i + 1, by go_num, by omega, by omega, HRn.out, below_draws HB2.out _⟩
                case measure => have := HGO.out; omega
              · have hxb : (x.ts != 0) = true := by simp [hx0]
                by_cases hz0 : z.ts = 0
                · have hzb : (z.ts == 0) = true := by simp [hz0]
                  clear hx0 hz0
                  go_wp2_with fail
                  go_quiet (fail)
                  go_wp2
                  go_ret
                  exact RightR.no (by decide) (below_draws HB2.out _)
                · have hzb : (z.ts == 0) = false := by simp [hz0]
                  have HZ0 := Lib.hid hz0
                  clear hx0 hz0
                  by_cases hlt3 : z.ts < x.ts
                  · have HRn := Lib.hid (HStep.out (fun _ => ⟨HZ0.out, hlt3⟩))
                    go_wp2_with fail
                    go_quiet (fail)
                    go_wp2
                    go_roundg (gO - 1)
                    case rel => exact ⟨i + 1, by go_num, by omega, by omega, HRn.out, below_draws HB2.out _⟩
                    case measure => have := HGO.out; omega
                  · have hge : x.ts ≤ z.ts := by omega
                    go_wp2_with fail
                    go_quiet (fail)
                    go_wp2
                    go_ret
                    exact RightR.no (by decide) (below_draws HB2.out _)
      · have hnb : (n != 0) = true := by simp [hn]
        have HN := Lib.hid hn
        clear hn
        go_wp2
        go_ret
        exact RightR.no HN.out HB1.out
    · have HF : Hid (Rises l l.length) := Lib.hid (by have := HRi.out; rwa [show i = l.length by omega] at this)
      go_wp2
      go_ret
      exact ⟨0, rfl, fun _ => HF.out, HB.out⟩
def lastR (l : List EntT) : Int := if stN l = 0 then 0 else tsAt l (stN l - 1)
set_option maxRecDepth 100000 in
set_option maxHeartbeats 1600000 in
theorem rlast_any (v : Value) (l : List EntT) (w : World) (hs : SliceOf entE 4 w v l) :
    Calls Try.prog 50 #[v] w fun e w' => e = .returned (.int .u64 (lastR l)) ∧ w = w' := by
  have HS := Lib.hid hs
  obtain ⟨ao, cap, rfl, hcap, hcm, _, hcell⟩ := hs
  have hle := stN_le l
  obtain ⟨n, hn⟩ : ∃ n, stN l = n := ⟨_, rfl⟩
  have HNn := Lib.hid hn
  rw [hn] at hle
  by_cases h0 : n = 0
  · have hb : ((n : Int) == 0) = true := beq_iff_eq.2 (by omega)
    have HZ : Hid (lastR l = 0) := Lib.hid (by unfold lastR; rw [if_pos (by omega)])
    clear h0 hn hcell
    go_enter Try.func50, Try.ntmps50
    go_wp2_with fail
    refine (rstamped_any _ l _ HS.out).mono ?_
    rintro e w1 ⟨rfl, rfl⟩
    rw [HNn.out]
    go_wp2
    go_ret
    exact ⟨ret_int HZ.out.symm, rfl⟩
  · have hb : ((n : Int) == 0) = false := beq_eq_false_iff_ne.2 (by omega)
    obtain ⟨j, hj⟩ : ∃ j, n - 1 = j := ⟨_, rfl⟩
    have hjl : j < l.length := by omega
    obtain ⟨bb, oo, he, hh⟩ := hcell j hjl
    subst he
    have p3 := (Cells4.of hh).2.2.2
    have HZ : Hid (lastR l = (l[j]).ts) := Lib.hid (by unfold lastR; rw [if_neg (by omega), HNn.out, hj, tsAt_get hjl])
    have hsub : IntKind.i64.wrap ((n : Int) - 1) = (j : Int) := by rw [show (n : Int) - 1 = (j : Int) by omega]; exact IntWalk.i64_in _ ⟨by omega, by omega⟩
    obtain ⟨t, ht⟩ : ∃ t, t = (l[j]).ts := ⟨_, rfl⟩
    rw [← ht] at p3 HZ
    clear h0 hn hcell hh hj ht
    go_enter Try.func50, Try.ntmps50
    go_wp2_with fail
    refine (rstamped_any _ l _ HS.out).mono ?_
    rintro e w1 ⟨rfl, rfl⟩
    rw [HNn.out]
    go_wp2
    go_ret
    exact ⟨ret_int HZ.out.symm, rfl⟩
end Go.Proofs.Ytjiipmehgcnaeaa
