/- Package sum: a maker, its table. Conditions: none. -/
import Derived.Test.YtfjajahniocbkaaDoorSumA
import Derived.Test.YtfjajahniocbkaaDoorOnce
namespace Go.Proofs.YtfjajahniocbkaaDoor
open Go.RowKit Go.PlainAid

/-- A maker that was made: is its table done, its lock, how much of the table is filled, how often it was asked. -/
structure Mk (w : World) (b : Nat) (d st : Int) (T : Nat) (n : Int) : Prop where
  made : w.cell? ⟨b, 0, none⟩ = some (.bool true)
  done : w.cell? ⟨b, 1, none⟩ = some (.int .u32 d)
  lock : w.cell? ⟨b, 2, none⟩ = some (.int .i32 st)
  tab : ∀ i, i < 256 → ∃ x, w.cell? ⟨b, 4 + i, none⟩ = some x ∧ (i < T → x = .int .u32 (lfn 8 i : Nat))
  used : w.cell? ⟨b, 260, none⟩ = some (.int .i64 n)
  fr : ∀ j, w.frozen? ⟨b, j, none⟩ = false

theorem oth {w : World} {b o j : Nat} {u : Value} (h : j ≠ o) : (w.setCell ⟨b, o, none⟩ u).cell? ⟨b, j, none⟩ = w.cell? ⟨b, j, none⟩ :=
  World.cell?_setCell_other _ _ _ _ (by simp)
theorem Mk.setTab {w : World} {b : Nat} {d st : Int} {T : Nat} {n : Int} (h : Mk w b d st T n) (hT : T < 256) : Mk (w.setCell ⟨b, 4 + T, none⟩ (.int .u32 (lfn 8 T : Nat))) b d st (T + 1) n := by
  refine ⟨?_, ?_, ?_, fun i hi => ?_, ?_, fun j => ?_⟩
  · rw [oth (by omega)]; exact h.made
  · rw [oth (by omega)]; exact h.done
  · rw [oth (by omega)]; exact h.lock
  · obtain ⟨x, hx, hx2⟩ := h.tab i hi
    by_cases e : i = T
    · subst e
      exact ⟨_, World.cell?_setCell_same _ _ _ hx, fun _ => rfl⟩
    · exact ⟨x, by rw [oth (by omega)]; exact hx, fun hl => hx2 (by omega)⟩
  · rw [oth (by omega)]; exact h.used
  · rw [World.frozen?_setCell]; exact h.fr j
theorem Mk.setDone {w : World} {b : Nat} {d st : Int} {T : Nat} {n : Int} (h : Mk w b d st T n) (y : Int) : Mk (w.setCell ⟨b, 1, none⟩ (.int .u32 y)) b y st T n := by
  refine ⟨?_, World.cell?_setCell_same _ _ _ h.done, ?_, fun i hi => ?_, ?_, fun j => ?_⟩
  · rw [oth (by omega)]; exact h.made
  · rw [oth (by omega)]; exact h.lock
  · obtain ⟨x, hx, hx2⟩ := h.tab i hi
    exact ⟨x, by rw [oth (by omega)]; exact hx, hx2⟩
  · rw [oth (by omega)]; exact h.used
  · rw [World.frozen?_setCell]; exact h.fr j
theorem Mk.setLock {w : World} {b : Nat} {d st : Int} {T : Nat} {n : Int} (h : Mk w b d st T n) (y : Int) : Mk (w.setCell ⟨b, 2, none⟩ (.int .i32 y)) b d y T n := by
  refine ⟨?_, ?_, World.cell?_setCell_same _ _ _ h.lock, fun i hi => ?_, ?_, fun j => ?_⟩
  · rw [oth (by omega)]; exact h.made
  · rw [oth (by omega)]; exact h.done
  · obtain ⟨x, hx, hx2⟩ := h.tab i hi
    exact ⟨x, by rw [oth (by omega)]; exact hx, hx2⟩
  · rw [oth (by omega)]; exact h.used
  · rw [World.frozen?_setCell]; exact h.fr j
theorem Mk.setUsed {w : World} {b : Nat} {d st : Int} {T : Nat} {n : Int} (h : Mk w b d st T n) (y : Int) : Mk (w.setCell ⟨b, 260, none⟩ (.int .i64 y)) b d st T y := by
  refine ⟨?_, ?_, ?_, fun i hi => ?_, World.cell?_setCell_same _ _ _ h.used, fun j => ?_⟩
  · rw [oth (by omega)]; exact h.made
  · rw [oth (by omega)]; exact h.done
  · rw [oth (by omega)]; exact h.lock
  · obtain ⟨x, hx, hx2⟩ := h.tab i hi
    exact ⟨x, by rw [oth (by omega)]; exact hx, hx2⟩
  · rw [World.frozen?_setCell]; exact h.fr j
theorem Mk.drew {w : World} {b : Nat} {d st : Int} {T : Nat} {n : Int} (h : Mk w b d st T n) : Mk w.drew b d st T n := ⟨h.made, h.done, h.lock, h.tab, h.used, h.fr⟩
theorem Mk.but {S : Nat → Prop} {w w' : World} {b : Nat} {d st : Int} {T : Nat} {n : Int} (h : Mk w b d st T n) (hb : But S w w') (hs : ¬ S b) : Mk w' b d st T n := by
  have hl : b < w.heap.size := World.block_lt_of_cell? w _ h.made
  refine ⟨hb.cell hs h.made, hb.cell hs h.done, hb.cell hs h.lock, fun i hi => ?_, hb.cell hs h.used, fun j => by rw [hb.frozen hl hs]; exact h.fr j⟩
  obtain ⟨x, hx, hx2⟩ := h.tab i hi
  exact ⟨x, hb.cell hs hx, hx2⟩

theorem bits_and_1 (a : Nat) (ha : a < 4294967296) : bits .and .u32 (a : Int) 1 = ((a % 2 : Nat) : Int) := by
  have h1 : (BitVec.ofInt 32 (a : Int)).toNat = a := by
    rw [BitVec.ofInt_natCast, BitVec.toNat_ofNat]; exact Nat.mod_eq_of_lt (by omega)
  show IntKind.u32.wrap ((BitVec.ofInt 32 (a : Int) &&& BitVec.ofInt 32 1).toNat : Int) = _
  have h2 : (BitVec.ofInt 32 1).toNat = 1 := by decide
  rw [BitVec.toNat_and, h1, h2, wrap_u32, show (1 : Nat) = 2 ^ 1 - 1 by rfl, Nat.and_two_pow_sub_one_eq_mod]
  omega
theorem lfn_succ : ∀ (k c : Nat), lfn (k + 1) c = lfs (lfn k c)
  | 0, _ => rfl
  | k + 1, c => by show lfn (k + 1) (lfs c) = _; rw [lfn_succ k (lfs c)]; rfl

set_option maxRecDepth 100000 in
set_option maxHeartbeats 800000 in
theorem fill_any (b : Nat) (st n : Int) (w : World) (h : Mk w b 0 st 0 n) :
    Calls Tryd.prog 17 #[.pointer (some ⟨b, 0, none⟩)] w fun e w' => e = .returned (.tuple #[]) ∧ Mk w' b 0 st 256 n ∧ But (fun x => x = b) w w' := by
  have H := Lib.hid h; clear h
  go_enter Tryd.func17, Tryd.ntmps17
  go_wp2
  go_loopg [5] 257 (fun g s5 wr => ∃ i : Nat, s5 = .int .i64 i ∧ i ≤ 256 ∧ 257 ≤ i + g ∧ Mk wr b 0 st i n ∧ But (fun x => x = b) w wr)
  case atStart => exact ⟨0, rfl, by omega, by omega, H.out, But.refl _ _⟩
  case round =>
    obtain ⟨i, rfl, hi, hg, hm, hb⟩ := hrel
    obtain ⟨gO, hgO⟩ : ∃ gO, gO = gk := ⟨_, rfl⟩
    have HM := Lib.hid hm; have HB := Lib.hid hb; clear hm hb
    by_cases hlt : i < 256
    · have hmod : (i : Int) % 4294967296 = (i : Int) := by omega
      go_wp2
      go_loopg [3, 10] 9 (fun g s3 s10 wr2 => ∃ k c : Nat, s10 = .int .i64 k ∧ s3 = .int .u32 c ∧ k ≤ 8 ∧ 9 ≤ k + g ∧ Hid (c = lfn k i) ∧ c < 4294967296 ∧ wr = wr2)
      case atStart => exact ⟨0, i, rfl, rfl, by omega, by omega, rfl, by omega, rfl⟩
      case round =>
        obtain ⟨k, c, rfl, rfl, hk, hg2, hc, hcl, rfl⟩ := hrel
        by_cases hk8 : k < 8
        · obtain ⟨q, hq⟩ : ∃ q : Nat, (c : Int) / 2 = (q : Int) := ⟨c / 2, by omega⟩
          by_cases hodd : c % 2 = 1
          · have h1 : bits .and .u32 (c : Int) 1 = 1 := by rw [bits_and_1 c hcl, hodd]; rfl
            obtain ⟨z, hz⟩ : ∃ z : Nat, z = q ^^^ 3988292384 := ⟨_, rfl⟩
            have hzl : z < 4294967296 := by rw [hz]; exact Nat.xor_lt_two_pow (n := 32) (by omega) (by decide)
            have h2 : bits .xor .u32 (q : Int) 3988292384 = (z : Int) := by rw [hz]; exact bits_xor_u32 q 3988292384 (by omega) (by decide)
            have HZ : Hid (z = lfn (k + 1) i) := Lib.hid (by
              rw [lfn_succ, ← hc.out, hz]; unfold lfs; rw [if_pos hodd, show c / 2 = q by omega])
            clear hz hc hodd
            go_wp2
            go_roundg (gk - 1)
            case rel => exact ⟨k + 1, z, by go_num, rfl, by omega, by omega, HZ.out, hzl, rfl⟩
            case measure => omega
          · have h1 : bits .and .u32 (c : Int) 1 = 0 := by rw [bits_and_1 c hcl, show c % 2 = 0 by omega]; rfl
            have HZ : Hid (q = lfn (k + 1) i) := Lib.hid (by
              rw [lfn_succ, ← hc.out]; unfold lfs; rw [if_neg hodd, Nat.xor_zero]; omega)
            have hql : q < 4294967296 := by omega
            clear hc hodd
            go_wp2
            go_roundg (gk - 1)
            case rel => exact ⟨k + 1, q, by go_num, rfl, by omega, by omega, HZ.out, hql, rfl⟩
            case measure => omega
        · have hk9 : k = 8 := by omega
          subst hk9
          have HC : Hid (c = lfn 8 i) := hc
          obtain ⟨x, hx, _⟩ := HM.out.tab i hlt
          have hz := HM.out.fr (4 + i)
          have HM2 : Hid (Mk (wr.setCell ⟨b, 4 + i, none⟩ (.int .u32 c)) b 0 st (i + 1) n) := Lib.hid (by rw [HC.out]; exact HM.out.setTab hlt)
          have HB2 : Hid (But (fun x => x = b) w (wr.setCell ⟨b, 4 + i, none⟩ (.int .u32 c))) := Lib.hid (HB.out.store _ _)
          clear hc
          go_wp2
          go_roundg (gO - 1)
          case rel => exact ⟨i + 1, by go_num, by omega, by omega, HM2.out, HB2.out⟩
          case measure => omega
    · have hi2 : i = 256 := by omega
      subst hi2
      go_wp2
      go_end0
      exact ⟨rfl, HM.out, HB.out⟩
end Go.Proofs.YtfjajahniocbkaaDoor
