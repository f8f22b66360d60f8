/- catenaref19.All. Conditions: the entries read as l. -/
import Derived.Test.YtjiipmehgcnaeaaStampC
import Derived.Laws.AppendOwnNone
import Derived.Deep.AppendLies
namespace Go.Proofs.Ytjiipmehgcnaeaa
open Go.RowKit Go.PlainAid

theorem info_note : (Try.prog.info? 70).map (fun i => (i.zero, i.size, i.bytes)) = some (some (.agg #[.int .i64 0, .int .i64 0, .int .u64 0, .int .i64 0, .slice none 0 0, .int .u64 0, .slice none 0 0, .int .i64 0, .int .i64 0, .slice none 0 0, .int .u64 0, .int .i64 0, .int .u64 0, .int .i64 0, .int .i64 0, .int .i64 0, .int .i64 0, .int .i64 0]), 18, 192) := by kernel_rfl

set_option maxRecDepth 100000 in
set_option maxHeartbeats 1600000 in
theorem rsall_any (v : Value) (l : List EntT) (n f : Int) (w : World) (hs : SliceOf entE 4 w v l) (hl : l.length ≤ 1000) (hf : 0 ≤ f) (hf1 : f ≤ topT) (hlast : 0 ≤ lastR l ∧ lastR l ≤ topT) :
    Calls Try.prog 43 #[v, .int .i64 n, .int .u64 f] w fun e w' => ∃ u ys, e = .returned u ∧ AllS l n f ys ∧ w'.ownsRow w.heap.size 70 18 u ys.length (ys.flatMap noteE) ∧ Below w.heap.size w w' := by
  obtain ⟨i0, hi, hz0, hz1, hz2⟩ := info_parts info_note
  have HS := Lib.hid hs
  obtain ⟨ao, cap, rfl, hcap, hcm, _, _⟩ := hs
  have hst := stN_le l
  go_enter Try.func43, Try.ntmps43
  go_wp2_with fail
  refine (rlast_any _ l _ HS.out).mono ?_
  rintro e w1 ⟨rfl, rfl⟩
  go_wp2_with fail
  refine (rstamped_any _ l _ HS.out).mono ?_
  rintro e w1 ⟨rfl, rfl⟩
  go_wp2
  go_loopg [7, 8, 9] (l.length + 1) (fun g s7 s8 s9 wr => ∃ (pre : List Stp) (i a : Int), s8 = .int .u64 a ∧ s9 = .int .i64 i ∧ SRun l.length n f (stN l : Nat) (lastR l) pre i a ∧ (l.length : Int) + 1 ≤ i + g ∧ wr.ownsRow w.heap.size 70 18 s7 pre.length (pre.flatMap noteE) ∧ Below w.heap.size w wr)
  case atStart => exact ⟨[], _, _, rfl, rfl, ⟨rfl, rfl⟩, by omega, World.ownsRow_nil _ _ _ _, Below.refl _ _⟩
  case round =>
    obtain ⟨pre, i, a, rfl, rfl, hrun, hg, hown, hbel⟩ := hrel
    obtain ⟨hi1, hi2⟩ := hrun.place
    have hi2 := hi2 (by omega)
    obtain ⟨ha0, ha1⟩ := hrun.bd hf hf1 hlast.1 hlast.2
    have hsz := hbel.size
    have hi3 : (pre.length : Int) ≤ i := by omega
    have HRUN := Lib.hid hrun; have HO := Lib.hid hown; have HB := Lib.hid hbel
    clear hrun hi1 hown hbel
    by_cases hil : i < (l.length : Int)
    · by_cases hin : i < n
      · have hd1 : decide (i < n) = true := decide_eq_true hin
        have hd2 : decide (i < (l.length : Int)) = true := decide_eq_true hil
        obtain ⟨⟨ts, e⟩, hr⟩ : ∃ r, nxT a f = r := ⟨_, rfl⟩
        have HR := Lib.hid hr; clear hr
        by_cases he : e = 0
        · subst he
          have hrun3 : Hid (SRun l.length n f (stN l : Nat) (lastR l) (pre ++ [(i, ts)]) (i + 1) ts) := Lib.hid (by
            have h := HRUN.out.snoc ⟨hin, hil⟩ (by rw [HR.out])
            rw [HR.out] at h
            exact h)
          go_wp2_with fail
          refine (rsnext_any a f _ ha0 ha1).mono ?_
          rintro e9 w2 ⟨rfl, rfl⟩
          rw [HR.out]
          go_wp2_with (at_builtin; go_loud (refine wpList_append_lies _ rfl (.tmp 35) (.tmp 39) 54 rfl w.heap.size 70 i0 (.agg #[.int .i64 0, .int .i64 0, .int .u64 0, .int .i64 0, .slice none 0 0, .int .u64 0, .slice none 0 0, .int .i64 0, .int .i64 0, .slice none 0 0, .int .u64 0, .int .i64 0, .int .u64 0, .int .i64 0, .int .i64 0, .int .i64 0, .int .i64 0, .int .i64 0]) 18 192 Try.underlying54 hi hz0 hz1 hz2 rfl (by decide) _ pre.length _ rfl (HO.out.alloc _) ⟨wr.heap.size, 0, none⟩ 1 1 (noteE (i, ts)) rfl rfl (World.news_of_block (World.alloc_heap_new _ _)) (by simp [Value.oneCell', noteE]) (by omega) (by unfold maxLen; omega) (by omega) (by simp; omega) (wr.heap.size + 1) (by simp) ?_); intro g1 cp1 w3 hown3 hgr3 hg3 hg3s)
          have HO2 : Hid (w3.ownsRow w.heap.size 70 18 (.slice (some ⟨g1, 0, none⟩) (pre.length + 1) cp1) (pre ++ [(i, ts)]).length ((pre ++ [(i, ts)]).flatMap noteE)) := Lib.hid (by
            rw [List.length_append, List.length_singleton, List.flatMap_append]; exact hown3)
          have HB2 : Hid (Below w.heap.size w w3) := Lib.hid ((HB.out.alloc (by omega) _).grown hgr3 (by simp; omega) (fun j hj => (HO.out.lt j hj).1))
          clear hown3 hgr3
          go_wp2
          go_roundg (gk - 1)
          case rel => exact ⟨pre ++ [(i, ts)], i + 1, ts, rfl, by go_num, hrun3.out, by omega, HO2.out, HB2.out⟩
          case measure => omega
        · have hne : (e != 0) = true := by simpa using he
          have HE := Lib.hid he; clear he
          go_wp2_with fail
          refine (rsnext_any a f _ ha0 ha1).mono ?_
          rintro e9 w2 ⟨rfl, rfl⟩
          rw [HR.out]
          go_wp2
          go_ret
          exact ⟨_, pre, rfl, ⟨i, a, HRUN.out, .inr (by rw [HR.out]; exact HE.out)⟩, HO.out, HB.out⟩
      · have hd1 : decide (i < n) = false := decide_eq_false hin
        have hd2 : decide (i < (l.length : Int)) = true := decide_eq_true hil
        go_wp2
        go_ret
        first
          | exact ⟨_, pre, rfl, ⟨i, a, HRUN.out, .inl (fun h => by omega)⟩, HO.out, HB.out⟩
          | exact ⟨_, rfl, pre, ⟨i, a, HRUN.out, .inl (fun h => by omega)⟩, HO.out, HB.out⟩
    · have hd2 : decide (i < (l.length : Int)) = false := decide_eq_false hil
      go_wp2
      go_ret
      first
          | exact ⟨_, pre, rfl, ⟨i, a, HRUN.out, .inl (fun h => by omega)⟩, HO.out, HB.out⟩
          | exact ⟨_, rfl, pre, ⟨i, a, HRUN.out, .inl (fun h => by omega)⟩, HO.out, HB.out⟩
end Go.Proofs.Ytjiipmehgcnaeaa
