/- Package ether: All. Conditions: at most 1000 packets. -/
import Derived.Test.YtjfnpedlegplnaaEthV
import Derived.RangeFuncNested
import Derived.RangeFuncBound
import Derived.RangeFuncCalls
import Derived.RangeFuncLeaves
import Derived.RangeFuncBox
import Derived.Shelf.Abstract
import Derived.Shelf.RegionOpen
import Derived.WalkKit
import Derived.OwnWalkIn
import Derived.TacticsInMore
import Derived.LoopNIn
import Derived.LoopIn
import Derived.Maps.AppendAt
namespace Go.Proofs.Ytjfnpedlegplnaa
open Go.RowKit Go.Shelf
attribute [local go_sem] Oper.semAt_some

/-- A struct out of a row is loaded inside a fence. -/
theorem wpListIn_load_mid {F : Fence} {n : Nat} {P : Program} {ops : Array Oper} {rest : List Oper} {o : Oper} {a : Act} {w : World} {Q : Exit → Act → World → Prop} (hgd : o.guard = none) (ty : TypeId) (x : Operand) (ho : o.op = .load ty x)
    (b off : Nat) (hx : a.eval x = .pointer (some ⟨b, off, none⟩)) (cs : List Value) (d : TypeDesc) (hc : w.rangeAt b off cs)
    (hu : P.underlying ty = some d) (hd : d.isRow = true) (hi : (P.info? ty).map (·.size) = some cs.length)
    (h : wpListIn F n P ops Q rest (a.put o.dst (.agg cs.toArray)) w) : wpListIn F n P ops Q (o :: rest) a w := by
  refine wpListIn_plain hgd fun K hK => ?_
  unfold Oper.wpIn
  refine ⟨?_, ?_⟩
  · simp [Oper.about, ho]
  · rw [Oper.semAt_plain F _ _ (by rw [ho]; intro c hc'; cases hc')]
    simp only [execOp, ho, hx, Instr.loadAt, Instr.sureAddr, Sem.run_bind, Sem.run_pure, Result.andThen_ok, run_loadVar_mid w b off ty cs d hc hu hd hi]
    exact hK _ _ h
def AllE (l : List PktT) (ys : List PktT) : Prop := ys = l
def PartE (l : List PktT) (ys : List PktT) : Prop := ∃ i, i < l.length ∧ ys = l.take (i + 1)
theorem take_oneE {l : List PktT} {i : Nat} (h : i < l.length) : l.take (i + 1) = l.take i ++ [l[i]] := by rw [List.take_add_one, List.getElem?_eq_getElem h]; rfl
theorem grown_of_belowE {w w' : World} (h : Below w.heap.size w w') : w.grownBy w' none := ⟨h.os, h.tape, h.output, h.size, fun k hk _ => h.block k hk⟩

set_option maxRecDepth 100000 in
set_option maxHeartbeats 2000000 in
theorem eiter_in (lp Bc n₀ b BJ : Nat) (ao : Option Addr) (cap : Nat) (l : List PktT) (w : World) (hn : n₀ = w.heap.size) (hl : l.length ≤ 1000) (J Jx : List PktT → World → Prop) (hJ : AbidesFrom BJ J)
    (hY : ∀ pre x W, J pre W → pre.length < l.length → YieldAt Fence.wide 1 Try.prog lp #[pktV x] W fun e W' =>
      (e = .returned (.bool true) ∧ J (pre ++ [x]) W' ∧ Below n₀ W W') ∨ (e = .returned (.bool false) ∧ Jx (pre ++ [x]) W'))
    (W : World) (hB : W.cell? ⟨Bc, 0, none⟩ = some (.pointer (some ⟨b, 1, none⟩))) (hc : W.cell? ⟨b, 1, none⟩ = some (.slice ao l.length cap)) (hs : SliceOf pktE 3 w (.slice ao l.length cap) l) (hbw : Below n₀ w W) (h0 : J [] W) :
    CallsIn Fence.wide 2 Try.prog 124 #[.func (.yield lp) #[] #[], .pointer (some ⟨Bc, 0, none⟩)] W fun e W' => (∃ v, e = .returned v) ∧
      ((∃ ys, AllE l ys ∧ J ys W') ∨ (∃ pre, PartE l pre ∧ Jx pre W')) := by
  refine callsIn_of_wp Try.func124 rfl trivial ?_ rfl
  simp only [Try.ntmps124, List.size_toArray, List.length_cons, List.length_nil, Nat.reduceAdd, Nat.reduceSub, Array.replicate_succ, Array.replicate_zero, List.push_toArray, List.append_toArray, List.nil_append, List.cons_append]
  have h1 : 1 ≤ (2 : Nat) := by omega
  have HY := Lib.hid hY; have HJ := Lib.hid hJ; have HS := Lib.hid hs; have HN := Lib.hid hn
  clear hY hJ hs hn
  gi_wp2
  gi_loopw [10] (fun p wr => ∃ i : Nat, p = .int .i64 i ∧ i ≤ l.length ∧ J (l.take i) wr ∧ Hid (Below n₀ w wr))
    (fun p wr => l.length - (intOf p).toNat)
  case atStart => exact ⟨0, rfl, by omega, by simpa using h0, Lib.hid hbw⟩
  case round =>
    obtain ⟨i, rfl, hi, hJs, HB⟩ := hrel
    by_cases hlt : i < l.length
    · have hd : decide ((i : Int) < (l.length : Int)) = true := decide_eq_true (by omega)
      obtain ⟨g, off, rfl, hr⟩ := rangePE HS.out i hlt
      have HT := Lib.hid (take_oneE hlt)
      obtain ⟨⟨fr, to, bd⟩, hp⟩ : ∃ p, l[i] = p := ⟨_, rfl⟩
      have HR : Hid (wr.rangeAt g (off + i * 3) (pktE (fr, to, bd))) := Lib.hid (fun j x hx => cell_below (by rw [← HN.out]; exact HB.out) (by have := hr j x; rw [hp] at this; exact this hx))
      rw [hp] at HT
      have hlen : (l.take i).length < l.length := by rw [List.length_take]; omega
      have hJ2 : J (l.take i) (wr.alloc (.cells #[.int .i64 fr, .int .i64 to, .string bd] 110)) := HJ.out _ wr _ none hJs (World.grownBy_alloc wr _ none) (fun _ e => nomatch e)
      obtain ⟨fn, tmps, assign, body, hy, hR⟩ := HY.out (l.take i) (fr, to, bd) _ hJ2 hlen
      dsimp only [pktV] at hy
      clear hr hp hJ2 hlen
      gi_wp2_with (refine wpListIn_load_mid rfl 110 (.tmp 12) rfl g (off + i * 3) rfl (pktE (fr, to, bd)) _ HR.out Try.underlying110 rfl (by kernel_rfl) ?_; unfold pktE)
      refine hR.mono ?_
      rintro e8 W3 (⟨rfl, hJ3, hk3⟩ | ⟨rfl, hJx3⟩)
      · rw [← HT.out] at hJ3
        have HB3 : Hid (Below n₀ w W3) := Lib.hid ((HB.out.alloc (by rw [HN.out]; exact HB.out.size) _).trans hk3)
        clear hk3
        gi_wp2
        go_roundw
        case rel => exact ⟨i + 1, by go_num, by omega, hJ3, HB3⟩
        case measure =>
          show l.length - (i + 1) < l.length - i
          omega
      · rw [← HT.out] at hJx3
        gi_wp2
        refine bodyPost_ret (results_none rfl _ _ _) rfl ?_
        exact ⟨⟨_, rfl⟩, .inr ⟨l.take (i + 1), ⟨i, hlt, rfl⟩, hJx3⟩⟩
    · have hd : decide ((i : Int) < (l.length : Int)) = false := decide_eq_false (by omega)
      have he : l.take i = l := by rw [show i = l.length by omega]; exact List.take_length
      rw [he] at hJs
      gi_wp2
      go_end0
      exact ⟨⟨_, rfl⟩, .inl ⟨l, rfl, hJs⟩⟩
theorem eiter_stops (Bc b : Nat) (ao : Option Addr) (cap : Nat) (l : List PktT) (w w0 : World) (hl : l.length ≤ 1000) (hbw : Below w.heap.size w w0) (hB : w0.cell? ⟨Bc, 0, none⟩ = some (.pointer (some ⟨b, 1, none⟩))) (hc : w0.cell? ⟨b, 1, none⟩ = some (.slice ao l.length cap)) (hs : SliceOf pktE 3 w (.slice ao l.length cap) l) :
    SeqStopsK Fence.wide 2 Try.prog 124 #[.pointer (some ⟨Bc, 0, none⟩)] (fun x : PktT => #[pktV x]) (fun A C => Below w.heap.size A C) (AllE l) (PartE l) l.length w0 := fun lp J Jx W hW hJ _ hY h0 =>
  eiter_in lp Bc w.heap.size b W.heap.size ao cap l w rfl hl J Jx hJ hY W (cell_below hW hB) (cell_below hW hc) hs (hbw.trans (hW.mono hbw.size)) h0
set_option maxHeartbeats 800000 in
theorem each_any (b : Nat) (w : World) :
    CallsIn Fence.wide 2 Try.prog 110 #[.pointer (some ⟨b, 1, none⟩)] w fun e w' => e = .returned (.func (.func 124) #[] #[.pointer (some ⟨w.heap.size, 0, none⟩)]) ∧ w' = w.alloc (.cells #[.pointer (some ⟨b, 1, none⟩)] 188) := by
  refine callsIn_of_wp Try.func110 rfl trivial ?_ rfl
  simp only [Try.ntmps110, List.size_toArray, List.length_cons, List.length_nil, Nat.reduceAdd, Nat.reduceSub, Array.replicate_succ, Array.replicate_zero, List.push_toArray, List.append_toArray, List.nil_append, List.cons_append]
  gi_wp2
  go_ret
  exact ⟨rfl, rfl⟩
end Go.Proofs.Ytjfnpedlegplnaa
