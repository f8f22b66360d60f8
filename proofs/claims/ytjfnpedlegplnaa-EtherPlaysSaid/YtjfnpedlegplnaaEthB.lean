/- Package ether: lose, add, take. Conditions: at most 1000 packets. -/
import Derived.Test.YtjfnpedlegplnaaEthA
namespace Go.Proofs.Ytjfnpedlegplnaa
open Go.RowKit Go.PlainAid

def lostN (n : Int) : Int := if 1073741824 < n + 1 then 1073741824 else n + 1
theorem lostN_bd {n : Int} (h0 : 0 ≤ n) : 0 ≤ lostN n ∧ lostN n ≤ 1073741824 := by unfold lostN; split <;> omega
set_option maxRecDepth 100000 in
set_option maxHeartbeats 400000 in
theorem lose_any (w : World) (b : Nat) (v : Value) (l : List PktT) (n : Int) (h : Eth w b v l n) (h0 : 0 ≤ n) (h1 : n ≤ 1073741824) :
    Calls Try.prog 105 #[.pointer (some ⟨b, 0, none⟩)] w fun e w' => e = .returned (.tuple #[]) ∧ w' = w.setCell ⟨b, 2, none⟩ (.int .i64 (lostN n)) := by
  have c2 := h.c2
  have f2 := h.fr 2
  have hw : IntKind.i64.wrap (n + 1) = n + 1 := IntWalk.i64_in _ ⟨by omega, by omega⟩
  unfold lostN
  clear h
  by_cases hb : 1073741824 < n + 1
  · have hd : decide (1073741824 < n + 1) = true := decide_eq_true hb
    have hd2 : decide (n + 1 < 1073741824) = false := decide_eq_false (by omega)
    rw [if_pos hb]
    go_enter Try.func105, Try.ntmps105
    go_wp2
    go_end0
    exact ⟨rfl, rfl⟩
  · have hd : decide (1073741824 < n + 1) = false := decide_eq_false hb
    rw [if_neg hb]
    rcases Int.lt_trichotomy (n + 1) 1073741824 with hlt | heq | hgt
    · have hd2 : decide (n + 1 < 1073741824) = true := decide_eq_true hlt
      go_enter Try.func105, Try.ntmps105
      go_wp2
      go_end0
      exact ⟨rfl, rfl⟩
    · obtain rfl : n = 1073741823 := by omega
      go_enter Try.func105, Try.ntmps105
      go_wp2
      go_end0
      exact ⟨rfl, rfl⟩
    · omega
theorem frozen_of_blk {w : World} {b : Nat} {cs : Array Value} {T : TypeId} (h : w.heap[b]? = some (.cells cs T (0, 0))) (o : Nat) : w.frozen? ⟨b, o, none⟩ = false := by simp [World.frozen?, h]
theorem cell_of_blk {w : World} {b : Nat} {m : Bool} {v x : Value} {T : TypeId} (h : w.heap[b]? = some (.cells #[.bool m, v, x] T (0, 0))) : w.cell? ⟨b, 1, none⟩ = some v := by simp [World.cell?, h]
theorem but_grown {W w3 : World} {row : Option Nat} (h : W.grownBy w3 row) : But (fun k => row = some k) W w3 := ⟨h.os, h.tape, h.output, h.size, fun k hk hn => h.block k hk (fun e => hn e.symm)⟩
theorem own_block' {w : World} {B : Nat} {e : TypeId} {k : Nat} {v : Value} {n : Nat} {xs : List Value} (h : w.ownsRow B e k v n xs) : ∀ g, v.ownBlock = some g → B ≤ g := own_block h
set_option maxRecDepth 100000 in
set_option maxHeartbeats 1600000 in
theorem add_any (w : World) (b : Nat) (v : Value) (l : List PktT) (n : Int) (p : PktT) (h : Eth w b v l n) (hl : l.length ≤ 1000) :
    Calls Try.prog 106 #[.pointer (some ⟨b, 1, none⟩), pktV p] w fun e w' => e = .returned (.tuple #[]) ∧ ∃ v', Eth w' b v' (l ++ [p]) n ∧ But (EthS b v) w w' ∧ ∀ g, v'.ownBlock = some g → v.ownBlock = some g ∨ w.heap.size ≤ g := by
  obtain ⟨i0, hi, hz0, hz1, hz2⟩ := info_parts info_pkt
  obtain ⟨fr, to, bd⟩ := p
  have hbl := h.lt
  have c1 := h.c1
  have f1 := h.fr 1
  have HE := Lib.hid h
  have HR := Lib.hid h.row
  obtain ⟨ao, cap, rfl, _⟩ := h.slice
  clear h
  unfold pktV
  have x0 : (w.alloc (.cells #[.int .i64 fr, .int .i64 to, .string bd] 110)).cell? ⟨w.heap.size, 0, none⟩ = some (.int .i64 fr) := by rw [World.cell?_alloc_mark]; rfl
  have x1 : (w.alloc (.cells #[.int .i64 fr, .int .i64 to, .string bd] 110)).cell? ⟨w.heap.size, 1, none⟩ = some (.int .i64 to) := by rw [World.cell?_alloc_mark]; rfl
  have x2 : (w.alloc (.cells #[.int .i64 fr, .int .i64 to, .string bd] 110)).cell? ⟨w.heap.size, 2, none⟩ = some (.string bd) := by rw [World.cell?_alloc_mark]; rfl
  go_enter Try.func106, Try.ntmps106
  go_wp2_with fail
  have HW0 : Hid (Below w.heap.size w w) := Lib.hid (Below.refl _ _)
  go_region_law (refine step_append_lies _ rfl (.tmp 8) (.tmp 10) 106 rfl (b + 1) 110 i0 (.agg #[.int .i64 0, .int .i64 0, .string ⟨#[]⟩]) 3 32 Try.underlying106 hi hz0 hz1 hz2 rfl (by decide) _ l.length _ rfl (row_below HR.out (show Below w.heap.size w _ by (repeat (first | exact Below.refl _ _ | refine Below.alloc ?_ (by first | omega | (simp; done) | (simp; omega)) _ | refine Below.drew ?_ | refine below_draws ?_ _)))) _ 1 1 [.int .i64 fr, .int .i64 to, .string bd] rfl rfl (by first | exact World.news_of_block (alloc_at _ _) | exact World.news_of_block (alloc_at' _ _ _ (by simp))) (by simp [Value.oneCell']) (by omega) (by unfold maxLen; omega) (by omega) (by simp <;> omega) _ rfl ?_; intro g1 cp1 w3 hown3 hgr3 hg3 hg3s; have hb3 : w3.heap[b]? = some (.cells #[.bool true, .slice ao l.length cap, .int .i64 n] 170 (0, 0)) := (hgr3.block b (by simp <;> omega) (fun e => by have := (HR.out.lt b (by first | exact e | exact e.symm)).1; omega)).trans (((show Below w.heap.size w _ by (repeat (first | exact Below.refl _ _ | refine Below.alloc ?_ (by first | omega | (simp; done) | (simp; omega)) _ | refine Below.drew ?_ | refine below_draws ?_ _))).block b hbl).trans HE.out.blk); have c4 : w3.cell? ⟨b, 1, none⟩ = some (.slice ao l.length cap) := cell_of_blk hb3; have f4 : w3.frozen? ⟨b, 1, none⟩ = false := frozen_of_blk hb3 1)
  all_goals (
    have HETH := Lib.hid (Eth.setV (l' := l ++ [(fr, to, bd)]) hb3 (by rw [List.flatMap_append, List.length_append]; exact hown3))
    have HBUT : Hid (But (EthS b (.slice ao l.length cap)) w (w3.setCell ⟨b, 1, none⟩ (.slice (some ⟨g1, 0, none⟩) (l.length + 1) cp1))) := Lib.hid (((But.of_below (by (repeat (first | exact Below.refl _ _ | refine Below.alloc ?_ (by first | omega | (simp; done) | (simp; omega)) _ | refine Below.drew ?_ | refine below_draws ?_ _)))).trans' (but_grown hgr3) (fun i _ hi => .inr hi)).setCell (p := ⟨b, 1, none⟩) (fun _ => .inl rfl) _)
    have HOB : Hid (∀ g, (Value.slice (some ⟨g1, 0, none⟩) (l.length + 1) cp1).ownBlock = some g → (Value.slice ao l.length cap).ownBlock = some g ∨ w.heap.size ≤ g) := Lib.hid (fun g hg => by
      have e : g1 = g := Option.some.inj hg
      subst e
      rcases hg3 with h5 | h5
      · exact .inl h5
      · exact .inr (by rw [h5]; simp <;> omega))
    clear hown3 hgr3 hg3
    go_end0
    exact ⟨rfl, _, HETH.out, HBUT.out, HOB.out⟩)
end Go.Proofs.Ytjfnpedlegplnaa
