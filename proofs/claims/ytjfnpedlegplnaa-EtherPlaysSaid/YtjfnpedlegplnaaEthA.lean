/- Package ether: what an ether has; its plain methods. Conditions: none. -/
import Derived.Test.YtjfnpedlegplnaaDelPkt
import Derived.Test.YtjfnpedlegplnaaBut
namespace Go.Proofs.Ytjfnpedlegplnaa
open Go.RowKit Go.PlainAid

/-- An ether that was made: block b; its packets l in the slice v; how many were lost. -/
structure Eth (w : World) (b : Nat) (v : Value) (l : List PktT) (n : Int) : Prop where
  blk : w.heap[b]? = some (.cells #[.bool true, v, .int .i64 n] 170 (0, 0))
  row : w.ownsRow (b + 1) 110 3 v l.length (l.flatMap pktE)
section
variable {w : World} {b : Nat} {v : Value} {l : List PktT} {n : Int}
theorem Eth.c0 (h : Eth w b v l n) : w.cell? ⟨b, 0, none⟩ = some (.bool true) := by simp [World.cell?, h.blk]
theorem Eth.c1 (h : Eth w b v l n) : w.cell? ⟨b, 1, none⟩ = some v := by simp [World.cell?, h.blk]
theorem Eth.c2 (h : Eth w b v l n) : w.cell? ⟨b, 2, none⟩ = some (.int .i64 n) := by simp [World.cell?, h.blk]
theorem Eth.fr (h : Eth w b v l n) (o : Nat) : w.frozen? ⟨b, o, none⟩ = false := by simp [World.frozen?, h.blk]
theorem Eth.lt (h : Eth w b v l n) : b < w.heap.size := (Array.getElem?_eq_some_iff.1 h.blk).1
theorem Eth.slice (h : Eth w b v l n) : SliceOf pktE 3 w v l := SliceOf.own h.row (fun _ _ => rfl)
theorem wf_i64b {a : Int} (h : (Lit.int .i64 a).wf = true) : -9223372036854775808 ≤ a ∧ a ≤ 9223372036854775807 := by simpa [Lit.wf, IntKind.min, IntKind.max, IntKind.signed, IntKind.bits] using h
/-- What a call turns: the ether, its row. -/
def EthS (b : Nat) (v : Value) (k : Nat) : Prop := k = b ∨ v.ownBlock = some k
theorem Eth.kept {w' : World} (h : Eth w b v l n) (hb : Below w.heap.size w w') : Eth w' b v l n := ⟨by rw [hb.block b h.lt]; exact h.blk, row_below h.row hb⟩
theorem Eth.draws (h : Eth w b v l n) (k : Nat) : Eth (w.drewN k) b v l n := h.kept (below_draws (Below.refl _ _) k)
theorem setCell_heap (w : World) (b o : Nat) (u : Value) (cs : Array Value) (T : TypeId) (h : w.heap[b]? = some (.cells cs T (0, 0))) : (w.setCell ⟨b, o, none⟩ u).heap[b]? = some (.cells (cs.setIfInBounds o u) T (0, 0)) := by
  have hlt := (Array.getElem?_eq_some_iff.1 h).1
  simp [World.setCell, Array.getElem?_modify, h]
theorem Eth.setN (h : Eth w b v l n) (m : Int) : Eth (w.setCell ⟨b, 2, none⟩ (.int .i64 m)) b v l m :=
  ⟨setCell_heap w b 2 _ _ _ h.blk, h.row.kept (setCell_grown w b 2 _) (.inr (fun e => by have := (h.row.lt b (by first | exact e | exact e.symm)).1; omega))⟩
theorem Eth.setV {w1 : World} {v' : Value} {l' : List PktT} (hb : w1.heap[b]? = some (.cells #[.bool true, v, .int .i64 n] 170 (0, 0))) (hr : w1.ownsRow (b + 1) 110 3 v' l'.length (l'.flatMap pktE)) : Eth (w1.setCell ⟨b, 1, none⟩ v') b v' l' n :=
  ⟨setCell_heap w1 b 1 _ _ _ hb, hr.kept (setCell_grown w1 b 1 _) (.inr (fun e => by have := (hr.lt b (by first | exact e | exact e.symm)).1; omega))⟩
end
/-- One that nobody made. -/
def EthZ (w : World) (b : Nat) : Prop := w.heap[b]? = some (.cells #[.bool false, .slice none 0 0, .int .i64 0] 170 (0, 0))
theorem EthZ.c0 {w : World} {b : Nat} (h : EthZ w b) : w.cell? ⟨b, 0, none⟩ = some (.bool false) := by simp [World.cell?, show w.heap[b]? = _ from h]
theorem EthZ.kept {w w' : World} {b : Nat} (h : EthZ w b) (hb : Below w.heap.size w w') : EthZ w' b := by
  have hlt := (Array.getElem?_eq_some_iff.1 (show w.heap[b]? = _ from h)).1
  unfold EthZ; rw [hb.block b hlt]; exact h

set_option maxRecDepth 100000 in
set_option maxHeartbeats 400000 in
theorem zero_nil (w : World) : Calls Try.prog 103 #[.pointer none] w fun e w' => e = .returned (.bool true) ∧ w = w' := by
  go_enter Try.func103, Try.ntmps103
  go_wp2
  go_ret
  exact ⟨rfl, rfl⟩
set_option maxRecDepth 100000 in
set_option maxHeartbeats 400000 in
theorem zero_un (w : World) (b : Nat) (h : EthZ w b) : Calls Try.prog 103 #[.pointer (some ⟨b, 0, none⟩)] w fun e w' => e = .returned (.bool true) ∧ w = w' := by
  have c0 := h.c0
  clear h
  go_enter Try.func103, Try.ntmps103
  go_wp2
  go_ret
  exact ⟨rfl, rfl⟩
set_option maxRecDepth 100000 in
set_option maxHeartbeats 400000 in
theorem zero_made (w : World) (b : Nat) (v : Value) (l : List PktT) (n : Int) (h : Eth w b v l n) : Calls Try.prog 103 #[.pointer (some ⟨b, 0, none⟩)] w fun e w' => e = .returned (.bool false) ∧ w = w' := by
  have c0 := h.c0
  clear h
  go_enter Try.func103, Try.ntmps103
  go_wp2
  go_ret
  exact ⟨rfl, rfl⟩
set_option maxRecDepth 100000 in
set_option maxHeartbeats 400000 in
theorem enew_any (w : World) : Calls Try.prog 59 #[] w fun e w' => e = .returned (.pointer (some ⟨w.heap.size, 0, none⟩)) ∧ Eth w' w.heap.size (.slice none 0 0) [] 0 ∧ Below w.heap.size w w' := by
  go_enter Try.func59, Try.ntmps59
  go_wp2
  go_ret
  exact ⟨rfl, ⟨alloc_at _ _, World.ownsRow_nil _ _ _ _⟩, (Below.refl _ _).alloc (Nat.le_refl _) _⟩
def isNode (k : Int) : Bool := decide (0 ≤ k) && decide (k < 8)
set_option maxRecDepth 100000 in
set_option maxHeartbeats 400000 in
theorem node_any (k : Int) (w : World) : Calls Try.prog 104 #[.int .i64 k] w fun e w' => e = .returned (.bool (isNode k)) ∧ w = w' := by
  unfold isNode
  by_cases h1 : 0 ≤ k
  · by_cases h2 : k < 8
    · rw [decide_eq_true h1, decide_eq_true h2]
      have hd1 : decide (0 ≤ k) = true := decide_eq_true h1
      have hd2 : decide (k < 8) = true := decide_eq_true h2
      go_enter Try.func104, Try.ntmps104
      go_wp2
      go_ret
      exact ⟨rfl, rfl⟩
    · rw [decide_eq_true h1, decide_eq_false h2]
      have hd1 : decide (0 ≤ k) = true := decide_eq_true h1
      have hd2 : decide (k < 8) = false := decide_eq_false h2
      go_enter Try.func104, Try.ntmps104
      go_wp2
      go_ret
      exact ⟨rfl, rfl⟩
  · rw [decide_eq_false h1, Bool.false_and]
    have hd1 : decide (0 ≤ k) = false := decide_eq_false h1
    go_enter Try.func104, Try.ntmps104
    go_wp2
    go_ret
    exact ⟨rfl, rfl⟩
set_option maxRecDepth 100000 in
set_option maxHeartbeats 400000 in
theorem elen_nil (w : World) : Calls Try.prog 68 #[.pointer none] w fun e w' => e = .returned (.int .i64 0) ∧ w = w' := by
  go_enter Try.func68, Try.ntmps68
  go_wp2_with (go_at_call 103; refine (zero_nil _).mono ?_; rintro e w1 ⟨rfl, rfl⟩)
  go_ret
  exact ⟨rfl, rfl⟩
set_option maxRecDepth 100000 in
set_option maxHeartbeats 400000 in
theorem elen_un (w : World) (b : Nat) (h : EthZ w b) : Calls Try.prog 68 #[.pointer (some ⟨b, 0, none⟩)] w fun e w' => e = .returned (.int .i64 0) ∧ w = w' := by
  have HE := Lib.hid h; clear h
  go_enter Try.func68, Try.ntmps68
  go_wp2_with (go_at_call 103; refine (zero_un _ _ HE.out).mono ?_; rintro e w1 ⟨rfl, rfl⟩)
  go_ret
  exact ⟨rfl, rfl⟩
set_option maxRecDepth 100000 in
set_option maxHeartbeats 400000 in
theorem elost_nil (w : World) : Calls Try.prog 69 #[.pointer none] w fun e w' => e = .returned (.int .i64 0) ∧ w = w' := by
  go_enter Try.func69, Try.ntmps69
  go_wp2_with (go_at_call 103; refine (zero_nil _).mono ?_; rintro e w1 ⟨rfl, rfl⟩)
  go_ret
  exact ⟨rfl, rfl⟩
set_option maxRecDepth 100000 in
set_option maxHeartbeats 400000 in
theorem elost_un (w : World) (b : Nat) (h : EthZ w b) : Calls Try.prog 69 #[.pointer (some ⟨b, 0, none⟩)] w fun e w' => e = .returned (.int .i64 0) ∧ w = w' := by
  have HE := Lib.hid h; clear h
  go_enter Try.func69, Try.ntmps69
  go_wp2_with (go_at_call 103; refine (zero_un _ _ HE.out).mono ?_; rintro e w1 ⟨rfl, rfl⟩)
  go_ret
  exact ⟨rfl, rfl⟩
set_option maxRecDepth 100000 in
set_option maxHeartbeats 400000 in
theorem elen_made (w : World) (b : Nat) (v : Value) (l : List PktT) (n : Int) (h : Eth w b v l n) : Calls Try.prog 68 #[.pointer (some ⟨b, 0, none⟩)] w fun e w' => e = .returned (.int .i64 (l.length : Nat)) ∧ w = w' := by
  have c1 := h.c1
  obtain ⟨ao, cap, rfl, _⟩ := h.slice
  have HE := Lib.hid h; clear h
  go_enter Try.func68, Try.ntmps68
  go_wp2_with (go_at_call 103; refine (zero_made _ _ _ _ _ HE.out).mono ?_; rintro e w1 ⟨rfl, rfl⟩)
  go_ret
  exact ⟨rfl, rfl⟩
set_option maxRecDepth 100000 in
set_option maxHeartbeats 400000 in
theorem elost_made (w : World) (b : Nat) (v : Value) (l : List PktT) (n : Int) (h : Eth w b v l n) : Calls Try.prog 69 #[.pointer (some ⟨b, 0, none⟩)] w fun e w' => e = .returned (.int .i64 n) ∧ w = w' := by
  have c2 := h.c2
  have HE := Lib.hid h; clear h
  go_enter Try.func69, Try.ntmps69
  go_wp2_with (go_at_call 103; refine (zero_made _ _ _ _ _ HE.out).mono ?_; rintro e w1 ⟨rfl, rfl⟩)
  go_ret
  exact ⟨rfl, rfl⟩
set_option maxRecDepth 100000 in
set_option maxHeartbeats 400000 in
theorem turn_made (w : World) (b : Nat) (v : Value) (l : List PktT) (n k : Int) (h : Eth w b v l n) (hk : (Lit.int .i64 k).wf = true) (h0 : 0 < l.length) : Calls Try.prog 108 #[.pointer (some ⟨b, 1, none⟩), .int .i64 k] w fun e w' => e = .returned (.int .i64 ((k.toNat % l.length : Nat))) ∧ w = w' := by
  have c1 := h.c1
  obtain ⟨ao, cap, rfl, hc, hm, _⟩ := h.slice
  obtain ⟨q, hq⟩ : ∃ q, q = l.length := ⟨_, rfl⟩
  rw [← hq] at c1 hc h0 ⊢
  have hqz : ((q : Int) == 0) = false := beq_eq_false_iff_ne.2 (by omega)
  have hqz' : ¬ (q : Int) = 0 := by omega
  obtain ⟨r, hr⟩ : ∃ r, r = k.toNat % q := ⟨_, rfl⟩
  rw [← hr]
  have hrq : r < q := by rw [hr]; exact Nat.mod_lt _ h0
  have hkb := wf_i64b hk
  by_cases hk0 : 0 < k
  · obtain ⟨m, rfl⟩ : ∃ m : Nat, k = (m : Int) := ⟨k.toNat, by omega⟩
    rw [Int.toNat_natCast] at hr
    have e1 : ((m : Int)).tmod (q : Int) = (r : Int) := by rw [hr, Int.natCast_emod]; exact Int.tmod_eq_emod_of_nonneg (by omega)
    have e2 : ((m : Int)) % (q : Int) = (r : Int) := by rw [hr, Int.natCast_emod]
    have e3 : decide ((0 : Int) < (m : Int)) = true := decide_eq_true hk0
    have e4 : decide ((m : Int) < 0) = false := decide_eq_false (by omega)
    clear hr h hq
    go_enter Try.func108, Try.ntmps108
    go_wp2
    go_ret
    exact ⟨rfl, rfl⟩
  · have hk1 : k.toNat = 0 := by omega
    rw [hk1, Nat.zero_mod] at hr
    subst hr
    have e3 : decide ((0 : Int) < k) = false := decide_eq_false hk0
    have e5 : (0 : Int).tmod (q : Int) = 0 := Int.zero_tmod _
    rcases Int.lt_trichotomy k 0 with hlt | rfl | hgt
    · have e4 : decide (k < 0) = true := decide_eq_true hlt
      clear h hq
      go_enter Try.func108, Try.ntmps108
      go_wp2
      go_ret
      exact ⟨rfl, rfl⟩
    · clear h hq
      go_enter Try.func108, Try.ntmps108
      go_wp2
      go_ret
      exact ⟨rfl, rfl⟩
    · omega
end Go.Proofs.Ytjfnpedlegplnaa
