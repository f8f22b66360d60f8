/- Package ether: Take of one that was made; Drop, Double, All of one that nobody made; awake. Conditions: at most 1000 packets. -/
import Derived.Test.YtjfnpedlegplnaaEthD
namespace Go.Proofs.Ytjfnpedlegplnaa
open Go.RowKit Go.PlainAid

theorem turn_at (w : World) (b : Nat) (v : Value) (l : List PktT) (n k : Int) (i : Nat) (h : Eth w b v l n) (hk : (Lit.int .i64 k).wf = true) (h0 : 0 < l.length) (hi : k.toNat % l.length = i) : Calls Try.prog 108 #[.pointer (some ⟨b, 1, none⟩), .int .i64 k] w fun e w' => e = .returned (.int .i64 (i : Int)) ∧ w = w' := by
  subst hi; exact turn_made w b v l n k h hk h0
theorem take_at (w : World) (b : Nat) (v : Value) (l : List PktT) (n : Int) (i : Nat) (fr to : Int) (bd : ByteArray) (h : Eth w b v l n) (hl : l.length ≤ 1000) (hi : i < l.length) (hp : l[i] = (fr, to, bd)) :
    Calls Try.prog 107 #[.pointer (some ⟨b, 1, none⟩), .int .i64 i] w fun e w' => e = .returned (.agg #[.int .i64 fr, .int .i64 to, .string bd]) ∧ EthPost b v w (l.take i ++ l.drop (i + 1)) n w' := by
  refine (take_any w b v l n i h hl hi).mono ?_
  rintro e w' ⟨rfl, h2⟩
  exact ⟨by rw [hp]; rfl, h2⟩
theorem EthPost.far {b : Nat} {v : Value} {w w' : World} {l' : List PktT} {n' : Int} (hp : EthPost b v w l' n' w') (k : Nat) (o : Obj) (hk : w.heap[k]? = some o) (hb : k ≠ b) (hv : v.ownBlock ≠ some k) : w'.heap[k]? = some o := by
  obtain ⟨v', h1, h2, h3⟩ := hp
  have hlt := (Array.getElem?_eq_some_iff.1 hk).1
  refine (h2.block k hlt (fun hs => ?_)).trans hk
  rcases hs with hs | hs
  · exact hb hs
  · exact hv hs
theorem EthPost.write3 {b : Nat} {v : Value} {w W w' : World} {l : List PktT} {n : Int} (hW : Below w.heap.size w W) (hsz : w.heap.size < W.heap.size) (hvb : ∀ g, v.ownBlock = some g → g < w.heap.size) (hbl : b < w.heap.size) (hp : EthPost b v W l n w') (u0 u1 u2 : Value) :
    EthPost b v w l n (((w'.setCell ⟨w.heap.size, 0, none⟩ u0).setCell ⟨w.heap.size, 1, none⟩ u1).setCell ⟨w.heap.size, 2, none⟩ u2) := by
  obtain ⟨v', h1, h2, h3⟩ := hp
  have hv : v'.ownBlock ≠ some w.heap.size := fun e => by
    rcases h3 _ e with h | h
    · have := hvb _ h; omega
    · omega
  exact ⟨v', ((h1.other _ 0 u0 (by omega) hv).other _ 1 u1 (by omega) hv).other _ 2 u2 (by omega) hv, ((((But.of_below hW).trans h2).setCell (p := ⟨w.heap.size, 0, none⟩) (fun hh => absurd hh (Nat.lt_irrefl _)) u0).setCell (p := ⟨w.heap.size, 1, none⟩) (fun hh => absurd hh (Nat.lt_irrefl _)) u1).setCell (p := ⟨w.heap.size, 2, none⟩) (fun hh => absurd hh (Nat.lt_irrefl _)) u2, fun g hg => (h3 g hg).imp id (fun h => Nat.le_trans hW.size h)⟩
theorem three_cells {w : World} {k : Nat} {c0 c1 c2 : Value} {T : TypeId} (h : w.heap[k]? = some (.cells #[c0, c1, c2] T (0, 0))) : (w.cell? ⟨k, 0, none⟩ = some c0 ∧ w.cell? ⟨k, 1, none⟩ = some c1 ∧ w.cell? ⟨k, 2, none⟩ = some c2) ∧ (w.frozen? ⟨k, 0, none⟩ = false ∧ w.frozen? ⟨k, 1, none⟩ = false ∧ w.frozen? ⟨k, 2, none⟩ = false) := by
  refine ⟨⟨?_, ?_, ?_⟩, frozen_of_blk h 0, frozen_of_blk h 1, frozen_of_blk h 2⟩ <;> (simp only [World.cell?, h]; rfl)
set_option maxRecDepth 100000 in
set_option maxHeartbeats 400000 in
theorem edrop_nil (w : World) (k : Int) : Calls Try.prog 64 #[.pointer none, .int .i64 k] w fun e w' => e = .returned (.int .i64 8) ∧ Below w.heap.size w w' := by
  go_enter Try.func64, Try.ntmps64
  go_wp2_with fail
  refine (etake_nil _ _).mono ?_
  rintro e w1 ⟨rfl, hb1⟩
  have HB1 := Lib.hid hb1
  have hs1 := hb1.size
  clear hb1
  unfold pktV
  dsimp only
  go_wp2
  go_ret
  exact ⟨rfl, HB1.out.alloc hs1 _⟩
set_option maxRecDepth 100000 in
set_option maxHeartbeats 400000 in
theorem edouble_nil (w : World) (k : Int) : Calls Try.prog 66 #[.pointer none, .int .i64 k] w fun e w' => e = .returned (.int .i64 8) ∧ w = w' := by
  go_enter Try.func66, Try.ntmps66
  go_wp2_with (go_at_call 103; refine (zero_nil _).mono ?_; rintro e w1 ⟨rfl, rfl⟩)
  go_ret
  exact ⟨rfl, rfl⟩
set_option maxRecDepth 100000 in
set_option maxHeartbeats 400000 in
theorem eall_nil (w : World) : Calls Try.prog 71 #[.pointer none] w fun e w' => e = .returned (.slice none 0 0) ∧ w = w' := by
  go_enter Try.func71, Try.ntmps71
  go_wp2_with (go_at_call 103; refine (zero_nil _).mono ?_; rintro e w1 ⟨rfl, rfl⟩)
  go_ret
  exact ⟨rfl, rfl⟩
set_option maxRecDepth 100000 in
set_option maxHeartbeats 400000 in
theorem edrop_un (w : World) (b : Nat) (h : EthZ w b) (k : Int) : Calls Try.prog 64 #[.pointer (some ⟨b, 0, none⟩), .int .i64 k] w fun e w' => e = .returned (.int .i64 8) ∧ Below w.heap.size w w' := by
  have HE := Lib.hid h; clear h
  go_enter Try.func64, Try.ntmps64
  go_wp2_with fail
  refine (etake_un _ _ HE.out _).mono ?_
  rintro e w1 ⟨rfl, hb1⟩
  have HB1 := Lib.hid hb1
  have hs1 := hb1.size
  clear hb1
  unfold pktV
  dsimp only
  go_wp2
  go_ret
  exact ⟨rfl, HB1.out.alloc hs1 _⟩
set_option maxRecDepth 100000 in
set_option maxHeartbeats 400000 in
theorem edouble_un (w : World) (b : Nat) (h : EthZ w b) (k : Int) : Calls Try.prog 66 #[.pointer (some ⟨b, 0, none⟩), .int .i64 k] w fun e w' => e = .returned (.int .i64 8) ∧ w = w' := by
  have HE := Lib.hid h; clear h
  go_enter Try.func66, Try.ntmps66
  go_wp2_with (go_at_call 103; refine (zero_un _ _ HE.out).mono ?_; rintro e w1 ⟨rfl, rfl⟩)
  go_ret
  exact ⟨rfl, rfl⟩
set_option maxRecDepth 100000 in
set_option maxHeartbeats 400000 in
theorem eall_un (w : World) (b : Nat) (h : EthZ w b) : Calls Try.prog 71 #[.pointer (some ⟨b, 0, none⟩)] w fun e w' => e = .returned (.slice none 0 0) ∧ w = w' := by
  have HE := Lib.hid h; clear h
  go_enter Try.func71, Try.ntmps71
  go_wp2_with (go_at_call 103; refine (zero_un _ _ HE.out).mono ?_; rintro e w1 ⟨rfl, rfl⟩)
  go_ret
  exact ⟨rfl, rfl⟩
set_option maxRecDepth 100000 in
set_option maxHeartbeats 1600000 in
theorem etake_made (w : World) (b : Nat) (v : Value) (l : List PktT) (n k : Int) (i : Nat) (fr to : Int) (bd : ByteArray) (h : Eth w b v l n) (hl : l.length ≤ 1000) (hk : (Lit.int .i64 k).wf = true) (h0 : 0 < l.length) (hi : k.toNat % l.length = i) (hil : i < l.length) (hp : l[i] = (fr, to, bd)) :
    Calls Try.prog 62 #[.pointer (some ⟨b, 0, none⟩), .int .i64 k] w fun e w' => e = .returned (.tuple #[.agg #[.int .i64 fr, .int .i64 to, .string bd], .int .i64 0]) ∧ EthPost b v w (l.take i ++ l.drop (i + 1)) n w' := by
  have hbl := h.lt
  have HE := Lib.hid h
  have HE1 := Lib.hid (h.kept (w' := w.alloc (.cells #[.int .i64 0, .int .i64 0, .string ⟨#[]⟩] 110)) ((Below.refl _ w).alloc (Nat.le_refl _) _))
  have hln : ((l.length : Int) == 0) = false := beq_eq_false_iff_ne.2 (by omega)
  have HP := Lib.hid hp
  have hvb : v.ownBlock ≠ some w.heap.size := fun e => by have := (h.row.lt _ e).2; omega
  clear h hp
  go_enter Try.func62, Try.ntmps62
  go_wp2_with (first
    | (go_at_call 103; refine (zero_made _ _ _ _ _ HE1.out).mono ?_; rintro e w1 ⟨rfl, rfl⟩)
    | (go_at_call 68; refine (elen_made _ _ _ _ _ HE1.out).mono ?_; rintro e w1 ⟨rfl, rfl⟩))
  go_region_law (first
    | (go_simp; go_at_call 108; refine Calls.mono (turn_at _ b v l n k i (HE.out.kept (show Below w.heap.size w _ by (repeat (first | exact Below.refl _ _ | refine Below.alloc ?_ (by first | omega | (simp; done) | (simp; omega)) _ | refine Below.drew ?_ | refine below_draws ?_ _)))) hk h0 hi) ?_; rintro e w2 ⟨rfl, rfl⟩)
    | (go_simp; go_at_call 107; refine Calls.mono (take_at _ b v l n i fr to bd (HE.out.kept (show Below w.heap.size w _ by (repeat (first | exact Below.refl _ _ | refine Below.alloc ?_ (by first | omega | (simp; done) | (simp; omega)) _ | refine Below.drew ?_ | refine below_draws ?_ _)))) hl hil HP.out) ?_; rintro e w3 ⟨rfl, htk⟩; have hfar := EthPost.far htk w.heap.size (.cells #[.int .i64 0, .int .i64 0, .string ⟨#[]⟩] 110) (by exact alloc_at _ _) (by omega) hvb; have HF := Lib.hid hfar; obtain ⟨⟨y0, y1, y2⟩, z0, z1, z2⟩ := three_cells hfar; have HTK := Lib.hid (EthPost.write3 (show Below w.heap.size w _ by (repeat (first | exact Below.refl _ _ | refine Below.alloc ?_ (by first | omega | (simp; done) | (simp; omega)) _ | refine Below.drew ?_ | refine below_draws ?_ _))) (by simp) (fun g hg => (HE.out.row.lt g hg).2) hbl htk (.int .i64 fr) (.int .i64 to) (.string bd)); clear htk hfar))
  all_goals (
    have hfin := setCell_heap _ w.heap.size 2 (.string bd) _ _ (setCell_heap _ w.heap.size 1 (.int .i64 to) _ _ (setCell_heap _ w.heap.size 0 (.int .i64 fr) _ _ HF.out))
    obtain ⟨⟨r0, r1, r2⟩, _⟩ := three_cells hfin
    have HR0 := Lib.hid r0; have HR1 := Lib.hid r1; have HR2 := Lib.hid r2
    clear r0 r1 r2 hfin y0 y1 y2 z0 z1 z2
    go_wp2
    exact bodyPost_ret (v := .tuple #[.agg #[.int .i64 fr, .int .i64 to, .string bd], .int .i64 0]) (by simp [results, Try.results62, go_sem, HR0.out, HR1.out, HR2.out]) rfl ⟨rfl, HTK.out⟩)
end Go.Proofs.Ytjfnpedlegplnaa
