/- catenalaw21: EtherZero. Conditions: none. -/
import Derived.Test.YtjiipmehgcnaeaaEthF
import Derived.OpenShut
namespace Go.Proofs.Ytjiipmehgcnaeaa
open Go.RowKit Go.PlainAid Go.ChangeShapes Go.WideShapes Go.Deep

/-- A block of three cells stays. -/
def Box3 (w : World) (k : Nat) (p : PktT) : Prop := w.heap[k]? = some (.cells #[.int .i64 p.1, .int .i64 p.2.1, .string p.2.2] 91 (0, 0))
theorem Box3.kept {w w' : World} {k : Nat} {p : PktT} (h : Box3 w k p) (hb : Below w.heap.size w w') : Box3 w' k p := by
  have hlt := (Array.getElem?_eq_some_iff.1 (show w.heap[k]? = _ from h)).1
  unfold Box3; rw [hb.block k hlt]; exact h
theorem Box3.cells {w : World} {k : Nat} {fr to : Int} {bd : ByteArray} (h : Box3 w k (fr, to, bd)) : w.cell? ⟨k, 0, none⟩ = some (.int .i64 fr) ∧ w.cell? ⟨k, 1, none⟩ = some (.int .i64 to) ∧ w.cell? ⟨k, 2, none⟩ = some (.string bd) := (three_cells h).1

set_option maxRecDepth 100000 in
set_option maxHeartbeats 3200000 in
theorem etherZero_any (p : PktT) (k : Int) (w : World) (_ : True) (_ : (Lit.int .i64 k).wf = true) :
    Calls Try.prog 12 #[pktV p, .int .i64 k] w fun e w' => e = .returned (.bool true) ∧ Below w.heap.size w w' := by
  obtain ⟨fr, to, bd⟩ := p
  unfold pktV
  dsimp only
  have HBX : Hid (Box3 ((w.alloc (.cells #[.int .i64 fr, .int .i64 to, .string bd] 91)).alloc (.cells #[.bool false, .slice none 0 0, .int .i64 0] 110)) w.heap.size (fr, to, bd)) := Lib.hid (Box3.kept (w := w.alloc (.cells #[.int .i64 fr, .int .i64 to, .string bd] 91)) (alloc_at _ _) ((Below.refl _ _).alloc (Nat.le_refl _) _))
  have HZ : Hid (EthZ ((w.alloc (.cells #[.int .i64 fr, .int .i64 to, .string bd] 91)).alloc (.cells #[.bool false, .slice none 0 0, .int .i64 0] 110)) (w.heap.size + 1)) := Lib.hid (alloc_at' _ _ _ (by simp))
  have HB : Hid (Below w.heap.size w ((w.alloc (.cells #[.int .i64 fr, .int .i64 to, .string bd] 91)).alloc (.cells #[.bool false, .slice none 0 0, .int .i64 0] 110))) := Lib.hid (((Below.refl _ w).alloc (Nat.le_refl _) _).alloc (by simp) _)
  go_enter Try.func12, Try.ntmps12
  go_wp2_with fail
  obtain ⟨N, hN⟩ : ∃ N, N = w.heap.size := ⟨_, rfl⟩
  obtain ⟨W0, hW0⟩ : ∃ W0, W0 = ((w.alloc (.cells #[.int .i64 fr, .int .i64 to, .string bd] 91)).alloc (.cells #[.bool false, .slice none 0 0, .int .i64 0] 110)) := ⟨_, rfl⟩
  rw [← hN, ← hW0] at HBX HZ
  rw [← hW0] at HB
  rw [← hN, ← hW0]
  clear hN hW0
  refine (etake_nil _ _).mono ?_
  rintro e w1 ⟨rfl, hb⟩
  have hs := hb.size
  have HB1 := Lib.hid ((HB.out.trans (hb.mono HB.out.size)).alloc (Nat.le_trans HB.out.size hs) (.cells #[.int .i64 0, .int .i64 0, .string ⟨#[]⟩] 91))
  have HX1 := Lib.hid ((HBX.out.kept hb).kept (w' := w1.alloc (.cells #[.int .i64 0, .int .i64 0, .string ⟨#[]⟩] 91)) ((Below.refl _ _).alloc (Nat.le_refl _) _))
  have HZ1 := Lib.hid ((HZ.out.kept hb).kept (w' := w1.alloc (.cells #[.int .i64 0, .int .i64 0, .string ⟨#[]⟩] 91)) ((Below.refl _ _).alloc (Nat.le_refl _) _))
  clear hb hs HB HBX HZ
  unfold pktV
  dsimp only
  go_wp2_with fail
  obtain ⟨W1, hW1⟩ : ∃ W1, W1 = w1.alloc (.cells #[.int .i64 0, .int .i64 0, .string ⟨#[]⟩] 91) := ⟨_, rfl⟩
  rw [← hW1] at HB1 HX1 HZ1 ⊢
  clear hW1
  refine (etake_un _ _ HZ1.out _).mono ?_
  rintro e w2 ⟨rfl, hb⟩
  have hs := hb.size
  have HB2 := Lib.hid ((HB1.out.trans (hb.mono HB1.out.size)).alloc (Nat.le_trans HB1.out.size hs) (.cells #[.int .i64 0, .int .i64 0, .string ⟨#[]⟩] 91))
  have HX2 := Lib.hid ((HX1.out.kept hb).kept (w' := w2.alloc (.cells #[.int .i64 0, .int .i64 0, .string ⟨#[]⟩] 91)) ((Below.refl _ _).alloc (Nat.le_refl _) _))
  have HZ2 := Lib.hid ((HZ1.out.kept hb).kept (w' := w2.alloc (.cells #[.int .i64 0, .int .i64 0, .string ⟨#[]⟩] 91)) ((Below.refl _ _).alloc (Nat.le_refl _) _))
  clear hb hs HB1 HX1 HZ1
  unfold pktV
  dsimp only
  have qs := HX2.out.cells
  obtain ⟨q0, q1, q2⟩ := qs
  go_wp2_with fail
  obtain ⟨W2, hW2⟩ : ∃ W2, W2 = w2.alloc (.cells #[.int .i64 0, .int .i64 0, .string ⟨#[]⟩] 91) := ⟨_, rfl⟩
  rw [← hW2] at HB2 HX2 HZ2 ⊢
  clear hW2 q0 q1 q2
  refine (send_nil _ (fr, to, bd)).mono ?_
  rintro e w3 ⟨rfl, hb⟩
  have HB3 := Lib.hid (HB2.out.trans (hb.mono HB2.out.size))
  have HX3 := Lib.hid (HX2.out.kept hb)
  have HZ3 := Lib.hid (HZ2.out.kept hb)
  clear hb HB2 HX2 HZ2
  obtain ⟨q0, q1, q2⟩ := HX3.out.cells
  go_wp2_with fail
  refine (send_un _ _ HZ3.out (fr, to, bd)).mono ?_
  rintro e w4 ⟨rfl, hb⟩
  have HB4 := Lib.hid (HB3.out.trans (hb.mono HB3.out.size))
  have HZ4 := Lib.hid (HZ3.out.kept hb)
  clear hb HB3 HX3 HZ3 q0 q1 q2
  go_wp2_with fail
  refine (edrop_nil _ _).mono ?_
  rintro e w5 ⟨rfl, hb⟩
  have HB5 := Lib.hid (HB4.out.trans (hb.mono HB4.out.size))
  have HZ5 := Lib.hid (HZ4.out.kept hb)
  clear hb HB4 HZ4
  go_wp2_with fail
  refine (edrop_un _ _ HZ5.out _).mono ?_
  rintro e w6 ⟨rfl, hb⟩
  have HB6 := Lib.hid (HB5.out.trans (hb.mono HB5.out.size))
  have HZ6 := Lib.hid (HZ5.out.kept hb)
  clear hb HB5 HZ5
  go_wp2_with fail
  refine (edouble_nil _ _).mono ?_
  rintro e w7 ⟨rfl, rfl⟩
  go_wp2_with fail
  refine (edouble_un _ _ HZ6.out _).mono ?_
  rintro e w7 ⟨rfl, rfl⟩
  go_wp2_with fail
  refine (elen_nil _).mono ?_
  rintro e w7 ⟨rfl, rfl⟩
  go_wp2_with fail
  refine (elen_un _ _ HZ6.out).mono ?_
  rintro e w7 ⟨rfl, rfl⟩
  go_wp2_with fail
  refine (elost_nil _).mono ?_
  rintro e w7 ⟨rfl, rfl⟩
  go_wp2_with fail
  refine (elost_un _ _ HZ6.out).mono ?_
  rintro e w7 ⟨rfl, rfl⟩
  go_wp2_with fail
  refine (eall_nil _).mono ?_
  rintro e w7 ⟨rfl, rfl⟩
  go_wp2_with fail
  refine (eall_un _ _ HZ6.out).mono ?_
  rintro e w7 ⟨rfl, rfl⟩
  go_wp2_with (go_at_call 67; refine (awake21 _).mono ?_; rintro e w8 ⟨rfl, hb8⟩)
  go_ret
  exact ⟨rfl, HB6.out.trans (hb8.mono HB6.out.size)⟩
theorem okWide_structE {P : Program} {w : World} {r : Reach} {base : Nat} {fs : Array Field} {t : TypeId} {v : Value} (ht : P.underlying t = some (.struct fs)) (h : Value.okWide P w r base t v) : ∃ cs, v = .agg cs ∧ cs.size = P.cellsOf t := by
  simp only [Value.okWide, ht] at h
  obtain ⟨cs, h1, h2, _⟩ := h
  exact ⟨cs, h1, h2⟩
set_option maxRecDepth 10000 in
theorem open_pktv {H : Type} {enc : TypeId × Value → H} {w W0 : World} {base b0 : Nat} {spare : Nat → Bool} {held : Bool} {r : Reach} {v : Value} {n : Nat} {x : DataW H × List MemPlace}
    (hv : Value.okWide Try.prog w r b0 91 v) (h : DataW.trod enc Try.prog W0 base spare held n 91 v.cells.toList = some x) :
    ∃ c : PktT, v = pktV c ∧ True := by
  obtain ⟨cs, rfl, hsz⟩ := okWide_structE Try.underlying91 hv
  obtain ⟨c, hc, hok⟩ := elem_pkt _ _ _ h
  refine ⟨c, ?_, trivial⟩
  have : cs.toList = pktE c := hc
  rw [show cs = (pktE c).toArray by rw [← this]]; rfl
end Go.Proofs.Ytjiipmehgcnaeaa
