/- catenalaw21: the calls of EtherPlays opened; the state behind a call, with what was made of it. Conditions: none. -/
import Derived.Test.YtjfnpedlegplnaaEthY
import Derived.Test.YtjfnpedlegplnaaEthYb
namespace Go.Proofs.Ytjfnpedlegplnaa
open Go.RowKit Go.PlainAid Go.ChangeShapes Go.WideShapes Go.Deep

/-- A call: its kind, a packet, a number. -/
abbrev ActT := Int × PktT × Int
def actE (a : ActT) : List Value := [.int .i64 a.1, .int .i64 a.2.1.1, .int .i64 a.2.1.2.1, .string a.2.1.2.2, .int .i64 a.2.2]
def actOk (a : ActT) : Prop := (Lit.int .i64 a.2.2).wf = true
section
variable {H : Type} {enc : TypeId × Value → H} {w : World} {base : Nat} {spare : Nat → Bool} {held : Bool}
set_option maxRecDepth 10000 in
theorem elem_act (n : Nat) (cs : List Value) (x : DataW H × List MemPlace) (h : DataW.trod enc Try.prog w base spare held n 112 cs = some x) : ∃ e, cs = actE e ∧ actOk e := by
  obtain ⟨xs, m, _, _, hl, hxl, hf⟩ := DataW.trod_struct Try.underlying112 h
  have hl5 : cs.length = 5 := hl
  have hx3 : xs.length = 3 := hxl
  clear hl hxl
  match cs, hl5, xs, hx3 with
  | [c0, c1, c2, c3, c4], _, [y0, y1, y2], _ =>
    have h0 : DataW.trod enc Try.prog w base spare held m 3 [c0] = some y0 := hf 0 _ rfl
    have h1 : DataW.trod enc Try.prog w base spare held m 110 [c1, c2, c3] = some y1 := hf 1 _ rfl
    have h2 : DataW.trod enc Try.prog w base spare held m 3 [c4] = some y2 := hf 2 _ rfl
    obtain ⟨a, e0, _, w0⟩ := DataW.trod_int Try.underlying3 h0
    obtain ⟨p, e1, _⟩ := elem_pkt _ _ _ h1
    obtain ⟨c, e2, _, w2⟩ := DataW.trod_int Try.underlying3 h2
    obtain ⟨fr, tq, bd⟩ := p
    simp only [pktE, List.cons.injEq, and_true] at e0 e1 e2
    obtain ⟨e3, e4, e5⟩ := e1
    subst e0 e2 e3 e4 e5
    exact ⟨(a, (fr, tq, bd), c), rfl, w2⟩
theorem open_acts {fuel : Nat} {cs : List Value} {x : DataW H × List MemPlace} (h : DataW.trod enc Try.prog w base spare held fuel 102 cs = some x) :
    ∃ (l : List ActT) (v : Value), cs = [v] ∧ SliceOf actE 5 w v l ∧ ∀ p ∈ l, actOk p :=
  open_rows actE 5 actOk Try.underlying102 (by kernel_rfl) (by omega) elem_act h
end
theorem rangeA {w : World} {ao : Option Addr} {n cap : Nat} {l : List ActT} (h : SliceOf actE 5 w (.slice ao n cap) l) (i : Nat) (hi : i < l.length) : ∃ b off, ao = some ⟨b, off, none⟩ ∧ w.rangeAt b (off + i * 5) (actE l[i]) := by
  obtain ⟨a', c', e1, _, _, _, hx⟩ := h
  obtain ⟨b, off, e2, hr⟩ := hx i hi
  simp only [Value.slice.injEq] at e1
  exact ⟨b, off, by rw [e1.1, e2], hr⟩
theorem send_bd {p : PktT} {l : List PktT} {n : Int} (h : l.length ≤ 400) (h0 : 0 ≤ n) (h1 : n ≤ 1073741824) : (sendR p l n).2.1.length ≤ 400 ∧ 0 ≤ (sendR p l n).2.2 ∧ (sendR p l n).2.2 ≤ 1073741824 := by
  unfold sendR
  split
  · split
    · exact ⟨h, (lostN_bd h0).1, (lostN_bd h0).2⟩
    · simp; omega
  · exact ⟨h, h0, h1⟩

def TW (B : Nat) (w W : World) (v1 : Value) (ax : Option Addr) (cx : Nat) (k : List PktT) (n : Int) (C : Nat) (w' : World) : Prop := Two B w w' B v1 k n C (.slice ax k.length cx) k n ∧ Below W.heap.size W w'
theorem TW.out {A : Prop} {B : Nat} {w W : World} {v1 : Value} {ax : Option Addr} {cx : Nat} {k : List PktT} {n : Int} {C : Nat} {w' : World} (h : A ∧ TW B w W v1 ax cx k n C w') : TW B w W v1 ax cx k n C w' := h.2
def ST (B : Nat) (w W : World) (v1 : Value) (ax : Option Addr) (cx : Nat) (k : List PktT) (n : Int) (C : Nat) (w' : World) : Prop := (w'.cell? ⟨C, 0, none⟩ = some (.slice ax k.length cx) ∧ w'.cell? ⟨C, 1, none⟩ = some (.int .i64 n)) ∧ TW B w W v1 ax cx k n C w'
theorem ST.step {B : Nat} {w W : World} {v1 : Value} {ax : Option Addr} {cx : Nat} {k : List PktT} {n : Int} {C : Nat} {w1 w2 : World} (h : ST B w W v1 ax cx k n C w1) (hb : Below w1.heap.size w1 w2) : ST B w W v1 ax cx k n C w2 :=
  ⟨⟨cell_below hb h.1.1, cell_below hb h.1.2⟩, h.2.1.kept hb, h.2.2.trans (hb.mono h.2.2.size)⟩

def SZ (B : Nat) (w W : World) (v1 : Value) (ax : Option Addr) (cx : Nat) (k : List PktT) (n : Int) (C : Nat) (w' : World) : Prop := ((w'.cell? ⟨C, 0, none⟩ = some (.slice ax k.length cx) ∧ w'.cell? ⟨C, 1, none⟩ = some (.int .i64 n)) ∧ TW B w W v1 ax cx k n C w')
section
variable {B : Nat} {w W : World} {v1 : Value} {ax : Option Addr} {cx : Nat} {k : List PktT} {n : Int} {C : Nat} {w' : World}
theorem sz_len (h : ((w'.cell? ⟨C, 0, none⟩ = some (.slice ax k.length cx) ∧ w'.cell? ⟨C, 1, none⟩ = some (.int .i64 n)) ∧ TW B w W v1 ax cx k n C w')) : Calls Try.prog 68 #[.pointer (some ⟨B, 0, none⟩)] w' fun e w2 => e = .returned (.int .i64 (k.length : Nat)) ∧ w' = w2 := elen_made _ B v1 k n h.2.1.e
theorem sz_lost (h : ((w'.cell? ⟨C, 0, none⟩ = some (.slice ax k.length cx) ∧ w'.cell? ⟨C, 1, none⟩ = some (.int .i64 n)) ∧ TW B w W v1 ax cx k n C w')) : Calls Try.prog 69 #[.pointer (some ⟨B, 0, none⟩)] w' fun e w2 => e = .returned (.int .i64 n) ∧ w' = w2 := elost_made _ B v1 k n h.2.1.e
theorem sz_all (hk : k.length ≤ 400) (h : ((w'.cell? ⟨C, 0, none⟩ = some (.slice ax k.length cx) ∧ w'.cell? ⟨C, 1, none⟩ = some (.int .i64 n)) ∧ TW B w W v1 ax cx k n C w')) : Calls Try.prog 71 #[.pointer (some ⟨B, 0, none⟩)] w' fun e w2 => ∃ u, e = .returned u ∧ Hid (SliceOf pktE 3 w2 u k) ∧ Below w'.heap.size w' w2 := by
  refine (eall_made _ B v1 k n h.2.1.e (by omega)).mono ?_
  rintro e w10 ⟨u10, rfl, hown10, hb10⟩
  exact ⟨u10, rfl, Lib.hid (SliceOf.own (enc := pktE) hown10 (fun _ _ => rfl)), hb10⟩
theorem sz_same {w10 : World} {u : Value} (hu : Hid (SliceOf pktE 3 w10 u k)) (hb : Below w10.heap.size w10 w') (h : ((w'.cell? ⟨C, 0, none⟩ = some (.slice ax k.length cx) ∧ w'.cell? ⟨C, 1, none⟩ = some (.int .i64 n)) ∧ TW B w W v1 ax cx k n C w')) : Calls Try.prog 70 #[u, .slice ax k.length cx] w' fun e w2 => e = .returned (.bool true) ∧ Below w'.heap.size w' w2 := by
  refine (samep_any _ _ k _ (hu.out.below hb) h.2.1.r.slice).mono ?_
  rintro e w11 ⟨rfl, hb11⟩
  exact ⟨rfl, hb11⟩
theorem sz_step {w2 : World} (h : ((w'.cell? ⟨C, 0, none⟩ = some (.slice ax k.length cx) ∧ w'.cell? ⟨C, 1, none⟩ = some (.int .i64 n)) ∧ TW B w W v1 ax cx k n C w')) (hb : Below w'.heap.size w' w2) : ((w2.cell? ⟨C, 0, none⟩ = some (.slice ax k.length cx) ∧ w2.cell? ⟨C, 1, none⟩ = some (.int .i64 n)) ∧ TW B w W v1 ax cx k n C w2) := ST.step h hb
theorem sz_make (h : Two B w W B v1 k n C (.slice ax k.length cx) k n) : ((W.cell? ⟨C, 0, none⟩ = some (.slice ax k.length cx) ∧ W.cell? ⟨C, 1, none⟩ = some (.int .i64 n)) ∧ TW B w W v1 ax cx k n C W) := ⟨⟨h.r.c0, h.r.c1⟩, h, Below.refl _ _⟩
theorem sz_two (h : ((w'.cell? ⟨C, 0, none⟩ = some (.slice ax k.length cx) ∧ w'.cell? ⟨C, 1, none⟩ = some (.int .i64 n)) ∧ TW B w W v1 ax cx k n C w')) : Hid (Two B w w' B v1 k n C (.slice ax k.length cx) k n) := Lib.hid h.2.1
end
end Go.Proofs.Ytjfnpedlegplnaa
