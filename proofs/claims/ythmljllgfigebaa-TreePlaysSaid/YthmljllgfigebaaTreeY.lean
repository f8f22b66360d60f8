/- catenalaw15.TreePlays: both trees as one object. Conditions: at most 80000 keys. -/
import Derived.Test.YthmljllgfigebaaTreeX
namespace Go.Proofs.Ythmljllgfigebaa
open Go.RowKit Go.Shelf Go.PlainAid
set_option linter.unusedVariables false
/-- The document's tree, with the value of its field. -/
def RfU (D : Nat → Prop) (w : World) (rb : Nat) (u : Value) (M : List Kv) : Prop := Blk w rb 28 #[u] ∧ (∃ B, w.ownsRow B 134 2 u M.length (M.flatMap kvE)) ∧ ∀ q, D q ↔ q = rb ∨ u.ownBlock = some q
theorem RfU.o {D : Nat → Prop} {w : World} {rb : Nat} {u : Value} {M : List Kv} (h : RfU D w rb u M) : RfO D w rb M := by obtain ⟨h1, ⟨B, h2⟩, h3⟩ := h; exact ⟨u, B, h1, h2, h3⟩
theorem RfO.u {D : Nat → Prop} {w : World} {rb : Nat} {M : List Kv} (h : RfO D w rb M) : ∃ u, RfU D w rb u M := by obtain ⟨u, B, h1, h2, h3⟩ := h; exact ⟨u, h1, ⟨B, h2⟩, h3⟩
theorem RfU.keep {D : Nat → Prop} {w x : World} {rb : Nat} {u : Value} {M : List Kv} (h : RfU D w rb u M) (hk : ∀ q, D q → x.heap[q]? = w.heap[q]?) : RfU D x rb u M := by
  obtain ⟨h1, ⟨B, h2⟩, h3⟩ := h
  refine ⟨?_, ⟨B, row_sameL h2 (fun i hi => hk i ((h3 i).2 (.inr hi)))⟩, h3⟩
  unfold Blk at h1 ⊢
  rw [hk rb ((h3 rb).2 (.inl rfl))]; exact h1
/-- The program's tree holds L, the document's M. -/
def TwT (S : Nat → Prop) (w : World) (tb rb : Nat) (u : Value) (L M : List Kv) : Prop := ∃ A D d, TrO A w tb L d ∧ RfU D w rb u M ∧ (∀ q, A q → D q → False) ∧ ∀ q, S q ↔ A q ∨ D q
section
variable {S C A D : Nat → Prop} {w x : World} {tb rb N : Nat} {u : Value} {L M : List Kv} {d : Int}
theorem TwT.ofS (h : TwT S w tb rb u L M) : ∀ q, S q → q < w.heap.size := fun q hq => by
  obtain ⟨A, D, d, h1, h2, h3, h4⟩ := h
  rcases (h4 q).1 hq with h | h
  · exact h1.ofS q h
  · exact h2.o.ofS q h
theorem TwT.keep (h : TwT S w tb rb u L M) (hk : ∀ q, S q → x.heap[q]? = w.heap[q]?) : TwT S x tb rb u L M := by
  obtain ⟨A, D, d, h1, h2, h3, h4⟩ := h
  exact ⟨A, D, d, h1.keep fun q hq => hk q ((h4 q).2 (.inl hq)), h2.keep fun q hq => hk q ((h4 q).2 (.inr hq)), h3, h4⟩
theorem TwT.gr {row : Option Nat} (h : TwT S w tb rb u L M) (hg : w.grownBy x row) (hr : ∀ k, row = some k → ¬ S k) : TwT S x tb rb u L M := h.keep fun q hq => hg.block q (h.ofS q hq) (fun e => hr q e.symm hq)
theorem TwT.but (h : TwT S w tb rb u L M) (hb : But C w x) (ha : ∀ q, C q → S q → False) : TwT S x tb rb u L M := h.keep fun q hq => hb.block q (h.ofS q hq) (fun hc => ha q hc hq)
theorem TwT.srt (h : TwT S w tb rb u L M) : Srt L := by obtain ⟨A, D, d, h1, _⟩ := h; exact h1.srt
theorem TwT.blk (h : TwT S w tb rb u L M) : Blk w rb 28 #[u] := by obtain ⟨A, D, d, h1, h2, _⟩ := h; exact h2.1
theorem TwT.sl (h : TwT S w tb rb u L M) : SliceOf kvE 2 w u M := by obtain ⟨A, D, d, h1, ⟨_, ⟨B, h2⟩, _⟩, _⟩ := h; exact SliceOf.own h2 (fun _ _ => rfl)
theorem TwT.mk0 (h : TrO A w tb L d) (hb : Blk w rb 28 #[.slice none 0 0]) (hA : ¬ A rb) : TwT (fun q => A q ∨ q = rb) w tb rb (.slice none 0 0) L [] :=
  ⟨A, fun q => q = rb, d, h, ⟨hb, ⟨0, World.ownsRow_nil _ _ _ _⟩, fun q => by simp [Value.ownBlock]⟩, fun q h1 h2 => by subst h2; exact hA h1, fun q => Iff.rfl⟩
theorem TwT.reA {A' : Nat → Prop} {L' : List Kv} {d' : Int} (h2 : RfU D w rb u M) (h3 : ∀ q, A q → D q → False) (h4 : ∀ q, S q ↔ A q ∨ D q) (k : TrO A' x tb L' d') (g : Grew A A' w x) : TwT (fun q => A' q ∨ D q) x tb rb u L' M ∧ Grew S (fun q => A' q ∨ D q) w x :=
  ⟨⟨A', D, d', k, h2.keep fun q hq => g.but.block q (h2.o.ofS q hq) (fun ha => h3 q ha hq), g.ap h3 h2.o.ofS, fun q => Iff.rfl⟩,
   fun q hq => by
    rcases hq with hq | hq
    · rcases g.sub q hq with k | k
      · exact .inl ((h4 q).2 (.inl k))
      · exact .inr k
    · exact .inl ((h4 q).2 (.inr hq)),
   g.but.mono fun q _ hq => (h4 q).2 (.inl hq)⟩
theorem TwT.reD {D' : Nat → Prop} {M' : List Kv} {u' : Value} (h1 : TrO A w tb L d) (h3 : ∀ q, A q → D q → False) (h4 : ∀ q, S q ↔ A q ∨ D q) (k : RfU D' x rb u' M') (g : Grew D D' w x) : TwT (fun q => A q ∨ D' q) x tb rb u' L M' ∧ Grew S (fun q => A q ∨ D' q) w x :=
  ⟨⟨A, D', d, h1.keep fun q hq => g.but.block q (h1.ofS q hq) (fun hd => h3 q hq hd), k, ap_symm (g.ap (ap_symm h3) h1.ofS), fun q => Iff.rfl⟩,
   fun q hq => by
    rcases hq with hq | hq
    · exact .inl ((h4 q).2 (.inl hq))
    · rcases g.sub q hq with k | k
      · exact .inl ((h4 q).2 (.inr k))
      · exact .inr k,
   g.but.mono fun q _ hq => (h4 q).2 (.inr hq)⟩
theorem TwT.same (h : TwT S w tb rb u L M) (hb : Below w.heap.size w x) : TwT S x tb rb u L M ∧ Grew S S w x := ⟨h.gr (below_grown hb) (fun q e => nomatch e), fun q h => .inl h, But.of_below hb⟩
theorem pPut (w : World) (k : ByteArray) (v : Int) (h : TwT S w tb rb u L M) (hL : L.length ≤ 80000) : Calls Try.prog 16 #[pt tb 0, .string k, .int .i64 v] w fun e w' => ∃ S' : Nat → Prop, e = .returned (.bool (hasL L k)) ∧ TwT S' w' tb rb u (insL L k v) M ∧ Grew S S' w w' := by
  obtain ⟨A, D, d, h1, h2, h3, h4⟩ := h
  exact (tput_any A w tb L d k v h1 hL).mono fun e x ⟨d', A', k1, k2, k3⟩ => ⟨_, k1, TwT.reA h2 h3 h4 k2 k3⟩
theorem pDel (w : World) (k : ByteArray) (h : TwT S w tb rb u L M) (hL : L.length ≤ 80000) : Calls Try.prog 18 #[pt tb 0, .string k] w fun e w' => ∃ S' : Nat → Prop, e = .returned (.bool (hasL L k)) ∧ TwT S' w' tb rb u (delL L k) M ∧ Grew S S' w w' := by
  obtain ⟨A, D, d, h1, h2, h3, h4⟩ := h
  exact (tdel_any A w tb L d k h1 hL).mono fun e x ⟨d', A', k1, k2, k3⟩ => ⟨_, k1, TwT.reA h2 h3 h4 k2 k3⟩
theorem qPut (w : World) (k : ByteArray) (v : Int) (h : TwT S w tb rb u L M) (hM : M.length ≤ 80000) : Calls Try.prog 17 #[pt rb 0, .string k, .int .i64 v] w fun e w' => ∃ (u' : Value) (S' : Nat → Prop), e = .returned (.bool (hasL M k)) ∧ TwT S' w' tb rb u' L (insL M k v) ∧ Grew S S' w w' := by
  obtain ⟨A, D, d, h1, h2, h3, h4⟩ := h
  exact (rput15_any D w rb M k v h2.o hM).mono fun e x ⟨D', k1, k2, k3⟩ => by
    obtain ⟨u', k4⟩ := k2.u
    exact ⟨u', _, k1, TwT.reD h1 h3 h4 k4 k3⟩
theorem qDel (w : World) (k : ByteArray) (h : TwT S w tb rb u L M) (hM : M.length ≤ 80000) : Calls Try.prog 19 #[pt rb 0, .string k] w fun e w' => ∃ (u' : Value) (S' : Nat → Prop), e = .returned (.bool (hasL M k)) ∧ TwT S' w' tb rb u' L (delL M k) ∧ Grew S S' w w' := by
  obtain ⟨A, D, d, h1, h2, h3, h4⟩ := h
  exact (rdel15_any D w rb M k h2.o hM).mono fun e x ⟨D', k1, k2, k3⟩ => by
    obtain ⟨u', k4⟩ := k2.u
    exact ⟨u', _, k1, TwT.reD h1 h3 h4 k4 k3⟩
theorem pGet (w : World) (k : ByteArray) (h : TwT S w tb rb u L M) : Calls Try.prog 20 #[pt tb 0, .string k] w fun e w' => ∃ S' : Nat → Prop, e = .returned (.tuple #[.int .i64 (getL L k), .bool (hasL L k)]) ∧ TwT S' w' tb rb u L M ∧ Grew S S' w w' := by
  have hT := h
  obtain ⟨A, D, d, h1, h2, h3, h4⟩ := h
  exact (tget_any A w tb L d k h1).mono fun e x ⟨k1, k2⟩ => ⟨S, k1, hT.same (k2 ▸ Below.refl _ _)⟩
theorem qGet (w : World) (k : ByteArray) (h : TwT S w tb rb u L M) : Calls Try.prog 21 #[pt rb 0, .string k] w fun e w' => ∃ S' : Nat → Prop, e = .returned (.tuple #[.int .i64 (getL M k), .bool (hasL M k)]) ∧ TwT S' w' tb rb u L M ∧ Grew S S' w w' := by
  have hT := h
  obtain ⟨A, D, d, h1, h2, h3, h4⟩ := h
  exact (rget15_any D w rb M k h2.o).mono fun e x ⟨k1, k2⟩ => ⟨S, k1, hT.same (k2)⟩
theorem pSeek (w : World) (k : ByteArray) (h : TwT S w tb rb u L M) : Calls Try.prog 22 #[pt tb 0, .string k] w fun e w' => ∃ S' : Nat → Prop, e = .returned (.tuple #[.string (hdK (wkL k L)).1, .bool (hdK (wkL k L)).2]) ∧ TwT S' w' tb rb u L M ∧ Grew S S' w w' := by
  have hT := h
  obtain ⟨A, D, d, h1, h2, h3, h4⟩ := h
  exact (tseek_any A w tb L d k h1).mono fun e x ⟨k1, k2⟩ => ⟨S, k1, hT.same (k2)⟩
theorem qSeek (w : World) (k : ByteArray) (h : TwT S w tb rb u L M) : Calls Try.prog 23 #[pt rb 0, .string k] w fun e w' => ∃ S' : Nat → Prop, e = .returned (.tuple #[.string (hdK (wkL k M)).1, .bool (hdK (wkL k M)).2]) ∧ TwT S' w' tb rb u L M ∧ Grew S S' w w' := by
  have hT := h
  obtain ⟨A, D, d, h1, h2, h3, h4⟩ := h
  exact (rseek15_any D w rb M k h2.o).mono fun e x ⟨k1, k2⟩ => ⟨S, k1, hT.same (k2)⟩
theorem pLen (w : World) (h : TwT S w tb rb u L M) : Calls Try.prog 27 #[pt tb 0] w fun e w' => ∃ S' : Nat → Prop, e = .returned (.int .i64 L.length) ∧ TwT S' w' tb rb u L M ∧ Grew S S' w w' := by
  have hT := h
  obtain ⟨A, D, d, h1, h2, h3, h4⟩ := h
  exact (tlen_any A w tb L d h1).mono fun e x ⟨k1, k2⟩ => ⟨S, k1, hT.same (k2 ▸ Below.refl _ _)⟩
theorem pKeys (w : World) (F T : ByteArray) (h : TwT S w tb rb u L M) (hL : L.length ≤ 80000) : Calls Try.prog 25 #[pt tb 0, .string F, .string T] w fun e w' => ∃ (u2 : Value) (S' : Nat → Prop), e = .returned u2 ∧ TwT S' w' tb rb u L M ∧ w'.ownsRow w.heap.size 9 1 u2 (inL F T L).length ((inL F T L).flatMap strE) ∧ (∀ q, S' q → q < w.heap.size) ∧ Grew S S' w w' := by
  have hT := h
  obtain ⟨A, D, d, h1, h2, h3, h4⟩ := h
  exact (tkeys_any A w tb L d F T h1 hL).mono fun e x ⟨u2, k1, k2, k3⟩ => ⟨u2, S, k1, (hT.same k3).1, by rw [← in_cut F T hT.srt]; exact k2, hT.ofS, (hT.same k3).2⟩
theorem qKeys (w : World) (F T : ByteArray) (h : TwT S w tb rb u L M) (hL : M.length ≤ 80000) : Calls Try.prog 26 #[pt rb 0, .string F, .string T] w fun e w' => ∃ (u2 : Value) (S' : Nat → Prop), e = .returned u2 ∧ TwT S' w' tb rb u L M ∧ w'.ownsRow w.heap.size 9 1 u2 (inL F T M).length ((inL F T M).flatMap strE) ∧ (∀ q, S' q → q < w.heap.size) ∧ Grew S S' w w' := by
  have hT := h
  obtain ⟨A, D, d, h1, h2, h3, h4⟩ := h
  exact (rkeys15_any D w rb M F T h2.o hL).mono fun e x ⟨u2, k1, k2, k3⟩ => ⟨u2, S, k1, (hT.same k3).1, k2, hT.ofS, (hT.same k3).2⟩
end
end Go.Proofs.Ythmljllgfigebaa
