/- Put together: PrV, PrW, PrX. Conditions: as each says. -/
import Derived.Test.YthmljllgfigebaaLo4
import Derived.Test.YthmljllgfigebaaPrFLo
/- catenalaw22: what two sides know of one another stays in step (for LinkFair). Conditions: none. -/
namespace Go.Proofs.Ythmljllgfigebaa
open Go.RowKit Go.PlainAid Go.Shelf
set_option linter.unusedVariables false
set_option linter.unusedSimpArgs false

/-- X tells Y; WY is on the way to Y, WX to X. -/
structure FInv (X Y : LnT) (bX bY : Int) (WY WX : List SegT) : Prop where
  p0 : X.peer = 0 → X.first = 0
  f2 : Y.peer = bX → Y.in0 ≤ X.stream
  fw : ∀ s ∈ WY, s.boot = bX → s.stream ≤ X.stream
  g2 : ∀ s ∈ WX, s.ab = bX → s.ast ≤ X.stream
  g1 : ∀ s ∈ WX, s.boot = bY → s.ab = bX → s.ast = X.stream → Y.peer = bX ∧ Y.in0 = X.stream ∧ s.asq ≤ Y.next
  f3 : X.peer = bY → 0 < X.first → Y.peer = bX ∧ Y.in0 = X.stream ∧ X.first ≤ Y.next
/-- Without a start anew: what is told is what was sent. -/
structure UInv (X Y : LnT) (sent told : Int) (WY : List SegT) : Prop where
  st : X.stream = 1
  pr : X.peer = 0 ∨ X.peer = 1
  sw : ∀ s ∈ WY, s.boot = 1 ∧ s.stream = 1
  u1 : X.first + X.q.length = sent
  u2 : ∀ (i : Nat) (b : ByteArray), X.q[i]? = some b → valT b = X.first + i + 1
  u3 : ∀ s ∈ WY, s.has = true → valT s.body = s.seq + 1
  u4 : told = Y.next
  u5 : (Y.peer = 0 ∧ Y.next = 0) ∨ (Y.peer = 1 ∧ Y.in0 = 1)
section
variable {X Y X' Y' : LnT} {bX bY sent told : Int} {WY WX WY' WX' : List SegT} {s : SegT}
theorem FInv.way (h : FInv X Y bX bY WY WX) (hY : ∀ s ∈ WY', s ∈ WY ∨ s.stream = X.stream) (hX : ∀ s ∈ WX', s ∈ WX ∨ (s.ab = Y.peer ∧ s.ast = Y.in0 ∧ s.asq = Y.next)) : FInv X Y bX bY WY' WX' := by
  refine ⟨h.p0, h.f2, ?_, ?_, ?_, h.f3⟩
  · intro s hs hb
    rcases hY s hs with k | k
    · exact h.fw s k hb
    · omega
  · intro s hs ha
    rcases hX s hs with k | ⟨k1, k2, k3⟩
    · exact h.g2 s k ha
    · have := h.f2 (by omega); omega
  · intro s hs hb ha ht
    rcases hX s hs with k | ⟨k1, k2, k3⟩
    · exact h.g1 s k hb ha ht
    · exact ⟨by omega, by omega, by omega⟩
theorem FInv.sameX (h : FInv X Y bX bY WY WX) (h1 : X'.peer = X.peer) (h2 : X'.first = X.first) (h3 : X'.stream = X.stream) : FInv X' Y bX bY WY WX :=
  ⟨by rw [h1, h2]; exact h.p0, by rw [h3]; exact h.f2, by rw [h3]; exact h.fw, by rw [h3]; exact h.g2, by rw [h3]; exact h.g1, by rw [h1, h2, h3]; exact h.f3⟩
theorem FInv.upY (h : FInv X Y bX bY WY WX) (h1 : Y'.peer = bX → Y'.in0 ≤ X.stream) (h2 : Y.peer = bX → Y.in0 = X.stream → Y'.peer = bX ∧ Y'.in0 = X.stream ∧ Y.next ≤ Y'.next) : FInv X Y' bX bY WY WX := by
  refine ⟨h.p0, h1, h.fw, h.g2, fun s hs hb ha ht => ?_, fun hp hf => ?_⟩
  · obtain ⟨a, b, c⟩ := h.g1 s hs hb ha ht
    obtain ⟨d, e, f⟩ := h2 a b
    exact ⟨d, e, by omega⟩
  · obtain ⟨a, b, c⟩ := h.f3 hp hf
    obtain ⟨d, e, f⟩ := h2 a b
    exact ⟨d, e, by omega⟩
theorem FInv.sameY (h : FInv X Y bX bY WY WX) (h1 : Y'.peer = Y.peer) (h2 : Y'.in0 = Y.in0) (h3 : Y'.next = Y.next) : FInv X Y' bX bY WY WX :=
  h.upY (by rw [h1, h2]; exact h.f2) (fun a b => ⟨by rw [h1]; exact a, by rw [h2]; exact b, by rw [h3]; exact Int.le_refl _⟩)
theorem FInv.anewX (h : FInv X Y bX bY WY WX) (hp : Y.peer ≤ bX) (hw : ∀ s ∈ WY, s.boot ≤ bX) (hx : ∀ s ∈ WX, s.ab ≤ bX) : FInv (newLn (bX + 1)) Y (bX + 1) bY WY WX :=
  ⟨fun _ => rfl, fun e => by omega, fun s hs e => by have := hw s hs; omega, fun s hs e => by have := hx s hs; omega, fun s hs _ e => by have := hx s hs; omega, fun _ e => by have e : (0 : Int) < 0 := e; omega⟩
theorem FInv.anewY (h : FInv X Y bX bY WY WX) (hp : X.peer ≤ bY) (hx : ∀ s ∈ WX, s.boot ≤ bY) (hb : 1 ≤ bX) : FInv X (newLn (bY + 1)) bX (bY + 1) WY WX :=
  ⟨h.p0, fun e => by have e : (0 : Int) = bX := e; omega, h.fw, h.g2, fun s hs e => by have := hx s hs; omega, fun e => by omega⟩
theorem FInv.knowX (h : FInv X Y bX bY WY WX) (hb : ¬ s.boot < X.peer) (hs1 : 1 ≤ s.boot) : FInv (knowT X s) Y bX bY WY WX ∧ (knowT X s).peer = s.boot := by
  unfold knowT
  by_cases hp : X.peer < s.boot
  · rw [if_pos hp]
    split
    · rename_i h0
      exact ⟨⟨fun e => by have e : s.boot = 0 := e; omega, h.f2, h.fw, h.g2, h.g1, fun _ hf => by have := h.p0 h0; have hf : 0 < X.first := hf; omega⟩, rfl⟩
    · refine ⟨⟨fun e => by have e : s.boot = 0 := e; omega, fun e => ?_, fun t ht e => ?_, fun t ht e => ?_, fun t ht _ e1 e2 => ?_, fun _ hf => ?_⟩, rfl⟩
      · have := h.f2 e; show Y.in0 ≤ X.stream + 1; omega
      · have := h.fw t ht e; show t.stream ≤ X.stream + 1; omega
      · have := h.g2 t ht e; show t.ast ≤ X.stream + 1; omega
      · have := h.g2 t ht e1; have e2 : t.ast = X.stream + 1 := e2; omega
      · have hf : (0 : Int) < 0 := hf; omega
  · rw [if_neg hp]
    split
    · exact ⟨h.sameX rfl rfl rfl, by show X.peer = s.boot; omega⟩
    · exact ⟨h, by omega⟩
theorem FInv.ackX (h : FInv X Y bX bY WY WX) (hs : s ∈ WX) (hp : X.peer = s.boot) (hX : X.boot = bX) (hs1 : 1 ≤ s.boot) : FInv (ackT X s) Y bX bY WY WX := by
  unfold ackT
  split
  · rename_i hc
    obtain ⟨c1, c2⟩ := hc
    have hgd : goneN X s.asq = min (s.asq - X.first).toNat X.q.length := rfl
    refine ⟨fun e => ?_, h.f2, h.fw, h.g2, h.g1, fun e hf => ?_⟩
    · have e : X.peer = 0 := e; omega
    · have e : X.peer = bY := e
      obtain ⟨a, b, c⟩ := h.g1 s hs (by omega) (by omega) c2
      refine ⟨a, b, ?_⟩
      have hf : 0 < X.first + (goneN X s.asq : Int) := hf
      show X.first + (goneN X s.asq : Int) ≤ Y.next
      by_cases hl : s.asq ≤ X.first
      · have : goneN X s.asq = 0 := by omega
        have := (h.f3 e (by omega)).2.2
        omega
      · omega
  · exact h
theorem FInv.inX (h : FInv X Y bX bY WY WX) (hs : s ∈ WX) (hX : X.boot = bX) : FInv (inT X s).2.2 Y bX bY WY WX := by
  unfold inT
  split
  · exact h
  · rename_i hm
    have hs1 : 0 ≤ s.boot ∧ s.boot ≠ 0 := by have := mayT_iff.1 (by simpa using hm); exact ⟨this.1.1, this.2.2.2.2.2.2⟩
    split
    · exact h
    · rename_i hb
      obtain ⟨k1, k2⟩ := h.knowX hb (by omega)
      have k3 := (know_at X s hb).1
      have k := k1.ackX hs k2 (by omega) (by omega)
      split
      · exact k
      · split
        · exact k.sameX rfl rfl rfl
        · exact k.sameX rfl rfl rfl
theorem FInv.inY (h : FInv X Y bX bY WY WX) (hs : s ∈ WY) (hb : s.boot ≤ bX) : FInv X (inT Y s).2.2 bX bY WY WX := by
  unfold inT
  split
  · exact h
  · split
    · exact h
    · rename_i hb2
      obtain ⟨a1, a2, a3, a4⟩ := ack_peer (knowT Y s) s
      have k0 := (know_at Y s hb2).2.1
      have kin : Y.in0 = X.stream → Y.peer = bX → knowT Y s = Y := fun e1 e2 => by
        have hw := h.fw s hs (by omega)
        unfold knowT; rw [if_neg (by omega), if_neg (by omega)]
      have hf2 : (knowT Y s).peer = bX → (knowT Y s).in0 ≤ X.stream := fun e => by
        have hsb : s.boot = bX := by omega
        have hw := h.fw s hs hsb
        unfold knowT
        split
        · split <;> exact hw
        · split
          · exact hw
          · exact h.f2 (by omega)
      have hK : FInv X (knowT Y s) bX bY WY WX := h.upY hf2 (fun e1 e2 => by rw [kin e2 e1]; exact ⟨e1, e2, Int.le_refl _⟩)
      have hA : FInv X (ackT (knowT Y s) s) bX bY WY WX := hK.sameY a1 a2 a3
      split
      · exact hA
      · split
        · exact hA.upY hA.f2 (fun e1 e2 => ⟨e1, e2, by show _ ≤ _ + 1; omega⟩)
        · exact hA.sameY rfl rfl rfl
theorem UInv.way (h : UInv X Y sent told WY) (hY : ∀ s ∈ WY', s ∈ WY ∨ (OutF X s ∧ X.boot = 1)) : UInv X Y sent told WY' := by
  have hst := h.st
  refine ⟨h.st, h.pr, fun s hs => ?_, h.u1, h.u2, fun s hs hh => ?_, h.u4, h.u5⟩
  · rcases hY s hs with k | ⟨⟨k1, k2, k3, k4⟩, k5⟩
    · exact h.sw s k
    · exact ⟨by omega, by omega⟩
  · rcases hY s hs with k | ⟨⟨k1, k2, k3, k4⟩, k5⟩
    · exact h.u3 s k hh
    · obtain ⟨i, hi, hi2⟩ := k4 hh
      rw [h.u2 i _ hi, hi2]
theorem UInv.sameX (h : UInv X Y sent told WY) (h1 : X'.peer = X.peer) (h2 : X'.stream = X.stream) (h3 : X'.first = X.first) (h4 : X'.q = X.q) : UInv X' Y sent told WY :=
  ⟨by rw [h2]; exact h.st, by rw [h1]; exact h.pr, h.sw, by rw [h3, h4]; exact h.u1, by rw [h3, h4]; exact h.u2, h.u3, h.u4, h.u5⟩
theorem UInv.sameY (h : UInv X Y sent told WY) (h1 : Y'.peer = Y.peer) (h2 : Y'.in0 = Y.in0) (h3 : Y'.next = Y.next) : UInv X Y' sent told WY :=
  ⟨h.st, h.pr, h.sw, h.u1, h.u2, h.u3, by rw [h3]; exact h.u4, by rw [h1, h2, h3]; exact h.u5⟩
theorem UInv.send {b : ByteArray} (h : UInv X Y sent told WY) (hb : valT b = sent + 1) : UInv { X with q := X.q ++ [b] } Y (sent + 1) told WY := by
  have h1 := h.u1
  refine ⟨h.st, h.pr, h.sw, ?_, fun i a hi => ?_, h.u3, h.u4, h.u5⟩
  · show X.first + ((X.q ++ [b]).length : Int) = sent + 1
    rw [List.length_append]; simp; omega
  · by_cases hl : i < X.q.length
    · have hi : (X.q ++ [b])[i]? = some a := hi
      rw [List.getElem?_append_left hl] at hi
      exact h.u2 i a hi
    · have hi : (X.q ++ [b])[i]? = some a := hi
      rw [List.getElem?_append_right (by omega)] at hi
      by_cases he : i - X.q.length = 0
      · rw [he] at hi; simp at hi; subst hi
        show valT b = X.first + (i : Int) + 1
        omega
      · obtain ⟨k, hk⟩ : ∃ k, i - X.q.length = k + 1 := ⟨i - X.q.length - 1, by omega⟩
        rw [hk] at hi; simp at hi
theorem UInv.pop (h : UInv X Y sent told WY) (n : Int) : UInv (popT X n) Y sent told WY := by
  have hg := goneN_le X n
  have h1 := h.u1
  refine ⟨h.st, h.pr, h.sw, ?_, fun i a hi => ?_, h.u3, h.u4, h.u5⟩
  · show X.first + (goneN X n : Int) + ((X.q.drop (goneN X n)).length : Int) = sent
    rw [List.length_drop]; omega
  · have hi : (X.q.drop (goneN X n))[i]? = some a := hi
    rw [List.getElem?_drop] at hi
    rw [h.u2 _ a hi]
    show X.first + ((goneN X n + i : Nat) : Int) + 1 = X.first + (goneN X n : Int) + (i : Int) + 1
    omega
theorem UInv.inX (h : UInv X Y sent told WY) (hs : s.boot = 1) : UInv (inT X s).2.2 Y sent told WY := by
  unfold inT
  split
  · exact h
  · split
    · exact h
    · have hK : UInv (knowT X s) Y sent told WY := by
        unfold knowT
        split
        · rename_i hp
          have h0 : X.peer = 0 := by have := h.pr; omega
          rw [if_pos h0]
          exact ⟨h.st, .inr hs, h.sw, h.u1, h.u2, h.u3, h.u4, h.u5⟩
        · split
          · exact h.sameX rfl rfl rfl rfl
          · exact h
      have hA : UInv (ackT (knowT X s) s) Y sent told WY := by
        unfold ackT
        split
        · exact hK.pop _
        · exact hK
      split
      · exact hA
      · split
        · exact hA.sameX rfl rfl rfl rfl
        · exact hA.sameX rfl rfl rfl rfl
theorem UInv.inY (h : UInv X Y sent told WY) (hs : s ∈ WY) : UInv X (inT Y s).2.2 sent (toldK told (inT Y s).1) WY := by
  obtain ⟨sb, ss⟩ := h.sw s hs
  unfold inT
  split
  · exact h
  · split
    · exact h
    · obtain ⟨a1, a2, a3, a4⟩ := ack_peer (knowT Y s) s
      have hK : UInv X (knowT Y s) sent told WY := by
        rcases h.u5 with ⟨p0, n0⟩ | ⟨p1, i1⟩
        · unfold knowT
          rw [if_pos (by omega), if_pos p0]
          exact ⟨h.st, h.pr, h.sw, h.u1, h.u2, h.u3, by have := h.u4; show told = 0; omega, .inr ⟨sb, ss⟩⟩
        · unfold knowT
          rw [if_neg (by omega), if_neg (by omega)]
          exact h
      have hA : UInv X (ackT (knowT Y s) s) sent told WY := hK.sameY a1 a2 a3
      obtain ⟨K, hKe⟩ : ∃ K, K = ackT (knowT Y s) s := ⟨_, rfl⟩
      rw [← hKe] at hA ⊢
      split
      · exact hA
      · rename_i hh
        have hh : s.has = true := by simpa using hh
        split
        · rename_i hc
          obtain ⟨c1, c2, c3⟩ := hc
          have h5 := hA.u5
          refine ⟨hA.st, hA.pr, hA.sw, hA.u1, hA.u2, hA.u3, ?_, ?_⟩
          · show valT s.body = K.next + 1
            rw [hA.u3 s hs hh]; omega
          · rcases h5 with ⟨p0, n0⟩ | h5
            · refine .inr ?_
              exfalso
              have k0 : K.peer = s.boot := by
                rw [hKe, a1]
                have hp : ¬ s.boot < Y.peer := by assumption
                exact (know_at Y s hp).2.1
              omega
            · exact .inr h5
        · exact hA.sameY rfl rfl rfl
end
/-- Both ways. -/
structure FP (P : PrT) : Prop where
  a : FInv P.A P.B P.b0 P.b1 (wayTo P.W P.T 1) (wayTo P.W P.T 0)
  b : FInv P.B P.A P.b1 P.b0 (wayTo P.W P.T 0) (wayTo P.W P.T 1)
structure UP (P : PrT) : Prop where
  a : UInv P.A P.B P.s0 P.t1 (wayTo P.W P.T 1)
  b : UInv P.B P.A P.s1 P.t0 (wayTo P.W P.T 0)
  b0 : P.b0 = 1
  b1 : P.b1 = 1
theorem fp0 : FP pr0 := by
  have hn : ∀ {p : Prop} (s : SegT), s ∈ ([] : List SegT) → p := fun s h => (List.not_mem_nil h).elim
  have h : FInv (newLn 1) (newLn 1) 1 1 [] [] := ⟨fun _ => rfl, fun e => by have e : (0 : Int) = 1 := e; omega, fun s hs => hn s hs, fun s hs => hn s hs, fun s hs => hn s hs, fun e => by have e : (0 : Int) = 1 := e; omega⟩
  exact ⟨h, h⟩
theorem up0 : UP pr0 := by
  have hn : ∀ {p : Prop} (s : SegT), s ∈ ([] : List SegT) → p := fun s h => (List.not_mem_nil h).elim
  have h : UInv (newLn 1) (newLn 1) 0 0 [] := ⟨rfl, .inl rfl, fun s hs => hn s hs, rfl, fun i b h => by simp [newLn] at h, fun s hs => hn s hs, rfl, .inl ⟨rfl, rfl⟩⟩
  exact ⟨h, h, rfl, rfl⟩
section
variable {P : PrT} {N : Int}
theorem sub_way {W' : List SegT} {T' : List Int} (hP : PInv P N) (hF : FP P) (h : ∀ d s, s ∈ wayTo W' T' d → s ∈ wayTo P.W P.T d) : FP { P with W := W', T := T' } :=
  ⟨hF.a.way (fun s hs => .inl (h 1 s hs)) (fun s hs => .inl (h 0 s hs)), hF.b.way (fun s hs => .inl (h 0 s hs)) (fun s hs => .inl (h 1 s hs))⟩
theorem sub_wayU {W' : List SegT} {T' : List Int} (hU : UP P) (h : ∀ d s, s ∈ wayTo W' T' d → s ∈ wayTo P.W P.T d) : UP { P with W := W', T := T' } :=
  ⟨hU.a.way (fun s hs => .inl (h 1 s hs)), hU.b.way (fun s hs => .inl (h 0 s hs)), hU.b0, hU.b1⟩
theorem FP.come (hP : PInv P N) (hF : FP P) {i : Nat} {y : SegT} {d : Int} (hy : P.W[i]? = some y) (hd : P.T[i]? = some d) : FP (comeP P d y) := by
  have hmem := mem_way.2 ⟨i, hy, hd⟩
  rcases hP.sd d (List.mem_of_getElem? hd) with rfl | rfl
  · unfold comeP
    rw [if_pos rfl]
    exact ⟨hF.a.inX hmem hP.dA.lb, hF.b.inY hmem (hP.dB.wb y hmem).1⟩
  · unfold comeP
    rw [if_neg (by decide)]
    exact ⟨hF.a.inY hmem (hP.dA.wb y hmem).1, hF.b.inX hmem hP.dB.lb⟩
theorem UP.come (hP : PInv P N) (hU : UP P) {i : Nat} {y : SegT} {d : Int} (hy : P.W[i]? = some y) (hd : P.T[i]? = some d) : UP (comeP P d y) := by
  have hmem := mem_way.2 ⟨i, hy, hd⟩
  rcases hP.sd d (List.mem_of_getElem? hd) with rfl | rfl
  · unfold comeP
    rw [if_pos rfl]
    exact ⟨hU.a.inX (hU.b.sw y hmem).1, hU.b.inY hmem, hU.b0, hU.b1⟩
  · unfold comeP
    rw [if_neg (by decide)]
    exact ⟨hU.a.inY hmem, hU.b.inX (hU.a.sw y hmem).1, hU.b0, hU.b1⟩
theorem PInv.come (h : PInv P N) (hN : N ≤ 1000) {i : Nat} {y : SegT} {d : Int} (hy : P.W[i]? = some y) (hd : P.T[i]? = some d) : PInv (comeP P d y) N := by
  have hm := (h.wy y (List.mem_of_getElem? hy)).may hN
  rcases h.sd d (List.mem_of_getElem? hd) with rfl | rfl
  · unfold comeP
    rw [if_pos rfl]
    have hmem := mem_way.2 ⟨i, hy, hd⟩
    have hb := (h.dB.wb y hmem).1
    have hX := h.dA.inX hb
    obtain ⟨-, e1⟩ := h.dB.inY hmem h.dA.lb hm
    have hY : InvD valT P.B (inT P.A y).2.2 P.b1 P.b0 P.s1 (toldK P.t0 (inT P.A y).1) (wayTo P.W P.T 0) := by
      rcases e1 with ⟨a, a2⟩ | ⟨a, _, _, a2⟩
      · rw [a]; exact a2
      · rw [a, toldK_one]; exact a2
    exact ⟨hX, hY, inT_ok h.okA y, h.okB, h.lW, h.lT, h.sd, h.bb, h.ss, inT_bd h.lA h.okA (h.wy y (List.mem_of_getElem? hy)), h.lB, h.wy⟩
  · unfold comeP
    rw [if_neg (by decide)]
    have hmem := mem_way.2 ⟨i, hy, hd⟩
    have hb := (h.dA.wb y hmem).1
    have hX := h.dB.inX hb
    obtain ⟨-, e1⟩ := h.dA.inY hmem h.dB.lb hm
    have hY : InvD valT P.A (inT P.B y).2.2 P.b0 P.b1 P.s0 (toldK P.t1 (inT P.B y).1) (wayTo P.W P.T 1) := by
      rcases e1 with ⟨a, a2⟩ | ⟨a, _, _, a2⟩
      · rw [a]; exact a2
      · rw [a, toldK_one]; exact a2
    exact ⟨hY, hX, h.okA, inT_ok h.okB y, h.lW, h.lT, h.sd, h.bb, h.ss, h.lA, inT_bd h.lB h.okB (h.wy y (List.mem_of_getElem? hy)), h.wy⟩
theorem send_eq {L : LnT} {b : ByteArray} : (sendT L b).2 = (if (sendT L b).1 = 0 then { L with q := L.q ++ [b] } else L) := by
  unfold sendT
  split
  · rfl
  · split
    · rfl
    · rfl
theorem FP.out (hP : PInv P N) (hF : FP P) (sd : Int) (g : Bool) (k : Nat) (hsd : sd = 0 ∨ sd = 1) : FP (outP P sd g k) := by
  rcases hsd with rfl | rfl
  · unfold outP
    rw [if_pos rfl]
    refine ⟨(hF.a.way (WY' := wayTo (P.W ++ (outT P.A g).take k) (P.T ++ List.replicate k 1) 1) (WX' := wayTo (P.W ++ (outT P.A g).take k) (P.T ++ List.replicate k 1) 0) (fun s hs => ?_) (fun s hs => ?_)).sameX rfl rfl rfl, (hF.b.way (WY' := wayTo (P.W ++ (outT P.A g).take k) (P.T ++ List.replicate k 1) 0) (WX' := wayTo (P.W ++ (outT P.A g).take k) (P.T ++ List.replicate k 1) 1) (fun s hs => ?_) (fun s hs => ?_)).sameY rfl rfl rfl⟩
    · rcases way_app hP.lT hs with k1 | ⟨j, k1, k2⟩
      · exact .inl k1
      · exact .inr (outT_form g s (List.mem_of_mem_take (List.mem_of_getElem? k1))).1.2.1
    · rcases way_app hP.lT hs with k1 | ⟨j, k1, k2⟩
      · exact .inl k1
      · have := List.eq_of_mem_replicate (List.mem_of_getElem? k2); omega
    · rcases way_app hP.lT hs with k1 | ⟨j, k1, k2⟩
      · exact .inl k1
      · have := List.eq_of_mem_replicate (List.mem_of_getElem? k2); omega
    · rcases way_app hP.lT hs with k1 | ⟨j, k1, k2⟩
      · exact .inl k1
      · obtain ⟨⟨f1, f2, f3, f4⟩, f5, f6, -⟩ := outT_form g s (List.mem_of_mem_take (List.mem_of_getElem? k1))
        exact .inr ⟨f3, f5, f6⟩
  · unfold outP
    rw [if_neg (by decide)]
    refine ⟨(hF.a.way (WY' := wayTo (P.W ++ (outT P.B g).take k) (P.T ++ List.replicate k 0) 1) (WX' := wayTo (P.W ++ (outT P.B g).take k) (P.T ++ List.replicate k 0) 0) (fun s hs => ?_) (fun s hs => ?_)).sameY rfl rfl rfl, (hF.b.way (WY' := wayTo (P.W ++ (outT P.B g).take k) (P.T ++ List.replicate k 0) 0) (WX' := wayTo (P.W ++ (outT P.B g).take k) (P.T ++ List.replicate k 0) 1) (fun s hs => ?_) (fun s hs => ?_)).sameX rfl rfl rfl⟩
    · rcases way_app hP.lT hs with k1 | ⟨j, k1, k2⟩
      · exact .inl k1
      · have := List.eq_of_mem_replicate (List.mem_of_getElem? k2); omega
    · rcases way_app hP.lT hs with k1 | ⟨j, k1, k2⟩
      · exact .inl k1
      · obtain ⟨⟨f1, f2, f3, f4⟩, f5, f6, -⟩ := outT_form g s (List.mem_of_mem_take (List.mem_of_getElem? k1))
        exact .inr ⟨f3, f5, f6⟩
    · rcases way_app hP.lT hs with k1 | ⟨j, k1, k2⟩
      · exact .inl k1
      · exact .inr (outT_form g s (List.mem_of_mem_take (List.mem_of_getElem? k1))).1.2.1
    · rcases way_app hP.lT hs with k1 | ⟨j, k1, k2⟩
      · exact .inl k1
      · have := List.eq_of_mem_replicate (List.mem_of_getElem? k2); omega
theorem UP.out (hP : PInv P N) (hU : UP P) (sd : Int) (g : Bool) (k : Nat) (hsd : sd = 0 ∨ sd = 1) : UP (outP P sd g k) := by
  have e0 := hU.b0; have e1 := hU.b1; have l0 := hP.dA.lb; have l1 := hP.dB.lb
  rcases hsd with rfl | rfl
  · unfold outP
    rw [if_pos rfl]
    refine ⟨(hU.a.way (WY' := wayTo (P.W ++ (outT P.A g).take k) (P.T ++ List.replicate k 1) 1) (fun s hs => ?_)).sameX rfl rfl rfl rfl, (hU.b.way (WY' := wayTo (P.W ++ (outT P.A g).take k) (P.T ++ List.replicate k 1) 0) (fun s hs => ?_)).sameY rfl rfl rfl, e0, e1⟩
    · rcases way_app hP.lT hs with k1 | ⟨j, k1, k2⟩
      · exact .inl k1
      · exact .inr ⟨(outT_form g s (List.mem_of_mem_take (List.mem_of_getElem? k1))).1, by omega⟩
    · rcases way_app hP.lT hs with k1 | ⟨j, k1, k2⟩
      · exact .inl k1
      · have := List.eq_of_mem_replicate (List.mem_of_getElem? k2); omega
  · unfold outP
    rw [if_neg (by decide)]
    refine ⟨(hU.a.way (WY' := wayTo (P.W ++ (outT P.B g).take k) (P.T ++ List.replicate k 0) 1) (fun s hs => ?_)).sameY rfl rfl rfl, (hU.b.way (WY' := wayTo (P.W ++ (outT P.B g).take k) (P.T ++ List.replicate k 0) 0) (fun s hs => ?_)).sameX rfl rfl rfl rfl, e0, e1⟩
    · rcases way_app hP.lT hs with k1 | ⟨j, k1, k2⟩
      · exact .inl k1
      · have := List.eq_of_mem_replicate (List.mem_of_getElem? k2); omega
    · rcases way_app hP.lT hs with k1 | ⟨j, k1, k2⟩
      · exact .inl k1
      · exact .inr ⟨(outT_form g s (List.mem_of_mem_take (List.mem_of_getElem? k1))).1, by omega⟩
theorem FP.step {K : Int} {P' : PrT} (hP : PInv P N) (hN : N ≤ 1000) (hF : FP P) (hr : StepR K P P') : FP P' := by
  have hl := hP.lT
  have b0 := hP.dB.b1; have b1 := hP.dA.b1
  cases hr with
  | none => exact hF
  | gone i hi => exact sub_way hP hF fun d s hs => way_gone hl hi hs
  | send sd hsd =>
    rcases hsd with rfl | rfl
    · unfold sendP
      rw [if_pos rfl, send_eq]
      split
      · exact ⟨hF.a.sameX rfl rfl rfl, hF.b.sameY rfl rfl rfl⟩
      · exact ⟨hF.a, hF.b⟩
    · unfold sendP
      rw [if_neg (by decide), send_eq]
      split
      · exact ⟨hF.a.sameY rfl rfl rfl, hF.b.sameX rfl rfl rfl⟩
      · exact ⟨hF.a, hF.b⟩
  | out sd g k hsd hlen hk => exact FP.out hP hF sd g k hsd
  | anew sd hsd _ =>
    rcases hsd with rfl | rfl
    · unfold anewP
      rw [if_pos rfl]
      exact ⟨hF.a.anewX hP.dB.pX (fun s hs => (hP.dA.wb s hs).1) (fun s hs => (hP.dB.wb s hs).2.1), hF.b.anewY hP.dB.pX (fun s hs => (hP.dA.wb s hs).1) b1⟩
    · unfold anewP
      rw [if_neg (by decide)]
      exact ⟨hF.a.anewY hP.dA.pX (fun s hs => (hP.dB.wb s hs).1) b0, hF.b.anewX hP.dA.pX (fun s hs => (hP.dB.wb s hs).1) (fun s hs => (hP.dA.wb s hs).2.1)⟩
  | dup i y d hlt hy hd =>
    refine sub_way hP hF fun c s hs => ?_
    rcases way_app hl hs with k1 | ⟨j, k1, k2⟩
    · exact k1
    · have e1 : s = y := by have := List.mem_of_getElem? k1; simpa using this
      have e2 : c = d := by have := List.mem_of_getElem? k2; simpa using this
      subst e1 e2
      exact mem_way.2 ⟨i, hy, hd⟩
  | come i y d hy hd hi =>
    have hC := hP.come hN hy hd
    have hF' := FP.come hP hF hy hd
    have e1 : (comeP P d y).W = P.W := by unfold comeP; split <;> rfl
    exact sub_way hC hF' fun c s hs => way_gone hC.lT (by rw [e1]; exact hi) hs
theorem UP.step {K : Int} {P' : PrT} (hP : PInv P N) (hN : N ≤ 1000) (hU : UP P) (hK : ¬ (6 < K ∨ K < 0)) (hr : StepR K P P') : UP P' := by
  have hl := hP.lT
  have hss := hP.ss
  have htl0 := hP.dB.tl; have htl1 := hP.dA.tl
  cases hr with
  | none => exact hU
  | gone i hi => exact sub_wayU hU fun d s hs => way_gone hl hi hs
  | send sd hsd =>
    rcases hsd with rfl | rfl
    · unfold sendP
      rw [if_pos rfl, send_eq]
      by_cases he : (sendT P.A (numT (P.s0 + 1))).1 = 0
      · rw [if_pos he, if_pos he]
        exact ⟨hU.a.send (val_num (by omega)), hU.b.sameY rfl rfl rfl, hU.b0, hU.b1⟩
      · rw [if_neg he, if_neg he]
        exact ⟨hU.a, hU.b, hU.b0, hU.b1⟩
    · unfold sendP
      rw [if_neg (by decide), send_eq]
      by_cases he : (sendT P.B (numT (P.s1 + 1))).1 = 0
      · rw [if_pos he, if_pos he]
        exact ⟨hU.a.sameY rfl rfl rfl, hU.b.send (val_num (by omega)), hU.b0, hU.b1⟩
      · rw [if_neg he, if_neg he]
        exact ⟨hU.a, hU.b, hU.b0, hU.b1⟩
  | out sd g k hsd hlen hk => exact UP.out hP hU sd g k hsd
  | anew sd hsd h => exact absurd h hK
  | dup i y d hlt hy hd =>
    refine sub_wayU hU fun c s hs => ?_
    rcases way_app hl hs with k1 | ⟨j, k1, k2⟩
    · exact k1
    · have e1 : s = y := by have := List.mem_of_getElem? k1; simpa using this
      have e2 : c = d := by have := List.mem_of_getElem? k2; simpa using this
      subst e1 e2
      exact mem_way.2 ⟨i, hy, hd⟩
  | come i y d hy hd hi =>
    have hC := hP.come hN hy hd
    have hU' := UP.come hP hU hy hd
    have e1 : (comeP P d y).W = P.W := by unfold comeP; split <;> rfl
    exact sub_wayU hU' fun c s hs => way_gone hC.lT (by rw [e1]; exact hi) hs
end
end Go.Proofs.Ythmljllgfigebaa

/- catenalaw22: eight rounds in which all that both tell comes leave nothing that waits (for LinkFair). Conditions: none. -/
namespace Go.Proofs.Ythmljllgfigebaa
open Go.RowKit Go.PlainAid Go.Shelf
set_option linter.unusedVariables false
set_option linter.unusedSimpArgs false

def recv (L : LnT) (l : List SegT) : LnT := l.foldl (fun L s => (inT L s).2.2) L
theorem recv_snoc (L : LnT) (l : List SegT) (s : SegT) : recv L (l ++ [s]) = (inT (recv L l) s).2.2 := by unfold recv; rw [List.foldl_append]; rfl
section
variable {X Y L : LnT} {s : SegT} {a t n bY : Int}
theorem inT_core (hm : mayT s = true) (hb : ¬ s.boot < L.peer) : (inT L s).2.2.boot = (ackT (knowT L s) s).boot ∧ (inT L s).2.2.stream = (ackT (knowT L s) s).stream ∧ (inT L s).2.2.first = (ackT (knowT L s) s).first ∧ (inT L s).2.2.q = (ackT (knowT L s) s).q ∧ (inT L s).2.2.peer = (ackT (knowT L s) s).peer := by
  unfold inT
  rw [if_neg (by simp [hm]), if_neg hb]
  split
  · exact ⟨rfl, rfl, rfl, rfl, rfl⟩
  · split <;> exact ⟨rfl, rfl, rfl, rfl, rfl⟩
theorem ack_len (L : LnT) (s : SegT) : (ackT L s).q.length ≤ L.q.length ∧ (ackT L s).stream = L.stream ∧ (ackT L s).first + ((ackT L s).q.length : Int) = L.first + (L.q.length : Int) ∧ L.first ≤ (ackT L s).first ∧ (s.ab = L.boot → s.ast = L.stream → min s.asq (L.first + (L.q.length : Int)) ≤ (ackT L s).first) := by
  unfold ackT
  split
  · have hg := goneN_le L s.asq
    have hgd : goneN L s.asq = min (s.asq - L.first).toNat L.q.length := rfl
    have h1 : (popT L s.asq).q.length = L.q.length - goneN L s.asq := by show (L.q.drop (goneN L s.asq)).length = _; rw [List.length_drop]
    have h2 : (popT L s.asq).first = L.first + (goneN L s.asq : Int) := rfl
    refine ⟨by omega, rfl, by omega, by omega, fun _ _ => by omega⟩
  · rename_i hc
    exact ⟨Nat.le_refl _, rfl, rfl, Int.le_refl _, fun h1 h2 => absurd ⟨h1, h2⟩ hc⟩
theorem inX_step (hm : mayT s = true) (hp : X.peer ≤ s.boot) : (inT X s).2.2.peer = s.boot ∧ (inT X s).2.2.boot = X.boot ∧ (inT X s).2.2.q.length ≤ X.q.length := by
  obtain ⟨c1, c2, c3, c4, c5⟩ := inT_core (L := X) hm (by omega)
  obtain ⟨a1, a2, a3, a4⟩ := ack_peer (knowT X s) s
  obtain ⟨k1, k2, -, -⟩ := know_at X s (by omega)
  have hq : (knowT X s).q = X.q := by unfold knowT; split <;> split <;> rfl
  have hl := (ack_len (knowT X s) s).1
  rw [hq] at hl
  exact ⟨by rw [c5, a1, k2], by rw [c1, a4, k1], by rw [c4]; exact hl⟩
theorem inX_at (hm : mayT s = true) (hp : X.peer = s.boot) : (inT X s).2.2.stream = X.stream ∧ (inT X s).2.2.first + ((inT X s).2.2.q.length : Int) = X.first + (X.q.length : Int) ∧ X.first ≤ (inT X s).2.2.first ∧ (s.ab = X.boot → s.ast = X.stream → min s.asq (X.first + (X.q.length : Int)) ≤ (inT X s).2.2.first) := by
  obtain ⟨c1, c2, c3, c4, c5⟩ := inT_core (L := X) hm (by omega)
  have hK : (knowT X s).stream = X.stream ∧ (knowT X s).first = X.first ∧ (knowT X s).q = X.q ∧ (knowT X s).boot = X.boot := by
    unfold knowT; rw [if_neg (by omega)]; split <;> exact ⟨rfl, rfl, rfl, rfl⟩
  obtain ⟨k1, k2, k3, k4⟩ := hK
  obtain ⟨l1, l2, l3, l4, l5⟩ := ack_len (knowT X s) s
  rw [k1, k2, k3, k4] at l5
  rw [k2, k3] at l3
  rw [k2] at l4
  rw [k1] at l2
  exact ⟨by rw [c2, l2], by rw [c3, c4, l3], by rw [c3]; exact l4, fun h1 h2 => by rw [c3]; exact l5 h1 h2⟩
theorem recvX_all (l : List SegT) (X : LnT) (hl : ∀ s ∈ l, mayT s = true ∧ s.boot = bY) (hp : X.peer ≤ bY) : (recv X l).boot = X.boot ∧ (recv X l).q.length ≤ X.q.length ∧ (recv X l).peer ≤ bY ∧ (l ≠ [] → (recv X l).peer = bY) := by
  induction l generalizing X with
  | nil => exact ⟨rfl, Nat.le_refl _, hp, fun h => absurd rfl h⟩
  | cons s l ih =>
    obtain ⟨m1, m2⟩ := hl s (by simp)
    obtain ⟨s1, s2, s3⟩ := inX_step (X := X) m1 (by omega)
    have e : recv X (s :: l) = recv (inT X s).2.2 l := rfl
    obtain ⟨i1, i2, i3, i4⟩ := ih (inT X s).2.2 (fun t ht => hl t (by simp [ht])) (by omega)
    rw [e]
    refine ⟨by rw [i1, s2], by omega, i3, fun _ => ?_⟩
    by_cases hn : l = []
    · subst hn; show (inT X s).2.2.peer = bY; omega
    · exact i4 hn
theorem recvX_at (l : List SegT) (X : LnT) (hl : ∀ s ∈ l, mayT s = true ∧ s.boot = bY ∧ s.ab = a ∧ s.ast = t ∧ s.asq = n) (hp : X.peer = bY) : (recv X l).stream = X.stream ∧ (recv X l).first + ((recv X l).q.length : Int) = X.first + (X.q.length : Int) ∧ X.first ≤ (recv X l).first ∧ (l ≠ [] → a = X.boot → t = X.stream → min n (X.first + (X.q.length : Int)) ≤ (recv X l).first) := by
  induction l generalizing X with
  | nil => exact ⟨rfl, rfl, Int.le_refl _, fun h => absurd rfl h⟩
  | cons s l ih =>
    obtain ⟨m1, m2, m3, m4, m5⟩ := hl s (by simp)
    obtain ⟨s1, s2, s3⟩ := inX_step (X := X) m1 (by omega)
    obtain ⟨t1, t2, t3, t4⟩ := inX_at (X := X) m1 (by omega)
    have e : recv X (s :: l) = recv (inT X s).2.2 l := rfl
    obtain ⟨i1, i2, i3, i4⟩ := ih (inT X s).2.2 (fun t ht => hl t (by simp [ht])) (by omega)
    rw [e]
    refine ⟨by rw [i1, t1], by omega, by omega, fun _ h1 h2 => ?_⟩
    have := t4 (by omega) (by omega)
    omega
theorem inY_step (hm : mayT s = true) (hh : s.has = true) (hp : Y.peer ≤ s.boot) : (inT Y s).2.2.peer = s.boot ∧ (inT Y s).2.2.owes = true ∧ (inT Y s).2.2.boot = Y.boot := by
  obtain ⟨s1, s2, -⟩ := inX_step (X := Y) hm hp
  refine ⟨s1, ?_, s2⟩
  unfold inT
  rw [if_neg (by simp [hm]), if_neg (by omega), if_neg (by simp [hh])]
  split <;> rfl
theorem inY_sync (hm : mayT s = true) (hh : s.has = true) (hp : Y.peer ≤ s.boot) (hab : s.ab = Y.boot) (h2 : Y.peer = s.boot → Y.in0 ≤ s.stream) (h3 : Y.peer = s.boot → Y.in0 = s.stream → s.seq ≤ Y.next) (h4 : ¬ (Y.peer = s.boot ∧ Y.in0 = s.stream) → s.seq ≤ 0) : (inT Y s).2.2.in0 = s.stream ∧ s.seq + 1 ≤ (inT Y s).2.2.next := by
  have hK : (knowT Y s).in0 = s.stream ∧ s.seq ≤ (knowT Y s).next := by
    unfold knowT
    split
    · split <;> exact ⟨rfl, h4 (by omega)⟩
    · have h2' := h2 (by omega)
      split
      · exact ⟨rfl, h4 (by omega)⟩
      · exact ⟨by omega, h3 (by omega) (by omega)⟩
  obtain ⟨a1, a2, a3, a4⟩ := ack_peer (knowT Y s) s
  rw [← a2, ← a3] at hK
  obtain ⟨K, hKe⟩ : ∃ K, K = ackT (knowT Y s) s := ⟨_, rfl⟩
  unfold inT
  rw [if_neg (by simp [hm]), if_neg (by omega), if_neg (by simp [hh]), ← hKe]
  rw [← hKe] at hK
  obtain ⟨q1, q2⟩ := hK
  split
  · exact ⟨q1, by show s.seq + 1 ≤ K.next + 1; omega⟩
  · rename_i hc
    refine ⟨q1, ?_⟩
    show s.seq + 1 ≤ K.next
    by_cases he : s.seq = K.next
    · exact absurd ⟨hab, by omega, he⟩ hc
    · omega
theorem outs_succ (L : LnT) (k : Nat) : outsL L 0 (k + 1) = outsL L 0 k ++ [L.seg (L.first + (k : Int)) true (L.q.getD k ⟨#[]⟩)] := by
  unfold outsL eachL
  simp only [Nat.sub_zero]
  rw [List.range'_1_concat, List.map_append, List.map_append]
  simp
theorem outs_mem (L : LnT) (k i : Nat) (h : i < k) : L.seg (L.first + (i : Int)) true (L.q.getD i ⟨#[]⟩) ∈ outsL L 0 k := by
  unfold outsL eachL
  simp only [Nat.sub_zero, List.map_map, List.mem_map, List.mem_range'_1]
  exact ⟨i, by omega, rfl⟩
theorem outT_some (h : L.q ≠ []) : outT L true = outsL L 0 L.to ∧ 1 ≤ L.to := by
  have hl : 0 < L.q.length := List.length_pos_iff.2 h
  have ht : 1 ≤ L.to := by unfold LnT.to; omega
  refine ⟨?_, ht⟩
  unfold outT segsL LnT.fr
  rw [if_pos rfl, if_neg (by omega)]
theorem outT_any (h : L.q ≠ [] ∨ L.owes = true) : outT L true ≠ [] := by
  by_cases hq : L.q = []
  · have ho : L.owes = true := by rcases h with h | h; exact absurd hq h; exact h
    have ht : L.to = 0 := by unfold LnT.to; rw [hq]; simp
    unfold outT segsL LnT.fr
    rw [if_pos rfl, if_pos (by omega), if_pos ho]
    exact List.cons_ne_nil _ _
  · obtain ⟨e, h1⟩ := outT_some hq
    rw [e]
    exact List.ne_nil_of_mem (outs_mem L L.to 0 (by omega))
/-- What X tells comes to Y. -/
theorem tell (X Y : LnT) (hp : Y.peer ≤ X.boot) (k : Nat) (hk : ∀ i : Nat, i < k → mayT (X.seg (X.first + (i : Int)) true (X.q.getD i ⟨#[]⟩)) = true) :
    (recv Y (outsL X 0 k)).boot = Y.boot ∧ (k = 0 → recv Y (outsL X 0 k) = Y) ∧ (0 < k → (recv Y (outsL X 0 k)).peer = X.boot ∧ (recv Y (outsL X 0 k)).owes = true) := by
  induction k with
  | zero => exact ⟨rfl, fun _ => rfl, fun h => absurd h (by omega)⟩
  | succ k ih =>
    obtain ⟨i1, i2, i3⟩ := ih (fun i hi => hk i (by omega))
    rw [outs_succ, recv_snoc]
    have hpk : (recv Y (outsL X 0 k)).peer ≤ X.boot := by
      by_cases h0 : k = 0
      · rw [i2 h0]; exact hp
      · have := (i3 (by omega)).1; omega
    obtain ⟨s1, s2, s3⟩ := inY_step (Y := recv Y (outsL X 0 k)) (hk k (by omega)) rfl hpk
    exact ⟨by rw [s3, i1], fun h => absurd h (by omega), fun _ => ⟨s1, s2⟩⟩
theorem tell_sync (X Y : LnT) (hp : Y.peer ≤ X.boot) (hX : X.peer = Y.boot) (h2 : Y.peer = X.boot → Y.in0 ≤ X.stream) (h3 : 0 < X.first → Y.peer = X.boot ∧ Y.in0 = X.stream ∧ X.first ≤ Y.next) (hn : 0 ≤ Y.next) (k : Nat) (hk : ∀ i : Nat, i < k → mayT (X.seg (X.first + (i : Int)) true (X.q.getD i ⟨#[]⟩)) = true) :
    0 < k → (recv Y (outsL X 0 k)).in0 = X.stream ∧ X.first + (k : Int) ≤ (recv Y (outsL X 0 k)).next := by
  induction k with
  | zero => intro h; omega
  | succ k ih =>
    intro _
    obtain ⟨i1, i2, i3⟩ := tell X Y hp k (fun i hi => hk i (by omega))
    rw [outs_succ, recv_snoc]
    by_cases h0 : k = 0
    · subst h0
      rw [i2 rfl]
      obtain ⟨q1, q2⟩ := inY_sync (Y := Y) (hk 0 (by omega)) rfl hp hX h2 (fun e1 e2 => by
        show X.first + ((0 : Nat) : Int) ≤ Y.next
        by_cases hf : 0 < X.first
        · have := (h3 hf).2.2; omega
        · omega) (fun hc => by
        show X.first + ((0 : Nat) : Int) ≤ 0
        by_cases hf : 0 < X.first
        · obtain ⟨e1, e2, -⟩ := h3 hf; exact absurd ⟨e1, e2⟩ hc
        · omega)
      exact ⟨q1, by have q2 : X.first + ((0 : Nat) : Int) + 1 ≤ _ := q2; omega⟩
    · obtain ⟨j1, j2⟩ := ih (fun i hi => hk i (by omega)) (by omega)
      have j3 := (i3 (by omega)).1
      obtain ⟨q1, q2⟩ := inY_sync (Y := recv Y (outsL X 0 k)) (hk k (by omega)) rfl (by rw [j3]; exact Int.le_refl _) (by rw [i1]; exact hX) (fun _ => by rw [j1]; exact Int.le_refl _) (fun _ _ => j2) (fun hc => absurd ⟨j3, j1⟩ hc)
      exact ⟨q1, by have q2 : X.first + (k : Int) + 1 ≤ _ := q2; omega⟩
end
/-- One side behind a round. -/
def nx (X Y : LnT) : LnT := recv (outN X) (outT Y true)
/-- What holds ahead of a round; X tells Y. -/
structure RI (X Y : LnT) : Prop where
  pY : Y.peer ≤ X.boot
  pX : X.peer ≤ Y.boot
  f2 : Y.peer = X.boot → Y.in0 ≤ X.stream
  f3 : X.peer = Y.boot → 0 < X.first → Y.peer = X.boot ∧ Y.in0 = X.stream ∧ X.first ≤ Y.next
  n0 : 0 ≤ Y.next
  fx : 0 ≤ X.first
  len : X.q.length ≤ 8
  mX : ∀ s ∈ outT X true, mayT s = true
  mY : ∀ s ∈ outT Y true, mayT s = true
section
variable {X Y : LnT} {T a c : Int}
theorem RI.segs (h : RI X Y) : ∀ s ∈ outT Y true, mayT s = true ∧ s.boot = Y.boot ∧ s.ab = Y.peer ∧ s.ast = Y.in0 ∧ s.asq = Y.next := fun s hs => by
  obtain ⟨⟨f1, f2, f3, f4⟩, f5, f6, -⟩ := outT_form true s hs
  exact ⟨h.mY s hs, f1, f3, f5, f6⟩
theorem RI.nxX (h : RI X Y) : (nx X Y).boot = X.boot ∧ (nx X Y).q.length ≤ X.q.length ∧ (outT Y true ≠ [] → (nx X Y).peer = Y.boot) := by
  obtain ⟨i1, i2, i3, i4⟩ := recvX_all (bY := Y.boot) (outT Y true) (outN X) (fun s hs => ⟨(h.segs s hs).1, (h.segs s hs).2.1⟩) h.pX
  exact ⟨i1, i2, i4⟩
theorem RI.nxq (h : RI X Y) (hq : X.q = []) : (nx X Y).q = [] := List.length_eq_zero_iff.1 (by have := h.nxX.2.1; rw [hq] at this; simpa using this)
theorem RI.q (h : RI X Y) (hq : (nx X Y).q ≠ []) : X.q ≠ [] := fun e => hq (h.nxq e)
theorem RI.nxY (h : RI X Y) (hq : X.q ≠ []) : (nx Y X).peer = X.boot ∧ (nx Y X).owes = true ∧ (X.peer = Y.boot → (nx Y X).in0 = X.stream ∧ X.first + (X.to : Int) ≤ (nx Y X).next) := by
  obtain ⟨e, h1⟩ := outT_some hq
  have hm : ∀ i : Nat, i < X.to → mayT (X.seg (X.first + (i : Int)) true (X.q.getD i ⟨#[]⟩)) = true := fun i hi => h.mX _ (by rw [e]; exact outs_mem X X.to i hi)
  have ht := tell X (outN Y) h.pY X.to hm
  have e2 : nx Y X = recv (outN Y) (outsL X 0 X.to) := by unfold nx; rw [e]
  rw [e2]
  refine ⟨(ht.2.2 (by omega)).1, (ht.2.2 (by omega)).2, fun hX => ?_⟩
  exact tell_sync X (outN Y) h.pY hX h.f2 (h.f3 hX) h.n0 X.to hm (by omega)
def G1 (X Y : LnT) : Prop := X.q = [] ∨ (Y.peer = X.boot ∧ Y.owes = true)
def G2 (X Y : LnT) (T a c : Int) : Prop := X.q = [] ∨ (Y.peer = X.boot ∧ Y.owes = true ∧ X.peer = Y.boot ∧ X.first + (X.q.length : Int) = T ∧ a ≤ X.first ∧ (c ≤ 0 ∨ (Y.in0 = X.stream ∧ c ≤ Y.next)))
theorem RI.rd0 (h : RI X Y) : G1 (nx X Y) (nx Y X) := by
  by_cases hq : (nx X Y).q = []
  · exact .inl hq
  · obtain ⟨a1, a2, -⟩ := h.nxY (h.q hq)
    exact .inr ⟨by rw [a1, h.nxX.1], a2⟩
theorem nx_boot (h : RI X Y) : (nx Y X).boot = Y.boot := by
  obtain ⟨i1, i2, i3, i4⟩ := recvX_all (bY := X.boot) (outT X true) (outN Y) (fun s hs => ⟨h.mX s hs, (outT_form true s hs).1.1⟩) h.pY
  exact i1
theorem RI.rd1 (h : RI X Y) (hl : (nx X Y).q.length ≤ 8) (hg : G1 X Y) : ∃ T a : Int, T ≤ a + 8 ∧ G2 (nx X Y) (nx Y X) T a 0 := by
  refine ⟨(nx X Y).first + ((nx X Y).q.length : Int), (nx X Y).first, by omega, ?_⟩
  by_cases hq : (nx X Y).q = []
  · exact .inl hq
  · have hq0 := h.q hq
    rcases hg with hg | ⟨g1, g2⟩
    · exact absurd hg hq0
    · obtain ⟨a1, a2, -⟩ := h.nxY hq0
      exact .inr ⟨by rw [a1, h.nxX.1], a2, by rw [h.nxX.2.2 (outT_any (.inr g2)), nx_boot h], rfl, Int.le_refl _, .inl (Int.le_refl _)⟩
theorem RI.rd2 (h : RI X Y) (hg : G2 X Y T a c) : G2 (nx X Y) (nx Y X) T (max a (min T c)) (min T (a + 4)) := by
  by_cases hq : (nx X Y).q = []
  · exact .inl hq
  · have hq0 := h.q hq
    have hfx := h.fx
    rcases hg with hg | ⟨g1, g2, g3, g4, g5, g6⟩
    · exact absurd hg hq0
    · obtain ⟨a1, a2, a3⟩ := h.nxY hq0
      obtain ⟨a4, a5⟩ := a3 g3
      obtain ⟨r1, r2, r3, r4⟩ := recvX_at (bY := Y.boot) (a := Y.peer) (t := Y.in0) (n := Y.next) (outT Y true) (outN X) h.segs g3
      have r1 : (nx X Y).stream = X.stream := r1
      have r2 : (nx X Y).first + ((nx X Y).q.length : Int) = X.first + (X.q.length : Int) := r2
      have r3 : X.first ≤ (nx X Y).first := r3
      have r4 : outT Y true ≠ [] → Y.peer = X.boot → Y.in0 = X.stream → min Y.next (X.first + (X.q.length : Int)) ≤ (nx X Y).first := r4
      have hto : (X.to : Int) = min 4 (X.q.length : Int) := by unfold LnT.to; omega
      refine .inr ⟨by rw [a1, h.nxX.1], a2, by rw [h.nxX.2.2 (outT_any (.inr g2)), nx_boot h], by omega, ?_, .inr ⟨by rw [a4, r1], by omega⟩⟩
      rcases g6 with g6 | ⟨g6, g7⟩
      · omega
      · have := r4 (outT_any (.inr g2)) g1 g6; omega
theorem G2.weak {a' c' : Int} (h : G2 X Y T a c) (ha : a' ≤ a) (hc : c' ≤ c) : G2 X Y T a' c' := by
  rcases h with h | ⟨g1, g2, g3, g4, g5, g6⟩
  · exact .inl h
  · refine .inr ⟨g1, g2, g3, g4, by omega, ?_⟩
    rcases g6 with g6 | ⟨g6, g7⟩
    · exact .inl (by omega)
    · exact .inr ⟨g6, by omega⟩
/-- Eight rounds. -/
theorem eight {X Y : Nat → LnT} (hR : ∀ k, k < 8 → RI (X k) (Y k)) (hx : ∀ k, k < 8 → X (k + 1) = nx (X k) (Y k)) (hy : ∀ k, k < 8 → Y (k + 1) = nx (Y k) (X k)) : (X 8).q = [] := by
  have g1 : G1 (X 1) (Y 1) := by rw [hx 0 (by omega), hy 0 (by omega)]; exact (hR 0 (by omega)).rd0
  obtain ⟨T, a, hT, g2⟩ := (hR 1 (by omega)).rd1 (by rw [← hx 1 (by omega)]; exact (hR 2 (by omega)).len) g1
  rw [← hx 1 (by omega), ← hy 1 (by omega)] at g2
  have g3 := (hR 2 (by omega)).rd2 g2
  rw [← hx 2 (by omega), ← hy 2 (by omega)] at g3
  have g4 := (hR 3 (by omega)).rd2 g3
  rw [← hx 3 (by omega), ← hy 3 (by omega)] at g4
  have g5 := (hR 4 (by omega)).rd2 (g4.weak (a' := min T (a + 4)) (c' := min T (a + 4)) (by omega) (by omega))
  rw [← hx 4 (by omega), ← hy 4 (by omega)] at g5
  have g6 := (hR 5 (by omega)).rd2 g5
  rw [← hx 5 (by omega), ← hy 5 (by omega)] at g6
  have h6 : (X 6).q = [] := by
    rcases g6 with g6 | ⟨_, _, _, q4, q5, _⟩
    · exact g6
    · exact List.length_eq_zero_iff.1 (by have : ((X (5 + 1)).q.length : Int) = ((X 6).q.length : Int) := rfl; omega)
  rw [hx 7 (by omega)]
  refine (hR 7 (by omega)).nxq ?_
  rw [hx 6 (by omega)]
  exact (hR 6 (by omega)).nxq h6
end
/-- The first k that are on the way come. -/
def comesP (P : PrT) (k : Nat) : PrT := ((P.W.zip P.T).take k).foldl (fun Q p => comeP Q p.2 p.1) P
def clrP (P : PrT) : PrT := { P with W := [], T := [] }
def outsP (P : PrT) : PrT := outP (outP (clrP P) 0 true (outT P.A true).length) 1 true (outT P.B true).length
def roundP (P : PrT) : PrT := comesP (outsP P) (outsP P).W.length
def rndsP (P : PrT) : Nat → PrT
  | 0 => P
  | k + 1 => roundP (rndsP P k)
theorem comesP_succ {P : PrT} {k : Nat} {y : SegT} {d : Int} (hy : P.W[k]? = some y) (hd : P.T[k]? = some d) : comesP P (k + 1) = comeP (comesP P k) d y := by
  unfold comesP
  rw [List.take_add_one, show (P.W.zip P.T)[k]? = some (y, d) from List.getElem?_zip_eq_some.2 ⟨hy, hd⟩, List.foldl_append]
  rfl
theorem comeP_W (P : PrT) (d : Int) (y : SegT) : (comeP P d y).W = P.W ∧ (comeP P d y).T = P.T := by unfold comeP; split <;> exact ⟨rfl, rfl⟩
theorem comes_all {P : PrT} {N : Int} (hP : PInv P N) (hN : N ≤ 1000) (hF : FP P) (k : Nat) (hk : k ≤ P.W.length) : PInv (comesP P k) N ∧ FP (comesP P k) ∧ (UP P → UP (comesP P k)) ∧ (comesP P k).W = P.W ∧ (comesP P k).T = P.T := by
  induction k with
  | zero => exact ⟨hP, hF, id, rfl, rfl⟩
  | succ k ih =>
    obtain ⟨i1, i2, i3, i4, i5⟩ := ih (by omega)
    have hl := hP.lT
    obtain ⟨y, hy⟩ : ∃ z, P.W[k]? = some z := ⟨_, List.getElem?_eq_getElem (by omega)⟩
    obtain ⟨d, hd⟩ : ∃ z, P.T[k]? = some z := ⟨_, List.getElem?_eq_getElem (by omega)⟩
    rw [comesP_succ hy hd]
    have hy' : (comesP P k).W[k]? = some y := by rw [i4]; exact hy
    have hd' : (comesP P k).T[k]? = some d := by rw [i5]; exact hd
    obtain ⟨w1, w2⟩ := comeP_W (comesP P k) d y
    exact ⟨i1.come hN hy' hd', FP.come i1 i2 hy' hd', fun hU => UP.come i1 (i3 hU) hy' hd', by rw [w1, i4], by rw [w2, i5]⟩
theorem PInv.clr {P : PrT} {N : Int} (h : PInv P N) : PInv (clrP P) N := by
  have hn : ∀ {p : Prop} {d : Int} (s : SegT), s ∈ wayTo ([] : List SegT) [] d → p := fun s h => by obtain ⟨i, h1, _⟩ := mem_way.1 h; simp at h1
  exact ⟨h.dA.way (fun s hs => hn s hs), h.dB.way (fun s hs => hn s hs), h.okA, h.okB, by simp [clrP], rfl, fun d hd => (List.not_mem_nil hd).elim, h.bb, h.ss, h.lA, h.lB, fun s hs => (List.not_mem_nil hs).elim⟩
theorem FP.clr {P : PrT} {N : Int} (hP : PInv P N) (h : FP P) : FP (clrP P) := sub_way hP h fun d s hs => by obtain ⟨i, h1, _⟩ := mem_way.1 hs; simp at h1
theorem UP.clr {P : PrT} (h : UP P) : UP (clrP P) := sub_wayU h fun d s hs => by obtain ⟨i, h1, _⟩ := mem_way.1 hs; simp at h1
theorem outsP_eq (P : PrT) : outsP P = { P with A := outN P.A, B := outN P.B, W := outT P.A true ++ outT P.B true, T := List.replicate (outT P.A true).length 1 ++ List.replicate (outT P.B true).length 0 } := by
  simp [outsP, outP, clrP]
theorem outP_len (P : PrT) (sd : Int) (g : Bool) (k : Nat) : (outP P sd g k).W.length ≤ P.W.length + k := by
  unfold outP
  split
  · show (P.W ++ (outT P.A g).take k).length ≤ _
    rw [List.length_append, List.length_take]; omega
  · show (P.W ++ (outT P.B g).take k).length ≤ _
    rw [List.length_append, List.length_take]; omega
theorem outs_all {P : PrT} {N : Int} (hP : PInv P N) (hN0 : 0 ≤ N) (hN : N ≤ 900) (hF : FP P) : PInv (outsP P) (N + 2) ∧ FP (outsP P) ∧ (UP P → UP (outsP P)) := by
  have l0 := outT_len P.A true
  have l1 := outT_len P.B true
  have h0 := hP.clr
  have c0 : (clrP P).W.length = 0 := rfl
  have e1 := outP_len (clrP P) 0 true (outT P.A true).length
  have h1 := h0.step hN0 (by omega) (StepR.out (K := 0) (P := clrP P) 0 true (outT P.A true).length (by decide) (by omega) (by rw [if_pos rfl]; exact Nat.le_refl _))
  have f1 := FP.out h0 (FP.clr hP hF) 0 true (outT P.A true).length (by decide)
  have e2 := outP_len (outP (clrP P) 0 true (outT P.A true).length) 1 true (outT P.B true).length
  have h2 := h1.step (by omega) (by omega) (StepR.out (K := 0) (P := outP (clrP P) 0 true (outT P.A true).length) 1 true (outT P.B true).length (by decide) (by omega) (by rw [if_neg (by decide)]; exact Nat.le_refl _))
  have f2 := FP.out h1 f1 1 true (outT P.B true).length (by decide)
  have e3 : N + 2 = N + 1 + 1 := by omega
  rw [e3]
  exact ⟨h2, f2, fun hU => UP.out h1 (UP.out h0 hU.clr 0 true _ (by decide)) 1 true _ (by decide)⟩
theorem round_all {P : PrT} {N : Int} (hP : PInv P N) (hN0 : 0 ≤ N) (hN : N ≤ 900) (hF : FP P) : PInv (roundP P) (N + 2) ∧ FP (roundP P) ∧ (UP P → UP (roundP P)) := by
  obtain ⟨o1, o2, o3⟩ := outs_all hP hN0 hN hF
  obtain ⟨i1, i2, i3, -⟩ := comes_all o1 (by omega) o2 (outsP P).W.length (Nat.le_refl _)
  exact ⟨i1, i2, fun hU => i3 (o3 hU)⟩
theorem rnds_all {P : PrT} {N : Int} (hP : PInv P N) (hN0 : 0 ≤ N) (hN : N ≤ 800) (hF : FP P) (k : Nat) (hk : k ≤ 8) : PInv (rndsP P k) (N + 2 * (k : Int)) ∧ FP (rndsP P k) ∧ (UP P → UP (rndsP P k)) := by
  induction k with
  | zero => exact ⟨hP.mono (by omega), hF, id⟩
  | succ k ih =>
    obtain ⟨i1, i2, i3⟩ := ih (by omega)
    obtain ⟨r1, r2, r3⟩ := round_all i1 (by omega) (by omega) i2
    exact ⟨r1.mono (by omega), r2, fun hU => r3 (i3 hU)⟩
theorem fold1 (l : List SegT) (P : PrT) : ((l.map fun s => (s, (1 : Int))).foldl (fun Q p => comeP Q p.2 p.1) P).A = P.A ∧ ((l.map fun s => (s, (1 : Int))).foldl (fun Q p => comeP Q p.2 p.1) P).B = recv P.B l := by
  induction l generalizing P with
  | nil => exact ⟨rfl, rfl⟩
  | cons s l ih => exact ih (comeP P 1 s)
theorem fold0 (l : List SegT) (P : PrT) : ((l.map fun s => (s, (0 : Int))).foldl (fun Q p => comeP Q p.2 p.1) P).B = P.B ∧ ((l.map fun s => (s, (0 : Int))).foldl (fun Q p => comeP Q p.2 p.1) P).A = recv P.A l := by
  induction l generalizing P with
  | nil => exact ⟨rfl, rfl⟩
  | cons s l ih => exact ih (comeP P 0 s)
theorem zip_rep (l : List SegT) (d : Int) : l.zip (List.replicate l.length d) = l.map fun s => (s, d) := by
  induction l with
  | nil => rfl
  | cons s l ih => rw [List.length_cons, List.replicate_succ, List.zip_cons_cons, ih, List.map_cons]
theorem round_AB (P : PrT) : (roundP P).A = nx P.A P.B ∧ (roundP P).B = nx P.B P.A := by
  unfold roundP comesP
  have hz : (outsP P).W.zip (outsP P).T = ((outT P.A true).map fun s => (s, (1 : Int))) ++ ((outT P.B true).map fun s => (s, (0 : Int))) := by
    rw [outsP_eq]
    show (outT P.A true ++ outT P.B true).zip (List.replicate (outT P.A true).length 1 ++ List.replicate (outT P.B true).length 0) = _
    rw [List.zip_append (by simp), zip_rep, zip_rep]
  have hl : (((outT P.A true).map fun s => (s, (1 : Int))) ++ ((outT P.B true).map fun s => (s, (0 : Int)))).length ≤ (outsP P).W.length := by
    rw [outsP_eq]; simp
  rw [hz, List.take_of_length_le hl, List.foldl_append]
  obtain ⟨a1, a2⟩ := fold1 (outT P.A true) (outsP P)
  obtain ⟨b1, b2⟩ := fold0 (outT P.B true) (((outT P.A true).map fun s => (s, (1 : Int))).foldl (fun Q p => comeP Q p.2 p.1) (outsP P))
  have eA : (outsP P).A = outN P.A := by rw [outsP_eq]
  have eB : (outsP P).B = outN P.B := by rw [outsP_eq]
  exact ⟨by rw [b2, a1, eA]; rfl, by rw [b1, a2, eB]; rfl⟩
theorem out_may {P : PrT} {N : Int} (hP : PInv P N) (hN0 : 0 ≤ N) (hN : N ≤ 900) (hF : FP P) : (∀ s ∈ outT P.A true, mayT s = true) ∧ ∀ s ∈ outT P.B true, mayT s = true := by
  have h := (outs_all hP hN0 hN hF).1
  have e : (outsP P).W = outT P.A true ++ outT P.B true := by rw [outsP_eq]
  exact ⟨fun s hs => (h.wy s (by rw [e]; exact List.mem_append_left _ hs)).may (by omega), fun s hs => (h.wy s (by rw [e]; exact List.mem_append_right _ hs)).may (by omega)⟩
theorem ri_of {P : PrT} {N : Int} (hP : PInv P N) (hN0 : 0 ≤ N) (hN : N ≤ 900) (hF : FP P) : RI P.A P.B ∧ RI P.B P.A := by
  obtain ⟨m1, m2⟩ := out_may hP hN0 hN hF
  have la := hP.dA.lb; have lb := hP.dB.lb
  refine ⟨⟨by rw [la]; exact hP.dB.pX, by rw [lb]; exact hP.dA.pX, by rw [la]; exact hF.a.f2, by rw [la, lb]; exact hF.a.f3, hP.okB.next.1, hP.okA.first.1, hP.okA.len, m1, m2⟩, ⟨by rw [lb]; exact hP.dA.pX, by rw [la]; exact hP.dB.pX, by rw [lb]; exact hF.b.f2, by rw [la, lb]; exact hF.b.f3, hP.okA.next.1, hP.okB.first.1, hP.okB.len, m2, m1⟩⟩
/-- Behind eight rounds nothing waits. -/
theorem fair_empty {P : PrT} {N : Int} (hP : PInv P N) (hN0 : 0 ≤ N) (hN : N ≤ 800) (hF : FP P) : (rndsP P 8).A.q = [] ∧ (rndsP P 8).B.q = [] := by
  have hr : ∀ k, k < 8 → RI (rndsP P k).A (rndsP P k).B ∧ RI (rndsP P k).B (rndsP P k).A := fun k hk => by
    obtain ⟨i1, i2, -⟩ := rnds_all hP hN0 hN hF k (by omega)
    exact ri_of i1 (by omega) (by omega) i2
  exact ⟨eight (X := fun k => (rndsP P k).A) (Y := fun k => (rndsP P k).B) (fun k hk => (hr k hk).1) (fun k _ => (round_AB (rndsP P k)).1) (fun k _ => (round_AB (rndsP P k)).2), eight (X := fun k => (rndsP P k).B) (Y := fun k => (rndsP P k).A) (fun k hk => (hr k hk).2) (fun k _ => (round_AB (rndsP P k)).2) (fun k _ => (round_AB (rndsP P k)).1)⟩
theorem told_eq {X Y : LnT} {bX bY sent told : Int} {WY WX : List SegT} (hD : InvD valT X Y bX bY sent told WY) (hF : FInv X Y bX bY WY WX) (hU : UInv X Y sent told WY) (hb : bY = 1) (hf : 0 ≤ X.first) (hq : X.q = []) : told = sent := by
  have h1 := hU.u1; have h2 := hD.tl; have h4 := hU.u4; have hp := hU.pr; have h0 := hF.p0
  rw [hq] at h1
  have h1 : X.first + 0 = sent := h1
  by_cases hz : X.first = 0
  · omega
  · have hx : X.peer ≠ 0 := fun e => hz (h0 e)
    have := (hF.f3 (by omega) (by omega)).2.2
    omega
theorem fair_told {P : PrT} {N : Int} (hP : PInv P N) (hN0 : 0 ≤ N) (hN : N ≤ 800) (hF : FP P) (hU : UP P) : (rndsP P 8).t0 = (rndsP P 8).s1 ∧ (rndsP P 8).t1 = (rndsP P 8).s0 := by
  obtain ⟨i1, i2, i3⟩ := rnds_all hP hN0 hN hF 8 (by omega)
  obtain ⟨e1, e2⟩ := fair_empty hP hN0 hN hF
  have u := i3 hU
  exact ⟨told_eq i1.dB i2.b u.b u.b0 i1.okB.first.1 e2, told_eq i1.dA i2.a u.a u.b1 i1.okA.first.1 e1⟩
end Go.Proofs.Ythmljllgfigebaa

/- catenalaw22: out tells all, where the way has room. Conditions: none. -/
namespace Go.Proofs.Ythmljllgfigebaa
open Go.RowKit Go.PlainAid
set_option linter.unusedVariables false
set_option linter.unusedSimpArgs false

set_option maxRecDepth 100000 in
set_option maxHeartbeats 3200000 in
theorem prOutK_any (S : Nat → Prop) (b : Nat) (P : PrT) (sd : Int) (g : Bool) (w : World) (hP : PrO S w b P) (hlW : P.W.length ≤ 100) (hlT : P.T.length = P.W.length) (hsd : sd = 0 ∨ sd = 1) :
    Calls Try.prog 50 #[pt b 0, .int .i64 sd, .bool g] w fun e w' => ∃ (k : Nat) (S' : Nat → Prop), e = .returned (.tuple #[]) ∧ k = (if sd = 0 then outT P.A g else outT P.B g).length ∧ PrO S' w' b (outP P sd g k) ∧ Grew S S' w w' ∧ But (S) w w' := by
 have hB0 := But.refl (S) w
 rcases hsd with rfl | rfl
 · skip
   obtain ⟨NA, NB, SA, SB, wv, tv, hQ⟩ := hP
   have hBk : Blk w b 95 #[pt NA 0, pt NB 0, .int .i64 P.b0, .int .i64 P.b1, wv, tv, .int .i64 P.s0, .int .i64 P.s1, .int .i64 P.t0, .int .i64 P.t1, .bool true] := hQ.blk
   have hl_b := hBk.lt
   have hSb : S b ∨ w.heap.size ≤ b := .inl ((hQ.fp b).2 (.inl rfl))
   have hinA : ∀ q, SA q → S q ∨ w.heap.size ≤ q := fun q h => .inl ((hQ.fp q).2 (.inr (.inl h)))
   have hinB : ∀ q, SB q → S q ∨ w.heap.size ≤ q := fun q h => .inl ((hQ.fp q).2 (.inr (.inr (.inl h))))
   have hinw : InS S w.heap.size wv := InS.of (fun i hi => (hQ.fp i).2 (.inr (.inr (.inr (.inl hi)))))
   have hint : InS S w.heap.size tv := InS.of (fun i hi => (hQ.fp i).2 (.inr (.inr (.inr (.inr hi)))))
   have hW0 := hQ.way
   have hT0 := hQ.to
   refine co_enter (n := 58) Try.func50 rfl rfl rfl [(0, pt b 0), (1, .int .i64 0), (2, .bool g)] rfl (fun a h0 => ?_)
   refine co_seq ?_
   refine co_reg ?_
   refine pk0 (v := pt b 0) h0 rfl fun a1 h1 => ?_; clear h0
   refine pk0 (v := .int .i64 0) h1 rfl fun a2 h2 => ?_; clear h1
   refine pk0 (v := pt b 0) h2 rfl fun a3 h3 => ?_; clear h2
   refine pk0 (v := pt b 0) h3 rfl fun a4 h4 => ?_; clear h3
   refine pk0 (v := pt b 0) h4 rfl fun a5 h5 => ?_; clear h4
   refine pk (v := pt NA 0) h5 rfl (rn_load1 rfl rfl Try.isAgg53 (hBk.cell rfl)) fun a6 h6 => ?_; clear h5
   refine pk0 (v := .bool g) h6 rfl fun a7 h7 => ?_; clear h6
   have ho10 := LkP.ofS hQ.hA
   have ho11 := LkP.ofS hQ.hB
   have hlt_wv : ∀ i, Value.ownBlock wv = some i → i < w.heap.size := fun i hi => (hW0.lt i hi).2
   have hlt_tv : ∀ i, Value.ownBlock tv = some i → i < w.heap.size := fun i hi => (hT0.lt i hi).2
   have hltb := Blk.lt hBk
   refine pw h7 rfl (op_call (args := #[pt NA 0, .bool g]) (R := fun res xw => ∃ v : Value, ∃ S' : Nat → Prop, res = v ∧ LkP S' xw NA (outN P.A) ∧ (xw.ownsRow w.heap.size 61 8 v (outT P.A g).length ((outT P.A g).flatMap segE)) ∧ (∀ q, S' q → q < w.heap.size) ∧ Grew SA S' w xw) rfl rfl rfl (by kernel_rfl) (by kernel_rfl) (Try.call37 _ _) (kOut w g hQ.hA) (by rintro e x ⟨v, S', h0, h⟩; exact ⟨_, h0, v, S', rfl, h⟩)) ?_; clear h7
   rintro v12 w9 a8 ⟨_, S13, rfl, hO14, hq16, hq17, hx15⟩ h8
   have hB18 := fbU_foot hB0 hx15.but (fun i hi hq => by rcases hinA i hq with k | k; exact k; omega)
   have hz19 := hB18.size
   have hz20 := hx15.but.size
   have hge : ∀ i, Value.ownBlock v12 = some i → w.heap.size ≤ i := fun i hi => (hq16.lt i hi).1
   have hbody := outT_body hQ.hA.ok g
   have hl21 := outT_len P.A g
   have hrap : ∀ i, Value.ownBlock v12 = some i → Value.ownBlock wv ≠ some i := fun i hi h1 => by have e1 := hge i hi; have e2 := hlt_wv i h1; omega
   have hin22 : ∀ q, S13 q → S q ∨ w.heap.size ≤ q := fun q hq => by rcases hx15.sub q hq with k | k; exact hinA q k; exact .inr (by omega)
   refine pk0 (v := v12) h8 rfl fun a23 h23 => ?_; clear h8
   refine pl_nil ?_
   refine co_then ?_
   refine co_seq ?_
   refine co_reg ?_
   refine pk0 (v := .int .i64 0) h23 rfl fun a24 h24 => ?_; clear h23
   refine pl_nil ?_
   refine co_then ?_
   refine wp_block ?_
   have hiw9 : InS S w.heap.size wv := hinw
   have hit9 : InS S w.heap.size tv := hint
   have hra9 : ∀ i, Value.ownBlock v12 = some i → Value.ownBlock wv ≠ some i := hrap
   have howA9 : ∀ i, Value.ownBlock wv = some i → ¬ S13 i := (Grew.offR hx15 hW0 hQ.wA)
   have hotA9 : ∀ i, Value.ownBlock tv = some i → ¬ S13 i := (Grew.offR hx15 hT0 hQ.tA)
   have howB9 : ∀ i, Value.ownBlock wv = some i → ¬ SB i := hQ.wB
   have hotB9 : ∀ i, Value.ownBlock tv = some i → ¬ SB i := hQ.tB
   have h25 : Slots 58 [(0, pt b 0), (1, .int .i64 0), (6, v12), (7, .int .i64 0)] _ := h24.sub ⟨rfl, rfl, rfl, rfl, trivial⟩; clear h24
   refine co_loop (fun mm a x => ∃ (k : Nat) (wk : Value) (tk : Value), Slots 58 [(0, pt b 0), (1, .int .i64 0), (6, v12), (7, .int .i64 ((k : Nat) : Int))] a ∧ mm = (outT P.A g).length - k ∧ (k ≤ (outT P.A g).length) ∧ (P.W.length + k ≤ 200) ∧ (InS S w.heap.size wk) ∧ (InS S w.heap.size tk) ∧ (∀ i, Value.ownBlock wk = some i → ¬ S13 i) ∧ (∀ i, Value.ownBlock tk = some i → ¬ S13 i) ∧ (∀ i, Value.ownBlock wk = some i → ¬ SB i) ∧ (∀ i, Value.ownBlock tk = some i → ¬ SB i) ∧ (∀ i, Value.ownBlock v12 = some i → Value.ownBlock wk ≠ some i) ∧ Blk x b 95 #[pt NA 0, pt NB 0, .int .i64 P.b0, .int .i64 P.b1, wk, tk, .int .i64 P.s0, .int .i64 P.s1, .int .i64 P.t0, .int .i64 P.t1, .bool true] ∧ LkP S13 x NA (outN P.A) ∧ LkP SB x NB P.B ∧ x.ownsRow w.heap.size 61 8 v12 (outT P.A g).length ((outT P.A g).flatMap segE) ∧ x.ownsRow 0 61 8 wk (P.W ++ (outT P.A g).take k).length ((P.W ++ (outT P.A g).take k).flatMap segE) ∧ x.ownsRow 0 3 1 tk (P.T ++ List.replicate k 1).length ((P.T ++ List.replicate k 1).flatMap (intE .i64)) ∧ But (S) w x) ((outT P.A g).length - 0) ?_ ?_
   have hk26 := Blk.butS hBk hx15.but hQ.nA
   have hO27 := LkP.but hQ.hB hx15.but (ap_symm hQ.ap)
   have hr28 := own_butS hW0 hx15.but hQ.wA
   have hr29 := own_butS hT0 hx15.but hQ.tA
   · exact ⟨0, wv, tv, h25.sub ⟨rfl, rfl, rfl, (slot_eq rfl (congrArg (Value.int .i64) (by first | rfl | omega))), trivial⟩, rfl, by omega, by omega, by exact hiw9, by exact hit9, by exact howA9, by exact hotA9, by exact howB9, by exact hotB9, by exact hra9, hk26, hO14, hO27, hq16, (row_eq hr28 (by first | (simp; done) | exact take_push (by assumption))), (row_eq hr29 (by first | (simp; done) | exact rep_push)), hB18⟩
   · rintro k30 a31 w32 ⟨k, wk, tk, h31, rfl, hi33, hi34, hi35, hi36, hi37, hi38, hi39, hi40, hi41, hf42, hf43, hf44, hf45, hf46, hf47, hB48⟩
     have hz49 := hB48.size
     have hl50 := hf42.lt
     have hrak : ∀ i, Value.ownBlock v12 = some i → Value.ownBlock wk ≠ some i := by assumption
     have hofwA : ∀ i, Value.ownBlock wk = some i → ¬ S13 i := by assumption
     have hoftA : ∀ i, Value.ownBlock tk = some i → ¬ S13 i := by assumption
     have hofwB : ∀ i, Value.ownBlock wk = some i → ¬ SB i := by assumption
     have hoftB : ∀ i, Value.ownBlock tk = some i → ¬ SB i := by assumption
     have hik : InS S w.heap.size wk := by assumption
     have htk : InS S w.heap.size tk := by assumption
     have hlw : (P.W ++ (outT P.A g).take k).length = P.W.length + k := by rw [List.length_append, List.length_take]; omega
     have hlt2 : (P.T ++ List.replicate k 1).length = P.T.length + k := by rw [List.length_append, List.length_replicate]
     refine co_seq ?_
     refine co_seq ?_
     refine co_reg ?_
     refine pk0 (v := .int .i64 ((k : Nat) : Int)) h31 rfl fun a51 h51 => ?_; clear h31
     refine pk0 (v := v12) h51 rfl fun a52 h52 => ?_; clear h51
     refine pk (v := .int .i64 (((outT P.A g).length : Nat) : Int)) h52 rfl (rn_lenOwn rfl rfl Try.underlying67 hf45) fun a53 h53 => ?_; clear h52
     refine pk0 (v := .bool (decide (((k : Nat) : Int) < (((outT P.A g).length : Nat) : Int)))) h53 rfl fun a54 h54 => ?_; clear h53
     refine pk0 (v := .bool (decide (((k : Nat) : Int) < (((outT P.A g).length : Nat) : Int)))) h54 rfl fun a55 h55 => ?_; clear h54
     cases hc56 : (decide (((k : Nat) : Int) < (((outT P.A g).length : Nat) : Int)))
     ·
      rw [hc56] at h55
      have hp57 : ¬ (((k : Nat) : Int) < (((outT P.A g).length : Nat) : Int)) := of_decide_eq_false hc56
      clear hc56
      refine psk h55 rfl fun a58 h58 => ?_; clear h55
      refine psk h58 rfl fun a59 h59 => ?_; clear h58
      refine pk0 (v := .bool false) h59 rfl fun a60 h60 => ?_; clear h59
      refine pk0 (v := .bool false) h60 rfl fun a61 h61 => ?_; clear h60
      refine psk h61 rfl fun a62 h62 => ?_; clear h61
      refine psk h62 rfl fun a63 h63 => ?_; clear h62
      refine psk h63 rfl fun a64 h64 => ?_; clear h63
      refine psk h64 rfl fun a65 h65 => ?_; clear h64
      refine psk h65 rfl fun a66 h66 => ?_; clear h65
      refine psk h66 rfl fun a67 h67 => ?_; clear h66
      refine pk0 (v := .bool false) h67 rfl fun a68 h68 => ?_; clear h67
      refine pl_nil ?_
      refine co_then ?_
      refine co_false h68 rfl ?_
      refine wp_exit ?_
      refine co_thenX ?_
      refine co_thenX ?_
      refine co_blockX ?_
      refine co_ret0n h68 rfl ?_
      obtain ⟨S9, h1, h2⟩ := PrO.fin (P := { P with A := outN P.A, W := P.W ++ (outT P.A g).take k, T := P.T ++ List.replicate k 1 }) (NA := NA) (NB := NB) (wv := wk) (tv := tk) (w := w) hf42 hf43 hf44 hf46 hf47 (ap_symm (ap_symm (Grew.ap hx15 (ap_symm (ap_symm hQ.ap)) (LkP.ofS hQ.hB)))) (Grew.off hx15 hQ.nA hBk.lt) hQ.nB hofwA hofwB hoftA hoftB hSb hin22 hinB hik htk hB48
      exact ⟨k, S9, rfl, by rw [if_pos rfl]; omega, h1, h2, hB48⟩
     ·
      rw [hc56] at h55
      have hp69 : ((k : Nat) : Int) < (((outT P.A g).length : Nat) : Int) := of_decide_eq_true hc56
      clear hc56
      refine pk0 (v := .int .i64 ((k : Nat) : Int)) h55 rfl fun a70 h70 => ?_; clear h55
      refine pk0 (v := .bool (decide (((k : Nat) : Int) < 9))) h70 rfl fun a71 h71 => ?_; clear h70
      refine pk0 (v := .bool (decide (((k : Nat) : Int) < 9))) h71 rfl fun a72 h72 => ?_; clear h71
      refine pk0 (v := .bool (decide (((k : Nat) : Int) < 9))) h72 rfl fun a73 h73 => ?_; clear h72
      have hc74 : (decide (((k : Nat) : Int) < 9)) = true := decide_eq_true (by omega)
      rw [hc74] at h73; clear hc74
      refine pk0 (v := pt b 0) h73 rfl fun a75 h75 => ?_; clear h73
      refine pk0 (v := pt b 0) h75 rfl fun a76 h76 => ?_; clear h75
      refine pk0 (v := pt b 4) h76 rfl fun a77 h77 => ?_; clear h76
      refine pk (v := wk) h77 rfl (rn_load1 rfl rfl Try.isAgg67 (hf42.cell rfl)) fun a78 h78 => ?_; clear h77
      refine pk (v := .int .i64 (((P.W ++ (outT P.A g).take k).length : Nat) : Int)) h78 rfl (rn_lenOwn rfl rfl Try.underlying67 hf46) fun a79 h79 => ?_; clear h78
      refine pk0 (v := .bool (decide ((((P.W ++ (outT P.A g).take k).length : Nat) : Int) < 200))) h79 rfl fun a80 h80 => ?_; clear h79
      refine pk0 (v := .bool (decide ((((P.W ++ (outT P.A g).take k).length : Nat) : Int) < 200))) h80 rfl fun a81 h81 => ?_; clear h80
      refine pl_nil ?_
      refine co_then ?_
      have hc82 : (decide ((((P.W ++ (outT P.A g).take k).length : Nat) : Int) < 200)) = true := decide_eq_true (by omega)
      rw [hc82] at h81; clear hc82
      refine co_true h81 rfl ?_
      refine wp_skip ?_
      refine co_then ?_
      refine co_seq ?_
      refine wp_block ?_
      refine co_seq ?_
      refine dr_gen (fun x => But (S) w x ∧ x.ownsRow w.heap.size 61 8 v12 ((outT P.A g).length) ((outT P.A g).flatMap segE)) (by kernel_rfl) (fun w83 hg84 => ?_) (fun w83 hg84 => ?_)
      ·
       have hz85 := hg84.size
       have hB86 := fbU_new hB48 hg84
       have hr87 := row_kept_new hf45 hg84
       exact ⟨hB86, hr87⟩
      have hz88 := hg84.size
      have hB89 := fbU_new hB48 hg84
      have hr90 := row_kept_new hf45 hg84
      refine dk0 0 (v := pt b 0) h81 rfl rfl ⟨hB89, hr90⟩ fun a91 h91 => ?_; clear h81
      refine dk0 1 (v := pt b 0) h91 rfl rfl ⟨hB89, hr90⟩ fun a92 h92 => ?_; clear h91
      refine dk0 2 (v := pt b 0) h92 rfl rfl ⟨hB89, hr90⟩ fun a93 h93 => ?_; clear h92
      refine dk0 3 (v := pt b 4) h93 rfl rfl ⟨hB89, hr90⟩ fun a94 h94 => ?_; clear h93
      refine dk0 5 (v := v12) h94 rfl rfl ⟨hB89, hr90⟩ fun a95 h95 => ?_; clear h94
      refine dk0 6 (v := .int .i64 ((k : Nat) : Int)) h95 rfl rfl ⟨hB89, hr90⟩ fun a96 h96 => ?_; clear h95
      obtain ⟨y97, hy97⟩ : ∃ z, (outT P.A g)[k]? = some z := ⟨_, List.getElem?_eq_getElem (by first | omega | (simp; done) | (simp; omega))⟩
      refine dk 7 (v := pt (blkOf v12) (offOf v12 + k * 8)) h96 rfl rfl ⟨hB89, hr90⟩ (fun x hx => (rn_index rfl rfl rfl Try.underlying67 Try.sizeOf61 (row_sl hx.2 segE_len) (by omega) (by first | omega | (simp; done) | (simp; omega)))) fun a98 h98 => ?_; clear h96
      refine dk 8 (v := .agg #[.int .i64 y97.boot, .int .i64 y97.stream, .int .i64 y97.seq, .int .i64 y97.ab, .int .i64 y97.ast, .int .i64 y97.asq, .bool y97.has, .string y97.body]) h98 rfl rfl ⟨hB89, hr90⟩ (fun x hx => (rn_loadN rfl rfl Try.underlying61 rfl (by kernel_rfl) (sl_at (row_sl hx.2 segE_len) hy97))) fun a99 h99 => ?_; clear h98
      refine dr_many [4, 9] (by kernel_rfl) (by simp) ⟨?_, ?_, trivial⟩
      ·
       have hk100 := hf42.kept hg84 (by simp)
       refine dr_opVal (i := 4) (v := wk) h99 rfl rfl rfl rfl (by kernel_rfl) rfl (rn_load1 rfl rfl Try.isAgg67 (hk100.cell rfl)) ⟨hB89, hr90⟩ (fun a101 h101 => ?_); clear h99
       refine d1 9 h101 rfl rfl (op_new (v := fun N => .slice (some ⟨N, 0, none⟩) 1 1) (T := 61) (cs := #[.int .i64 y97.boot, .int .i64 y97.stream, .int .i64 y97.seq, .int .i64 y97.ab, .int .i64 y97.ast, .int .i64 y97.asq, .bool y97.has, .string y97.body]) (by kernel_rfl) (by kernel_rfl) (by kernel_rfl)) ?_ ?_; clear h101
       ·
        rintro _ w103 ⟨N104, rfl, hN107, hz108, hk106, hg105⟩
        have ha109 := row_fresh hr90 hN107
        have hu110 := row_under hr90 hN107
        have hr112 := row_kept_new hf46 hg84
        have ha111 := row_fresh hr112 hN107
        have hu113 := row_under hr112 hN107
        have hr115 := row_kept_new hf47 hg84
        have ha114 := row_fresh hr115 hN107
        have hu116 := row_under hr115 hN107
        have hz117 := hg105.size
        have hO119 := LkP.gr hf43 hg84 (fun k e => by cases e)
        have ho118 := off_new (LkP.ofS hO119) hN107
        have hO121 := LkP.gr hf44 hg84 (fun k e => by cases e)
        have ho120 := off_new (LkP.ofS hO121) hN107
        have hB122 := fbU_new hB89 hg105
        have hr123 := row_kept_new hr90 hg105
        exact ⟨hB122, hr123⟩
       rintro _ w103 a102 ⟨N104, rfl, hN107, hz108, hk106, hg105⟩ h102
       have ha109 := row_fresh hr90 hN107
       have hu110 := row_under hr90 hN107
       have hr112 := row_kept_new hf46 hg84
       have ha111 := row_fresh hr112 hN107
       have hu113 := row_under hr112 hN107
       have hr115 := row_kept_new hf47 hg84
       have ha114 := row_fresh hr115 hN107
       have hu116 := row_under hr115 hN107
       have hz117 := hg105.size
       have hO119 := LkP.gr hf43 hg84 (fun k e => by cases e)
       have ho118 := off_new (LkP.ofS hO119) hN107
       have hO121 := LkP.gr hf44 hg84 (fun k e => by cases e)
       have ho120 := off_new (LkP.ofS hO121) hN107
       try dsimp only at h102
       have hB122 := fbU_new hB89 hg105
       have hr123 := row_kept_new hr90 hg105
       have hr130 := row_kept_new hr112 hg105
       refine d1 10 h102 rfl rfl (op_appendF rfl 0 61 (z := .agg #[.int .i64 0, .int .i64 0, .int .i64 0, .int .i64 0, .int .i64 0, .int .i64 0, .bool false, .string (⟨#[]⟩)]) (size := 8) (bytes := 72) Try.underlying67 (by kernel_rfl) rfl rfl rfl hr130 rfl hk106 rfl (by kernel_rfl) (by first | omega | (simp only [List.length_nil, List.length_append, List.length_cons, List.length_take, List.length_drop]; omega)) (by first | omega | (simp only [List.length_nil, List.length_append, List.length_cons, List.length_take, List.length_drop]; omega)) (by omega)) ?_ ?_; clear h102
       ·
        rintro v126 w125 ⟨hr127, hwt129, hg128⟩
        have hr127' : w125.ownsRow 0 61 8 v126 (((P.W ++ (outT P.A g).take k) ++ [(SegT.mk y97.boot y97.stream y97.seq y97.ab y97.ast y97.asq y97.has y97.body)]).length) (((P.W ++ (outT P.A g).take k) ++ [(SegT.mk y97.boot y97.stream y97.seq y97.ab y97.ast y97.asq y97.has y97.body)]).flatMap segE) := row_push (y := (SegT.mk y97.boot y97.stream y97.seq y97.ab y97.ast y97.asq y97.has y97.body)) hr127 rfl rfl; clear hr127
        have hO133 := LkP.gr hO119 hg105 (fun k e => by cases e)
        have ho132 := LkP.ofS hO133
        have ho131 := offR_went hofwA ho132 hwt129
        have hO136 := LkP.gr hO121 hg105 (fun k e => by cases e)
        have ho135 := LkP.ofS hO136
        have ho134 := offR_went hofwB ho135 hwt129
        have hra137 := ap_went hr123 hrak hwt129
        have hz138 := hg128.size
        have hB139 := fbU_row hB122 hik hg128
        have hr140 := row_kept_off hr123 hrak hg128
        exact ⟨hB139, hr140⟩
       rintro v126 w125 a124 ⟨hr127, hwt129, hg128⟩ h124
       have hr127' : w125.ownsRow 0 61 8 v126 (((P.W ++ (outT P.A g).take k) ++ [(SegT.mk y97.boot y97.stream y97.seq y97.ab y97.ast y97.asq y97.has y97.body)]).length) (((P.W ++ (outT P.A g).take k) ++ [(SegT.mk y97.boot y97.stream y97.seq y97.ab y97.ast y97.asq y97.has y97.body)]).flatMap segE) := row_push (y := (SegT.mk y97.boot y97.stream y97.seq y97.ab y97.ast y97.asq y97.has y97.body)) hr127 rfl rfl; clear hr127
       have hO133 := LkP.gr hO119 hg105 (fun k e => by cases e)
       have ho132 := LkP.ofS hO133
       have ho131 := offR_went hofwA ho132 hwt129
       have hO136 := LkP.gr hO121 hg105 (fun k e => by cases e)
       have ho135 := LkP.ofS hO136
       have ho134 := offR_went hofwB ho135 hwt129
       have hra137 := ap_went hr123 hrak hwt129
       have hz138 := hg128.size
       have hB139 := fbU_row hB122 hik hg128
       have hr140 := row_kept_off hr123 hrak hg128
       refine dk0 11 (v := pt b 0) h124 rfl rfl ⟨hB139, hr140⟩ fun a141 h141 => ?_; clear h124
       refine dk0 12 (v := pt b 4) h141 rfl rfl ⟨hB139, hr140⟩ fun a142 h142 => ?_; clear h141
       have hk148 := hk100.kept hg105 (by simp)
       have hk149 := hk148.kept hg128 (own_neT hr130 hk148 (by decide))
       refine d1D 13 h142 rfl rfl (op_store1 rfl rfl rfl (row_one hr127') Try.sizeOf67 hk149 rfl) ?_ ?_; clear h142
       ·
        rintro _ w144 ⟨hk145, hz146, hg147⟩
        have hk145' : Blk w144 b 95 #[pt NA 0, pt NB 0, .int .i64 P.b0, .int .i64 P.b1, v126, tk, .int .i64 P.s0, .int .i64 P.s1, .int .i64 P.t0, .int .i64 P.t1, .bool true] := hk145; clear hk145
        have hz150 := hg147.size
        have hB151 := fbU_at hB139 hg147 (fun hlt => by rcases hSb with hq | hq; exact hq; omega)
        have hr152 := row_kept_at hr140 hg147 (own_neT hr140 hk149 (by decide))
        exact ⟨hB151, hr152⟩
       rintro _ w144 a143 ⟨hk145, hz146, hg147⟩ h143
       have hk145' : Blk w144 b 95 #[pt NA 0, pt NB 0, .int .i64 P.b0, .int .i64 P.b1, v126, tk, .int .i64 P.s0, .int .i64 P.s1, .int .i64 P.t0, .int .i64 P.t1, .bool true] := hk145; clear hk145
       have hz150 := hg147.size
       refine dr_done (by kernel_rfl) ?_
       refine co_then ?_
       refine co_reg ?_
       refine pk0 (v := pt b 0) h143 rfl fun a151 h151 => ?_; clear h143
       refine pk0 (v := pt b 0) h151 rfl fun a152 h152 => ?_; clear h151
       refine pk0 (v := pt b 0) h152 rfl fun a153 h153 => ?_; clear h152
       refine pk0 (v := pt b 5) h153 rfl fun a154 h154 => ?_; clear h153
       refine pk (v := tk) h154 rfl (rn_load1 rfl rfl Try.isAgg93 (hk145'.cell rfl)) fun a155 h155 => ?_; clear h154
       refine pk0 (v := .int .i64 0) h155 rfl fun a156 h156 => ?_; clear h155
       refine pk0 (v := .int .i64 1) h156 rfl fun a157 h157 => ?_; clear h156
       refine pw h157 rfl (op_new (v := fun N => .slice (some ⟨N, 0, none⟩) 1 1) (T := 3) (cs := #[.int .i64 1]) (by kernel_rfl) (by kernel_rfl) (by kernel_rfl)) ?_; clear h157
       rintro _ w159 a158 ⟨N160, rfl, hN163, hz164, hk162, hg161⟩ h158
       have hr166 := row_kept_at hr140 hg147 (own_neT hr140 hk149 (by decide))
       have ha165 := row_fresh hr166 hN163
       have hu167 := row_under hr166 hN163
       have hr169 := row_kept_new hr115 hg105
       have hr170 := row_kept_row hr169 hr130 hg128 (by decide)
       have hr171 := row_kept_at hr170 hg147 (own_neT hr170 hk149 (by decide))
       have ha168 := row_fresh hr171 hN163
       have hu172 := row_under hr171 hN163
       have hr174 := row_kept_at hr127' hg147 (own_neT hr127' hk149 (by decide))
       have ha173 := row_fresh hr174 hN163
       have hu175 := row_under hr174 hN163
       have hz176 := hg161.size
       have hO178 := LkP.gr hO133 hg128 (fun k e => hofwA k e)
       have hO179 := LkP.gr hO178 hg147 (fun k e => by cases e; exact (Grew.off hx15 hQ.nA hBk.lt))
       have ho177 := off_new (LkP.ofS hO179) hN163
       have hO181 := LkP.gr hO136 hg128 (fun k e => hofwB k e)
       have hO182 := LkP.gr hO181 hg147 (fun k e => by cases e; exact hQ.nB)
       have ho180 := off_new (LkP.ofS hO182) hN163
       try dsimp only at h158
       have hr189 := row_kept_new hr171 hg161
       refine pw h158 rfl (op_appendF rfl 0 3 (z := .int .i64 0) (size := 1) (bytes := 8) Try.underlying93 (by kernel_rfl) rfl rfl rfl hr189 rfl hk162 rfl (by kernel_rfl) (by first | omega | (simp only [List.length_nil, List.length_append, List.length_cons, List.length_take, List.length_drop]; omega)) (by first | omega | (simp only [List.length_nil, List.length_append, List.length_cons, List.length_take, List.length_drop]; omega)) (by omega)) ?_; clear h158
       rintro v185 w184 a183 ⟨hr186, hwt188, hg187⟩ h183
       have hr186' : w184.ownsRow 0 3 1 v185 (((P.T ++ List.replicate k 1) ++ [1]).length) (((P.T ++ List.replicate k 1) ++ [1]).flatMap (intE .i64)) := row_push (y := 1) hr186 rfl rfl; clear hr186
       have hB192 := fbU_at hB139 hg147 (fun hlt => by rcases hSb with hq | hq; exact hq; omega)
       have hB193 := fbU_new hB192 hg161
       have hk194 := hk106.kept hg128 (ha111)
       have hk195 := hk194.kept hg147 (by simp; omega)
       have hk196 := hk195.kept hg161 (by simp)
       have hO197 := LkP.gr hO179 hg161 (fun k e => by cases e)
       have ho191 := LkP.ofS hO197
       have ho190 := offR_went hoftA ho191 hwt188
       have hO200 := LkP.gr hO182 hg161 (fun k e => by cases e)
       have ho199 := LkP.ofS hO200
       have ho198 := offR_went hoftB ho199 hwt188
       have hz201 := hg187.size
       refine pk0 (v := pt b 0) h183 rfl fun a202 h202 => ?_; clear h183
       refine pk0 (v := pt b 5) h202 rfl fun a203 h203 => ?_; clear h202
       have hk209 := hk145'.kept hg161 (by simp)
       have hk210 := hk209.kept hg187 (own_neT hr189 hk209 (by decide))
       refine pwD h203 rfl (op_store1 rfl rfl rfl (row_one hr186') Try.sizeOf93 hk210 rfl) ?_; clear h203
       rintro _ w205 a204 ⟨hk206, hz207, hg208⟩ h204
       have hk206' : Blk w205 b 95 #[pt NA 0, pt NB 0, .int .i64 P.b0, .int .i64 P.b1, v126, v185, .int .i64 P.s0, .int .i64 P.s1, .int .i64 P.t0, .int .i64 P.t1, .bool true] := hk206; clear hk206
       have hz211 := hg208.size
       refine pl_nil ?_
       refine co_blockN ?_
       refine co_then ?_
       refine co_reg ?_
       refine pk0 (v := .int .i64 ((k : Nat) : Int)) h204 rfl fun a212 h212 => ?_; clear h204
       refine pk (v := .int .i64 ((k + 1 : Nat) : Int)) h212 rfl (rn_arith' rfl rfl rfl rfl rfl rfl (IntWalk.i64_in _ (by omega)) (by omega)) fun a213 h213 => ?_; clear h212
       refine pk0 (v := .int .i64 ((k + 1 : Nat) : Int)) h213 rfl fun a214 h214 => ?_; clear h213
       refine pl_nil ?_
       refine co_then ?_
       refine ⟨((outT P.A g).length - (k + 1)), by omega, ?_⟩
       have hiw9 : InS S w.heap.size v126 := (hik.went hwt129 (by omega))
       have hit9 : InS S w.heap.size v185 := (htk.went hwt188 (by omega))
       have hra9 : ∀ i, Value.ownBlock v12 = some i → Value.ownBlock v126 ≠ some i := hra137
       have howA9 : ∀ i, Value.ownBlock v126 = some i → ¬ S13 i := ho131
       have hotA9 : ∀ i, Value.ownBlock v185 = some i → ¬ S13 i := ho190
       have howB9 : ∀ i, Value.ownBlock v126 = some i → ¬ SB i := ho134
       have hotB9 : ∀ i, Value.ownBlock v185 = some i → ¬ SB i := ho198
       have hO215 := LkP.gr hO197 hg187 (fun k e => hoftA k e)
       have hO216 := LkP.gr hO215 hg208 (fun k e => by cases e; exact (Grew.off hx15 hQ.nA hBk.lt))
       have hO217 := LkP.gr hO200 hg187 (fun k e => hoftB k e)
       have hO218 := LkP.gr hO217 hg208 (fun k e => by cases e; exact hQ.nB)
       have hr219 := row_kept_new hr166 hg161
       have hr220 := row_kept_row hr219 hr189 hg187 (by decide)
       have hr221 := row_kept_at hr220 hg208 (own_neT hr220 hk210 (by decide))
       have hr222 := row_kept_new hr174 hg161
       have hr223 := row_kept_row hr222 hr189 hg187 (by decide)
       have hr224 := row_kept_at hr223 hg208 (own_neT hr223 hk210 (by decide))
       have hr225 := row_kept_at hr186' hg208 (own_neT hr186' hk210 (by decide))
       have hB226 := fbU_row hB193 htk hg187
       have hB227 := fbU_at hB226 hg208 (fun hlt => by rcases hSb with hq | hq; exact hq; omega)
       exact ⟨k + 1, v126, v185, h214.sub ⟨rfl, rfl, rfl, rfl, trivial⟩, rfl, by omega, by omega, by exact hiw9, by exact hit9, by exact howA9, by exact hotA9, by exact howB9, by exact hotB9, by exact hra9, hk206', hO216, hO218, hr221, (row_eq hr224 (by first | (simp; done) | exact take_push (by assumption))), (row_eq hr225 (by first | (simp; done) | exact rep_push)), hB227⟩
      ·
       refine dr_op (i := 9) h99 rfl rfl rfl rfl (op_new (v := fun N => .slice (some ⟨N, 0, none⟩) 1 1) (T := 61) (cs := #[.int .i64 y97.boot, .int .i64 y97.stream, .int .i64 y97.seq, .int .i64 y97.ab, .int .i64 y97.ast, .int .i64 y97.asq, .bool y97.has, .string y97.body]) (by kernel_rfl) (by kernel_rfl) (by kernel_rfl)) ?_ ?_; clear h99
       ·
        rintro _ w229 ⟨N230, rfl, hN233, hz234, hk232, hg231⟩
        have ha235 := row_fresh hr90 hN233
        have hu236 := row_under hr90 hN233
        have hr238 := row_kept_new hf46 hg84
        have ha237 := row_fresh hr238 hN233
        have hu239 := row_under hr238 hN233
        have hr241 := row_kept_new hf47 hg84
        have ha240 := row_fresh hr241 hN233
        have hu242 := row_under hr241 hN233
        have hz243 := hg231.size
        have hO245 := LkP.gr hf43 hg84 (fun k e => by cases e)
        have ho244 := off_new (LkP.ofS hO245) hN233
        have hO247 := LkP.gr hf44 hg84 (fun k e => by cases e)
        have ho246 := off_new (LkP.ofS hO247) hN233
        have hB248 := fbU_new hB89 hg231
        have hr249 := row_kept_new hr90 hg231
        exact ⟨hB248, hr249⟩
       rintro _ w229 a228 ⟨N230, rfl, hN233, hz234, hk232, hg231⟩ h228
       have ha235 := row_fresh hr90 hN233
       have hu236 := row_under hr90 hN233
       have hr238 := row_kept_new hf46 hg84
       have ha237 := row_fresh hr238 hN233
       have hu239 := row_under hr238 hN233
       have hr241 := row_kept_new hf47 hg84
       have ha240 := row_fresh hr241 hN233
       have hu242 := row_under hr241 hN233
       have hz243 := hg231.size
       have hO245 := LkP.gr hf43 hg84 (fun k e => by cases e)
       have ho244 := off_new (LkP.ofS hO245) hN233
       have hO247 := LkP.gr hf44 hg84 (fun k e => by cases e)
       have ho246 := off_new (LkP.ofS hO247) hN233
       try dsimp only at h228
       have hB248 := fbU_new hB89 hg231
       have hr249 := row_kept_new hr90 hg231
       refine dr_many [4] (by kernel_rfl) (by simp) ⟨?_, trivial⟩
       ·
        have hk250 := hf42.kept hg84 (by simp)
        have hk251 := hk250.kept hg231 (by simp)
        refine dr_opVal (i := 4) (v := wk) h228 rfl rfl rfl rfl (by kernel_rfl) rfl (rn_load1 rfl rfl Try.isAgg67 (hk251.cell rfl)) ⟨hB248, hr249⟩ (fun a252 h252 => ?_); clear h228
        have hr259 := row_kept_new hr238 hg231
        refine d1 10 h252 rfl rfl (op_appendF rfl 0 61 (z := .agg #[.int .i64 0, .int .i64 0, .int .i64 0, .int .i64 0, .int .i64 0, .int .i64 0, .bool false, .string (⟨#[]⟩)]) (size := 8) (bytes := 72) Try.underlying67 (by kernel_rfl) rfl rfl rfl hr259 rfl hk232 rfl (by kernel_rfl) (by first | omega | (simp only [List.length_nil, List.length_append, List.length_cons, List.length_take, List.length_drop]; omega)) (by first | omega | (simp only [List.length_nil, List.length_append, List.length_cons, List.length_take, List.length_drop]; omega)) (by omega)) ?_ ?_; clear h252
        ·
         rintro v255 w254 ⟨hr256, hwt258, hg257⟩
         have hr256' : w254.ownsRow 0 61 8 v255 (((P.W ++ (outT P.A g).take k) ++ [(SegT.mk y97.boot y97.stream y97.seq y97.ab y97.ast y97.asq y97.has y97.body)]).length) (((P.W ++ (outT P.A g).take k) ++ [(SegT.mk y97.boot y97.stream y97.seq y97.ab y97.ast y97.asq y97.has y97.body)]).flatMap segE) := row_push (y := (SegT.mk y97.boot y97.stream y97.seq y97.ab y97.ast y97.asq y97.has y97.body)) hr256 rfl rfl; clear hr256
         have hO262 := LkP.gr hO245 hg231 (fun k e => by cases e)
         have ho261 := LkP.ofS hO262
         have ho260 := offR_went hofwA ho261 hwt258
         have hO265 := LkP.gr hO247 hg231 (fun k e => by cases e)
         have ho264 := LkP.ofS hO265
         have ho263 := offR_went hofwB ho264 hwt258
         have hra266 := ap_went hr249 hrak hwt258
         have hz267 := hg257.size
         have hB268 := fbU_row hB248 hik hg257
         have hr269 := row_kept_off hr249 hrak hg257
         exact ⟨hB268, hr269⟩
        rintro v255 w254 a253 ⟨hr256, hwt258, hg257⟩ h253
        have hr256' : w254.ownsRow 0 61 8 v255 (((P.W ++ (outT P.A g).take k) ++ [(SegT.mk y97.boot y97.stream y97.seq y97.ab y97.ast y97.asq y97.has y97.body)]).length) (((P.W ++ (outT P.A g).take k) ++ [(SegT.mk y97.boot y97.stream y97.seq y97.ab y97.ast y97.asq y97.has y97.body)]).flatMap segE) := row_push (y := (SegT.mk y97.boot y97.stream y97.seq y97.ab y97.ast y97.asq y97.has y97.body)) hr256 rfl rfl; clear hr256
        have hO262 := LkP.gr hO245 hg231 (fun k e => by cases e)
        have ho261 := LkP.ofS hO262
        have ho260 := offR_went hofwA ho261 hwt258
        have hO265 := LkP.gr hO247 hg231 (fun k e => by cases e)
        have ho264 := LkP.ofS hO265
        have ho263 := offR_went hofwB ho264 hwt258
        have hra266 := ap_went hr249 hrak hwt258
        have hz267 := hg257.size
        have hB268 := fbU_row hB248 hik hg257
        have hr269 := row_kept_off hr249 hrak hg257
        refine dk0 11 (v := pt b 0) h253 rfl rfl ⟨hB268, hr269⟩ fun a270 h270 => ?_; clear h253
        refine dk0 12 (v := pt b 4) h270 rfl rfl ⟨hB268, hr269⟩ fun a271 h271 => ?_; clear h270
        have hk277 := hk251.kept hg257 (own_neT hr259 hk251 (by decide))
        refine d1D 13 h271 rfl rfl (op_store1 rfl rfl rfl (row_one hr256') Try.sizeOf67 hk277 rfl) ?_ ?_; clear h271
        ·
         rintro _ w273 ⟨hk274, hz275, hg276⟩
         have hk274' : Blk w273 b 95 #[pt NA 0, pt NB 0, .int .i64 P.b0, .int .i64 P.b1, v255, tk, .int .i64 P.s0, .int .i64 P.s1, .int .i64 P.t0, .int .i64 P.t1, .bool true] := hk274; clear hk274
         have hz278 := hg276.size
         have hB279 := fbU_at hB268 hg276 (fun hlt => by rcases hSb with hq | hq; exact hq; omega)
         have hr280 := row_kept_at hr269 hg276 (own_neT hr269 hk277 (by decide))
         exact ⟨hB279, hr280⟩
        rintro _ w273 a272 ⟨hk274, hz275, hg276⟩ h272
        have hk274' : Blk w273 b 95 #[pt NA 0, pt NB 0, .int .i64 P.b0, .int .i64 P.b1, v255, tk, .int .i64 P.s0, .int .i64 P.s1, .int .i64 P.t0, .int .i64 P.t1, .bool true] := hk274; clear hk274
        have hz278 := hg276.size
        refine dr_done (by kernel_rfl) ?_
        refine co_then ?_
        refine co_reg ?_
        refine pk0 (v := pt b 0) h272 rfl fun a279 h279 => ?_; clear h272
        refine pk0 (v := pt b 0) h279 rfl fun a280 h280 => ?_; clear h279
        refine pk0 (v := pt b 0) h280 rfl fun a281 h281 => ?_; clear h280
        refine pk0 (v := pt b 5) h281 rfl fun a282 h282 => ?_; clear h281
        refine pk (v := tk) h282 rfl (rn_load1 rfl rfl Try.isAgg93 (hk274'.cell rfl)) fun a283 h283 => ?_; clear h282
        refine pk0 (v := .int .i64 0) h283 rfl fun a284 h284 => ?_; clear h283
        refine pk0 (v := .int .i64 1) h284 rfl fun a285 h285 => ?_; clear h284
        refine pw h285 rfl (op_new (v := fun N => .slice (some ⟨N, 0, none⟩) 1 1) (T := 3) (cs := #[.int .i64 1]) (by kernel_rfl) (by kernel_rfl) (by kernel_rfl)) ?_; clear h285
        rintro _ w287 a286 ⟨N288, rfl, hN291, hz292, hk290, hg289⟩ h286
        have hr294 := row_kept_at hr269 hg276 (own_neT hr269 hk277 (by decide))
        have ha293 := row_fresh hr294 hN291
        have hu295 := row_under hr294 hN291
        have hr297 := row_kept_new hr241 hg231
        have hr298 := row_kept_row hr297 hr259 hg257 (by decide)
        have hr299 := row_kept_at hr298 hg276 (own_neT hr298 hk277 (by decide))
        have ha296 := row_fresh hr299 hN291
        have hu300 := row_under hr299 hN291
        have hr302 := row_kept_at hr256' hg276 (own_neT hr256' hk277 (by decide))
        have ha301 := row_fresh hr302 hN291
        have hu303 := row_under hr302 hN291
        have hz304 := hg289.size
        have hO306 := LkP.gr hO262 hg257 (fun k e => hofwA k e)
        have hO307 := LkP.gr hO306 hg276 (fun k e => by cases e; exact (Grew.off hx15 hQ.nA hBk.lt))
        have ho305 := off_new (LkP.ofS hO307) hN291
        have hO309 := LkP.gr hO265 hg257 (fun k e => hofwB k e)
        have hO310 := LkP.gr hO309 hg276 (fun k e => by cases e; exact hQ.nB)
        have ho308 := off_new (LkP.ofS hO310) hN291
        try dsimp only at h286
        have hr317 := row_kept_new hr299 hg289
        refine pw h286 rfl (op_appendF rfl 0 3 (z := .int .i64 0) (size := 1) (bytes := 8) Try.underlying93 (by kernel_rfl) rfl rfl rfl hr317 rfl hk290 rfl (by kernel_rfl) (by first | omega | (simp only [List.length_nil, List.length_append, List.length_cons, List.length_take, List.length_drop]; omega)) (by first | omega | (simp only [List.length_nil, List.length_append, List.length_cons, List.length_take, List.length_drop]; omega)) (by omega)) ?_; clear h286
        rintro v313 w312 a311 ⟨hr314, hwt316, hg315⟩ h311
        have hr314' : w312.ownsRow 0 3 1 v313 (((P.T ++ List.replicate k 1) ++ [1]).length) (((P.T ++ List.replicate k 1) ++ [1]).flatMap (intE .i64)) := row_push (y := 1) hr314 rfl rfl; clear hr314
        have hB320 := fbU_at hB268 hg276 (fun hlt => by rcases hSb with hq | hq; exact hq; omega)
        have hB321 := fbU_new hB320 hg289
        have hk322 := hk232.kept hg257 (ha237)
        have hk323 := hk322.kept hg276 (by simp; omega)
        have hk324 := hk323.kept hg289 (by simp)
        have hO325 := LkP.gr hO307 hg289 (fun k e => by cases e)
        have ho319 := LkP.ofS hO325
        have ho318 := offR_went hoftA ho319 hwt316
        have hO328 := LkP.gr hO310 hg289 (fun k e => by cases e)
        have ho327 := LkP.ofS hO328
        have ho326 := offR_went hoftB ho327 hwt316
        have hz329 := hg315.size
        refine pk0 (v := pt b 0) h311 rfl fun a330 h330 => ?_; clear h311
        refine pk0 (v := pt b 5) h330 rfl fun a331 h331 => ?_; clear h330
        have hk337 := hk274'.kept hg289 (by simp)
        have hk338 := hk337.kept hg315 (own_neT hr317 hk337 (by decide))
        refine pwD h331 rfl (op_store1 rfl rfl rfl (row_one hr314') Try.sizeOf93 hk338 rfl) ?_; clear h331
        rintro _ w333 a332 ⟨hk334, hz335, hg336⟩ h332
        have hk334' : Blk w333 b 95 #[pt NA 0, pt NB 0, .int .i64 P.b0, .int .i64 P.b1, v255, v313, .int .i64 P.s0, .int .i64 P.s1, .int .i64 P.t0, .int .i64 P.t1, .bool true] := hk334; clear hk334
        have hz339 := hg336.size
        refine pl_nil ?_
        refine co_blockN ?_
        refine co_then ?_
        refine co_reg ?_
        refine pk0 (v := .int .i64 ((k : Nat) : Int)) h332 rfl fun a340 h340 => ?_; clear h332
        refine pk (v := .int .i64 ((k + 1 : Nat) : Int)) h340 rfl (rn_arith' rfl rfl rfl rfl rfl rfl (IntWalk.i64_in _ (by omega)) (by omega)) fun a341 h341 => ?_; clear h340
        refine pk0 (v := .int .i64 ((k + 1 : Nat) : Int)) h341 rfl fun a342 h342 => ?_; clear h341
        refine pl_nil ?_
        refine co_then ?_
        refine ⟨((outT P.A g).length - (k + 1)), by omega, ?_⟩
        have hiw9 : InS S w.heap.size v255 := (hik.went hwt258 (by omega))
        have hit9 : InS S w.heap.size v313 := (htk.went hwt316 (by omega))
        have hra9 : ∀ i, Value.ownBlock v12 = some i → Value.ownBlock v255 ≠ some i := hra266
        have howA9 : ∀ i, Value.ownBlock v255 = some i → ¬ S13 i := ho260
        have hotA9 : ∀ i, Value.ownBlock v313 = some i → ¬ S13 i := ho318
        have howB9 : ∀ i, Value.ownBlock v255 = some i → ¬ SB i := ho263
        have hotB9 : ∀ i, Value.ownBlock v313 = some i → ¬ SB i := ho326
        have hO343 := LkP.gr hO325 hg315 (fun k e => hoftA k e)
        have hO344 := LkP.gr hO343 hg336 (fun k e => by cases e; exact (Grew.off hx15 hQ.nA hBk.lt))
        have hO345 := LkP.gr hO328 hg315 (fun k e => hoftB k e)
        have hO346 := LkP.gr hO345 hg336 (fun k e => by cases e; exact hQ.nB)
        have hr347 := row_kept_new hr294 hg289
        have hr348 := row_kept_row hr347 hr317 hg315 (by decide)
        have hr349 := row_kept_at hr348 hg336 (own_neT hr348 hk338 (by decide))
        have hr350 := row_kept_new hr302 hg289
        have hr351 := row_kept_row hr350 hr317 hg315 (by decide)
        have hr352 := row_kept_at hr351 hg336 (own_neT hr351 hk338 (by decide))
        have hr353 := row_kept_at hr314' hg336 (own_neT hr314' hk338 (by decide))
        have hB354 := fbU_row hB321 htk hg315
        have hB355 := fbU_at hB354 hg336 (fun hlt => by rcases hSb with hq | hq; exact hq; omega)
        exact ⟨k + 1, v255, v313, h342.sub ⟨rfl, rfl, rfl, rfl, trivial⟩, rfl, by omega, by omega, by exact hiw9, by exact hit9, by exact howA9, by exact hotA9, by exact howB9, by exact hotB9, by exact hra9, hk334', hO344, hO346, hr349, (row_eq hr352 (by first | (simp; done) | exact take_push (by assumption))), (row_eq hr353 (by first | (simp; done) | exact rep_push)), hB355⟩
 · skip
   obtain ⟨NA, NB, SA, SB, wv, tv, hQ⟩ := hP
   have hBk : Blk w b 95 #[pt NA 0, pt NB 0, .int .i64 P.b0, .int .i64 P.b1, wv, tv, .int .i64 P.s0, .int .i64 P.s1, .int .i64 P.t0, .int .i64 P.t1, .bool true] := hQ.blk
   have hl_b := hBk.lt
   have hSb : S b ∨ w.heap.size ≤ b := .inl ((hQ.fp b).2 (.inl rfl))
   have hinA : ∀ q, SA q → S q ∨ w.heap.size ≤ q := fun q h => .inl ((hQ.fp q).2 (.inr (.inl h)))
   have hinB : ∀ q, SB q → S q ∨ w.heap.size ≤ q := fun q h => .inl ((hQ.fp q).2 (.inr (.inr (.inl h))))
   have hinw : InS S w.heap.size wv := InS.of (fun i hi => (hQ.fp i).2 (.inr (.inr (.inr (.inl hi)))))
   have hint : InS S w.heap.size tv := InS.of (fun i hi => (hQ.fp i).2 (.inr (.inr (.inr (.inr hi)))))
   have hW0 := hQ.way
   have hT0 := hQ.to
   refine co_enter (n := 58) Try.func50 rfl rfl rfl [(0, pt b 0), (1, .int .i64 1), (2, .bool g)] rfl (fun a h0 => ?_)
   refine co_seq ?_
   refine co_reg ?_
   refine pk0 (v := pt b 0) h0 rfl fun a356 h356 => ?_; clear h0
   refine pk0 (v := .int .i64 1) h356 rfl fun a357 h357 => ?_; clear h356
   refine pk0 (v := pt b 0) h357 rfl fun a358 h358 => ?_; clear h357
   refine pk0 (v := pt b 0) h358 rfl fun a359 h359 => ?_; clear h358
   refine pk0 (v := pt b 1) h359 rfl fun a360 h360 => ?_; clear h359
   refine pk (v := pt NB 0) h360 rfl (rn_load1 rfl rfl Try.isAgg53 (hBk.cell rfl)) fun a361 h361 => ?_; clear h360
   refine pk0 (v := .bool g) h361 rfl fun a362 h362 => ?_; clear h361
   have ho365 := LkP.ofS hQ.hA
   have ho366 := LkP.ofS hQ.hB
   have hlt_wv : ∀ i, Value.ownBlock wv = some i → i < w.heap.size := fun i hi => (hW0.lt i hi).2
   have hlt_tv : ∀ i, Value.ownBlock tv = some i → i < w.heap.size := fun i hi => (hT0.lt i hi).2
   have hltb := Blk.lt hBk
   refine pw h362 rfl (op_call (args := #[pt NB 0, .bool g]) (R := fun res xw => ∃ v : Value, ∃ S' : Nat → Prop, res = v ∧ LkP S' xw NB (outN P.B) ∧ (xw.ownsRow w.heap.size 61 8 v (outT P.B g).length ((outT P.B g).flatMap segE)) ∧ (∀ q, S' q → q < w.heap.size) ∧ Grew SB S' w xw) rfl rfl rfl (by kernel_rfl) (by kernel_rfl) (Try.call37 _ _) (kOut w g hQ.hB) (by rintro e x ⟨v, S', h0, h⟩; exact ⟨_, h0, v, S', rfl, h⟩)) ?_; clear h362
   rintro v367 w364 a363 ⟨_, S368, rfl, hO369, hq371, hq372, hx370⟩ h363
   have hB373 := fbU_foot hB0 hx370.but (fun i hi hq => by rcases hinB i hq with k | k; exact k; omega)
   have hz374 := hB373.size
   have hz375 := hx370.but.size
   have hge : ∀ i, Value.ownBlock v367 = some i → w.heap.size ≤ i := fun i hi => (hq371.lt i hi).1
   have hbody := outT_body hQ.hB.ok g
   have hl376 := outT_len P.B g
   have hrap : ∀ i, Value.ownBlock v367 = some i → Value.ownBlock wv ≠ some i := fun i hi h1 => by have e1 := hge i hi; have e2 := hlt_wv i h1; omega
   have hin377 : ∀ q, S368 q → S q ∨ w.heap.size ≤ q := fun q hq => by rcases hx370.sub q hq with k | k; exact hinB q k; exact .inr (by omega)
   refine pk0 (v := v367) h363 rfl fun a378 h378 => ?_; clear h363
   refine pl_nil ?_
   refine co_then ?_
   refine co_seq ?_
   refine co_reg ?_
   refine pk0 (v := .int .i64 0) h378 rfl fun a379 h379 => ?_; clear h378
   refine pl_nil ?_
   refine co_then ?_
   refine wp_block ?_
   have hiw9 : InS S w.heap.size wv := hinw
   have hit9 : InS S w.heap.size tv := hint
   have hra9 : ∀ i, Value.ownBlock v367 = some i → Value.ownBlock wv ≠ some i := hrap
   have howA9 : ∀ i, Value.ownBlock wv = some i → ¬ SA i := hQ.wA
   have hotA9 : ∀ i, Value.ownBlock tv = some i → ¬ SA i := hQ.tA
   have howB9 : ∀ i, Value.ownBlock wv = some i → ¬ S368 i := (Grew.offR hx370 hW0 hQ.wB)
   have hotB9 : ∀ i, Value.ownBlock tv = some i → ¬ S368 i := (Grew.offR hx370 hT0 hQ.tB)
   have h380 : Slots 58 [(0, pt b 0), (1, .int .i64 1), (6, v367), (7, .int .i64 0)] _ := h379.sub ⟨rfl, rfl, rfl, rfl, trivial⟩; clear h379
   refine co_loop (fun mm a x => ∃ (k : Nat) (wk : Value) (tk : Value), Slots 58 [(0, pt b 0), (1, .int .i64 1), (6, v367), (7, .int .i64 ((k : Nat) : Int))] a ∧ mm = (outT P.B g).length - k ∧ (k ≤ (outT P.B g).length) ∧ (P.W.length + k ≤ 200) ∧ (InS S w.heap.size wk) ∧ (InS S w.heap.size tk) ∧ (∀ i, Value.ownBlock wk = some i → ¬ SA i) ∧ (∀ i, Value.ownBlock tk = some i → ¬ SA i) ∧ (∀ i, Value.ownBlock wk = some i → ¬ S368 i) ∧ (∀ i, Value.ownBlock tk = some i → ¬ S368 i) ∧ (∀ i, Value.ownBlock v367 = some i → Value.ownBlock wk ≠ some i) ∧ Blk x b 95 #[pt NA 0, pt NB 0, .int .i64 P.b0, .int .i64 P.b1, wk, tk, .int .i64 P.s0, .int .i64 P.s1, .int .i64 P.t0, .int .i64 P.t1, .bool true] ∧ LkP SA x NA P.A ∧ LkP S368 x NB (outN P.B) ∧ x.ownsRow w.heap.size 61 8 v367 (outT P.B g).length ((outT P.B g).flatMap segE) ∧ x.ownsRow 0 61 8 wk (P.W ++ (outT P.B g).take k).length ((P.W ++ (outT P.B g).take k).flatMap segE) ∧ x.ownsRow 0 3 1 tk (P.T ++ List.replicate k 0).length ((P.T ++ List.replicate k 0).flatMap (intE .i64)) ∧ But (S) w x) ((outT P.B g).length - 0) ?_ ?_
   have hk381 := Blk.butS hBk hx370.but hQ.nB
   have hO382 := LkP.but hQ.hA hx370.but hQ.ap
   have hr383 := own_butS hW0 hx370.but hQ.wB
   have hr384 := own_butS hT0 hx370.but hQ.tB
   · exact ⟨0, wv, tv, h380.sub ⟨rfl, rfl, rfl, (slot_eq rfl (congrArg (Value.int .i64) (by first | rfl | omega))), trivial⟩, rfl, by omega, by omega, by exact hiw9, by exact hit9, by exact howA9, by exact hotA9, by exact howB9, by exact hotB9, by exact hra9, hk381, hO382, hO369, hq371, (row_eq hr383 (by first | (simp; done) | exact take_push (by assumption))), (row_eq hr384 (by first | (simp; done) | exact rep_push)), hB373⟩
   · rintro k385 a386 w387 ⟨k, wk, tk, h386, rfl, hi388, hi389, hi390, hi391, hi392, hi393, hi394, hi395, hi396, hf397, hf398, hf399, hf400, hf401, hf402, hB403⟩
     have hz404 := hB403.size
     have hl405 := hf397.lt
     have hrak : ∀ i, Value.ownBlock v367 = some i → Value.ownBlock wk ≠ some i := by assumption
     have hofwA : ∀ i, Value.ownBlock wk = some i → ¬ SA i := by assumption
     have hoftA : ∀ i, Value.ownBlock tk = some i → ¬ SA i := by assumption
     have hofwB : ∀ i, Value.ownBlock wk = some i → ¬ S368 i := by assumption
     have hoftB : ∀ i, Value.ownBlock tk = some i → ¬ S368 i := by assumption
     have hik : InS S w.heap.size wk := by assumption
     have htk : InS S w.heap.size tk := by assumption
     have hlw : (P.W ++ (outT P.B g).take k).length = P.W.length + k := by rw [List.length_append, List.length_take]; omega
     have hlt2 : (P.T ++ List.replicate k 0).length = P.T.length + k := by rw [List.length_append, List.length_replicate]
     refine co_seq ?_
     refine co_seq ?_
     refine co_reg ?_
     refine pk0 (v := .int .i64 ((k : Nat) : Int)) h386 rfl fun a406 h406 => ?_; clear h386
     refine pk0 (v := v367) h406 rfl fun a407 h407 => ?_; clear h406
     refine pk (v := .int .i64 (((outT P.B g).length : Nat) : Int)) h407 rfl (rn_lenOwn rfl rfl Try.underlying67 hf400) fun a408 h408 => ?_; clear h407
     refine pk0 (v := .bool (decide (((k : Nat) : Int) < (((outT P.B g).length : Nat) : Int)))) h408 rfl fun a409 h409 => ?_; clear h408
     refine pk0 (v := .bool (decide (((k : Nat) : Int) < (((outT P.B g).length : Nat) : Int)))) h409 rfl fun a410 h410 => ?_; clear h409
     cases hc411 : (decide (((k : Nat) : Int) < (((outT P.B g).length : Nat) : Int)))
     ·
      rw [hc411] at h410
      have hp412 : ¬ (((k : Nat) : Int) < (((outT P.B g).length : Nat) : Int)) := of_decide_eq_false hc411
      clear hc411
      refine psk h410 rfl fun a413 h413 => ?_; clear h410
      refine psk h413 rfl fun a414 h414 => ?_; clear h413
      refine pk0 (v := .bool false) h414 rfl fun a415 h415 => ?_; clear h414
      refine pk0 (v := .bool false) h415 rfl fun a416 h416 => ?_; clear h415
      refine psk h416 rfl fun a417 h417 => ?_; clear h416
      refine psk h417 rfl fun a418 h418 => ?_; clear h417
      refine psk h418 rfl fun a419 h419 => ?_; clear h418
      refine psk h419 rfl fun a420 h420 => ?_; clear h419
      refine psk h420 rfl fun a421 h421 => ?_; clear h420
      refine psk h421 rfl fun a422 h422 => ?_; clear h421
      refine pk0 (v := .bool false) h422 rfl fun a423 h423 => ?_; clear h422
      refine pl_nil ?_
      refine co_then ?_
      refine co_false h423 rfl ?_
      refine wp_exit ?_
      refine co_thenX ?_
      refine co_thenX ?_
      refine co_blockX ?_
      refine co_ret0n h423 rfl ?_
      obtain ⟨S9, h1, h2⟩ := PrO.fin (P := { P with B := outN P.B, W := P.W ++ (outT P.B g).take k, T := P.T ++ List.replicate k 0 }) (NA := NA) (NB := NB) (wv := wk) (tv := tk) (w := w) hf397 hf398 hf399 hf401 hf402 (ap_symm (Grew.ap hx370 (ap_symm hQ.ap) (LkP.ofS hQ.hA))) hQ.nA (Grew.off hx370 hQ.nB hBk.lt) hofwA hofwB hoftA hoftB hSb hinA hin377 hik htk hB403
      exact ⟨k, S9, rfl, by rw [if_neg (by decide)]; omega, h1, h2, hB403⟩
     ·
      rw [hc411] at h410
      have hp424 : ((k : Nat) : Int) < (((outT P.B g).length : Nat) : Int) := of_decide_eq_true hc411
      clear hc411
      refine pk0 (v := .int .i64 ((k : Nat) : Int)) h410 rfl fun a425 h425 => ?_; clear h410
      refine pk0 (v := .bool (decide (((k : Nat) : Int) < 9))) h425 rfl fun a426 h426 => ?_; clear h425
      refine pk0 (v := .bool (decide (((k : Nat) : Int) < 9))) h426 rfl fun a427 h427 => ?_; clear h426
      refine pk0 (v := .bool (decide (((k : Nat) : Int) < 9))) h427 rfl fun a428 h428 => ?_; clear h427
      have hc429 : (decide (((k : Nat) : Int) < 9)) = true := decide_eq_true (by omega)
      rw [hc429] at h428; clear hc429
      refine pk0 (v := pt b 0) h428 rfl fun a430 h430 => ?_; clear h428
      refine pk0 (v := pt b 0) h430 rfl fun a431 h431 => ?_; clear h430
      refine pk0 (v := pt b 4) h431 rfl fun a432 h432 => ?_; clear h431
      refine pk (v := wk) h432 rfl (rn_load1 rfl rfl Try.isAgg67 (hf397.cell rfl)) fun a433 h433 => ?_; clear h432
      refine pk (v := .int .i64 (((P.W ++ (outT P.B g).take k).length : Nat) : Int)) h433 rfl (rn_lenOwn rfl rfl Try.underlying67 hf401) fun a434 h434 => ?_; clear h433
      refine pk0 (v := .bool (decide ((((P.W ++ (outT P.B g).take k).length : Nat) : Int) < 200))) h434 rfl fun a435 h435 => ?_; clear h434
      refine pk0 (v := .bool (decide ((((P.W ++ (outT P.B g).take k).length : Nat) : Int) < 200))) h435 rfl fun a436 h436 => ?_; clear h435
      refine pl_nil ?_
      refine co_then ?_
      have hc437 : (decide ((((P.W ++ (outT P.B g).take k).length : Nat) : Int) < 200)) = true := decide_eq_true (by omega)
      rw [hc437] at h436; clear hc437
      refine co_true h436 rfl ?_
      refine wp_skip ?_
      refine co_then ?_
      refine co_seq ?_
      refine wp_block ?_
      refine co_seq ?_
      refine dr_gen (fun x => But (S) w x ∧ x.ownsRow w.heap.size 61 8 v367 ((outT P.B g).length) ((outT P.B g).flatMap segE)) (by kernel_rfl) (fun w438 hg439 => ?_) (fun w438 hg439 => ?_)
      ·
       have hz440 := hg439.size
       have hB441 := fbU_new hB403 hg439
       have hr442 := row_kept_new hf400 hg439
       exact ⟨hB441, hr442⟩
      have hz443 := hg439.size
      have hB444 := fbU_new hB403 hg439
      have hr445 := row_kept_new hf400 hg439
      refine dk0 0 (v := pt b 0) h436 rfl rfl ⟨hB444, hr445⟩ fun a446 h446 => ?_; clear h436
      refine dk0 1 (v := pt b 0) h446 rfl rfl ⟨hB444, hr445⟩ fun a447 h447 => ?_; clear h446
      refine dk0 2 (v := pt b 0) h447 rfl rfl ⟨hB444, hr445⟩ fun a448 h448 => ?_; clear h447
      refine dk0 3 (v := pt b 4) h448 rfl rfl ⟨hB444, hr445⟩ fun a449 h449 => ?_; clear h448
      refine dk0 5 (v := v367) h449 rfl rfl ⟨hB444, hr445⟩ fun a450 h450 => ?_; clear h449
      refine dk0 6 (v := .int .i64 ((k : Nat) : Int)) h450 rfl rfl ⟨hB444, hr445⟩ fun a451 h451 => ?_; clear h450
      obtain ⟨y452, hy452⟩ : ∃ z, (outT P.B g)[k]? = some z := ⟨_, List.getElem?_eq_getElem (by first | omega | (simp; done) | (simp; omega))⟩
      refine dk 7 (v := pt (blkOf v367) (offOf v367 + k * 8)) h451 rfl rfl ⟨hB444, hr445⟩ (fun x hx => (rn_index rfl rfl rfl Try.underlying67 Try.sizeOf61 (row_sl hx.2 segE_len) (by omega) (by first | omega | (simp; done) | (simp; omega)))) fun a453 h453 => ?_; clear h451
      refine dk 8 (v := .agg #[.int .i64 y452.boot, .int .i64 y452.stream, .int .i64 y452.seq, .int .i64 y452.ab, .int .i64 y452.ast, .int .i64 y452.asq, .bool y452.has, .string y452.body]) h453 rfl rfl ⟨hB444, hr445⟩ (fun x hx => (rn_loadN rfl rfl Try.underlying61 rfl (by kernel_rfl) (sl_at (row_sl hx.2 segE_len) hy452))) fun a454 h454 => ?_; clear h453
      refine dr_many [4, 9] (by kernel_rfl) (by simp) ⟨?_, ?_, trivial⟩
      ·
       have hk455 := hf397.kept hg439 (by simp)
       refine dr_opVal (i := 4) (v := wk) h454 rfl rfl rfl rfl (by kernel_rfl) rfl (rn_load1 rfl rfl Try.isAgg67 (hk455.cell rfl)) ⟨hB444, hr445⟩ (fun a456 h456 => ?_); clear h454
       refine d1 9 h456 rfl rfl (op_new (v := fun N => .slice (some ⟨N, 0, none⟩) 1 1) (T := 61) (cs := #[.int .i64 y452.boot, .int .i64 y452.stream, .int .i64 y452.seq, .int .i64 y452.ab, .int .i64 y452.ast, .int .i64 y452.asq, .bool y452.has, .string y452.body]) (by kernel_rfl) (by kernel_rfl) (by kernel_rfl)) ?_ ?_; clear h456
       ·
        rintro _ w458 ⟨N459, rfl, hN462, hz463, hk461, hg460⟩
        have ha464 := row_fresh hr445 hN462
        have hu465 := row_under hr445 hN462
        have hr467 := row_kept_new hf401 hg439
        have ha466 := row_fresh hr467 hN462
        have hu468 := row_under hr467 hN462
        have hr470 := row_kept_new hf402 hg439
        have ha469 := row_fresh hr470 hN462
        have hu471 := row_under hr470 hN462
        have hz472 := hg460.size
        have hO474 := LkP.gr hf398 hg439 (fun k e => by cases e)
        have ho473 := off_new (LkP.ofS hO474) hN462
        have hO476 := LkP.gr hf399 hg439 (fun k e => by cases e)
        have ho475 := off_new (LkP.ofS hO476) hN462
        have hB477 := fbU_new hB444 hg460
        have hr478 := row_kept_new hr445 hg460
        exact ⟨hB477, hr478⟩
       rintro _ w458 a457 ⟨N459, rfl, hN462, hz463, hk461, hg460⟩ h457
       have ha464 := row_fresh hr445 hN462
       have hu465 := row_under hr445 hN462
       have hr467 := row_kept_new hf401 hg439
       have ha466 := row_fresh hr467 hN462
       have hu468 := row_under hr467 hN462
       have hr470 := row_kept_new hf402 hg439
       have ha469 := row_fresh hr470 hN462
       have hu471 := row_under hr470 hN462
       have hz472 := hg460.size
       have hO474 := LkP.gr hf398 hg439 (fun k e => by cases e)
       have ho473 := off_new (LkP.ofS hO474) hN462
       have hO476 := LkP.gr hf399 hg439 (fun k e => by cases e)
       have ho475 := off_new (LkP.ofS hO476) hN462
       try dsimp only at h457
       have hB477 := fbU_new hB444 hg460
       have hr478 := row_kept_new hr445 hg460
       have hr485 := row_kept_new hr467 hg460
       refine d1 10 h457 rfl rfl (op_appendF rfl 0 61 (z := .agg #[.int .i64 0, .int .i64 0, .int .i64 0, .int .i64 0, .int .i64 0, .int .i64 0, .bool false, .string (⟨#[]⟩)]) (size := 8) (bytes := 72) Try.underlying67 (by kernel_rfl) rfl rfl rfl hr485 rfl hk461 rfl (by kernel_rfl) (by first | omega | (simp only [List.length_nil, List.length_append, List.length_cons, List.length_take, List.length_drop]; omega)) (by first | omega | (simp only [List.length_nil, List.length_append, List.length_cons, List.length_take, List.length_drop]; omega)) (by omega)) ?_ ?_; clear h457
       ·
        rintro v481 w480 ⟨hr482, hwt484, hg483⟩
        have hr482' : w480.ownsRow 0 61 8 v481 (((P.W ++ (outT P.B g).take k) ++ [(SegT.mk y452.boot y452.stream y452.seq y452.ab y452.ast y452.asq y452.has y452.body)]).length) (((P.W ++ (outT P.B g).take k) ++ [(SegT.mk y452.boot y452.stream y452.seq y452.ab y452.ast y452.asq y452.has y452.body)]).flatMap segE) := row_push (y := (SegT.mk y452.boot y452.stream y452.seq y452.ab y452.ast y452.asq y452.has y452.body)) hr482 rfl rfl; clear hr482
        have hO488 := LkP.gr hO474 hg460 (fun k e => by cases e)
        have ho487 := LkP.ofS hO488
        have ho486 := offR_went hofwA ho487 hwt484
        have hO491 := LkP.gr hO476 hg460 (fun k e => by cases e)
        have ho490 := LkP.ofS hO491
        have ho489 := offR_went hofwB ho490 hwt484
        have hra492 := ap_went hr478 hrak hwt484
        have hz493 := hg483.size
        have hB494 := fbU_row hB477 hik hg483
        have hr495 := row_kept_off hr478 hrak hg483
        exact ⟨hB494, hr495⟩
       rintro v481 w480 a479 ⟨hr482, hwt484, hg483⟩ h479
       have hr482' : w480.ownsRow 0 61 8 v481 (((P.W ++ (outT P.B g).take k) ++ [(SegT.mk y452.boot y452.stream y452.seq y452.ab y452.ast y452.asq y452.has y452.body)]).length) (((P.W ++ (outT P.B g).take k) ++ [(SegT.mk y452.boot y452.stream y452.seq y452.ab y452.ast y452.asq y452.has y452.body)]).flatMap segE) := row_push (y := (SegT.mk y452.boot y452.stream y452.seq y452.ab y452.ast y452.asq y452.has y452.body)) hr482 rfl rfl; clear hr482
       have hO488 := LkP.gr hO474 hg460 (fun k e => by cases e)
       have ho487 := LkP.ofS hO488
       have ho486 := offR_went hofwA ho487 hwt484
       have hO491 := LkP.gr hO476 hg460 (fun k e => by cases e)
       have ho490 := LkP.ofS hO491
       have ho489 := offR_went hofwB ho490 hwt484
       have hra492 := ap_went hr478 hrak hwt484
       have hz493 := hg483.size
       have hB494 := fbU_row hB477 hik hg483
       have hr495 := row_kept_off hr478 hrak hg483
       refine dk0 11 (v := pt b 0) h479 rfl rfl ⟨hB494, hr495⟩ fun a496 h496 => ?_; clear h479
       refine dk0 12 (v := pt b 4) h496 rfl rfl ⟨hB494, hr495⟩ fun a497 h497 => ?_; clear h496
       have hk503 := hk455.kept hg460 (by simp)
       have hk504 := hk503.kept hg483 (own_neT hr485 hk503 (by decide))
       refine d1D 13 h497 rfl rfl (op_store1 rfl rfl rfl (row_one hr482') Try.sizeOf67 hk504 rfl) ?_ ?_; clear h497
       ·
        rintro _ w499 ⟨hk500, hz501, hg502⟩
        have hk500' : Blk w499 b 95 #[pt NA 0, pt NB 0, .int .i64 P.b0, .int .i64 P.b1, v481, tk, .int .i64 P.s0, .int .i64 P.s1, .int .i64 P.t0, .int .i64 P.t1, .bool true] := hk500; clear hk500
        have hz505 := hg502.size
        have hB506 := fbU_at hB494 hg502 (fun hlt => by rcases hSb with hq | hq; exact hq; omega)
        have hr507 := row_kept_at hr495 hg502 (own_neT hr495 hk504 (by decide))
        exact ⟨hB506, hr507⟩
       rintro _ w499 a498 ⟨hk500, hz501, hg502⟩ h498
       have hk500' : Blk w499 b 95 #[pt NA 0, pt NB 0, .int .i64 P.b0, .int .i64 P.b1, v481, tk, .int .i64 P.s0, .int .i64 P.s1, .int .i64 P.t0, .int .i64 P.t1, .bool true] := hk500; clear hk500
       have hz505 := hg502.size
       refine dr_done (by kernel_rfl) ?_
       refine co_then ?_
       refine co_reg ?_
       refine pk0 (v := pt b 0) h498 rfl fun a506 h506 => ?_; clear h498
       refine pk0 (v := pt b 0) h506 rfl fun a507 h507 => ?_; clear h506
       refine pk0 (v := pt b 0) h507 rfl fun a508 h508 => ?_; clear h507
       refine pk0 (v := pt b 5) h508 rfl fun a509 h509 => ?_; clear h508
       refine pk (v := tk) h509 rfl (rn_load1 rfl rfl Try.isAgg93 (hk500'.cell rfl)) fun a510 h510 => ?_; clear h509
       refine pk0 (v := .int .i64 1) h510 rfl fun a511 h511 => ?_; clear h510
       refine pk0 (v := .int .i64 0) h511 rfl fun a512 h512 => ?_; clear h511
       refine pw h512 rfl (op_new (v := fun N => .slice (some ⟨N, 0, none⟩) 1 1) (T := 3) (cs := #[.int .i64 0]) (by kernel_rfl) (by kernel_rfl) (by kernel_rfl)) ?_; clear h512
       rintro _ w514 a513 ⟨N515, rfl, hN518, hz519, hk517, hg516⟩ h513
       have hr521 := row_kept_at hr495 hg502 (own_neT hr495 hk504 (by decide))
       have ha520 := row_fresh hr521 hN518
       have hu522 := row_under hr521 hN518
       have hr524 := row_kept_new hr470 hg460
       have hr525 := row_kept_row hr524 hr485 hg483 (by decide)
       have hr526 := row_kept_at hr525 hg502 (own_neT hr525 hk504 (by decide))
       have ha523 := row_fresh hr526 hN518
       have hu527 := row_under hr526 hN518
       have hr529 := row_kept_at hr482' hg502 (own_neT hr482' hk504 (by decide))
       have ha528 := row_fresh hr529 hN518
       have hu530 := row_under hr529 hN518
       have hz531 := hg516.size
       have hO533 := LkP.gr hO488 hg483 (fun k e => hofwA k e)
       have hO534 := LkP.gr hO533 hg502 (fun k e => by cases e; exact hQ.nA)
       have ho532 := off_new (LkP.ofS hO534) hN518
       have hO536 := LkP.gr hO491 hg483 (fun k e => hofwB k e)
       have hO537 := LkP.gr hO536 hg502 (fun k e => by cases e; exact (Grew.off hx370 hQ.nB hBk.lt))
       have ho535 := off_new (LkP.ofS hO537) hN518
       try dsimp only at h513
       have hr544 := row_kept_new hr526 hg516
       refine pw h513 rfl (op_appendF rfl 0 3 (z := .int .i64 0) (size := 1) (bytes := 8) Try.underlying93 (by kernel_rfl) rfl rfl rfl hr544 rfl hk517 rfl (by kernel_rfl) (by first | omega | (simp only [List.length_nil, List.length_append, List.length_cons, List.length_take, List.length_drop]; omega)) (by first | omega | (simp only [List.length_nil, List.length_append, List.length_cons, List.length_take, List.length_drop]; omega)) (by omega)) ?_; clear h513
       rintro v540 w539 a538 ⟨hr541, hwt543, hg542⟩ h538
       have hr541' : w539.ownsRow 0 3 1 v540 (((P.T ++ List.replicate k 0) ++ [0]).length) (((P.T ++ List.replicate k 0) ++ [0]).flatMap (intE .i64)) := row_push (y := 0) hr541 rfl rfl; clear hr541
       have hB547 := fbU_at hB494 hg502 (fun hlt => by rcases hSb with hq | hq; exact hq; omega)
       have hB548 := fbU_new hB547 hg516
       have hk549 := hk461.kept hg483 (ha466)
       have hk550 := hk549.kept hg502 (by simp; omega)
       have hk551 := hk550.kept hg516 (by simp)
       have hO552 := LkP.gr hO534 hg516 (fun k e => by cases e)
       have ho546 := LkP.ofS hO552
       have ho545 := offR_went hoftA ho546 hwt543
       have hO555 := LkP.gr hO537 hg516 (fun k e => by cases e)
       have ho554 := LkP.ofS hO555
       have ho553 := offR_went hoftB ho554 hwt543
       have hz556 := hg542.size
       refine pk0 (v := pt b 0) h538 rfl fun a557 h557 => ?_; clear h538
       refine pk0 (v := pt b 5) h557 rfl fun a558 h558 => ?_; clear h557
       have hk564 := hk500'.kept hg516 (by simp)
       have hk565 := hk564.kept hg542 (own_neT hr544 hk564 (by decide))
       refine pwD h558 rfl (op_store1 rfl rfl rfl (row_one hr541') Try.sizeOf93 hk565 rfl) ?_; clear h558
       rintro _ w560 a559 ⟨hk561, hz562, hg563⟩ h559
       have hk561' : Blk w560 b 95 #[pt NA 0, pt NB 0, .int .i64 P.b0, .int .i64 P.b1, v481, v540, .int .i64 P.s0, .int .i64 P.s1, .int .i64 P.t0, .int .i64 P.t1, .bool true] := hk561; clear hk561
       have hz566 := hg563.size
       refine pl_nil ?_
       refine co_blockN ?_
       refine co_then ?_
       refine co_reg ?_
       refine pk0 (v := .int .i64 ((k : Nat) : Int)) h559 rfl fun a567 h567 => ?_; clear h559
       refine pk (v := .int .i64 ((k + 1 : Nat) : Int)) h567 rfl (rn_arith' rfl rfl rfl rfl rfl rfl (IntWalk.i64_in _ (by omega)) (by omega)) fun a568 h568 => ?_; clear h567
       refine pk0 (v := .int .i64 ((k + 1 : Nat) : Int)) h568 rfl fun a569 h569 => ?_; clear h568
       refine pl_nil ?_
       refine co_then ?_
       refine ⟨((outT P.B g).length - (k + 1)), by omega, ?_⟩
       have hiw9 : InS S w.heap.size v481 := (hik.went hwt484 (by omega))
       have hit9 : InS S w.heap.size v540 := (htk.went hwt543 (by omega))
       have hra9 : ∀ i, Value.ownBlock v367 = some i → Value.ownBlock v481 ≠ some i := hra492
       have howA9 : ∀ i, Value.ownBlock v481 = some i → ¬ SA i := ho486
       have hotA9 : ∀ i, Value.ownBlock v540 = some i → ¬ SA i := ho545
       have howB9 : ∀ i, Value.ownBlock v481 = some i → ¬ S368 i := ho489
       have hotB9 : ∀ i, Value.ownBlock v540 = some i → ¬ S368 i := ho553
       have hO570 := LkP.gr hO552 hg542 (fun k e => hoftA k e)
       have hO571 := LkP.gr hO570 hg563 (fun k e => by cases e; exact hQ.nA)
       have hO572 := LkP.gr hO555 hg542 (fun k e => hoftB k e)
       have hO573 := LkP.gr hO572 hg563 (fun k e => by cases e; exact (Grew.off hx370 hQ.nB hBk.lt))
       have hr574 := row_kept_new hr521 hg516
       have hr575 := row_kept_row hr574 hr544 hg542 (by decide)
       have hr576 := row_kept_at hr575 hg563 (own_neT hr575 hk565 (by decide))
       have hr577 := row_kept_new hr529 hg516
       have hr578 := row_kept_row hr577 hr544 hg542 (by decide)
       have hr579 := row_kept_at hr578 hg563 (own_neT hr578 hk565 (by decide))
       have hr580 := row_kept_at hr541' hg563 (own_neT hr541' hk565 (by decide))
       have hB581 := fbU_row hB548 htk hg542
       have hB582 := fbU_at hB581 hg563 (fun hlt => by rcases hSb with hq | hq; exact hq; omega)
       exact ⟨k + 1, v481, v540, h569.sub ⟨rfl, rfl, rfl, rfl, trivial⟩, rfl, by omega, by omega, by exact hiw9, by exact hit9, by exact howA9, by exact hotA9, by exact howB9, by exact hotB9, by exact hra9, hk561', hO571, hO573, hr576, (row_eq hr579 (by first | (simp; done) | exact take_push (by assumption))), (row_eq hr580 (by first | (simp; done) | exact rep_push)), hB582⟩
      ·
       refine dr_op (i := 9) h454 rfl rfl rfl rfl (op_new (v := fun N => .slice (some ⟨N, 0, none⟩) 1 1) (T := 61) (cs := #[.int .i64 y452.boot, .int .i64 y452.stream, .int .i64 y452.seq, .int .i64 y452.ab, .int .i64 y452.ast, .int .i64 y452.asq, .bool y452.has, .string y452.body]) (by kernel_rfl) (by kernel_rfl) (by kernel_rfl)) ?_ ?_; clear h454
       ·
        rintro _ w584 ⟨N585, rfl, hN588, hz589, hk587, hg586⟩
        have ha590 := row_fresh hr445 hN588
        have hu591 := row_under hr445 hN588
        have hr593 := row_kept_new hf401 hg439
        have ha592 := row_fresh hr593 hN588
        have hu594 := row_under hr593 hN588
        have hr596 := row_kept_new hf402 hg439
        have ha595 := row_fresh hr596 hN588
        have hu597 := row_under hr596 hN588
        have hz598 := hg586.size
        have hO600 := LkP.gr hf398 hg439 (fun k e => by cases e)
        have ho599 := off_new (LkP.ofS hO600) hN588
        have hO602 := LkP.gr hf399 hg439 (fun k e => by cases e)
        have ho601 := off_new (LkP.ofS hO602) hN588
        have hB603 := fbU_new hB444 hg586
        have hr604 := row_kept_new hr445 hg586
        exact ⟨hB603, hr604⟩
       rintro _ w584 a583 ⟨N585, rfl, hN588, hz589, hk587, hg586⟩ h583
       have ha590 := row_fresh hr445 hN588
       have hu591 := row_under hr445 hN588
       have hr593 := row_kept_new hf401 hg439
       have ha592 := row_fresh hr593 hN588
       have hu594 := row_under hr593 hN588
       have hr596 := row_kept_new hf402 hg439
       have ha595 := row_fresh hr596 hN588
       have hu597 := row_under hr596 hN588
       have hz598 := hg586.size
       have hO600 := LkP.gr hf398 hg439 (fun k e => by cases e)
       have ho599 := off_new (LkP.ofS hO600) hN588
       have hO602 := LkP.gr hf399 hg439 (fun k e => by cases e)
       have ho601 := off_new (LkP.ofS hO602) hN588
       try dsimp only at h583
       have hB603 := fbU_new hB444 hg586
       have hr604 := row_kept_new hr445 hg586
       refine dr_many [4] (by kernel_rfl) (by simp) ⟨?_, trivial⟩
       ·
        have hk605 := hf397.kept hg439 (by simp)
        have hk606 := hk605.kept hg586 (by simp)
        refine dr_opVal (i := 4) (v := wk) h583 rfl rfl rfl rfl (by kernel_rfl) rfl (rn_load1 rfl rfl Try.isAgg67 (hk606.cell rfl)) ⟨hB603, hr604⟩ (fun a607 h607 => ?_); clear h583
        have hr614 := row_kept_new hr593 hg586
        refine d1 10 h607 rfl rfl (op_appendF rfl 0 61 (z := .agg #[.int .i64 0, .int .i64 0, .int .i64 0, .int .i64 0, .int .i64 0, .int .i64 0, .bool false, .string (⟨#[]⟩)]) (size := 8) (bytes := 72) Try.underlying67 (by kernel_rfl) rfl rfl rfl hr614 rfl hk587 rfl (by kernel_rfl) (by first | omega | (simp only [List.length_nil, List.length_append, List.length_cons, List.length_take, List.length_drop]; omega)) (by first | omega | (simp only [List.length_nil, List.length_append, List.length_cons, List.length_take, List.length_drop]; omega)) (by omega)) ?_ ?_; clear h607
        ·
         rintro v610 w609 ⟨hr611, hwt613, hg612⟩
         have hr611' : w609.ownsRow 0 61 8 v610 (((P.W ++ (outT P.B g).take k) ++ [(SegT.mk y452.boot y452.stream y452.seq y452.ab y452.ast y452.asq y452.has y452.body)]).length) (((P.W ++ (outT P.B g).take k) ++ [(SegT.mk y452.boot y452.stream y452.seq y452.ab y452.ast y452.asq y452.has y452.body)]).flatMap segE) := row_push (y := (SegT.mk y452.boot y452.stream y452.seq y452.ab y452.ast y452.asq y452.has y452.body)) hr611 rfl rfl; clear hr611
         have hO617 := LkP.gr hO600 hg586 (fun k e => by cases e)
         have ho616 := LkP.ofS hO617
         have ho615 := offR_went hofwA ho616 hwt613
         have hO620 := LkP.gr hO602 hg586 (fun k e => by cases e)
         have ho619 := LkP.ofS hO620
         have ho618 := offR_went hofwB ho619 hwt613
         have hra621 := ap_went hr604 hrak hwt613
         have hz622 := hg612.size
         have hB623 := fbU_row hB603 hik hg612
         have hr624 := row_kept_off hr604 hrak hg612
         exact ⟨hB623, hr624⟩
        rintro v610 w609 a608 ⟨hr611, hwt613, hg612⟩ h608
        have hr611' : w609.ownsRow 0 61 8 v610 (((P.W ++ (outT P.B g).take k) ++ [(SegT.mk y452.boot y452.stream y452.seq y452.ab y452.ast y452.asq y452.has y452.body)]).length) (((P.W ++ (outT P.B g).take k) ++ [(SegT.mk y452.boot y452.stream y452.seq y452.ab y452.ast y452.asq y452.has y452.body)]).flatMap segE) := row_push (y := (SegT.mk y452.boot y452.stream y452.seq y452.ab y452.ast y452.asq y452.has y452.body)) hr611 rfl rfl; clear hr611
        have hO617 := LkP.gr hO600 hg586 (fun k e => by cases e)
        have ho616 := LkP.ofS hO617
        have ho615 := offR_went hofwA ho616 hwt613
        have hO620 := LkP.gr hO602 hg586 (fun k e => by cases e)
        have ho619 := LkP.ofS hO620
        have ho618 := offR_went hofwB ho619 hwt613
        have hra621 := ap_went hr604 hrak hwt613
        have hz622 := hg612.size
        have hB623 := fbU_row hB603 hik hg612
        have hr624 := row_kept_off hr604 hrak hg612
        refine dk0 11 (v := pt b 0) h608 rfl rfl ⟨hB623, hr624⟩ fun a625 h625 => ?_; clear h608
        refine dk0 12 (v := pt b 4) h625 rfl rfl ⟨hB623, hr624⟩ fun a626 h626 => ?_; clear h625
        have hk632 := hk606.kept hg612 (own_neT hr614 hk606 (by decide))
        refine d1D 13 h626 rfl rfl (op_store1 rfl rfl rfl (row_one hr611') Try.sizeOf67 hk632 rfl) ?_ ?_; clear h626
        ·
         rintro _ w628 ⟨hk629, hz630, hg631⟩
         have hk629' : Blk w628 b 95 #[pt NA 0, pt NB 0, .int .i64 P.b0, .int .i64 P.b1, v610, tk, .int .i64 P.s0, .int .i64 P.s1, .int .i64 P.t0, .int .i64 P.t1, .bool true] := hk629; clear hk629
         have hz633 := hg631.size
         have hB634 := fbU_at hB623 hg631 (fun hlt => by rcases hSb with hq | hq; exact hq; omega)
         have hr635 := row_kept_at hr624 hg631 (own_neT hr624 hk632 (by decide))
         exact ⟨hB634, hr635⟩
        rintro _ w628 a627 ⟨hk629, hz630, hg631⟩ h627
        have hk629' : Blk w628 b 95 #[pt NA 0, pt NB 0, .int .i64 P.b0, .int .i64 P.b1, v610, tk, .int .i64 P.s0, .int .i64 P.s1, .int .i64 P.t0, .int .i64 P.t1, .bool true] := hk629; clear hk629
        have hz633 := hg631.size
        refine dr_done (by kernel_rfl) ?_
        refine co_then ?_
        refine co_reg ?_
        refine pk0 (v := pt b 0) h627 rfl fun a634 h634 => ?_; clear h627
        refine pk0 (v := pt b 0) h634 rfl fun a635 h635 => ?_; clear h634
        refine pk0 (v := pt b 0) h635 rfl fun a636 h636 => ?_; clear h635
        refine pk0 (v := pt b 5) h636 rfl fun a637 h637 => ?_; clear h636
        refine pk (v := tk) h637 rfl (rn_load1 rfl rfl Try.isAgg93 (hk629'.cell rfl)) fun a638 h638 => ?_; clear h637
        refine pk0 (v := .int .i64 1) h638 rfl fun a639 h639 => ?_; clear h638
        refine pk0 (v := .int .i64 0) h639 rfl fun a640 h640 => ?_; clear h639
        refine pw h640 rfl (op_new (v := fun N => .slice (some ⟨N, 0, none⟩) 1 1) (T := 3) (cs := #[.int .i64 0]) (by kernel_rfl) (by kernel_rfl) (by kernel_rfl)) ?_; clear h640
        rintro _ w642 a641 ⟨N643, rfl, hN646, hz647, hk645, hg644⟩ h641
        have hr649 := row_kept_at hr624 hg631 (own_neT hr624 hk632 (by decide))
        have ha648 := row_fresh hr649 hN646
        have hu650 := row_under hr649 hN646
        have hr652 := row_kept_new hr596 hg586
        have hr653 := row_kept_row hr652 hr614 hg612 (by decide)
        have hr654 := row_kept_at hr653 hg631 (own_neT hr653 hk632 (by decide))
        have ha651 := row_fresh hr654 hN646
        have hu655 := row_under hr654 hN646
        have hr657 := row_kept_at hr611' hg631 (own_neT hr611' hk632 (by decide))
        have ha656 := row_fresh hr657 hN646
        have hu658 := row_under hr657 hN646
        have hz659 := hg644.size
        have hO661 := LkP.gr hO617 hg612 (fun k e => hofwA k e)
        have hO662 := LkP.gr hO661 hg631 (fun k e => by cases e; exact hQ.nA)
        have ho660 := off_new (LkP.ofS hO662) hN646
        have hO664 := LkP.gr hO620 hg612 (fun k e => hofwB k e)
        have hO665 := LkP.gr hO664 hg631 (fun k e => by cases e; exact (Grew.off hx370 hQ.nB hBk.lt))
        have ho663 := off_new (LkP.ofS hO665) hN646
        try dsimp only at h641
        have hr672 := row_kept_new hr654 hg644
        refine pw h641 rfl (op_appendF rfl 0 3 (z := .int .i64 0) (size := 1) (bytes := 8) Try.underlying93 (by kernel_rfl) rfl rfl rfl hr672 rfl hk645 rfl (by kernel_rfl) (by first | omega | (simp only [List.length_nil, List.length_append, List.length_cons, List.length_take, List.length_drop]; omega)) (by first | omega | (simp only [List.length_nil, List.length_append, List.length_cons, List.length_take, List.length_drop]; omega)) (by omega)) ?_; clear h641
        rintro v668 w667 a666 ⟨hr669, hwt671, hg670⟩ h666
        have hr669' : w667.ownsRow 0 3 1 v668 (((P.T ++ List.replicate k 0) ++ [0]).length) (((P.T ++ List.replicate k 0) ++ [0]).flatMap (intE .i64)) := row_push (y := 0) hr669 rfl rfl; clear hr669
        have hB675 := fbU_at hB623 hg631 (fun hlt => by rcases hSb with hq | hq; exact hq; omega)
        have hB676 := fbU_new hB675 hg644
        have hk677 := hk587.kept hg612 (ha592)
        have hk678 := hk677.kept hg631 (by simp; omega)
        have hk679 := hk678.kept hg644 (by simp)
        have hO680 := LkP.gr hO662 hg644 (fun k e => by cases e)
        have ho674 := LkP.ofS hO680
        have ho673 := offR_went hoftA ho674 hwt671
        have hO683 := LkP.gr hO665 hg644 (fun k e => by cases e)
        have ho682 := LkP.ofS hO683
        have ho681 := offR_went hoftB ho682 hwt671
        have hz684 := hg670.size
        refine pk0 (v := pt b 0) h666 rfl fun a685 h685 => ?_; clear h666
        refine pk0 (v := pt b 5) h685 rfl fun a686 h686 => ?_; clear h685
        have hk692 := hk629'.kept hg644 (by simp)
        have hk693 := hk692.kept hg670 (own_neT hr672 hk692 (by decide))
        refine pwD h686 rfl (op_store1 rfl rfl rfl (row_one hr669') Try.sizeOf93 hk693 rfl) ?_; clear h686
        rintro _ w688 a687 ⟨hk689, hz690, hg691⟩ h687
        have hk689' : Blk w688 b 95 #[pt NA 0, pt NB 0, .int .i64 P.b0, .int .i64 P.b1, v610, v668, .int .i64 P.s0, .int .i64 P.s1, .int .i64 P.t0, .int .i64 P.t1, .bool true] := hk689; clear hk689
        have hz694 := hg691.size
        refine pl_nil ?_
        refine co_blockN ?_
        refine co_then ?_
        refine co_reg ?_
        refine pk0 (v := .int .i64 ((k : Nat) : Int)) h687 rfl fun a695 h695 => ?_; clear h687
        refine pk (v := .int .i64 ((k + 1 : Nat) : Int)) h695 rfl (rn_arith' rfl rfl rfl rfl rfl rfl (IntWalk.i64_in _ (by omega)) (by omega)) fun a696 h696 => ?_; clear h695
        refine pk0 (v := .int .i64 ((k + 1 : Nat) : Int)) h696 rfl fun a697 h697 => ?_; clear h696
        refine pl_nil ?_
        refine co_then ?_
        refine ⟨((outT P.B g).length - (k + 1)), by omega, ?_⟩
        have hiw9 : InS S w.heap.size v610 := (hik.went hwt613 (by omega))
        have hit9 : InS S w.heap.size v668 := (htk.went hwt671 (by omega))
        have hra9 : ∀ i, Value.ownBlock v367 = some i → Value.ownBlock v610 ≠ some i := hra621
        have howA9 : ∀ i, Value.ownBlock v610 = some i → ¬ SA i := ho615
        have hotA9 : ∀ i, Value.ownBlock v668 = some i → ¬ SA i := ho673
        have howB9 : ∀ i, Value.ownBlock v610 = some i → ¬ S368 i := ho618
        have hotB9 : ∀ i, Value.ownBlock v668 = some i → ¬ S368 i := ho681
        have hO698 := LkP.gr hO680 hg670 (fun k e => hoftA k e)
        have hO699 := LkP.gr hO698 hg691 (fun k e => by cases e; exact hQ.nA)
        have hO700 := LkP.gr hO683 hg670 (fun k e => hoftB k e)
        have hO701 := LkP.gr hO700 hg691 (fun k e => by cases e; exact (Grew.off hx370 hQ.nB hBk.lt))
        have hr702 := row_kept_new hr649 hg644
        have hr703 := row_kept_row hr702 hr672 hg670 (by decide)
        have hr704 := row_kept_at hr703 hg691 (own_neT hr703 hk693 (by decide))
        have hr705 := row_kept_new hr657 hg644
        have hr706 := row_kept_row hr705 hr672 hg670 (by decide)
        have hr707 := row_kept_at hr706 hg691 (own_neT hr706 hk693 (by decide))
        have hr708 := row_kept_at hr669' hg691 (own_neT hr669' hk693 (by decide))
        have hB709 := fbU_row hB676 htk hg670
        have hB710 := fbU_at hB709 hg691 (fun hlt => by rcases hSb with hq | hq; exact hq; omega)
        exact ⟨k + 1, v610, v668, h697.sub ⟨rfl, rfl, rfl, rfl, trivial⟩, rfl, by omega, by omega, by exact hiw9, by exact hit9, by exact howA9, by exact hotA9, by exact howB9, by exact hotB9, by exact hra9, hk689', hO699, hO701, hr704, (row_eq hr707 (by first | (simp; done) | exact take_push (by assumption))), (row_eq hr708 (by first | (simp; done) | exact rep_push)), hB710⟩
end Go.Proofs.Ythmljllgfigebaa
