/- Put together: PrA, PrB. Conditions: as each says. -/
import Derived.Test.YthmljllgfigebaaLinkALo
import Derived.Test.YthmljllgfigebaaLinkOLo
import Derived.Test.YthmljllgfigebaaGoLo
import Derived.Test.YthmljllgfigebaaPexS0
/- catenalaw22: two sides, what is on the way: what stays so whatever happens. Conditions: none. -/
namespace Go.Proofs.Ythmljllgfigebaa
open Go.RowKit Go.PlainAid Go.Shelf
set_option linter.unusedVariables false
set_option linter.unusedSimpArgs false

/-- Not ahead of what is waited for. -/
def ahd (p i n b s q : Int) : Prop := p < b ∨ (p = b ∧ (i < s ∨ (i = s ∧ n ≤ q)))
/-- One side X tells another side Y: W is on the way to Y; v tells a text's number. -/
structure InvD (v : ByteArray → Int) (X Y : LnT) (bX bY sent told : Int) (W : List SegT) : Prop where
  lb : X.boot = bX
  b1 : 1 ≤ bY
  pX : X.peer ≤ bY
  wb : ∀ s ∈ W, s.boot ≤ bX ∧ s.ab ≤ bY ∧ (s.boot = bX → s.ab ≤ X.peer)
  wm : ∀ s ∈ W, s.has = true → 1 ≤ v s.body ∧ v s.body ≤ sent
  qm : ∀ b ∈ X.q, 1 ≤ v b ∧ v b ≤ sent
  qr : ∀ (i j : Nat) (a b : ByteArray), X.q[i]? = some a → X.q[j]? = some b → i < j → v a < v b
  old : ∀ s ∈ W, s.has = true → s.boot < bX → ∀ b ∈ X.q, v s.body < v b
  tq : X.peer < bY → ∀ b ∈ X.q, told < v b
  tl : 0 ≤ told ∧ told ≤ sent
  e1 : ∀ s ∈ W, ∀ t ∈ W, s.has = true → t.has = true → s.ab = bY → t.ab = bY → (s.boot < t.boot → v s.body < v t.body) ∧ (s.boot = t.boot → s.stream = t.stream ∧ (s.seq < t.seq → v s.body < v t.body))
  e2 : X.peer = bY → ∀ s ∈ W, s.has = true → s.ab = bY → s.boot = bX → s.stream = X.stream ∧ s.seq < X.first + X.q.length ∧ ∀ (i : Nat) (b : ByteArray), X.q[i]? = some b → (s.seq < X.first + i → v s.body < v b) ∧ (X.first + i < s.seq → v b < v s.body)
  l1 : ∀ s ∈ W, s.has = true → s.ab = bY → ahd Y.peer Y.in0 Y.next s.boot s.stream s.seq → told < v s.body
  l2 : X.peer = bY → ∀ (i : Nat) (b : ByteArray), X.q[i]? = some b → ahd Y.peer Y.in0 Y.next bX X.stream (X.first + i) → told < v b
/-- A segment that X tells now. -/
def OutF (X : LnT) (s : SegT) : Prop := s.boot = X.boot ∧ s.stream = X.stream ∧ s.ab = X.peer ∧ (s.has = true → ∃ i : Nat, X.q[i]? = some s.body ∧ s.seq = X.first + i)
section
variable {v : ByteArray → Int} {X Y X' Y' : LnT} {bX bY sent told : Int} {W W' : List SegT}
theorem memq {b : ByteArray} {i : Nat} (h : X.q[i]? = some b) : b ∈ X.q := List.mem_of_getElem? h
theorem InvD.way (h : InvD v X Y bX bY sent told W) (hW : ∀ s ∈ W', s ∈ W ∨ OutF X s) : InvD v X Y bX bY sent told W' := by
  have lb := h.lb
  refine ⟨h.lb, h.b1, h.pX, ?_, ?_, h.qm, h.qr, ?_, h.tq, h.tl, ?_, ?_, ?_, h.l2⟩
  · intro s hs
    rcases hW s hs with k | ⟨k1, k2, k3, k4⟩
    · exact h.wb s k
    · exact ⟨by omega, by have := h.pX; omega, fun _ => by omega⟩
  · intro s hs hh
    rcases hW s hs with k | ⟨k1, k2, k3, k4⟩
    · exact h.wm s k hh
    · obtain ⟨i, hi, _⟩ := k4 hh
      exact h.qm _ (memq hi)
  · intro s hs hh hb
    rcases hW s hs with k | ⟨k1, k2, k3, k4⟩
    · exact h.old s k hh hb
    · omega
  · intro s hs t ht hsh hth hsa hta
    rcases hW s hs with k | ⟨k1, k2, k3, k4⟩
    · rcases hW t ht with m | ⟨m1, m2, m3, m4⟩
      · exact h.e1 s k t m hsh hth hsa hta
      · obtain ⟨i, hi, hi2⟩ := m4 hth
        refine ⟨fun hlt => h.old s k hsh (by omega) _ (memq hi), fun he => ?_⟩
        obtain ⟨q1, q2, q3⟩ := h.e2 (by omega) s k hsh hsa (by omega)
        exact ⟨by omega, fun hlt => (q3 i _ hi).1 (by omega)⟩
    · obtain ⟨j, hj, hj2⟩ := k4 hsh
      rcases hW t ht with m | ⟨m1, m2, m3, m4⟩
      · have := (h.wb t m).1
        refine ⟨fun hlt => by omega, fun he => ?_⟩
        obtain ⟨q1, q2, q3⟩ := h.e2 (by omega) t m hth hta (by omega)
        exact ⟨by omega, fun hlt => (q3 j _ hj).2 (by omega)⟩
      · obtain ⟨i, hi, hi2⟩ := m4 hth
        exact ⟨fun hlt => by omega, fun he => ⟨by omega, fun hlt => h.qr j i _ _ hj hi (by omega)⟩⟩
  · intro hp s hs hh ha hb
    rcases hW s hs with k | ⟨k1, k2, k3, k4⟩
    · exact h.e2 hp s k hh ha hb
    · obtain ⟨j, hj, hj2⟩ := k4 hh
      have hl : j < X.q.length := (List.getElem?_eq_some_iff.1 hj).1
      exact ⟨k2, by omega, fun i b hi => ⟨fun hlt => h.qr j i _ _ hj hi (by omega), fun hlt => h.qr i j _ _ hi hj (by omega)⟩⟩
  · intro s hs hh ha hh2
    rcases hW s hs with k | ⟨k1, k2, k3, k4⟩
    · exact h.l1 s k hh ha hh2
    · obtain ⟨j, hj, hj2⟩ := k4 hh
      refine h.l2 (by omega) j _ hj ?_
      rw [← hj2, ← k2, ← lb, ← k1]; exact hh2
theorem InvD.send {b : ByteArray} (h : InvD v X Y bX bY sent told W) (hb : v b = sent + 1) : InvD v { X with q := X.q ++ [b] } Y bX bY (sent + 1) told W := by
  have htl := h.tl
  have hget : ∀ (i : Nat) (a : ByteArray), (X.q ++ [b])[i]? = some a → X.q[i]? = some a ∨ (i = X.q.length ∧ a = b) := by
    intro i a hi
    by_cases hl : i < X.q.length
    · rw [List.getElem?_append_left hl] at hi; exact .inl hi
    · rw [List.getElem?_append_right (by omega)] at hi
      by_cases he : i - X.q.length = 0
      · rw [he] at hi; simp at hi; exact .inr ⟨by omega, hi.symm⟩
      · obtain ⟨k, hk⟩ : ∃ k, i - X.q.length = k + 1 := ⟨i - X.q.length - 1, by omega⟩
        rw [hk] at hi; simp at hi
  refine ⟨h.lb, h.b1, h.pX, h.wb, ?_, ?_, ?_, ?_, ?_, ?_, h.e1, ?_, h.l1, ?_⟩
  · intro s hs hh; have := h.wm s hs hh; omega
  · intro a ha
    rcases List.mem_append.1 ha with k | k
    · have := h.qm a k; omega
    · simp at k; subst k; omega
  · intro i j a c hi hj hij
    rcases hget i a hi with k | ⟨k1, k2⟩
    · rcases hget j c hj with m | ⟨m1, m2⟩
      · exact h.qr i j a c k m hij
      · subst m2; have := h.qm a (memq k); omega
    · rcases hget j c hj with m | ⟨m1, m2⟩
      · have := (List.getElem?_eq_some_iff.1 m).1; omega
      · omega
  · intro s hs hh hlt a ha
    rcases List.mem_append.1 ha with k | k
    · exact h.old s hs hh hlt a k
    · simp at k; subst k; have := h.wm s hs hh; omega
  · intro hp a ha
    rcases List.mem_append.1 ha with k | k
    · exact h.tq hp a k
    · simp at k; subst k; omega
  · omega
  · intro hp s hs hh hab hbo
    obtain ⟨q1, q2, q3⟩ := h.e2 hp s hs hh hab hbo
    refine ⟨q1, by show s.seq < X.first + ((X.q ++ [b]).length : Int); rw [List.length_append]; simp; omega, fun i a hi => ?_⟩
    rcases hget i a hi with k | ⟨k1, k2⟩
    · exact q3 i a k
    · subst k2 k1
      refine ⟨fun _ => by have := h.wm s hs hh; omega, fun hlt => ?_⟩
      have hlt : X.first + (X.q.length : Int) < s.seq := hlt
      omega
  · intro hp i a hi hah
    rcases hget i a hi with k | ⟨k1, k2⟩
    · exact h.l2 hp i a k hah
    · subst k2; omega
/-- The one that tells is started anew. -/
theorem InvD.anewX (h : InvD v X Y bX bY sent told W) : InvD v (newLn (bX + 1)) Y (bX + 1) bY sent told W := by
  have hb := h.b1
  refine ⟨rfl, h.b1, by show (0 : Int) ≤ bY; omega, ?_, h.wm, fun b hb => by simp [newLn] at hb, fun i j a b hi => by simp [newLn] at hi, fun s _ _ _ b hb => by simp [newLn] at hb, fun _ b hb => by simp [newLn] at hb, h.tl, h.e1, ?_, h.l1, fun _ i b hi => by simp [newLn] at hi⟩
  · intro s hs
    have := h.wb s hs
    exact ⟨by omega, this.2.1, fun e => by omega⟩
  · intro hp; have hp : (0 : Int) = bY := hp; omega
/-- The one that is told is started anew. -/
theorem InvD.anewY (h : InvD v X Y bX bY sent told W) : InvD v X (newLn (bY + 1)) bX (bY + 1) sent 0 W := by
  have hp := h.pX
  have ht := h.tl
  have hb := h.b1
  refine ⟨h.lb, by omega, by omega, ?_, h.wm, h.qm, h.qr, h.old, fun _ b hb => by have := h.qm b hb; omega, by omega, ?_, fun e => by omega, ?_, fun e => by omega⟩
  · intro s hs; have := h.wb s hs; exact ⟨this.1, by omega, this.2.2⟩
  · intro s hs t ht _ _ ha; have := (h.wb s hs).2.1; omega
  · intro s hs _ ha; have := (h.wb s hs).2.1; omega
/-- What only the one that is told keeps of the other does not matter to what it tells. -/
theorem InvD.sameX (h : InvD v X Y bX bY sent told W) (h1 : X'.boot = X.boot) (h2 : X'.peer = X.peer) (h3 : X'.stream = X.stream) (h4 : X'.first = X.first) (h5 : X'.q = X.q) : InvD v X' Y bX bY sent told W :=
  ⟨by rw [h1]; exact h.lb, h.b1, by rw [h2]; exact h.pX, by rw [h2]; exact h.wb, h.wm, by rw [h5]; exact h.qm, by rw [h5]; exact h.qr, by rw [h5]; exact h.old, by rw [h2, h5]; exact h.tq, h.tl, h.e1, by rw [h2, h3, h4, h5]; exact h.e2, h.l1, by rw [h2, h3, h4, h5]; exact h.l2⟩
theorem InvD.sameY (h : InvD v X Y bX bY sent told W) (h1 : Y'.peer = Y.peer) (h2 : Y'.in0 = Y.in0) (h3 : Y'.next = Y.next) : InvD v X Y' bX bY sent told W :=
  ⟨h.lb, h.b1, h.pX, h.wb, h.wm, h.qm, h.qr, h.old, h.tq, h.tl, h.e1, h.e2, by rw [h1, h2, h3]; exact h.l1, by rw [h1, h2, h3]; exact h.l2⟩
theorem InvD.pop (h : InvD v X Y bX bY sent told W) (n : Int) : InvD v (popT X n) Y bX bY sent told W := by
  obtain ⟨g, hg⟩ : ∃ g, g = goneN X n := ⟨_, rfl⟩
  have hgl : g ≤ X.q.length := by rw [hg]; exact goneN_le X n
  have hq : (popT X n).q = X.q.drop g := by rw [hg]; rfl
  have hf : (popT X n).first = X.first + (g : Int) := by rw [hg]; rfl
  have hmem : ∀ b ∈ (popT X n).q, b ∈ X.q := fun b hb => by rw [hq] at hb; exact List.mem_of_mem_drop hb
  have hget : ∀ (i : Nat) (a : ByteArray), (popT X n).q[i]? = some a → X.q[g + i]? = some a := fun i a hi => by rw [hq, List.getElem?_drop] at hi; exact hi
  refine ⟨h.lb, h.b1, h.pX, h.wb, h.wm, fun b hb => h.qm b (hmem b hb), fun i j a b hi hj hij => h.qr _ _ a b (hget i a hi) (hget j b hj) (by omega), fun s hs hh hlt b hb => h.old s hs hh hlt b (hmem b hb), fun hp b hb => h.tq hp b (hmem b hb), h.tl, h.e1, ?_, h.l1, ?_⟩
  · intro hp s hs hh hab hbo
    obtain ⟨q1, q2, q3⟩ := h.e2 hp s hs hh hab hbo
    refine ⟨q1, by rw [hf, hq, List.length_drop]; omega, fun i a hi => ?_⟩
    obtain ⟨k1, k2⟩ := q3 (g + i) a (hget i a hi)
    rw [hf]
    exact ⟨fun hlt => k1 (by omega), fun hlt => k2 (by omega)⟩
  · intro hp i a hi hah
    rw [hf] at hah
    refine h.l2 hp (g + i) a (hget i a hi) ?_
    have e : X.first + ((g + i : Nat) : Int) = X.first + (g : Int) + (i : Int) := by omega
    rw [e]; exact hah
/-- The one that tells learns of the other. -/
theorem InvD.know (h : InvD v X Y bX bY sent told W) {s : SegT} (hs : s.boot ≤ bY) : InvD v (knowT X s) Y bX bY sent told W := by
  by_cases hp : X.peer < s.boot
  · have hq : (knowT X s).q = X.q := by unfold knowT; rw [if_pos hp]; split <;> rfl
    have hb : (knowT X s).boot = X.boot := by unfold knowT; rw [if_pos hp]; split <;> rfl
    have hpe : (knowT X s).peer = s.boot := by unfold knowT; rw [if_pos hp]; split <;> rfl
    refine ⟨by rw [hb]; exact h.lb, h.b1, by rw [hpe]; exact hs, ?_, h.wm, by rw [hq]; exact h.qm, by rw [hq]; exact h.qr, by rw [hq]; exact h.old, fun hlt b hbq => h.tq (by rw [hpe] at hlt; omega) b (by rw [← hq]; exact hbq), h.tl, h.e1, ?_, h.l1, ?_⟩
    · intro t ht
      have := h.wb t ht
      exact ⟨this.1, this.2.1, fun e => by rw [hpe]; have := this.2.2 e; omega⟩
    · intro he t ht hh hab hbo
      rw [hpe] at he
      have := (h.wb t ht).2.2 hbo
      omega
    · intro he i b hi _
      rw [hpe] at he
      rw [hq] at hi
      exact h.tq (by omega) b (memq hi)
  · exact h.sameX (by unfold knowT; rw [if_neg hp]; split <;> rfl) (by unfold knowT; rw [if_neg hp]; split <;> rfl) (by unfold knowT; rw [if_neg hp]; split <;> rfl) (by unfold knowT; rw [if_neg hp]; split <;> rfl) (by unfold knowT; rw [if_neg hp]; split <;> rfl)
theorem InvD.ack (h : InvD v X Y bX bY sent told W) (s : SegT) : InvD v (ackT X s) Y bX bY sent told W := by
  unfold ackT; split
  · exact h.pop _
  · exact h
/-- A segment comes in at the one that tells. -/
theorem InvD.inX (h : InvD v X Y bX bY sent told W) {s : SegT} (hs : s.boot ≤ bY) : InvD v (inT X s).2.2 Y bX bY sent told W := by
  unfold inT
  split
  · exact h
  · split
    · exact h
    · have hk := (h.know hs).ack s
      split
      · exact hk
      · split
        · exact hk.sameX rfl rfl rfl rfl rfl
        · exact hk.sameX rfl rfl rfl rfl rfl
/-- What is waited for goes on. -/
theorem InvD.on (h : InvD v X Y bX bY sent told W) (hm : ∀ b s q : Int, ahd Y'.peer Y'.in0 Y'.next b s q → ahd Y.peer Y.in0 Y.next b s q) : InvD v X Y' bX bY sent told W :=
  ⟨h.lb, h.b1, h.pX, h.wb, h.wm, h.qm, h.qr, h.old, h.tq, h.tl, h.e1, h.e2, fun s hs hh ha hd => h.l1 s hs hh ha (hm _ _ _ hd), fun hp i b hi hd => h.l2 hp i b hi (hm _ _ _ hd)⟩
theorem ack_peer (X : LnT) (s : SegT) : (ackT X s).peer = X.peer ∧ (ackT X s).in0 = X.in0 ∧ (ackT X s).next = X.next ∧ (ackT X s).boot = X.boot := by unfold ackT; split <;> exact ⟨rfl, rfl, rfl, rfl⟩
theorem know_at (Y : LnT) (s : SegT) (hb : ¬ s.boot < Y.peer) : (knowT Y s).boot = Y.boot ∧ (knowT Y s).peer = s.boot ∧ Y.in0 ≤ (if Y.peer < s.boot then Y.in0 else (knowT Y s).in0) ∧ ∀ b t q : Int, ahd (knowT Y s).peer (knowT Y s).in0 (knowT Y s).next b t q → ahd Y.peer Y.in0 Y.next b t q := by
  unfold knowT
  by_cases hp : Y.peer < s.boot
  · rw [if_pos hp]
    split
    · refine ⟨rfl, rfl, by simp [hp], fun b t q h => ?_⟩
      unfold ahd at h ⊢
      have h : s.boot < b ∨ (s.boot = b ∧ (s.stream < t ∨ (s.stream = t ∧ 0 ≤ q))) := h
      exact .inl (by omega)
    · refine ⟨rfl, rfl, by simp [hp], fun b t q h => ?_⟩
      unfold ahd at h ⊢
      have h : s.boot < b ∨ (s.boot = b ∧ (s.stream < t ∨ (s.stream = t ∧ 0 ≤ q))) := h
      exact .inl (by omega)
  · rw [if_neg hp]
    split
    · rename_i hi
      refine ⟨rfl, by show Y.peer = s.boot; omega, by simp [hp]; omega, fun b t q h => ?_⟩
      unfold ahd at h ⊢
      have h : Y.peer < b ∨ (Y.peer = b ∧ (s.stream < t ∨ (s.stream = t ∧ 0 ≤ q))) := h
      omega
    · exact ⟨rfl, by omega, by simp [hp], fun b t q h => h⟩
/-- A segment of the way comes in at the one that is told. -/
theorem InvD.inY (h : InvD v X Y bX bY sent told W) {s : SegT} (hs : s ∈ W) (hY : Y.boot = bY) (hm : mayT s = true) :
    (inT Y s).2.1 = 0 ∧ (((inT Y s).1 = [] ∧ InvD v X (inT Y s).2.2 bX bY sent told W) ∨ ((inT Y s).1 = [s.body] ∧ told < v s.body ∧ v s.body ≤ sent ∧ InvD v X (inT Y s).2.2 bX bY sent (v s.body) W)) := by
  unfold inT
  rw [if_neg (by simp [hm])]
  by_cases hb : s.boot < Y.peer
  · rw [if_pos hb]; exact ⟨rfl, .inl ⟨rfl, h⟩⟩
  · rw [if_neg hb]
    obtain ⟨k1, k2, -, k4⟩ := know_at Y s hb
    obtain ⟨a1, a2, a3, a4⟩ := ack_peer (knowT Y s) s
    have hK : InvD v X (ackT (knowT Y s) s) bX bY sent told W := h.on (fun b t q hd => k4 b t q (by rw [a1, a2, a3] at hd; exact hd))
    have hp : (ackT (knowT Y s) s).peer = s.boot := by rw [a1]; exact k2
    obtain ⟨K, hKe⟩ : ∃ K, K = ackT (knowT Y s) s := ⟨_, rfl⟩
    rw [← hKe] at hK hp ⊢
    split
    · exact ⟨rfl, .inl ⟨rfl, hK⟩⟩
    · rename_i hh
      have hh : s.has = true := by simpa using hh
      split
      · rename_i hc
        obtain ⟨c1, c2, c3⟩ := hc
        have hab : s.ab = bY := by omega
        have hl : told < v s.body := hK.l1 s hs hh hab (by unfold ahd; omega)
        refine ⟨rfl, .inr ⟨rfl, hl, (hK.wm s hs hh).2, ?_⟩⟩
        have hsq := (hK.wm s hs hh)
        have htl := hK.tl
        refine ⟨hK.lb, hK.b1, hK.pX, hK.wb, hK.wm, hK.qm, hK.qr, hK.old, ?_, by omega, hK.e1, hK.e2, ?_, ?_⟩
        · intro hlt b hbq
          have h1 := hK.wb s hs
          refine hK.old s hs hh ?_ b hbq
          rcases Int.lt_trichotomy s.boot bX with k | k | k
          · exact k
          · have := h1.2.2 k; omega
          · omega
        · intro t ht hth hta hd
          have hd : ahd K.peer K.in0 (K.next + 1) t.boot t.stream t.seq := hd
          obtain ⟨f1, f2⟩ := hK.e1 s hs t ht hh hth hab hta
          unfold ahd at hd
          rcases hd with d | ⟨d, d2⟩
          · exact f1 (by omega)
          · obtain ⟨f3, f4⟩ := f2 (by omega)
            exact f4 (by omega)
        · intro hpe i b hi hd
          have hd : ahd K.peer K.in0 (K.next + 1) bX X.stream (X.first + i) := hd
          have h1 := hK.wb s hs
          unfold ahd at hd
          rcases Int.lt_trichotomy s.boot bX with k | k | k
          · exact hK.old s hs hh k b (memq hi)
          · obtain ⟨f1, f2, f3⟩ := hK.e2 hpe s hs hh hab k
            exact (f3 i b hi).1 (by omega)
          · omega
      · exact ⟨rfl, .inl ⟨rfl, hK.sameY rfl rfl rfl⟩⟩
end
end Go.Proofs.Ythmljllgfigebaa

/- catenalaw22: two sides and what is on the way, as an object. Conditions: none. -/
namespace Go.Proofs.Ythmljllgfigebaa
open Go.RowKit Go.PlainAid Go.Shelf
set_option linter.unusedVariables false
set_option linter.unusedSimpArgs false

/-- Two sides; the way, to whom; how many texts were sent by each, up to which each was told. -/
structure PrT where
  A : LnT
  B : LnT
  b0 : Int
  b1 : Int
  W : List SegT
  T : List Int
  s0 : Int
  s1 : Int
  t0 : Int
  t1 : Int
def prC (NA NB : Nat) (P : PrT) (wv tv : Value) : Array Value := #[pt NA 0, pt NB 0, .int .i64 P.b0, .int .i64 P.b1, wv, tv, .int .i64 P.s0, .int .i64 P.s1, .int .i64 P.t0, .int .i64 P.t1, .bool true]
structure PrQ (NA NB : Nat) (SA SB : Nat → Prop) (wv tv : Value) (S : Nat → Prop) (w : World) (b : Nat) (P : PrT) : Prop where
  blk : Blk w b 95 (prC NA NB P wv tv)
  hA : LkP SA w NA P.A
  hB : LkP SB w NB P.B
  way : w.ownsRow 0 61 8 wv P.W.length (P.W.flatMap segE)
  to : w.ownsRow 0 3 1 tv P.T.length (P.T.flatMap (intE .i64))
  ap : ∀ q, SA q → SB q → False
  nA : ¬ SA b
  nB : ¬ SB b
  wA : ∀ i, wv.ownBlock = some i → ¬ SA i
  wB : ∀ i, wv.ownBlock = some i → ¬ SB i
  tA : ∀ i, tv.ownBlock = some i → ¬ SA i
  tB : ∀ i, tv.ownBlock = some i → ¬ SB i
  fp : ∀ q, S q ↔ q = b ∨ SA q ∨ SB q ∨ wv.ownBlock = some q ∨ tv.ownBlock = some q
def PrO (S : Nat → Prop) (w : World) (b : Nat) (P : PrT) : Prop := ∃ NA NB SA SB wv tv, PrQ NA NB SA SB wv tv S w b P
section
variable {NA NB : Nat} {SA SB : Nat → Prop} {wv tv : Value} {S S' D : Nat → Prop} {w x : World} {b : Nat} {P : PrT}
theorem PrQ.ofS (h : PrQ NA NB SA SB wv tv S w b P) : ∀ q, S q → q < w.heap.size := fun q hq => by
  rcases (h.fp q).1 hq with rfl | k | k | k | k
  · exact h.blk.lt
  · exact h.hA.ofS q k
  · exact h.hB.ofS q k
  · exact (h.way.lt q k).2
  · exact (h.to.lt q k).2
theorem PrQ.keep (h : PrQ NA NB SA SB wv tv S w b P) (hk : ∀ q, S q → x.heap[q]? = w.heap[q]?) : PrQ NA NB SA SB wv tv S x b P := by
  refine ⟨?_, LkO.keep h.hA fun q hq => hk q ((h.fp q).2 (.inr (.inl hq))), LkO.keep h.hB fun q hq => hk q ((h.fp q).2 (.inr (.inr (.inl hq)))), row_sameL h.way fun q hq => hk q ((h.fp q).2 (.inr (.inr (.inr (.inl hq))))), row_sameL h.to fun q hq => hk q ((h.fp q).2 (.inr (.inr (.inr (.inr hq))))), h.ap, h.nA, h.nB, h.wA, h.wB, h.tA, h.tB, h.fp⟩
  have h1 := h.blk
  unfold Blk at h1 ⊢
  rw [hk b ((h.fp b).2 (.inl rfl))]; exact h1
theorem PrO.ofS (h : PrO S w b P) : ∀ q, S q → q < w.heap.size := by obtain ⟨_, _, _, _, _, _, h⟩ := h; exact h.ofS
theorem PrO.keep (h : PrO S w b P) (hk : ∀ q, S q → x.heap[q]? = w.heap[q]?) : PrO S x b P := by obtain ⟨_, _, _, _, _, _, h⟩ := h; exact ⟨_, _, _, _, _, _, h.keep hk⟩
theorem PrO.gr {row : Option Nat} (h : PrO S w b P) (hg : w.grownBy x row) (hr : ∀ k, row = some k → ¬ S k) : PrO S x b P := h.keep fun q hq => hg.block q (h.ofS q hq) (fun e => hr q e.symm hq)
theorem PrO.but (h : PrO S w b P) (hb : But D w x) (ha : ∀ q, S q → D q → False) : PrO S x b P := h.keep fun q hq => hb.block q (h.ofS q hq) (fun hd => ha q hq hd)
/-- What a walk has made of it. -/
theorem PrO.fin {B1 B2 : Nat} (hb : Blk x b 95 (prC NA NB P wv tv)) (hA : LkP SA x NA P.A) (hB : LkP SB x NB P.B) (hw : x.ownsRow B1 61 8 wv P.W.length (P.W.flatMap segE)) (ht : x.ownsRow B2 3 1 tv P.T.length (P.T.flatMap (intE .i64)))
    (ap : ∀ q, SA q → SB q → False) (nA : ¬ SA b) (nB : ¬ SB b) (wA : ∀ i, wv.ownBlock = some i → ¬ SA i) (wB : ∀ i, wv.ownBlock = some i → ¬ SB i) (tA : ∀ i, tv.ownBlock = some i → ¬ SA i) (tB : ∀ i, tv.ownBlock = some i → ¬ SB i)
    (ib : S b ∨ w.heap.size ≤ b) (iA : ∀ q, SA q → S q ∨ w.heap.size ≤ q) (iB : ∀ q, SB q → S q ∨ w.heap.size ≤ q) (iw : InS S w.heap.size wv) (it : InS S w.heap.size tv) (hbut : But S w x) : ∃ S' : Nat → Prop, PrO S' x b P ∧ Grew S S' w x :=
  ⟨fun q => q = b ∨ SA q ∨ SB q ∨ wv.ownBlock = some q ∨ tv.ownBlock = some q, ⟨NA, NB, SA, SB, wv, tv, hb, hA, hB, row_lows hw (Nat.zero_le _), row_lows ht (Nat.zero_le _), ap, nA, nB, wA, wB, tA, tB, fun q => Iff.rfl⟩, ⟨fun q hq => by
    rcases hq with rfl | k | k | k | k
    · exact ib
    · exact iA q k
    · exact iB q k
    · exact iw q k
    · exact it q k, hbut⟩⟩
end
/-- A text's number. -/
def valT (b : ByteArray) : Int := if (b.size : Int) = 2 then 256 * byteAt b 0 + byteAt b 1 else -1
def numT (n : Int) : ByteArray := ⟨#[UInt8.ofNat (n.toNat / 256), UInt8.ofNat (n.toNat % 256)]⟩
theorem val_num {n : Int} (h : 0 ≤ n ∧ n ≤ 60000) : valT (numT n) = n := by
  obtain ⟨k, rfl⟩ : ∃ k : Nat, n = (k : Int) := ⟨n.toNat, by omega⟩
  have h1 : k / 256 < 256 := by omega
  have h2 : k % 256 < 256 := by omega
  unfold valT numT byteAt
  simp [ByteArray.size, UInt8.toNat_ofNat]
  omega
theorem num_size (n : Int) : (numT n).size = 2 := rfl
end Go.Proofs.Ythmljllgfigebaa
