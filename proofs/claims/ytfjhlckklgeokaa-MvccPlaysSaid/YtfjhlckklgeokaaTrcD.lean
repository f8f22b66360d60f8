/- Package tree: balance. Conditions: both sides flat, of at most 100000 keys. -/
import Derived.Test.YtfjhlckklgeokaaTrcC
namespace Go.Proofs.Ytfjhlckklgeokaa
open Go.RowKit Go.PlainAid
set_option linter.unusedVariables false
set_option linter.unusedSimpArgs false


theorem dp_nil : dp .nil = 0 := rfl
theorem dp_nd (b : Nat) (l : Tm) (k : ByteArray) (v : SlT) (d : Int) (r : Tm) : dp (.nd b l k v d r) = d := rfl
def sz : Tm → Nat
  | .nil => 0
  | .nd _ l _ _ _ r => 1 + sz l + sz r
def il : Tm → List (ByteArray × SlT)
  | .nil => []
  | .nd _ l k v _ r => il l ++ (k, v) :: il r
def Avl : Tm → Prop
  | .nil => True
  | .nd _ l _ _ d r => Avl l ∧ Avl r ∧ d = 1 + mx (dp l) (dp r) ∧ dp l - dp r ≤ 1 ∧ dp r - dp l ≤ 1
theorem Avl.bd : ∀ {t : Tm}, Avl t → 0 ≤ dp t ∧ dp t ≤ (sz t : Int)
  | .nil, _ => ⟨Int.le_refl _, Int.le_refl _⟩
  | .nd b l k v d r, h => by
    obtain ⟨h1, h2, h3, _⟩ := h
    have k1 := Avl.bd h1; have k2 := Avl.bd h2; have k3 := mx_bd3 (a := dp l) (b := dp r)
    show 0 ≤ d ∧ d ≤ ((1 + sz l + sz r : Nat) : Int)
    omega
def balT : Tm → Tm
  | .nil => .nil
  | .nd b l k v d r =>
    if dp l - dp r = 2 then
      match l with
      | .nil => .nil
      | .nd c ll k2 v2 d2 lr =>
        if dp ll < dp lr then
          match lr with
          | .nil => .nil
          | .nd g el k3 v3 d3 er => .nd g (.nd c ll k2 v2 (1 + mx (dp ll) (dp el)) el) k3 v3 (1 + mx (1 + mx (dp ll) (dp el)) (1 + mx (dp er) (dp r))) (.nd b er k v (1 + mx (dp er) (dp r)) r)
        else .nd c ll k2 v2 (1 + mx (dp ll) (1 + mx (dp lr) (dp r))) (.nd b lr k v (1 + mx (dp lr) (dp r)) r)
    else if dp l - dp r = -2 then
      match r with
      | .nil => .nil
      | .nd c lr k2 v2 d2 ll =>
        if dp ll < dp lr then
          match lr with
          | .nil => .nil
          | .nd g er k3 v3 d3 el => .nd g (.nd b l k v (1 + mx (dp l) (dp er)) er) k3 v3 (1 + mx (1 + mx (dp l) (dp er)) (1 + mx (dp el) (dp ll))) (.nd c el k2 v2 (1 + mx (dp el) (dp ll)) ll)
        else .nd c (.nd b l k v (1 + mx (dp l) (dp lr)) lr) k2 v2 (1 + mx (1 + mx (dp l) (dp lr)) (dp ll)) ll
    else .nd b l k v (1 + mx (dp l) (dp r)) r
/-- The ways of balance. -/
theorem balT_ways {P : Tm → Prop} {b : Nat} {l r : Tm} {k : ByteArray} {v : SlT} {d : Int} (hl : Avl l) (hr : Avl r)
    (hA : ∀ c ll k2 v2 d2 lr, l = .nd c ll k2 v2 d2 lr → Avl ll → Avl lr → d2 = 1 + mx (dp ll) (dp lr) → dp ll - dp lr ≤ 1 → dp lr - dp ll ≤ 1 → d2 - dp r = 2 → ¬ dp ll < dp lr → P (.nd c ll k2 v2 (1 + mx (dp ll) (1 + mx (dp lr) (dp r))) (.nd b lr k v (1 + mx (dp lr) (dp r)) r)))
    (hB : ∀ c ll k2 v2 d2 g el k3 v3 d3 er, l = .nd c ll k2 v2 d2 (.nd g el k3 v3 d3 er) → Avl ll → Avl el → Avl er → d2 = 1 + mx (dp ll) d3 → d3 = 1 + mx (dp el) (dp er) → dp el - dp er ≤ 1 → dp er - dp el ≤ 1 → d3 - dp ll ≤ 1 → d2 - dp r = 2 → dp ll < d3 → P (.nd g (.nd c ll k2 v2 (1 + mx (dp ll) (dp el)) el) k3 v3 (1 + mx (1 + mx (dp ll) (dp el)) (1 + mx (dp er) (dp r))) (.nd b er k v (1 + mx (dp er) (dp r)) r)))
    (hC : ∀ c ll k2 v2 d2 lr, r = .nd c lr k2 v2 d2 ll → Avl ll → Avl lr → d2 = 1 + mx (dp lr) (dp ll) → dp ll - dp lr ≤ 1 → dp lr - dp ll ≤ 1 → dp l - d2 = -2 → ¬ dp ll < dp lr → P (.nd c (.nd b l k v (1 + mx (dp l) (dp lr)) lr) k2 v2 (1 + mx (1 + mx (dp l) (dp lr)) (dp ll)) ll))
    (hD : ∀ c ll k2 v2 d2 g el k3 v3 d3 er, r = .nd c (.nd g er k3 v3 d3 el) k2 v2 d2 ll → Avl ll → Avl el → Avl er → d2 = 1 + mx d3 (dp ll) → d3 = 1 + mx (dp er) (dp el) → dp el - dp er ≤ 1 → dp er - dp el ≤ 1 → d3 - dp ll ≤ 1 → dp l - d2 = -2 → dp ll < d3 → P (.nd g (.nd b l k v (1 + mx (dp l) (dp er)) er) k3 v3 (1 + mx (1 + mx (dp l) (dp er)) (1 + mx (dp el) (dp ll))) (.nd c el k2 v2 (1 + mx (dp el) (dp ll)) ll)))
    (hE : ¬ dp l - dp r = 2 → ¬ dp l - dp r = -2 → P (.nd b l k v (1 + mx (dp l) (dp r)) r)) : P (balT (.nd b l k v d r)) := by
  show P (if dp l - dp r = 2 then _ else if dp l - dp r = -2 then _ else _)
  by_cases h1 : dp l - dp r = 2
  · rw [if_pos h1]
    have hr0 := hr.bd
    cases l with
    | nil => exfalso; simp only [dp_nil, dp_nd] at h1; omega
    | nd c ll k2 v2 d2 lr =>
      obtain ⟨a1, a2, a3, a4, a5⟩ := hl
      show P (if dp ll < dp lr then _ else _)
      by_cases h2 : dp ll < dp lr
      · rw [if_pos h2]
        have h0 := a1.bd
        cases lr with
        | nil => exfalso; simp only [dp_nil, dp_nd] at h2; omega
        | nd g el k3 v3 d3 er =>
          obtain ⟨e1, e2, e3, e4, e5⟩ := a2
          exact hB c ll k2 v2 d2 g el k3 v3 d3 er rfl a1 e1 e2 a3 e3 e4 e5 a5 h1 h2
      · rw [if_neg h2]; exact hA c ll k2 v2 d2 lr rfl a1 a2 a3 a4 a5 h1 h2
  · rw [if_neg h1]
    by_cases h1' : dp l - dp r = -2
    · rw [if_pos h1']
      have hl0 := hl.bd
      cases r with
      | nil => exfalso; simp only [dp_nil, dp_nd] at h1'; omega
      | nd c lr k2 v2 d2 ll =>
        obtain ⟨a2, a1, a3, a5, a4⟩ := hr
        show P (if dp ll < dp lr then _ else _)
        by_cases h2 : dp ll < dp lr
        · rw [if_pos h2]
          have h0 := a1.bd
          cases lr with
          | nil => exfalso; simp only [dp_nil, dp_nd] at h2; omega
          | nd g er k3 v3 d3 el =>
            obtain ⟨e2, e1, e3, e5, e4⟩ := a2
            exact hD c ll k2 v2 d2 g el k3 v3 d3 er rfl a1 e1 e2 a3 e3 e4 e5 a5 h1' h2
        · rw [if_neg h2]; exact hC c ll k2 v2 d2 lr rfl a1 a2 a3 a4 a5 h1' h2
    · rw [if_neg h1']; exact hE h1 h1'
section
variable {b : Nat} {l r : Tm} {k : ByteArray} {v : SlT} {d : Int}
theorem balT_bk (hl : Avl l) (hr : Avl r) : (bk (balT (.nd b l k v d r))).Perm (bk (.nd b l k v d r)) := by
  refine balT_ways (P := fun t => (bk t).Perm (bk (.nd b l k v d r))) hl hr ?_ ?_ ?_ ?_ ?_
  · intro c ll k2 v2 d2 lr e _ _ _ _ _ _ _; subst e
    exact List.perm_iff_count.2 fun a => by simp only [bk, List.count_cons, List.count_append]; omega
  · intro c ll k2 v2 d2 g el k3 v3 d3 er e _ _ _ _ _ _ _ _ _ _; subst e
    exact List.perm_iff_count.2 fun a => by simp only [bk, List.count_cons, List.count_append]; omega
  · intro c ll k2 v2 d2 lr e _ _ _ _ _ _ _; subst e
    exact List.perm_iff_count.2 fun a => by simp only [bk, List.count_cons, List.count_append]; omega
  · intro c ll k2 v2 d2 g el k3 v3 d3 er e _ _ _ _ _ _ _ _ _ _; subst e
    exact List.perm_iff_count.2 fun a => by simp only [bk, List.count_cons, List.count_append]; omega
  · intro _ _; exact List.Perm.refl _
theorem balT_il (hl : Avl l) (hr : Avl r) : il (balT (.nd b l k v d r)) = il l ++ (k, v) :: il r := by
  refine balT_ways (P := fun t => il t = il l ++ (k, v) :: il r) hl hr ?_ ?_ ?_ ?_ ?_
  · intro c ll k2 v2 d2 lr e _ _ _ _ _ _ _; subst e; simp [il]
  · intro c ll k2 v2 d2 g el k3 v3 d3 er e _ _ _ _ _ _ _ _ _ _; subst e; simp [il]
  · intro c ll k2 v2 d2 lr e _ _ _ _ _ _ _; subst e; simp [il]
  · intro c ll k2 v2 d2 g el k3 v3 d3 er e _ _ _ _ _ _ _ _ _ _; subst e; simp [il]
  · intro _ _; rfl
theorem il_len : ∀ t : Tm, (il t).length = sz t
  | .nil => rfl
  | .nd b l k v d r => by simp only [il, sz, List.length_append, List.length_cons, il_len l, il_len r]; omega
theorem balT_sz (hl : Avl l) (hr : Avl r) : sz (balT (.nd b l k v d r)) = 1 + sz l + sz r := by
  rw [← il_len, balT_il hl hr, List.length_append, List.length_cons, il_len, il_len]; omega
/-- A tree whose sides differ by two at most is flat behind balance; how deep it is then. -/
theorem balT_avl (hl : Avl l) (hr : Avl r) (h1 : dp l - dp r ≤ 2) (h2 : dp r - dp l ≤ 2) : Avl (balT (.nd b l k v d r)) ∧ mx (dp l) (dp r) ≤ dp (balT (.nd b l k v d r)) ∧ dp (balT (.nd b l k v d r)) ≤ 1 + mx (dp l) (dp r) ∧ (dp l - dp r ≤ 1 → dp r - dp l ≤ 1 → dp (balT (.nd b l k v d r)) = 1 + mx (dp l) (dp r)) := by
  refine balT_ways (P := fun t => Avl t ∧ mx (dp l) (dp r) ≤ dp t ∧ dp t ≤ 1 + mx (dp l) (dp r) ∧ (dp l - dp r ≤ 1 → dp r - dp l ≤ 1 → dp t = 1 + mx (dp l) (dp r))) hl hr ?_ ?_ ?_ ?_ ?_
  · intro c ll k2 v2 d2 lr e a1 a2 a3 a4 a5 a6 a7; subst e
    have m1 := mx_bd3 (a := dp ll) (b := dp lr); have m2 := mx_bd3 (a := dp lr) (b := dp r); have m3 := mx_bd3 (a := dp ll) (b := 1 + mx (dp lr) (dp r)); have m4 := mx_bd3 (a := d2) (b := dp r)
    refine ⟨⟨a1, ⟨a2, hr, rfl, ?_, ?_⟩, rfl, ?_, ?_⟩, ?_, ?_, ?_⟩ <;> simp only [dp_nil, dp_nd] at * <;> omega
  · intro c ll k2 v2 d2 g el k3 v3 d3 er e a1 a2 a3 a4 a5 a6 a7 a8 a9 a10; subst e
    have m1 := mx_bd3 (a := dp ll) (b := d3); have m2 := mx_bd3 (a := dp el) (b := dp er); have m3 := mx_bd3 (a := dp ll) (b := dp el); have m4 := mx_bd3 (a := dp er) (b := dp r); have m5 := mx_bd3 (a := 1 + mx (dp ll) (dp el)) (b := 1 + mx (dp er) (dp r)); have m6 := mx_bd3 (a := d2) (b := dp r)
    refine ⟨⟨⟨a1, a2, rfl, ?_, ?_⟩, ⟨a3, hr, rfl, ?_, ?_⟩, rfl, ?_, ?_⟩, ?_, ?_, ?_⟩ <;> simp only [dp_nil, dp_nd] at * <;> omega
  · intro c ll k2 v2 d2 lr e a1 a2 a3 a4 a5 a6 a7; subst e
    have m1 := mx_bd3 (a := dp lr) (b := dp ll); have m2 := mx_bd3 (a := dp l) (b := dp lr); have m3 := mx_bd3 (a := 1 + mx (dp l) (dp lr)) (b := dp ll); have m4 := mx_bd3 (a := dp l) (b := d2)
    refine ⟨⟨⟨hl, a2, rfl, ?_, ?_⟩, a1, rfl, ?_, ?_⟩, ?_, ?_, ?_⟩ <;> simp only [dp_nil, dp_nd] at * <;> omega
  · intro c ll k2 v2 d2 g el k3 v3 d3 er e a1 a2 a3 a4 a5 a6 a7 a8 a9 a10; subst e
    have m1 := mx_bd3 (a := d3) (b := dp ll); have m2 := mx_bd3 (a := dp er) (b := dp el); have m3 := mx_bd3 (a := dp l) (b := dp er); have m4 := mx_bd3 (a := dp el) (b := dp ll); have m5 := mx_bd3 (a := 1 + mx (dp l) (dp er)) (b := 1 + mx (dp el) (dp ll)); have m6 := mx_bd3 (a := dp l) (b := d2)
    refine ⟨⟨⟨hl, a3, rfl, ?_, ?_⟩, ⟨a2, a1, rfl, ?_, ?_⟩, rfl, ?_, ?_⟩, ?_, ?_, ?_⟩ <;> simp only [dp_nil, dp_nd] at * <;> omega
  · intro a1 a2
    have m1 := mx_bd3 (a := dp l) (b := dp r)
    refine ⟨⟨hl, hr, rfl, by omega, by omega⟩, ?_, ?_, fun _ _ => rfl⟩
    · show mx (dp l) (dp r) ≤ 1 + mx (dp l) (dp r); omega
    · exact Int.le_refl _
end
theorem nin_inv {a b : Nat} {l r : Tm} {k : ByteArray} {v : SlT} {d : Int} (h : a ∉ bk (.nd b l k v d r)) : a ≠ b ∧ a ∉ bk l ∧ a ∉ bk r := by
  simp only [bk, List.mem_cons, List.mem_append, not_or] at h; exact h
theorem dis_inv {b : Nat} {l r t : Tm} {k : ByteArray} {v : SlT} {d : Int} (h : ∀ q ∈ bk (.nd b l k v d r), q ∉ bk t) : b ∉ bk t ∧ (∀ q ∈ bk l, q ∉ bk t) ∧ ∀ q ∈ bk r, q ∉ bk t :=
  ⟨h b (by simp [bk]), fun q hq => h q (by simp [bk, hq]), fun q hq => h q (by simp [bk, hq])⟩
set_option maxRecDepth 100000 in
theorem balance_any (b : Nat) (l : Tm) (k : ByteArray) (v : SlT) (d : Int) (r : Tm) (w : World) (hT : TreeAt w (.nd b l k v d r)) (hn : (bk (.nd b l k v d r)).Nodup) (hl : Avl l) (hr : Avl r) (hsl : sz l ≤ 100000) (hsr : sz r ≤ 100000) :
    Calls Try.prog 53 #[pt b 0] w fun e w' => e = .returned (ptT (balT (.nd b l k v d r))) ∧ TreeAt w' (balT (.nd b l k v d r)) ∧ But (fun q => q ∈ bk (.nd b l k v d r)) w w' := by
  obtain ⟨hB, tl, tr⟩ := hT
  obtain ⟨n1, n2, n3, n4, n5⟩ := nd_ap hn
  have bl := hl.bd; have br := hr.bd
  refine balT_ways (P := fun t => Calls Try.prog 53 #[pt b 0] w fun e w' => e = .returned (ptT t) ∧ TreeAt w' t ∧ But (fun q => q ∈ bk (.nd b l k v d r)) w w') hl hr ?_ ?_ ?_ ?_ ?_
  · intro c ll k2 v2 d2 lr e a1 a2 a3 a4 a5 a6 a7; subst e
    obtain ⟨hC, t1, t2⟩ := tl
    obtain ⟨m1, m2, m3, m4, m5⟩ := nd_ap n3
    obtain ⟨i1, i2, i3⟩ := nin_inv n1
    obtain ⟨j1, j2, j3⟩ := dis_inv n5
    have q1 := a1.bd; have q2 := a2.bd
    simp only [dp_nil, dp_nd, sz] at bl hsl
    exact (balA_any b c ll lr r k v d k2 v2 d2 w hB hC t1 t2 tr i1 i2 i3 n2 m1 m2 j1 (by omega) (by omega) (by omega) (by omega) a6 a7).mono fun e x ⟨h1, h2, h3, h4, h5, h6, h7⟩ => ⟨h1, ⟨h3, h4, h2, h5, h6⟩, h7.mono fun q _ hq => by rcases hq with rfl | rfl <;> simp [bk]⟩
  · intro c ll k2 v2 d2 g el k3 v3 d3 er e a1 a2 a3 a4 a5 a6 a7 a8 a9 a10; subst e
    obtain ⟨hC, t1, hG, t2, t3⟩ := tl
    obtain ⟨m1, m2, m3, m4, m5⟩ := nd_ap n3
    obtain ⟨p1, p2, p3, p4, p5⟩ := nd_ap m4
    obtain ⟨i1, i2, i3⟩ := nin_inv n1
    obtain ⟨i4, i5, i6⟩ := nin_inv i3
    obtain ⟨o1, o2, o3⟩ := nin_inv m2
    obtain ⟨j1, j2, j3⟩ := dis_inv n5
    obtain ⟨j4, j5, j6⟩ := dis_inv j3
    obtain ⟨s1, s2, s3⟩ := dis_inv (dis_symm m5)
    have q1 := a1.bd; have q2 := a2.bd; have q3 := a3.bd; have q4 := mx_bd3 (a := dp el) (b := dp er)
    simp only [dp_nil, dp_nd, sz] at bl hsl
    exact (balB_any b c g ll el er r k v d k2 v2 d2 k3 v3 d3 w hB hC hG t1 t2 t3 tr i1 i4 o1 i2 i5 i6 n2 m1 o2 o3 j1 s1 p1 p2 j4 (by omega) (by omega) (by omega) (by omega) (by omega) (by omega) a9 a10).mono fun e x ⟨h1, h2, h3, h4, h5, h6, h7, h8, h9⟩ => ⟨h1, ⟨h4, ⟨h3, h5, h6⟩, h2, h7, h8⟩, h9.mono fun q _ hq => by rcases hq with rfl | rfl | rfl <;> simp [bk]⟩
  · intro c ll k2 v2 d2 lr e a1 a2 a3 a4 a5 a6 a7; subst e
    obtain ⟨hC, t2, t1⟩ := tr
    obtain ⟨m2, m1, m4, m3, m5⟩ := nd_ap n4
    obtain ⟨i1, i3, i2⟩ := nin_inv n2
    obtain ⟨j1, j3, j2⟩ := dis_inv (dis_symm n5)
    have q1 := a1.bd; have q2 := a2.bd
    simp only [dp_nil, dp_nd, sz] at br hsr
    exact (balC_any b c ll lr l k v d k2 v2 d2 w hB hC t1 t2 tl i1 i2 i3 n1 m1 m2 j1 (by omega) (by omega) (by omega) (by omega) a6 a7).mono fun e x ⟨h1, h2, h3, h4, h5, h6, h7⟩ => ⟨h1, ⟨h3, ⟨h2, h6, h5⟩, h4⟩, h7.mono fun q _ hq => by rcases hq with rfl | rfl <;> simp [bk]⟩
  · intro c ll k2 v2 d2 g el k3 v3 d3 er e a1 a2 a3 a4 a5 a6 a7 a8 a9 a10; subst e
    obtain ⟨hC, ⟨hG, t3, t2⟩, t1⟩ := tr
    obtain ⟨m2, m1, m4, m3, m5⟩ := nd_ap n4
    obtain ⟨p2, p1, p4, p3, p5⟩ := nd_ap m4
    obtain ⟨i1, i3, i2⟩ := nin_inv n2
    obtain ⟨i4, i6, i5⟩ := nin_inv i3
    obtain ⟨o1, o3, o2⟩ := nin_inv m2
    obtain ⟨j1, j3, j2⟩ := dis_inv (dis_symm n5)
    obtain ⟨j4, j6, j5⟩ := dis_inv j3
    obtain ⟨s1, s3, s2⟩ := dis_inv m5
    have q1 := a1.bd; have q2 := a2.bd; have q3 := a3.bd; have q4 := mx_bd3 (a := dp er) (b := dp el)
    simp only [dp_nil, dp_nd, sz] at br hsr
    exact (balD_any b c g ll el er l k v d k2 v2 d2 k3 v3 d3 w hB hC hG t1 t2 t3 tl i1 i4 o1 i2 i5 i6 n1 m1 o2 o3 j1 s1 p1 p2 j4 (by omega) (by omega) (by omega) (by omega) (by omega) (by omega) a9 a10).mono fun e x ⟨h1, h2, h3, h4, h5, h6, h7, h8, h9⟩ => ⟨h1, ⟨h4, ⟨h2, h8, h7⟩, h3, h6, h5⟩, h9.mono fun q _ hq => by rcases hq with rfl | rfl | rfl <;> simp [bk]⟩
  · intro a1 a2
    exact (balE_any b l k v d r w hB tl tr n1 n2 (by omega) (by omega) a1 a2).mono fun e x ⟨h1, h2, h3, h4, h5⟩ => ⟨h1, ⟨h2, h3, h4⟩, h5.mono fun q _ hq => by subst hq; simp [bk]⟩

end Go.Proofs.Ytfjhlckklgeokaa
