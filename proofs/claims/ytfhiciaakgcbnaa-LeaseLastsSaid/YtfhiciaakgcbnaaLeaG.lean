/- catenalaw25: LeaseLasts. Conditions: none. -/
import Derived.Test.YtfhiciaakgcbnaaLeaF
namespace Go.Proofs.Ytfhiciaakgcbnaa
open Go.RowKit Go.PlainAid
set_option linter.unusedVariables false


/-- Right pins, the last one of which has this Id, this time and k ticks. -/
structure RightK (m : List PinT) (id ts k : Int) : Prop where
  last : ∃ a, m = a ++ [(id, ts, k)] ∧ ∀ p ∈ a, p.1 ≠ id
  up : pinsUp 0 m = true
  len : m.length ≤ 3
  ok : ∀ p ∈ m, pinOk p
theorem RightK.right {m : List PinT} {id ts k : Int} (h : RightK m id ts k) : rightP m = true := by
  unfold rightP; rw [h.up]; have := h.len; simp; omega
theorem rightP_len {l : List PinT} (h : rightP l = true) : l.length ≤ 3 := by
  unfold rightP at h; simp at h; omega
theorem pinsUp_append : ∀ (l : List PinT) (last : Int) (y : PinT), pinsUp last (l ++ [y]) = true ↔ pinsUp last l = true ∧ (l.foldl (fun _ p => p.1) last) < y.1 ∧ 1 ≤ y.2.2 ∧ y.2.2 ≤ 8
  | [], last, y => by
    simp only [List.nil_append, pinsUp, Bool.and_eq_true, decide_eq_true_eq, List.foldl_nil, and_true, true_and]; omega
  | p :: r, last, y => by
    have ih := pinsUp_append r p.1 y
    simp only [List.cons_append, pinsUp, Bool.and_eq_true, decide_eq_true_eq, List.foldl_cons]
    rw [ih]
    constructor
    · rintro ⟨h1, h2, h3⟩; exact ⟨⟨h1, h2⟩, h3⟩
    · rintro ⟨⟨h1, h2⟩, h3⟩; exact ⟨h1, h2, h3⟩
theorem foldl_last : ∀ (l : List PinT) (last : Int) (d : PinT), l.foldl (fun _ p => p.1) last = if l.length = 0 then last else (l.getD (l.length - 1) d).1
  | [], last, d => by simp
  | [p], last, d => by simp
  | p :: q :: r, last, d => by
    have := foldl_last (q :: r) p.1 d
    simp only [List.foldl_cons, List.length_cons] at this ⊢
    rw [this]
    simp [List.getD_eq_getElem?_getD]
theorem pinsUp_lt : ∀ (l : List PinT) (last : Int), pinsUp last l = true → ∀ p ∈ l, p.1 ≤ l.foldl (fun _ p => p.1) last ∧ last < p.1
  | [], last, _, p, hp => by simp at hp
  | q :: r, last, h, p, hp => by
    simp only [pinsUp, Bool.and_eq_true, decide_eq_true_eq] at h
    have ih := pinsUp_lt r q.1 h.2
    have hq : q.1 ≤ r.foldl (fun _ p => p.1) q.1 := by
      cases r with
      | nil => simp
      | cons z s => have := ih z (by simp); omega
    rcases List.mem_cons.1 hp with rfl | hp
    · exact ⟨by simpa using hq, h.1.1.1⟩
    · have := ih p hp
      exact ⟨by simpa using this.1, by omega⟩
theorem grant_right {l : List PinT} {id ts : Int} (h : rightP l = true) (hok : ∀ p ∈ l, pinOk p) (hid : (Lit.int .i64 id).wf = true) (hts : (Lit.int .u64 ts).wf = true) (h0 : (grantP l id ts).2 = 0) : RightK (grantP l id ts).1 id ts 8 := by
  unfold rightP at h
  simp only [Bool.and_eq_true, decide_eq_true_eq] at h
  unfold grantP at h0 ⊢
  by_cases h1 : (l.length : Int) ≥ 3
  · rw [if_pos h1] at h0; simp at h0
  rw [if_neg h1] at h0 ⊢
  by_cases h2 : id < 1 ∨ id > 1073741824
  · rw [if_pos h2] at h0; simp at h0
  rw [if_neg h2] at h0 ⊢
  by_cases h3 : 0 < l.length ∧ id ≤ (l.getD (l.length - 1) (0, 0, 0)).1
  · rw [if_pos h3] at h0; simp at h0
  rw [if_neg h3]
  have hl := foldl_last l 0 (0, 0, 0)
  have hlt : l.foldl (fun _ p => p.1) 0 < id := by rw [hl]; split <;> omega
  refine ⟨⟨l, rfl, fun p hp => ?_⟩, ?_, by simp; omega, ?_⟩
  · have := (pinsUp_lt l 0 h.1 p hp).1; omega
  · show pinsUp 0 (l ++ [(id, ts, 8)]) = true
    exact (pinsUp_append _ _ _).2 ⟨h.1, hlt, by show (1 : Int) ≤ 8; omega, by show (8 : Int) ≤ 8; omega⟩
  · intro p hp
    rcases List.mem_append.1 hp with hp | hp
    · exact hok p hp
    · simp at hp; subst hp; exact ⟨hid, hts, rfl⟩
theorem stay_up : ∀ (l : List PinT) (last last' : Int), pinsUp last l = true → last' ≤ last → pinsUp last' (stayP l) = true
  | [], _, _, _, _ => rfl
  | p :: r, last, last', h, hl => by
    simp only [pinsUp, Bool.and_eq_true, decide_eq_true_eq] at h
    unfold stayP
    split
    · exact stay_up r p.1 last' h.2 (by omega)
    · simp only [pinsUp, Bool.and_eq_true, decide_eq_true_eq]
      exact ⟨⟨⟨by omega, by omega⟩, by omega⟩, stay_up r p.1 p.1 h.2 (Int.le_refl _)⟩
theorem stay_ok : ∀ (l : List PinT), (∀ p ∈ l, pinOk p) → ∀ p ∈ stayP l, pinOk p
  | [], _, p, hp => by simp [stayP] at hp
  | q :: r, h, p, hp => by
    unfold stayP at hp
    split at hp
    · exact stay_ok r (fun z hz => h z (by simp [hz])) p hp
    · rcases List.mem_cons.1 hp with rfl | hp
      · obtain ⟨h1, h2, h3⟩ := h q (by simp)
        have := wf_i64 h3
        refine ⟨h1, h2, ?_⟩
        simp [Lit.wf, IntKind.min, IntKind.max, IntKind.signed, IntKind.bits]; omega
      · exact stay_ok r (fun z hz => h z (by simp [hz])) p hp
theorem stay_ids : ∀ (l : List PinT), ∀ p ∈ stayP l, ∃ q ∈ l, q.1 = p.1
  | [], p, hp => by simp [stayP] at hp
  | q :: r, p, hp => by
    unfold stayP at hp
    split at hp
    · obtain ⟨z, hz, e⟩ := stay_ids r p hp; exact ⟨z, by simp [hz], e⟩
    · rcases List.mem_cons.1 hp with rfl | hp
      · exact ⟨q, by simp, rfl⟩
      · obtain ⟨z, hz, e⟩ := stay_ids r p hp; exact ⟨z, by simp [hz], e⟩
theorem gone_ids : ∀ (l : List PinT), ∀ x ∈ goneP l, ∃ q ∈ l, q.1 = x
  | [], p, hp => by simp [goneP] at hp
  | q :: r, p, hp => by
    unfold goneP at hp
    split at hp
    · rcases List.mem_cons.1 hp with rfl | hp
      · exact ⟨q, by simp, rfl⟩
      · obtain ⟨z, hz, e⟩ := gone_ids r p hp; exact ⟨z, by simp [hz], e⟩
    · obtain ⟨z, hz, e⟩ := gone_ids r p hp; exact ⟨z, by simp [hz], e⟩
theorem RightK.stay {m : List PinT} {id ts k k' : Int} (h : RightK m id ts k) (hk : 1 < k) (hk' : k' = k - 1) : RightK (stayP m) id ts k' := by
  subst hk'
  obtain ⟨a, hm, ha⟩ := h.last
  refine ⟨⟨stayP a, ?_, fun p hp => ?_⟩, stay_up m 0 0 h.up (Int.le_refl _), Nat.le_trans (stayP_len m) h.len, stay_ok m h.ok⟩
  · rw [hm, stayP_snoc, if_neg (by show ¬ k ≤ 1; omega)]
  · obtain ⟨q, hq, e⟩ := stay_ids a p hp
    rw [← e]; exact ha q hq
theorem RightK.gone {m : List PinT} {id ts k : Int} (h : RightK m id ts k) : (goneP m).any (fun x => x == id) = decide (k ≤ 1) := by
  obtain ⟨a, hm, ha⟩ := h.last
  have h0 : (goneP a).any (fun x => x == id) = false := by
    rw [List.any_eq_false]
    intro x hx
    obtain ⟨q, hq, e⟩ := gone_ids a x hx
    have := ha q hq
    simp; omega
  rw [hm, goneP_snoc]
  by_cases hk : k ≤ 1
  · rw [if_pos hk]; simp [h0, hk]
  · rw [if_neg hk]; simp [h0, hk]
theorem stay_right {m : List PinT} (h : pinsUp 0 m = true) (hl : m.length ≤ 3) : rightP (stayP m) = true := by
  unfold rightP; rw [stay_up m 0 0 h (Int.le_refl _)]; have := stayP_len m; simp; omega
theorem find_no {m : List PinT} {id : Int} (h : ∀ p ∈ m, p.1 ≠ id) : findP m id = -1 := findP_none (i := m.length) (fun j _ z hz => h z (List.mem_of_getElem? hz)) (Nat.le_refl _)
theorem RightK.over {m : List PinT} {id ts k : Int} (h : RightK m id ts k) (hk : k ≤ 1) : findP (stayP m) id = -1 := by
  obtain ⟨a, hm, ha⟩ := h.last
  refine find_no (fun p hp => ?_)
  rw [hm, stayP_snoc, if_pos hk] at hp
  obtain ⟨q, hq, e⟩ := stay_ids a p hp
  rw [← e]; exact ha q hq
theorem RightK.find {m : List PinT} {id ts k : Int} (h : RightK m id ts k) : findP m id = (m.length - 1 : Nat) := by
  obtain ⟨a, rfl, ha⟩ := h.last
  have : (a ++ [(id, ts, k)]).length - 1 = a.length := by simp
  rw [this]
  exact findP_at (y := (id, ts, k)) (fun j hj z hz => by rw [List.getElem?_append_left hj] at hz; exact ha z (List.mem_of_getElem? hz)) (by simp) rfl
theorem RightK.renew {m : List PinT} {id ts k : Int} (h : RightK m id ts k) : renewP m id = ((renewP m id).1, 0) ∧ RightK (renewP m id).1 id ts 8 := by
  have hf := h.find
  obtain ⟨a, hm, ha⟩ := h.last
  have hl : m.length - 1 = a.length := by rw [hm]; simp
  have hy : m[m.length - 1]? = some (id, ts, k) := by rw [hl, hm]; simp
  have hr : renewP m id = (a ++ [(id, ts, 8)], 0) := by
    rw [renew_ok (by omega) (show m.length - 1 = _ by omega) hy, hl, hm]
    simp
  rw [hr]
  have hup := h.up
  rw [hm, pinsUp_append] at hup
  refine ⟨rfl, ⟨a, rfl, ha⟩, ?_, by have := h.len; rw [hm] at this; simpa using this, fun p hp => ?_⟩
  · show pinsUp 0 (a ++ [(id, ts, 8)]) = true
    exact (pinsUp_append _ _ _).2 ⟨hup.1, hup.2.1, by show (1 : Int) ≤ 8; omega, by show (8 : Int) ≤ 8; omega⟩
  · rcases List.mem_append.1 hp with hp | hp
    · exact h.ok p (by rw [hm]; simp [hp])
    · simp at hp; subst hp
      obtain ⟨h1, h2, _⟩ := h.ok (id, ts, k) (by rw [hm]; simp)
      exact ⟨h1, h2, rfl⟩
theorem any_at {l : List Int} {k : Nat} {y : Int} {f : Int → Bool} (h : l[k]? = some y) : (l.take (k + 1)).any f = ((l.take k).any f || f y) := by
  rw [take_at h]; simp
theorem any_true {l : List Int} {k : Nat} {f : Int → Bool} (h : (l.take k).any f = true) : true = (l.take (k + 1)).any f := by
  obtain ⟨x, hx, hf⟩ := List.any_eq_true.1 h
  exact (List.any_eq_true.2 ⟨x, (List.take_sublist_take_left (Nat.le_succ k)).mem hx, hf⟩).symm
theorem any_false {l : List Int} {k : Nat} {y : Int} {f : Int → Bool} (h : (l.take k).any f = false) (hy : l[k]? = some y) : f y = (l.take (k + 1)).any f := by
  rw [any_at hy, h]; rfl
def Last2 (m : List PinT) (id ts : Int) (i : Nat) : Prop := (i ≤ 8 ∧ RightK m id ts (9 - i)) ∨ (i = 9 ∧ findP m id = -1)
theorem went_eq {j : Nat} (h1 : 1 ≤ j) (h2 : j ≤ 8) : (decide ((9 : Int) - j ≤ 1) != ((j : Int) == 8)) = false := by
  by_cases h : j = 8
  · subst h; rfl
  · have e1 : decide ((9 : Int) - j ≤ 1) = false := decide_eq_false (by omega)
    have e2 : ((j : Int) == 8) = false := by simp; omega
    rw [e1, e2]; rfl
theorem Last2.go {m : List PinT} {id ts : Int} {i : Nat} (h : Last2 m id ts i) (hi : i ≤ 8) : RightK m id ts (9 - i) := by
  rcases h with h | h
  · exact h.2
  · omega
theorem Last2.next {m : List PinT} {id ts : Int} {i : Nat} (h : Last2 m id ts i) (hi : i ≤ 8) : Last2 (stayP m) id ts (i + 1) := by
  have hk := h.go hi
  by_cases e : i = 8
  · subst e; exact .inr ⟨rfl, hk.over (by omega)⟩
  · exact .inl ⟨by omega, hk.stay (by omega) (by omega)⟩

set_option maxRecDepth 100000 in
theorem leaseLasts_any (v : Value) (l : List PinT) (id : Int) (ts : Int) (ahead : Int) (w : World) (hs : SliceOf pinE 3 w v l) (hok : ∀ z ∈ l, pinOk z) (hid : (Lit.int .i64 id).wf = true) (hts : (Lit.int .u64 ts).wf = true) (hah0 : (Lit.int .u8 ahead).wf = true) :
    Calls Try.prog 7 #[v, .int .i64 id, .int .u64 ts, .int .u8 ahead] w fun e w' => e = .returned (.bool true) ∧ Below w.heap.size w w' := by
  have hah := wf_u8 hah0
  have hB0 := Below.refl w.heap.size w
  have hl_hs := sl_len hs
  refine co_enter (n := 99) Try.func7 rfl rfl rfl [(0, v), (1, .int .i64 id), (2, .int .u64 ts), (3, .int .u8 ahead)] rfl (fun a h0 => ?_)
  refine co_seq ?_
  refine co_reg ?_
  refine pl_val (v := .bool false) h0 rfl rfl rfl (by kernel_rfl) (by kernel_rfl) (by kernel_rfl) (fun a1 h1 => ?_); clear h0
  refine pl_nil ?_
  refine co_then ?_
  refine co_seq ?_
  refine co_seq ?_
  refine co_reg ?_
  refine pl_val (v := v) h1 rfl rfl rfl (by kernel_rfl) (by kernel_rfl) (by kernel_rfl) (fun a2 h2 => ?_); clear h1
  refine pl_want h2 rfl rfl rfl (op_call (args := #[v]) (R := fun res xw => res = .bool (rightP l) ∧ Below w.heap.size w xw) rfl rfl rfl (by kernel_rfl) (by kernel_rfl) (Try.call48 _ _) (leaseRight_any v l w hs hok) (by rintro e x ⟨rfl, hb5⟩; exact ⟨_, rfl, ⟨rfl, hb5⟩⟩)) ?_; clear h2
  rintro _ w4 a3 ⟨rfl, hb5⟩ h3
  have hB6 := hb_call hB0 hb5
  have hz7 := hB6.size
  have hz8 := hb5.size
  cases hc9 : (rightP l)
  ·
    rw [hc9] at h3
    refine pl_val (v := .bool true) h3 rfl rfl rfl (by kernel_rfl) (by kernel_rfl) (by kernel_rfl) (fun a10 h10 => ?_); clear h3
    refine pl_nil ?_
    refine co_then ?_
    refine co_true h10 rfl ?_
    refine co_seq ?_
    refine co_reg ?_
    refine pl_want h10 rfl rfl rfl (op_call (args := #[]) (R := fun res xw => res = .bool true ∧ Below w4.heap.size w4 xw) rfl rfl rfl (by kernel_rfl) (by kernel_rfl) (Try.call35 _ _) (awake25  w4 ) (by rintro e x ⟨rfl, hb13⟩; exact ⟨_, rfl, ⟨rfl, hb13⟩⟩)) ?_; clear h10
    rintro _ w12 a11 ⟨rfl, hb13⟩ h11
    have hB14 := hb_call hB6 hb13
    have hz15 := hB14.size
    have hz16 := hb13.size
    refine pl_val (v := .bool true) h11 rfl rfl rfl (by kernel_rfl) (by kernel_rfl) (by kernel_rfl) (fun a17 h17 => ?_); clear h11
    refine pl_nil ?_
    refine co_then ?_
    refine wp_ret ?_
    refine co_thenR ?_
    refine co_ret1 h17 rfl rfl ?_
    exact ⟨rfl, hB14⟩
  ·
    rw [hc9] at h3
    refine pl_val (v := .bool false) h3 rfl rfl rfl (by kernel_rfl) (by kernel_rfl) (by kernel_rfl) (fun a18 h18 => ?_); clear h3
    refine pl_nil ?_
    refine co_then ?_
    refine co_false h18 rfl ?_
    refine wp_skip ?_
    refine co_then ?_
    refine co_seq ?_
    refine co_reg ?_
    refine pl_val (v := v) h18 rfl rfl rfl (by kernel_rfl) (by kernel_rfl) (by kernel_rfl) (fun a19 h19 => ?_); clear h18
    refine pl_val (v := .int .i64 id) h19 rfl rfl rfl (by kernel_rfl) (by kernel_rfl) (by kernel_rfl) (fun a20 h20 => ?_); clear h19
    refine pl_val (v := .int .u64 ts) h20 rfl rfl rfl (by kernel_rfl) (by kernel_rfl) (by kernel_rfl) (fun a21 h21 => ?_); clear h20
    have hl3 := rightP_len (by assumption : rightP l = true)
    refine pl_want h21 rfl rfl rfl (op_call (args := #[v, .int .i64 id, .int .u64 ts]) (R := fun res xw => ∃ u : Value, res = .tuple #[u, .int .i64 ((grantP l id ts).2)] ∧ xw.ownsRow w4.heap.size 46 3 u ((grantP l id ts).1).length (((grantP l id ts).1).flatMap pinE) ∧ Below w4.heap.size w4 xw) rfl rfl rfl (by kernel_rfl) (by kernel_rfl) (Try.call36 _ _) (leaseGrant_any v l id ts ((grantP l id ts).1) ((grantP l id ts).2) w4 (hs.below hB6) (by first | omega | (simp; done) | (simp; omega)) rfl) (by rintro e x ⟨u, rfl, hq25, hb26⟩; exact ⟨_, rfl, ⟨u, rfl, hq25, hb26⟩⟩)) ?_; clear h21
    rintro _ w23 a22 ⟨u24, rfl, hq25, hb26⟩ h22
    have hB27 := hb_call hB6 hb26
    have hz28 := hB27.size
    have hz29 := hb26.size
    have hl30 := sl_len (row_sl hq25 pinE_len)
    have kb31 := grant_bd l id ts
    refine pl_val (v := .tuple #[u24, .int .i64 ((grantP l id ts).2)]) h22 rfl rfl rfl (by kernel_rfl) (by kernel_rfl) (by kernel_rfl) (fun a32 h32 => ?_); clear h22
    refine pl_val (v := u24) h32 rfl rfl rfl (by kernel_rfl) (by kernel_rfl) (by kernel_rfl) (fun a33 h33 => ?_); clear h32
    refine pl_val (v := .int .i64 ((grantP l id ts).2)) h33 rfl rfl rfl (by kernel_rfl) (by kernel_rfl) (by kernel_rfl) (fun a34 h34 => ?_); clear h33
    refine pl_val (v := u24) h34 rfl rfl rfl (by kernel_rfl) (by kernel_rfl) (by kernel_rfl) (fun a35 h35 => ?_); clear h34
    refine pl_val (v := .int .i64 ((grantP l id ts).2)) h35 rfl rfl rfl (by kernel_rfl) (by kernel_rfl) (by kernel_rfl) (fun a36 h36 => ?_); clear h35
    refine pl_nil ?_
    refine co_then ?_
    refine co_seq ?_
    refine co_seq ?_
    refine co_reg ?_
    refine pl_val (v := .int .i64 ((grantP l id ts).2)) h36 rfl rfl rfl (by kernel_rfl) (by kernel_rfl) (by kernel_rfl) (fun a37 h37 => ?_); clear h36
    refine pl_val (v := .bool (((grantP l id ts).2) != 0)) h37 rfl rfl rfl (by kernel_rfl) (by kernel_rfl) (by kernel_rfl) (fun a38 h38 => ?_); clear h37
    refine pl_nil ?_
    refine co_then ?_
    cases hc39 : (((grantP l id ts).2) != 0)
    ·
      rw [hc39] at h38
      have hp40 : ¬ (((grantP l id ts).2) ≠ 0) := by first | simpa using hc39 | simpa [and_assoc] using hc39
      clear hc39
      refine co_false h38 rfl ?_
      refine wp_skip ?_
      refine co_then ?_
      refine co_seq ?_
      refine co_seq ?_
      refine co_reg ?_
      refine pl_val (v := u24) h38 rfl rfl rfl (by kernel_rfl) (by kernel_rfl) (by kernel_rfl) (fun a41 h41 => ?_); clear h38
      refine pl_want h41 rfl rfl rfl (op_call (args := #[u24]) (R := fun res xw => res = .bool (rightP ((grantP l id ts).1)) ∧ Below w23.heap.size w23 xw) rfl rfl rfl (by kernel_rfl) (by kernel_rfl) (Try.call48 _ _) (leaseRight_any u24 ((grantP l id ts).1) w23 (row_sl hq25 pinE_len) ((grant_right (by assumption) hok hid hts (by omega)).ok)) (by rintro e x ⟨rfl, hb44⟩; exact ⟨_, rfl, ⟨rfl, hb44⟩⟩)) ?_; clear h41
      rintro _ w43 a42 ⟨rfl, hb44⟩ h42
      have hB45 := hb_call hB27 hb44
      have hz46 := hB45.size
      have hz47 := hb44.size
      have hr48 := row_kept_new hq25 (below_grown hb44)
      have hc49 : (rightP ((grantP l id ts).1)) = true := (grant_right (by assumption) hok hid hts (by omega)).right
      rw [hc49] at h42; clear hc49
      refine pl_val (v := .bool false) h42 rfl rfl rfl (by kernel_rfl) (by kernel_rfl) (by kernel_rfl) (fun a50 h50 => ?_); clear h42
      refine pl_nil ?_
      refine co_then ?_
      refine co_false h50 rfl ?_
      refine wp_skip ?_
      refine co_then ?_
      refine co_seq ?_
      refine co_seq ?_
      refine co_reg ?_
      refine pl_val (v := .int .i64 0) h50 rfl rfl rfl (by kernel_rfl) (by kernel_rfl) (by kernel_rfl) (fun a51 h51 => ?_); clear h50
      refine pl_nil ?_
      refine co_then ?_
      refine wp_block ?_
      have hK0 := grant_right (l := l) (id := id) (ts := ts) (by assumption) hok hid hts (by omega)
      have h52 : Slots 99 [(0, v), (1, .int .i64 id), (2, .int .u64 ts), (3, .int .u8 ahead), (8, .bool false), (9, u24), (11, .int .i64 0)] _ := h51.sub ⟨rfl, rfl, rfl, rfl, rfl, rfl, rfl, trivial⟩; clear h51
      refine co_loop (fun mm a x => ∃ (i : Nat) (u : Value) (m : List PinT), Slots 99 [(0, v), (1, .int .i64 id), (2, .int .u64 ts), (3, .int .u8 ahead), (8, .bool false), (9, u), (11, .int .i64 ((i : Nat) : Int))] a ∧ mm = 8 - i ∧ ((i : Int) ≤ ahead % 8 ∧ i ≤ 7) ∧ (RightK m id ts (8 - i)) ∧ (i ≤ 7) ∧ x.ownsRow w.heap.size 46 3 u m.length (m.flatMap pinE) ∧ Below w.heap.size w x) (8 - 0) ?_ ?_
      · exact ⟨0, u24, ((grantP l id ts).1), h52.sub ⟨rfl, rfl, rfl, rfl, rfl, rfl, (slot_eq rfl (congrArg (Value.int .i64) (by first | rfl | omega))), trivial⟩, rfl, by omega, by first | exact hK0 | exact RightK.stay (by assumption) (by omega) (by omega), by omega, (row_low hr48 (by omega)), hB45⟩
      · rintro k53 a54 w55 ⟨i, u, m, h54, rfl, hi56, hi57, hi58, hf59, hB60⟩
        have hz61 := hB60.size
        have hlm := RightK.len (by assumption : RightK m id ts (8 - i))
        refine co_seq ?_
        refine co_seq ?_
        refine co_reg ?_
        refine pl_val (v := .int .i64 ((i : Nat) : Int)) h54 rfl rfl rfl (by kernel_rfl) (by kernel_rfl) (by kernel_rfl) (fun a62 h62 => ?_); clear h54
        refine pl_val (v := .int .u8 ahead) h62 rfl rfl rfl (by kernel_rfl) (by kernel_rfl) (by kernel_rfl) (fun a63 h63 => ?_); clear h62
        refine pl_val (v := .int .i64 ahead) h63 rfl rfl rfl (by kernel_rfl) (by kernel_rfl) (rn_conv rfl rfl Try.underlying5 Try.underlying3 (IntWalk.i64_in _ (by omega))) (fun a64 h64 => ?_); clear h63
        refine pl_val (v := .int .i64 (ahead % 8)) h64 rfl rfl rfl (by kernel_rfl) (by kernel_rfl) (rn_rem rfl rfl rfl (by omega) (by omega)) (fun a65 h65 => ?_); clear h64
        refine pl_val (v := .bool (decide (((i : Nat) : Int) < ahead % 8))) h65 rfl rfl rfl (by kernel_rfl) (by kernel_rfl) (by kernel_rfl) (fun a66 h66 => ?_); clear h65
        refine pl_nil ?_
        refine co_then ?_
        cases hc67 : (decide (((i : Nat) : Int) < ahead % 8))
        ·
          rw [hc67] at h66
          have hp68 : ¬ (((i : Nat) : Int) < ahead % 8) := of_decide_eq_false hc67
          clear hc67
          refine co_false h66 rfl ?_
          refine wp_exit ?_
          refine co_thenX ?_
          refine co_thenX ?_
          refine co_blockX ?_
          refine co_then ?_
          refine co_seq ?_
          refine co_reg ?_
          refine pl_val (v := u) h66 rfl rfl rfl (by kernel_rfl) (by kernel_rfl) (by kernel_rfl) (fun a69 h69 => ?_); clear h66
          refine pl_val (v := .int .i64 id) h69 rfl rfl rfl (by kernel_rfl) (by kernel_rfl) (by kernel_rfl) (fun a70 h70 => ?_); clear h69
          have hKm : RightK m id ts (8 - i) := by assumption
          have hK1 := hKm.renew.2
          refine pl_want h70 rfl rfl rfl (op_call (args := #[u, .int .i64 id]) (R := fun res xw => ∃ u : Value, res = .tuple #[u, .int .i64 0] ∧ xw.ownsRow w55.heap.size 46 3 u ((renewP m id).1).length (((renewP m id).1).flatMap pinE) ∧ Below w55.heap.size w55 xw) rfl rfl rfl (by kernel_rfl) (by kernel_rfl) (Try.call38 _ _) (leaseRenew_any u m id ((renewP m id).1) 0 w55 (row_sl hf59 pinE_len) (by first | omega | (simp; done) | (simp; omega)) hKm.renew.1) (by rintro e x ⟨u, rfl, hq74, hb75⟩; exact ⟨_, rfl, ⟨u, rfl, hq74, hb75⟩⟩)) ?_; clear h70
          rintro _ w72 a71 ⟨u73, rfl, hq74, hb75⟩ h71
          have hB76 := hb_call hB60 hb75
          have hz77 := hB76.size
          have hz78 := hb75.size
          have hr79 := row_kept_new hf59 (below_grown hb75)
          have hl80 := sl_len (row_sl hq74 pinE_len)
          refine pl_val (v := .tuple #[u73, .int .i64 0]) h71 rfl rfl rfl (by kernel_rfl) (by kernel_rfl) (by kernel_rfl) (fun a81 h81 => ?_); clear h71
          refine pl_val (v := u73) h81 rfl rfl rfl (by kernel_rfl) (by kernel_rfl) (by kernel_rfl) (fun a82 h82 => ?_); clear h81
          refine pl_val (v := .int .i64 0) h82 rfl rfl rfl (by kernel_rfl) (by kernel_rfl) (by kernel_rfl) (fun a83 h83 => ?_); clear h82
          refine pl_val (v := u73) h83 rfl rfl rfl (by kernel_rfl) (by kernel_rfl) (by kernel_rfl) (fun a84 h84 => ?_); clear h83
          refine pl_val (v := .int .i64 0) h84 rfl rfl rfl (by kernel_rfl) (by kernel_rfl) (by kernel_rfl) (fun a85 h85 => ?_); clear h84
          refine pl_nil ?_
          refine co_then ?_
          refine co_seq ?_
          refine co_seq ?_
          refine co_reg ?_
          refine pl_val (v := .int .i64 0) h85 rfl rfl rfl (by kernel_rfl) (by kernel_rfl) (by kernel_rfl) (fun a86 h86 => ?_); clear h85
          refine pl_val (v := .bool ((0 : Int) != 0)) h86 rfl rfl rfl (by kernel_rfl) (by kernel_rfl) (by kernel_rfl) (fun a87 h87 => ?_); clear h86
          refine pl_nil ?_
          refine co_then ?_
          have hc88 : ((0 : Int) != 0) = false := by first | (simp; done) | (simp; omega)
          rw [hc88] at h87; clear hc88
          refine co_false h87 rfl ?_
          refine wp_skip ?_
          refine co_then ?_
          refine co_seq ?_
          refine co_seq ?_
          refine co_reg ?_
          refine pl_val (v := .int .i64 1) h87 rfl rfl rfl (by kernel_rfl) (by kernel_rfl) (by kernel_rfl) (fun a89 h89 => ?_); clear h87
          refine pl_nil ?_
          refine co_then ?_
          refine wp_block ?_
          have h90 : Slots 99 [(0, v), (1, .int .i64 id), (2, .int .u64 ts), (3, .int .u8 ahead), (8, .bool false), (9, u73), (12, .int .i64 1)] _ := h89.sub ⟨rfl, rfl, rfl, rfl, rfl, rfl, rfl, trivial⟩; clear h89
          refine co_loop (fun mm a x => ∃ (j : Nat) (u2 : Value) (m2 : List PinT), Slots 99 [(0, v), (1, .int .i64 id), (2, .int .u64 ts), (3, .int .u8 ahead), (8, .bool false), (9, u2), (12, .int .i64 ((j : Nat) : Int))] a ∧ mm = 10 - j ∧ (1 ≤ j ∧ j ≤ 9) ∧ (Last2 m2 id ts j) ∧ (m2.length ≤ 3) ∧ x.ownsRow w.heap.size 46 3 u2 m2.length (m2.flatMap pinE) ∧ Below w.heap.size w x) (10 - 1) ?_ ?_
          · exact ⟨1, u73, ((renewP m id).1), h90.sub ⟨rfl, rfl, rfl, rfl, rfl, rfl, (slot_eq rfl (congrArg (Value.int .i64) (by first | rfl | omega))), trivial⟩, rfl, by omega, by first | exact .inl ⟨by omega, hK1⟩ | exact Last2.next (by assumption) (by omega), by first | exact hK1.len | (have := stayP_len m2; omega), (row_low hq74 (by omega)), hB76⟩
          · rintro k91 a92 w93 ⟨j, u2, m2, h92, rfl, hi94, hi95, hi96, hf97, hB98⟩
            have hz99 := hB98.size
            refine co_seq ?_
            refine co_seq ?_
            refine co_reg ?_
            refine pl_val (v := .int .i64 ((j : Nat) : Int)) h92 rfl rfl rfl (by kernel_rfl) (by kernel_rfl) (by kernel_rfl) (fun a100 h100 => ?_); clear h92
            refine pl_val (v := .bool (decide (((j : Nat) : Int) ≤ 8))) h100 rfl rfl rfl (by kernel_rfl) (by kernel_rfl) (by kernel_rfl) (fun a101 h101 => ?_); clear h100
            refine pl_nil ?_
            refine co_then ?_
            cases hc102 : (decide (((j : Nat) : Int) ≤ 8))
            ·
              rw [hc102] at h101
              have hp103 : ¬ (((j : Nat) : Int) ≤ 8) := of_decide_eq_false hc102
              clear hc102
              refine co_false h101 rfl ?_
              refine wp_exit ?_
              refine co_thenX ?_
              refine co_thenX ?_
              refine co_blockX ?_
              refine co_then ?_
              refine co_seq ?_
              refine co_reg ?_
              refine pl_val (v := u2) h101 rfl rfl rfl (by kernel_rfl) (by kernel_rfl) (by kernel_rfl) (fun a104 h104 => ?_); clear h101
              refine pl_val (v := .int .i64 id) h104 rfl rfl rfl (by kernel_rfl) (by kernel_rfl) (by kernel_rfl) (fun a105 h105 => ?_); clear h104
              have hF : findP m2 id = -1 := by
                rcases (by assumption : Last2 m2 id ts j) with hq | hq
                · omega
                · exact hq.2
              refine pl_want h105 rfl rfl rfl (op_call (args := #[u2, .int .i64 id]) (R := fun res xw => ∃ u : Value, res = .tuple #[u, .int .i64 7] ∧ xw.ownsRow w93.heap.size 46 3 u ([] : List PinT).length (([] : List PinT).flatMap pinE) ∧ Below w93.heap.size w93 xw) rfl rfl rfl (by kernel_rfl) (by kernel_rfl) (Try.call40 _ _) (leaseFree_any u2 m2 id ([] : List PinT) 7 w93 (row_sl hf97 pinE_len) (by first | omega | (simp; done) | (simp; omega)) (free_no (by omega))) (by rintro e x ⟨u, rfl, hq109, hb110⟩; exact ⟨_, rfl, ⟨u, rfl, hq109, hb110⟩⟩)) ?_; clear h105
              rintro _ w107 a106 ⟨u108, rfl, hq109, hb110⟩ h106
              have hB111 := hb_call hB98 hb110
              have hz112 := hB111.size
              have hz113 := hb110.size
              have hr114 := row_kept_new hf97 (below_grown hb110)
              have hl115 := sl_len (row_sl hq109 pinE_len)
              refine pl_val (v := .tuple #[u108, .int .i64 7]) h106 rfl rfl rfl (by kernel_rfl) (by kernel_rfl) (by kernel_rfl) (fun a116 h116 => ?_); clear h106
              refine pl_val (v := u108) h116 rfl rfl rfl (by kernel_rfl) (by kernel_rfl) (by kernel_rfl) (fun a117 h117 => ?_); clear h116
              refine pl_val (v := .int .i64 7) h117 rfl rfl rfl (by kernel_rfl) (by kernel_rfl) (by kernel_rfl) (fun a118 h118 => ?_); clear h117
              refine pl_val (v := .int .i64 7) h118 rfl rfl rfl (by kernel_rfl) (by kernel_rfl) (by kernel_rfl) (fun a119 h119 => ?_); clear h118
              refine pl_nil ?_
              refine co_then ?_
              refine co_seq ?_
              refine co_reg ?_
              refine pl_val (v := .int .i64 7) h119 rfl rfl rfl (by kernel_rfl) (by kernel_rfl) (by kernel_rfl) (fun a120 h120 => ?_); clear h119
              refine pl_val (v := .bool ((7 : Int) == 7)) h120 rfl rfl rfl (by kernel_rfl) (by kernel_rfl) (by kernel_rfl) (fun a121 h121 => ?_); clear h120
              refine pl_val (v := .bool ((7 : Int) == 7)) h121 rfl rfl rfl (by kernel_rfl) (by kernel_rfl) (by kernel_rfl) (fun a122 h122 => ?_); clear h121
              have hc123 : ((7 : Int) == 7) = true := by first | (simp; done) | (simp; omega)
              rw [hc123] at h122; clear hc123
              refine pl_want h122 rfl rfl rfl (op_call (args := #[]) (R := fun res xw => res = .bool true ∧ Below w107.heap.size w107 xw) rfl rfl rfl (by kernel_rfl) (by kernel_rfl) (Try.call35 _ _) (awake25  w107 ) (by rintro e x ⟨rfl, hb126⟩; exact ⟨_, rfl, ⟨rfl, hb126⟩⟩)) ?_; clear h122
              rintro _ w125 a124 ⟨rfl, hb126⟩ h124
              have hB127 := hb_call hB111 hb126
              have hz128 := hB127.size
              have hz129 := hb126.size
              have hr130 := row_kept_new hr114 (below_grown hb126)
              have hr131 := row_kept_new hq109 (below_grown hb126)
              refine pl_val (v := .bool true) h124 rfl rfl rfl (by kernel_rfl) (by kernel_rfl) (by kernel_rfl) (fun a132 h132 => ?_); clear h124
              refine pl_val (v := .bool true) h132 rfl rfl rfl (by kernel_rfl) (by kernel_rfl) (by kernel_rfl) (fun a133 h133 => ?_); clear h132
              refine pl_nil ?_
              refine co_then ?_
              refine wp_ret ?_
              refine co_ret1 h133 rfl rfl ?_
              exact ⟨rfl, hB127⟩
            ·
              rw [hc102] at h101
              have hp134 : ((j : Nat) : Int) ≤ 8 := of_decide_eq_true hc102
              clear hc102
              refine co_true h101 rfl ?_
              refine wp_skip ?_
              refine co_then ?_
              refine co_seq ?_
              refine wp_block ?_
              refine co_seq ?_
              refine co_reg ?_
              refine pl_val (v := u2) h101 rfl rfl rfl (by kernel_rfl) (by kernel_rfl) (by kernel_rfl) (fun a135 h135 => ?_); clear h101
              refine pl_want h135 rfl rfl rfl (op_call (args := #[u2]) (R := fun res xw => ∃ u : Value, ∃ g : Value, res = .tuple #[u, g] ∧ xw.ownsRow w93.heap.size 46 3 u (stayP m2).length ((stayP m2).flatMap pinE) ∧ xw.ownsRow w93.heap.size 3 1 g (goneP m2).length ((goneP m2).flatMap (intE .i64)) ∧ Below w93.heap.size w93 xw) rfl rfl rfl (by kernel_rfl) (by kernel_rfl) (Try.call42 _ _) (leaseTick_any u2 m2 w93 (row_sl hf97 pinE_len) (RightK.ok (Last2.go (by assumption) (by omega))) (by first | omega | (simp; done) | (simp; omega))) (by rintro e x ⟨u, g, rfl, hq140, hq141, hb142⟩; exact ⟨_, rfl, ⟨u, g, rfl, hq140, hq141, hb142⟩⟩)) ?_; clear h135
              rintro _ w137 a136 ⟨u138, g139, rfl, hq140, hq141, hb142⟩ h136
              have hB143 := hb_call hB98 hb142
              have hz144 := hB143.size
              have hz145 := hb142.size
              have hr146 := row_kept_new hf97 (below_grown hb142)
              have hl147 := sl_len (row_sl hq140 pinE_len)
              have hl148 := sl_len (row_sl hq141 (intE_len .i64))
              refine pl_val (v := .tuple #[u138, g139]) h136 rfl rfl rfl (by kernel_rfl) (by kernel_rfl) (by kernel_rfl) (fun a149 h149 => ?_); clear h136
              refine pl_val (v := u138) h149 rfl rfl rfl (by kernel_rfl) (by kernel_rfl) (by kernel_rfl) (fun a150 h150 => ?_); clear h149
              refine pl_val (v := g139) h150 rfl rfl rfl (by kernel_rfl) (by kernel_rfl) (by kernel_rfl) (fun a151 h151 => ?_); clear h150
              refine pl_val (v := u138) h151 rfl rfl rfl (by kernel_rfl) (by kernel_rfl) (by kernel_rfl) (fun a152 h152 => ?_); clear h151
              refine pl_val (v := g139) h152 rfl rfl rfl (by kernel_rfl) (by kernel_rfl) (by kernel_rfl) (fun a153 h153 => ?_); clear h152
              refine pl_nil ?_
              refine co_then ?_
              refine co_seq ?_
              refine co_reg ?_
              refine pl_val (v := .bool false) h153 rfl rfl rfl (by kernel_rfl) (by kernel_rfl) (by kernel_rfl) (fun a154 h154 => ?_); clear h153
              refine pl_nil ?_
              refine co_then ?_
              refine co_seq ?_
              refine co_seq ?_
              refine co_reg ?_
              refine pl_val (v := .int .i64 0) h154 rfl rfl rfl (by kernel_rfl) (by kernel_rfl) (by kernel_rfl) (fun a155 h155 => ?_); clear h154
              refine pl_nil ?_
              refine co_then ?_
              refine wp_block ?_
              have h156 : Slots 99 [(0, v), (1, .int .i64 id), (2, .int .u64 ts), (3, .int .u8 ahead), (8, .bool false), (9, u2), (12, .int .i64 ((j : Nat) : Int)), (13, u138), (14, g139), (15, .bool false), (16, .int .i64 0)] _ := h155.sub ⟨rfl, rfl, rfl, rfl, rfl, rfl, rfl, rfl, rfl, rfl, rfl, trivial⟩; clear h155
              refine co_loop (fun mm a x => ∃ (k : Nat), Slots 99 [(0, v), (1, .int .i64 id), (2, .int .u64 ts), (3, .int .u8 ahead), (8, .bool false), (9, u2), (12, .int .i64 ((j : Nat) : Int)), (13, u138), (14, g139), (15, .bool (((goneP m2).take k).any (fun x => x == id))), (16, .int .i64 ((k : Nat) : Int))] a ∧ mm = (goneP m2).length - k ∧ (k ≤ (goneP m2).length) ∧ w137 = x) ((goneP m2).length - 0) ?_ ?_
              · exact ⟨0, h156.sub ⟨rfl, rfl, rfl, rfl, rfl, rfl, rfl, rfl, rfl, (slot_eq rfl (congrArg Value.bool (by first | rfl | exact any_true (by assumption) | exact any_false (f := fun x => x == id) (by assumption) (by assumption)))), (slot_eq rfl (congrArg (Value.int .i64) (by first | rfl | omega))), trivial⟩, rfl, by omega, rfl⟩
              · rintro k157 a158 _ ⟨k, h158, rfl, hi160, rfl⟩
                refine co_seq ?_
                refine co_seq ?_
                refine co_reg ?_
                refine pl_val (v := .int .i64 ((k : Nat) : Int)) h158 rfl rfl rfl (by kernel_rfl) (by kernel_rfl) (by kernel_rfl) (fun a162 h162 => ?_); clear h158
                refine pl_val (v := g139) h162 rfl rfl rfl (by kernel_rfl) (by kernel_rfl) (by kernel_rfl) (fun a163 h163 => ?_); clear h162
                refine pl_val (v := .int .i64 (((goneP m2).length : Nat) : Int)) h163 rfl rfl rfl (by kernel_rfl) (by kernel_rfl) (rn_lenOwn rfl rfl Try.underlying39 hq141) (fun a164 h164 => ?_); clear h163
                refine pl_val (v := .bool (decide (((k : Nat) : Int) < (((goneP m2).length : Nat) : Int)))) h164 rfl rfl rfl (by kernel_rfl) (by kernel_rfl) (by kernel_rfl) (fun a165 h165 => ?_); clear h164
                refine pl_nil ?_
                refine co_then ?_
                cases hc166 : (decide (((k : Nat) : Int) < (((goneP m2).length : Nat) : Int)))
                ·
                  rw [hc166] at h165
                  have hp167 : ¬ (((k : Nat) : Int) < (((goneP m2).length : Nat) : Int)) := of_decide_eq_false hc166
                  clear hc166
                  refine co_false h165 rfl ?_
                  refine wp_exit ?_
                  refine co_thenX ?_
                  refine co_thenX ?_
                  refine co_blockX ?_
                  refine co_then ?_
                  refine co_seq ?_
                  refine co_seq ?_
                  refine co_reg ?_
                  refine pl_val (v := .bool (((goneP m2).take k).any (fun x => x == id))) h165 rfl rfl rfl (by kernel_rfl) (by kernel_rfl) (by kernel_rfl) (fun a168 h168 => ?_); clear h165
                  refine pl_val (v := .int .i64 ((j : Nat) : Int)) h168 rfl rfl rfl (by kernel_rfl) (by kernel_rfl) (by kernel_rfl) (fun a169 h169 => ?_); clear h168
                  refine pl_val (v := .bool (((j : Nat) : Int) == 8)) h169 rfl rfl rfl (by kernel_rfl) (by kernel_rfl) (by kernel_rfl) (fun a170 h170 => ?_); clear h169
                  refine pl_val (v := .bool ((((goneP m2).take k).any (fun x => x == id)) != (((j : Nat) : Int) == 8))) h170 rfl rfl rfl (by kernel_rfl) (by kernel_rfl) (by kernel_rfl) (fun a171 h171 => ?_); clear h170
                  refine pl_val (v := .bool ((((goneP m2).take k).any (fun x => x == id)) != (((j : Nat) : Int) == 8))) h171 rfl rfl rfl (by kernel_rfl) (by kernel_rfl) (by kernel_rfl) (fun a172 h172 => ?_); clear h171
                  have hc173 : ((((goneP m2).take k).any (fun x => x == id)) != (((j : Nat) : Int) == 8)) = false := by rw [List.take_of_length_le (by omega), RightK.gone (Last2.go (by assumption) (by omega))]; exact went_eq (by omega) (by omega)
                  rw [hc173] at h172; clear hc173
                  refine pl_val (v := u138) h172 rfl rfl rfl (by kernel_rfl) (by kernel_rfl) (by kernel_rfl) (fun a174 h174 => ?_); clear h172
                  refine pl_want h174 rfl rfl rfl (op_call (args := #[u138]) (R := fun res xw => res = .bool (rightP (stayP m2)) ∧ Below w137.heap.size w137 xw) rfl rfl rfl (by kernel_rfl) (by kernel_rfl) (Try.call48 _ _) (leaseRight_any u138 (stayP m2) w137 (row_sl hq140 pinE_len) (stay_ok _ (RightK.ok (Last2.go (by assumption) (by omega))))) (by rintro e x ⟨rfl, hb177⟩; exact ⟨_, rfl, ⟨rfl, hb177⟩⟩)) ?_; clear h174
                  rintro _ w176 a175 ⟨rfl, hb177⟩ h175
                  have hB178 := hb_call hB143 hb177
                  have hz179 := hB178.size
                  have hz180 := hb177.size
                  have hr181 := row_kept_new hr146 (below_grown hb177)
                  have hr182 := row_kept_new hq140 (below_grown hb177)
                  have hr183 := row_kept_new hq141 (below_grown hb177)
                  have hc184 : (rightP (stayP m2)) = true := stay_right (RightK.up (Last2.go (by assumption) (by omega))) (by omega)
                  rw [hc184] at h175; clear hc184
                  refine pl_val (v := .bool false) h175 rfl rfl rfl (by kernel_rfl) (by kernel_rfl) (by kernel_rfl) (fun a185 h185 => ?_); clear h175
                  refine pl_val (v := .bool false) h185 rfl rfl rfl (by kernel_rfl) (by kernel_rfl) (by kernel_rfl) (fun a186 h186 => ?_); clear h185
                  refine pl_nil ?_
                  refine co_then ?_
                  refine co_false h186 rfl ?_
                  refine wp_skip ?_
                  refine co_then ?_
                  refine co_reg ?_
                  refine pl_val (v := u138) h186 rfl rfl rfl (by kernel_rfl) (by kernel_rfl) (by kernel_rfl) (fun a187 h187 => ?_); clear h186
                  refine pl_val (v := u138) h187 rfl rfl rfl (by kernel_rfl) (by kernel_rfl) (by kernel_rfl) (fun a188 h188 => ?_); clear h187
                  refine pl_nil ?_
                  refine co_blockN ?_
                  refine co_then ?_
                  refine co_reg ?_
                  refine pl_val (v := .int .i64 ((j : Nat) : Int)) h188 rfl rfl rfl (by kernel_rfl) (by kernel_rfl) (by kernel_rfl) (fun a189 h189 => ?_); clear h188
                  refine pl_val (v := .int .i64 ((j + 1 : Nat) : Int)) h189 rfl rfl rfl (by kernel_rfl) (by kernel_rfl) (rn_arith' rfl rfl rfl rfl rfl rfl (IntWalk.i64_in _ (by omega)) (by omega)) (fun a190 h190 => ?_); clear h189
                  refine pl_val (v := .int .i64 ((j + 1 : Nat) : Int)) h190 rfl rfl rfl (by kernel_rfl) (by kernel_rfl) (by kernel_rfl) (fun a191 h191 => ?_); clear h190
                  refine pl_nil ?_
                  refine co_then ?_
                  refine ⟨(10 - (j + 1)), by omega, ?_⟩
                  exact ⟨j + 1, u138, (stayP m2), h191.sub ⟨rfl, rfl, rfl, rfl, rfl, rfl, rfl, trivial⟩, rfl, by omega, by first | exact .inl ⟨by omega, hK1⟩ | exact Last2.next (by assumption) (by omega), by first | exact hK1.len | (have := stayP_len m2; omega), (row_low hr182 (by omega)), hB178⟩
                ·
                  rw [hc166] at h165
                  have hp192 : ((k : Nat) : Int) < (((goneP m2).length : Nat) : Int) := of_decide_eq_true hc166
                  clear hc166
                  refine co_true h165 rfl ?_
                  refine wp_skip ?_
                  refine co_then ?_
                  refine co_seq ?_
                  refine wp_block ?_
                  refine co_reg ?_
                  refine pl_val (v := .bool (((goneP m2).take k).any (fun x => x == id))) h165 rfl rfl rfl (by kernel_rfl) (by kernel_rfl) (by kernel_rfl) (fun a193 h193 => ?_); clear h165
                  refine pl_val (v := .bool (((goneP m2).take k).any (fun x => x == id))) h193 rfl rfl rfl (by kernel_rfl) (by kernel_rfl) (by kernel_rfl) (fun a194 h194 => ?_); clear h193
                  cases hc195 : (((goneP m2).take k).any (fun x => x == id))
                  ·
                    rw [hc195] at h194
                    refine pl_val (v := g139) h194 rfl rfl rfl (by kernel_rfl) (by kernel_rfl) (by kernel_rfl) (fun a196 h196 => ?_); clear h194
                    refine pl_val (v := .int .i64 ((k : Nat) : Int)) h196 rfl rfl rfl (by kernel_rfl) (by kernel_rfl) (by kernel_rfl) (fun a197 h197 => ?_); clear h196
                    obtain ⟨y198, hy198⟩ : ∃ z, (goneP m2)[k]? = some z := ⟨_, List.getElem?_eq_getElem (by first | omega | (simp; done) | (simp; omega))⟩
                    refine pl_val (v := .pointer (some ⟨(blkOf g139), offOf g139 + k * 1, none⟩)) h197 rfl rfl rfl (by kernel_rfl) (by kernel_rfl) (rn_index rfl rfl rfl Try.underlying39 Try.sizeOf3 (row_sl hq141 (intE_len .i64)) (by omega) (by first | omega | (simp; done) | (simp; omega))) (fun a199 h199 => ?_); clear h197
                    refine pl_val (v := .int .i64 y198) h199 rfl rfl rfl (by kernel_rfl) (by kernel_rfl) (rn_load1 rfl rfl Try.isAgg3 ((sl_at (row_sl hq141 (intE_len .i64)) hy198) 0 _ rfl)) (fun a200 h200 => ?_); clear h199
                    refine pl_val (v := .int .i64 id) h200 rfl rfl rfl (by kernel_rfl) (by kernel_rfl) (by kernel_rfl) (fun a201 h201 => ?_); clear h200
                    refine pl_val (v := .bool (y198 == id)) h201 rfl rfl rfl (by kernel_rfl) (by kernel_rfl) (by kernel_rfl) (fun a202 h202 => ?_); clear h201
                    refine pl_val (v := .bool (y198 == id)) h202 rfl rfl rfl (by kernel_rfl) (by kernel_rfl) (by kernel_rfl) (fun a203 h203 => ?_); clear h202
                    refine pl_val (v := .bool (y198 == id)) h203 rfl rfl rfl (by kernel_rfl) (by kernel_rfl) (by kernel_rfl) (fun a204 h204 => ?_); clear h203
                    refine pl_nil ?_
                    refine co_blockN ?_
                    refine co_then ?_
                    refine co_reg ?_
                    refine pl_val (v := .int .i64 ((k : Nat) : Int)) h204 rfl rfl rfl (by kernel_rfl) (by kernel_rfl) (by kernel_rfl) (fun a205 h205 => ?_); clear h204
                    refine pl_val (v := .int .i64 ((k + 1 : Nat) : Int)) h205 rfl rfl rfl (by kernel_rfl) (by kernel_rfl) (rn_arith' rfl rfl rfl rfl rfl rfl (IntWalk.i64_in _ (by omega)) (by omega)) (fun a206 h206 => ?_); clear h205
                    refine pl_val (v := .int .i64 ((k + 1 : Nat) : Int)) h206 rfl rfl rfl (by kernel_rfl) (by kernel_rfl) (by kernel_rfl) (fun a207 h207 => ?_); clear h206
                    refine pl_nil ?_
                    refine co_then ?_
                    refine ⟨((goneP m2).length - (k + 1)), by omega, ?_⟩
                    exact ⟨k + 1, h207.sub ⟨rfl, rfl, rfl, rfl, rfl, rfl, rfl, rfl, rfl, (slot_eq rfl (congrArg Value.bool (by first | rfl | exact any_true (by assumption) | exact any_false (f := fun x => x == id) (by assumption) (by assumption)))), rfl, trivial⟩, rfl, by omega, rfl⟩
                  ·
                    rw [hc195] at h194
                    refine pl_skip h194 rfl rfl rfl (fun a208 h208 => ?_); clear h194
                    refine pl_skip h208 rfl rfl rfl (fun a209 h209 => ?_); clear h208
                    refine pl_skip h209 rfl rfl rfl (fun a210 h210 => ?_); clear h209
                    refine pl_skip h210 rfl rfl rfl (fun a211 h211 => ?_); clear h210
                    refine pl_skip h211 rfl rfl rfl (fun a212 h212 => ?_); clear h211
                    refine pl_skip h212 rfl rfl rfl (fun a213 h213 => ?_); clear h212
                    refine pl_val (v := .bool true) h213 rfl rfl rfl (by kernel_rfl) (by kernel_rfl) (by kernel_rfl) (fun a214 h214 => ?_); clear h213
                    refine pl_val (v := .bool true) h214 rfl rfl rfl (by kernel_rfl) (by kernel_rfl) (by kernel_rfl) (fun a215 h215 => ?_); clear h214
                    refine pl_nil ?_
                    refine co_blockN ?_
                    refine co_then ?_
                    refine co_reg ?_
                    refine pl_val (v := .int .i64 ((k : Nat) : Int)) h215 rfl rfl rfl (by kernel_rfl) (by kernel_rfl) (by kernel_rfl) (fun a216 h216 => ?_); clear h215
                    refine pl_val (v := .int .i64 ((k + 1 : Nat) : Int)) h216 rfl rfl rfl (by kernel_rfl) (by kernel_rfl) (rn_arith' rfl rfl rfl rfl rfl rfl (IntWalk.i64_in _ (by omega)) (by omega)) (fun a217 h217 => ?_); clear h216
                    refine pl_val (v := .int .i64 ((k + 1 : Nat) : Int)) h217 rfl rfl rfl (by kernel_rfl) (by kernel_rfl) (by kernel_rfl) (fun a218 h218 => ?_); clear h217
                    refine pl_nil ?_
                    refine co_then ?_
                    refine ⟨((goneP m2).length - (k + 1)), by omega, ?_⟩
                    exact ⟨k + 1, h218.sub ⟨rfl, rfl, rfl, rfl, rfl, rfl, rfl, rfl, rfl, (slot_eq rfl (congrArg Value.bool (by first | rfl | exact any_true (by assumption) | exact any_false (f := fun x => x == id) (by assumption) (by assumption)))), rfl, trivial⟩, rfl, by omega, rfl⟩
        ·
          rw [hc67] at h66
          have hp219 : ((i : Nat) : Int) < ahead % 8 := of_decide_eq_true hc67
          clear hc67
          refine co_true h66 rfl ?_
          refine wp_skip ?_
          refine co_then ?_
          refine co_seq ?_
          refine wp_block ?_
          refine co_reg ?_
          refine pl_val (v := u) h66 rfl rfl rfl (by kernel_rfl) (by kernel_rfl) (by kernel_rfl) (fun a220 h220 => ?_); clear h66
          refine pl_want h220 rfl rfl rfl (op_call (args := #[u]) (R := fun res xw => ∃ u : Value, ∃ g : Value, res = .tuple #[u, g] ∧ xw.ownsRow w55.heap.size 46 3 u (stayP m).length ((stayP m).flatMap pinE) ∧ xw.ownsRow w55.heap.size 3 1 g (goneP m).length ((goneP m).flatMap (intE .i64)) ∧ Below w55.heap.size w55 xw) rfl rfl rfl (by kernel_rfl) (by kernel_rfl) (Try.call42 _ _) (leaseTick_any u m w55 (row_sl hf59 pinE_len) (RightK.ok (by assumption : RightK m id ts (8 - i))) (by first | omega | (simp; done) | (simp; omega))) (by rintro e x ⟨u, g, rfl, hq225, hq226, hb227⟩; exact ⟨_, rfl, ⟨u, g, rfl, hq225, hq226, hb227⟩⟩)) ?_; clear h220
          rintro _ w222 a221 ⟨u223, g224, rfl, hq225, hq226, hb227⟩ h221
          have hB228 := hb_call hB60 hb227
          have hz229 := hB228.size
          have hz230 := hb227.size
          have hr231 := row_kept_new hf59 (below_grown hb227)
          have hl232 := sl_len (row_sl hq225 pinE_len)
          have hl233 := sl_len (row_sl hq226 (intE_len .i64))
          refine pl_val (v := .tuple #[u223, g224]) h221 rfl rfl rfl (by kernel_rfl) (by kernel_rfl) (by kernel_rfl) (fun a234 h234 => ?_); clear h221
          refine pl_val (v := u223) h234 rfl rfl rfl (by kernel_rfl) (by kernel_rfl) (by kernel_rfl) (fun a235 h235 => ?_); clear h234
          refine pl_val (v := g224) h235 rfl rfl rfl (by kernel_rfl) (by kernel_rfl) (by kernel_rfl) (fun a236 h236 => ?_); clear h235
          refine pl_val (v := u223) h236 rfl rfl rfl (by kernel_rfl) (by kernel_rfl) (by kernel_rfl) (fun a237 h237 => ?_); clear h236
          refine pl_nil ?_
          refine co_blockN ?_
          refine co_then ?_
          refine co_reg ?_
          refine pl_val (v := .int .i64 ((i : Nat) : Int)) h237 rfl rfl rfl (by kernel_rfl) (by kernel_rfl) (by kernel_rfl) (fun a238 h238 => ?_); clear h237
          refine pl_val (v := .int .i64 ((i + 1 : Nat) : Int)) h238 rfl rfl rfl (by kernel_rfl) (by kernel_rfl) (rn_arith' rfl rfl rfl rfl rfl rfl (IntWalk.i64_in _ (by omega)) (by omega)) (fun a239 h239 => ?_); clear h238
          refine pl_val (v := .int .i64 ((i + 1 : Nat) : Int)) h239 rfl rfl rfl (by kernel_rfl) (by kernel_rfl) (by kernel_rfl) (fun a240 h240 => ?_); clear h239
          refine pl_nil ?_
          refine co_then ?_
          refine ⟨(8 - (i + 1)), by omega, ?_⟩
          exact ⟨i + 1, u223, (stayP m), h240.sub ⟨rfl, rfl, rfl, rfl, rfl, rfl, rfl, trivial⟩, rfl, by omega, by first | exact hK0 | exact RightK.stay (by assumption) (by omega) (by omega), by omega, (row_low hq225 (by omega)), hB228⟩
    ·
      rw [hc39] at h38
      have hp241 : ((grantP l id ts).2) ≠ 0 := by first | simpa using hc39 | simpa [and_assoc] using hc39
      clear hc39
      refine co_true h38 rfl ?_
      refine co_seq ?_
      refine co_reg ?_
      refine pl_want h38 rfl rfl rfl (op_call (args := #[]) (R := fun res xw => res = .bool true ∧ Below w23.heap.size w23 xw) rfl rfl rfl (by kernel_rfl) (by kernel_rfl) (Try.call35 _ _) (awake25  w23 ) (by rintro e x ⟨rfl, hb244⟩; exact ⟨_, rfl, ⟨rfl, hb244⟩⟩)) ?_; clear h38
      rintro _ w243 a242 ⟨rfl, hb244⟩ h242
      have hB245 := hb_call hB27 hb244
      have hz246 := hB245.size
      have hz247 := hb244.size
      have hr248 := row_kept_new hq25 (below_grown hb244)
      refine pl_val (v := .bool true) h242 rfl rfl rfl (by kernel_rfl) (by kernel_rfl) (by kernel_rfl) (fun a249 h249 => ?_); clear h242
      refine pl_nil ?_
      refine co_then ?_
      refine wp_ret ?_
      refine co_thenR ?_
      refine co_ret1 h249 rfl rfl ?_
      exact ⟨rfl, hB245⟩
end Go.Proofs.Ytfhiciaakgcbnaa
