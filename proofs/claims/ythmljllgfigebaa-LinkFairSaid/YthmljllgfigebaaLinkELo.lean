/- The document's link: In. Conditions: none. -/
import Derived.Test.YthmljllgfigebaaLo7
namespace Go.Proofs.Ythmljllgfigebaa
open Go.RowKit Go.PlainAid
set_option linter.unusedVariables false


def l6 (s : SegT) : List Int := [s.boot, s.stream, s.seq, s.ab, s.ast, s.asq]
def bn (s : SegT) (k : Nat) : Bool := ((l6 s).take k).all bnd
theorem bn_step {s : SegT} {k : Nat} {y : Int} (h : bn s k = true) (hy : (l6 s)[k]? = some y) (h2 : 0 ≤ y ∧ y ≤ 1073741824) : bn s (k + 1) = true := by
  unfold bn at *; rw [List.take_add_one, hy]; simp only [Option.toList_some, List.all_append, h, List.all_cons, List.all_nil, bnd_iff.2 h2]; rfl
theorem may_out {s : SegT} {k : Nat} {y : Int} (hy : (l6 s)[k]? = some y) (h2 : y < 0 ∨ 1073741824 < y) : mayT s = false := by
  cases hm : mayT s with
  | false => rfl
  | true =>
    have h := mayT_iff.1 hm
    have : y ∈ l6 s := List.mem_of_getElem? hy
    simp only [l6, List.mem_cons, List.not_mem_nil, or_false] at this
    omega
theorem may_zero {s : SegT} (h : s.boot = 0) : mayT s = false := by
  cases hm : mayT s with
  | false => rfl
  | true => have := mayT_iff.1 hm; omega
theorem may_yes {s : SegT} (h : bn s 6 = true) (h0 : s.boot ≠ 0) : mayT s = true := by
  unfold bn l6 at h
  simp only [List.take_succ_cons, List.take_zero, List.all_cons, List.all_nil, Bool.and_eq_true, bnd_iff] at h
  exact mayT_iff.2 ⟨h.1, h.2.1, h.2.2.1, h.2.2.2.1, h.2.2.2.2.1, h.2.2.2.2.2.1, h0⟩
theorem bn_6 {s : SegT} {k : Nat} (h : bn s k = true) (hk : 6 ≤ k) : bn s 6 = true := by
  unfold bn at *; rw [List.take_of_length_le (by simpa [l6] using hk)] at h; rwa [List.take_of_length_le (by simp [l6])]
theorem knowT_q (L : LnT) (s : SegT) : (knowT L s).q = L.q ∧ (knowT L s).boot = L.boot ∧ (knowT L s).owes = L.owes := by unfold knowT; split <;> (try split) <;> exact ⟨rfl, rfl, rfl⟩
theorem ackT_c (L : LnT) (s : SegT) : (ackT L s).boot = L.boot ∧ (ackT L s).stream = L.stream ∧ (ackT L s).peer = L.peer ∧ (ackT L s).in0 = L.in0 ∧ (ackT L s).next = L.next ∧ (ackT L s).owes = L.owes := by unfold ackT popT; split <;> exact ⟨rfl, rfl, rfl, rfl, rfl, rfl⟩
theorem inT_a {L : LnT} {s : SegT} (h : mayT s = false) : inT L s = ([], 1, L) := by unfold inT; rw [if_pos h]
theorem inT_b {L : LnT} {s : SegT} (h : mayT s = true) (h2 : s.boot < L.peer) : inT L s = ([], 0, L) := by unfold inT; rw [if_neg (by simp [h]), if_pos h2]
theorem inT_c {L A : LnT} {s : SegT} (h : mayT s = true) (h2 : ¬ s.boot < L.peer) (hA : A = ackT (knowT L s) s) (h3 : s.has = false) : inT L s = ([], 0, A) := by unfold inT; rw [if_neg (by simp [h]), if_neg h2, if_pos h3, hA]
theorem inT_d {L A : LnT} {s : SegT} (h : mayT s = true) (h2 : ¬ s.boot < L.peer) (hA : A = ackT (knowT L s) s) (h3 : ¬ s.has = false) (h4 : ¬ (s.ab = L.boot ∧ s.stream = A.in0 ∧ s.seq = A.next)) : inT L s = ([], 0, { A with owes := true }) := by unfold inT; rw [if_neg (by simp [h]), if_neg h2, if_neg h3, ← hA, if_neg h4]
theorem inT_e {L A : LnT} {s : SegT} (h : mayT s = true) (h2 : ¬ s.boot < L.peer) (hA : A = ackT (knowT L s) s) (h3 : ¬ s.has = false) (h4 : s.ab = L.boot ∧ s.stream = A.in0 ∧ s.seq = A.next) : inT L s = ([s.body], 0, { A with owes := true, next := A.next + 1 }) := by unfold inT; rw [if_neg (by simp [h]), if_neg h2, if_neg h3, ← hA, if_pos h4]
theorem ack_n {K A : LnT} {s : SegT} (hA : A = ackT K s) (hK : LnOk K) (h : ¬ (s.ab = K.boot ∧ s.ast = K.stream)) : A = K := by rw [hA]; unfold ackT; rw [if_neg h]
theorem ack_y {K A : LnT} {s : SegT} (hA : A = ackT K s) (h : s.ab = K.boot ∧ s.ast = K.stream) : A = popT K s.asq := by rw [hA]; unfold ackT; rw [if_pos h]
/-- So many pops. -/
theorem ack_k {K A : LnT} {s : SegT} {k : Nat} {t : Int} (hA : A = ackT K s) (hK : LnOk K) (ht : (t = K.told - k ∧ 0 ≤ t) ∨ (t = 0 ∧ K.told ≤ k)) (hk : k ≤ K.q.length)
    (h : k = 0 ∨ (s.ab = K.boot ∧ s.ast = K.stream ∧ K.first + k ≤ s.asq)) (hE : ¬ (s.ab = K.boot ∧ s.ast = K.stream) ∨ K.q.length - k ≤ 0 ∨ ¬ K.first + k < s.asq) :
    A.first = K.first + k ∧ A.q = K.q.drop k ∧ A.told = t := by
  have h0 := hK.told
  by_cases hy : s.ab = K.boot ∧ s.ast = K.stream
  · have e := ack_y hA hy
    have hg : goneN K s.asq = k := by unfold goneN; omega
    rw [e]; unfold popT; rw [hg]
    exact ⟨rfl, rfl, by show max (K.told - k) 0 = t; omega⟩
  · have e := ack_n hA hK hy
    have : k = 0 := by omega
    subst this
    rw [e]; exact ⟨by simp, by simp, by omega⟩

set_option maxRecDepth 100000 in
set_option maxHeartbeats 1600000 in
theorem rlIn_any (S : Nat → Prop) (b : Nat) (u : Value) (L : LnT) (s : SegT) (w : World) (hU : LkU 74 S w b u L) :
    Calls Try.prog 40 #[pt b 0, .agg #[.int .i64 s.boot, .int .i64 s.stream, .int .i64 s.seq, .int .i64 s.ab, .int .i64 s.ast, .int .i64 s.asq, .bool s.has, .string s.body]] w fun e w' => ∃ (u' : Value) (v : Value), e = .returned (.tuple #[v, .int .i64 ((inT L s).2.1)]) ∧ (∃ S' : Nat → Prop, LkU 74 S' w' b u' (inT L s).2.2 ∧ Grew S S' w w' ∧ w'.ownsRow w.heap.size 9 1 v (inT L s).1.length ((inT L s).1.flatMap strE) ∧ ∀ i, v.ownBlock = some i → ¬ S' i) ∧ But (S) w w' := by
 obtain ⟨K, hK⟩ : ∃ K, K = knowT L s := ⟨_, rfl⟩
 obtain ⟨A, hA⟩ : ∃ A, A = ackT K s := ⟨_, rfl⟩
 have hB0 := But.refl (S) w
 obtain ⟨hB, ⟨B0, hR⟩, hSS, hbu, hok⟩ := id hU
 have hB : Blk w b 74 #[.int .i64 L.boot, .int .i64 L.stream, .int .i64 L.first, u, .int .i64 L.told, .int .i64 L.peer, .int .i64 L.in0, .int .i64 L.next, .bool L.owes] := hB
 have hl_B := hB.lt
 have hR := row_lows hR (Nat.zero_le _)
 have hsb : S b := (hSS b).2 (.inl rfl)
 have hSb : S b ∨ w.heap.size ≤ b := .inl hsb
 obtain ⟨⟨k1, k2⟩, ⟨k3, k4⟩, ⟨k5, k6⟩, ⟨k7, k8⟩, ⟨k9, k10⟩, ⟨k11, k12⟩, ⟨k13, k14⟩, k15, k16⟩ := id hok
 refine co_enter (n := 152) Try.func40 rfl rfl rfl [(0, pt b 0), (1, .agg #[.int .i64 s.boot, .int .i64 s.stream, .int .i64 s.seq, .int .i64 s.ab, .int .i64 s.ast, .int .i64 s.asq, .bool s.has, .string s.body])] rfl (fun a h0 => ?_)
 refine co_seq ?_
 refine co_reg ?_
 refine pw h0 rfl (op_new (v := fun N => pt N 0) (T := 61) (cs := #[.int .i64 s.boot, .int .i64 s.stream, .int .i64 s.seq, .int .i64 s.ab, .int .i64 s.ast, .int .i64 s.asq, .bool s.has, .string s.body]) (by kernel_rfl) (by kernel_rfl) (by kernel_rfl)) ?_; clear h0
 rintro _ w2 a1 ⟨N3, rfl, hN6, hz7, hk5, hg4⟩ h1
 have ha8 := row_fresh hR hN6
 have hu9 := row_under hR hN6
 have hz10 := hg4.size
 try dsimp only at h1
 refine pk0 (v := .slice none 0 0) h1 rfl fun a11 h11 => ?_; clear h1
 refine pk0 (v := .int .i64 0) h11 rfl fun a12 h12 => ?_; clear h11
 refine pl_nil ?_
 refine co_then ?_
 refine co_seq ?_
 refine co_reg ?_
 refine pk0 (v := pt N3 0) h12 rfl fun a13 h13 => ?_; clear h12
 refine pk (v := .int .i64 s.boot) h13 rfl (rn_load1 rfl rfl Try.isAgg3 (hk5.cell rfl)) fun a14 h14 => ?_; clear h13
 refine pk0 (v := pt N3 1) h14 rfl fun a15 h15 => ?_; clear h14
 refine pk (v := .int .i64 s.stream) h15 rfl (rn_load1 rfl rfl Try.isAgg3 (hk5.cell rfl)) fun a16 h16 => ?_; clear h15
 refine pk0 (v := pt N3 2) h16 rfl fun a17 h17 => ?_; clear h16
 refine pk (v := .int .i64 s.seq) h17 rfl (rn_load1 rfl rfl Try.isAgg3 (hk5.cell rfl)) fun a18 h18 => ?_; clear h17
 refine pk0 (v := pt N3 3) h18 rfl fun a19 h19 => ?_; clear h18
 refine pk (v := .int .i64 s.ab) h19 rfl (rn_load1 rfl rfl Try.isAgg3 (hk5.cell rfl)) fun a20 h20 => ?_; clear h19
 refine pk0 (v := pt N3 4) h20 rfl fun a21 h21 => ?_; clear h20
 refine pk (v := .int .i64 s.ast) h21 rfl (rn_load1 rfl rfl Try.isAgg3 (hk5.cell rfl)) fun a22 h22 => ?_; clear h21
 refine pk0 (v := pt N3 5) h22 rfl fun a23 h23 => ?_; clear h22
 refine pk (v := .int .i64 s.asq) h23 rfl (rn_load1 rfl rfl Try.isAgg3 (hk5.cell rfl)) fun a24 h24 => ?_; clear h23
 refine pw h24 rfl (op_new (v := fun N => .slice (some ⟨N, 0, none⟩) 6 6) (T := 3) (cs := #[.int .i64 s.boot, .int .i64 s.stream, .int .i64 s.seq, .int .i64 s.ab, .int .i64 s.ast, .int .i64 s.asq]) (by kernel_rfl) (by kernel_rfl) (by kernel_rfl)) ?_; clear h24
 rintro _ w26 a25 ⟨N27, rfl, hN30, hz31, hk29, hg28⟩ h25
 have hr33 := row_kept_new hR hg4
 have ha32 := row_fresh hr33 hN30
 have hu34 := row_under hr33 hN30
 have hz35 := hg28.size
 try dsimp only at h25
 refine pk0 (v := .slice (some ⟨N27, 0, none⟩) 6 6) h25 rfl fun a36 h36 => ?_; clear h25
 refine pl_nil ?_
 refine co_then ?_
 refine co_seq ?_
 refine co_seq ?_
 refine co_reg ?_
 refine pk0 (v := .int .i64 0) h36 rfl fun a37 h37 => ?_; clear h36
 refine pl_nil ?_
 refine co_then ?_
 refine wp_block ?_
 have hr38 := row_of_cells (enc := (intE .i64)) (sz := 1) ([s.boot, s.stream, s.seq, s.ab, s.ast, s.asq] : List Int) hk29 (Nat.le_refl _) rfl rfl (by unfold maxLen; simp)
 have h39 : Slots 152 [(0, pt b 0), (3, pt N3 0), (6, .slice (some ⟨N27, 0, none⟩) 6 6), (7, .int .i64 0)] _ := h37.sub ⟨rfl, rfl, rfl, rfl, trivial⟩; clear h37
 refine co_loop (fun mm a x => ∃ (k : Nat), Slots 152 [(0, pt b 0), (3, pt N3 0), (6, .slice (some ⟨N27, 0, none⟩) 6 6), (7, .int .i64 ((k : Nat) : Int))] a ∧ mm = 6 - k ∧ (k ≤ 6) ∧ (bn s k = true) ∧ x.ownsRow N27 3 1 (.slice (some ⟨N27, 0, none⟩) 6 6) ([s.boot, s.stream, s.seq, s.ab, s.ast, s.asq] : List Int).length (([s.boot, s.stream, s.seq, s.ab, s.ast, s.asq] : List Int).flatMap (intE .i64)) ∧ x.ownsRow 0 9 1 u L.q.length (L.q.flatMap strE) ∧ But (S) w x ∧ Blk x b 74 #[.int .i64 L.boot, .int .i64 L.stream, .int .i64 L.first, u, .int .i64 L.told, .int .i64 L.peer, .int .i64 L.in0, .int .i64 L.next, .bool L.owes] ∧ Blk x N3 61 #[.int .i64 s.boot, .int .i64 s.stream, .int .i64 s.seq, .int .i64 s.ab, .int .i64 s.ast, .int .i64 s.asq, .bool s.has, .string s.body]) (6 - 0) ?_ ?_
 have hr40 := row_kept_new hr33 hg28
 have hB41 := fbU_new hB0 hg4
 have hB42 := fbU_new hB41 hg28
 have hk43 := hB.kept hg4 (by simp)
 have hk44 := hk43.kept hg28 (by simp)
 have hk45 := hk5.kept hg28 (by simp)
 · exact ⟨0, h39.sub ⟨rfl, rfl, rfl, (slot_eq rfl (congrArg (Value.int .i64) (by first | rfl | omega))), trivial⟩, rfl, by omega, by first | rfl | exact bn_step (by assumption) (by assumption) (by omega), hr38, hr40, hB42, hk44, hk45⟩
 · rintro k46 a47 w48 ⟨k, h47, rfl, hi49, hi50, hf51, hf52, hB53, hk54, hk55⟩
   have hz56 := hB53.size
   have hl57 := hk54.lt
   have hl58 := hk55.lt
   refine co_seq ?_
   refine co_seq ?_
   refine co_reg ?_
   refine pk0 (v := .int .i64 ((k : Nat) : Int)) h47 rfl fun a59 h59 => ?_; clear h47
   refine pk0 (v := .slice (some ⟨N27, 0, none⟩) 6 6) h59 rfl fun a60 h60 => ?_; clear h59
   refine pk0 (v := .int .i64 6) h60 rfl fun a61 h61 => ?_; clear h60
   refine pk0 (v := .bool (decide (((k : Nat) : Int) < 6))) h61 rfl fun a62 h62 => ?_; clear h61
   refine pl_nil ?_
   refine co_then ?_
   cases hc63 : (decide (((k : Nat) : Int) < 6))
   ·
    rw [hc63] at h62
    have hp64 : ¬ (((k : Nat) : Int) < 6) := of_decide_eq_false hc63
    clear hc63
    refine co_false h62 rfl ?_
    refine wp_exit ?_
    refine co_thenX ?_
    refine co_thenX ?_
    refine co_blockX ?_
    refine co_then ?_
    refine co_seq ?_
    refine co_seq ?_
    refine co_reg ?_
    refine pk0 (v := pt N3 0) h62 rfl fun a65 h65 => ?_; clear h62
    refine pk (v := .int .i64 s.boot) h65 rfl (rn_load1 rfl rfl Try.isAgg3 (hk55.cell rfl)) fun a66 h66 => ?_; clear h65
    refine pk0 (v := .bool (s.boot == 0)) h66 rfl fun a67 h67 => ?_; clear h66
    refine pl_nil ?_
    refine co_then ?_
    cases hc68 : (s.boot == 0)
    ·
     rw [hc68] at h67
     have hp69 : ¬ (s.boot = 0) := by first | simpa using hc68 | simpa [and_assoc] using hc68
     clear hc68
     refine co_false h67 rfl ?_
     refine wp_skip ?_
     refine co_then ?_
     refine co_seq ?_
     refine co_seq ?_
     refine dr_eq (by kernel_rfl) (fun w70 hg71 => ?_)
     have hz72 := hg71.size
     refine dk0 0 (v := pt N3 0) h67 rfl rfl rfl fun a73 h73 => ?_; clear h67
     have hk74 := hk55.kept hg71 (by simp)
     refine dk 1 (v := .int .i64 s.boot) h73 rfl rfl rfl (fun x hx => by subst hx; exact (rn_load1 rfl rfl Try.isAgg3 (hk74.cell rfl))) fun a75 h75 => ?_; clear h73
     refine dk0 2 (v := pt b 0) h75 rfl rfl rfl fun a76 h76 => ?_; clear h75
     refine dk0 3 (v := pt b 0) h76 rfl rfl rfl fun a77 h77 => ?_; clear h76
     refine dk0 4 (v := pt b 5) h77 rfl rfl rfl fun a78 h78 => ?_; clear h77
     have hk79 := hk54.kept hg71 (by simp)
     refine dk 5 (v := .int .i64 L.peer) h78 rfl rfl rfl (fun x hx => by subst hx; exact (rn_load1 rfl rfl Try.isAgg3 (hk79.cell rfl))) fun a80 h80 => ?_; clear h78
     refine dk0 6 (v := .bool (decide (s.boot < L.peer))) h80 rfl rfl rfl fun a81 h81 => ?_; clear h80
     refine dr_done (by kernel_rfl) ?_
     refine co_then ?_
     have hB83 := fbU_new hB53 hg71
     cases hc82 : (decide (s.boot < L.peer))
     ·
      rw [hc82] at h81
      have hp84 : ¬ (s.boot < L.peer) := of_decide_eq_false hc82
      clear hc82
      refine co_false h81 rfl ?_
      refine wp_skip ?_
      refine co_then ?_
      refine co_seq ?_
      refine co_reg ?_
      refine pk0 (v := pt b 0) h81 rfl fun a85 h85 => ?_; clear h81
      refine pk (v := .agg #[.int .i64 s.boot, .int .i64 s.stream, .int .i64 s.seq, .int .i64 s.ab, .int .i64 s.ast, .int .i64 s.asq, .bool s.has, .string s.body]) h85 rfl (rn_loadN rfl rfl Try.underlying61 rfl (by kernel_rfl) hk74.all) fun a86 h86 => ?_; clear h85
      have hm : mayT s = true := may_yes (bn_6 (by assumption) (by omega)) (by omega)
      have hmI := mayT_iff.1 hm
      have hmq : 0 ≤ s.asq ∧ s.asq ≤ 1073741824 := hmI.2.2.2.2.2.1
      have hKok : LnOk K := hK ▸ knowT_ok hok hm
      obtain ⟨⟨m1, m2⟩, ⟨m3, m4⟩, ⟨m5, m6⟩, ⟨m7, m8⟩, ⟨m9, m10⟩, ⟨m11, m12⟩, ⟨m13, m14⟩, m15, m16⟩ := id hKok
      obtain ⟨hKq, hKb, hKo⟩ : K.q = L.q ∧ K.boot = L.boot ∧ K.owes = L.owes := hK ▸ knowT_q L s
      refine pw h86 rfl (op_call (args := #[pt b 0, .agg #[.int .i64 s.boot, .int .i64 s.stream, .int .i64 s.seq, .int .i64 s.ab, .int .i64 s.ast, .int .i64 s.asq, .bool s.has, .string s.body]]) (R := fun res xw => res = .tuple #[] ∧ Blk xw b 74 (lnC K u) ∧ But (fun q => q = b) w70 xw) rfl rfl rfl (by kernel_rfl) (by kernel_rfl) (Try.call77 _ _) (rlKnown_blk b u L s w70 hk79 hok ⟨by omega, by omega⟩) (by rintro e x ⟨rfl, h1, h2⟩; rw [← hK] at h1; exact ⟨_, rfl, rfl, h1, h2⟩)) ?_; clear h86
      rintro _ w88 a87 ⟨rfl, hkK89, hx90⟩ h87
      have hz91 := hx90.size
      have hkK89' : Blk w88 b 74 #[.int .i64 K.boot, .int .i64 K.stream, .int .i64 K.first, u, .int .i64 K.told, .int .i64 K.peer, .int .i64 K.in0, .int .i64 K.next, .bool K.owes] := hkK89
      have hr93 := row_kept_new hf52 hg71
      have hr94 := own_but hr93 hx90 (fun i hi hS => by (try simp at hS); subst hS; exact absurd hi (hbu))
      have hr92 := row_eq hr94 hKq.symm
      refine pl_nil ?_
      refine co_then ?_
      have hB95 := fbU_foot hB83 hx90 (fun i hlt hS => by (try simp at hS); first | omega | (simp; omega) | simp_all)
      have hr96 := row_kept_new hf51 hg71
      have hr97 := own_but hr96 hx90 (fun i hi hS => by (try simp at hS); subst hS; exact absurd hi (row_ne_lt hr96 (by omega)))
      refine co_cut (fun a x => ∃ (u2 : Value), Slots 152 [(0, pt b 0), (3, pt N3 0)] a ∧ (InS S w.heap.size u2) ∧ (u2.ownBlock ≠ some b) ∧ Blk x b 74 #[.int .i64 A.boot, .int .i64 A.stream, .int .i64 A.first, u2, .int .i64 A.told, .int .i64 A.peer, .int .i64 A.in0, .int .i64 A.next, .bool A.owes] ∧ x.ownsRow 0 9 1 u2 A.q.length (A.q.flatMap strE) ∧ Blk x N3 61 #[.int .i64 s.boot, .int .i64 s.stream, .int .i64 s.seq, .int .i64 s.ab, .int .i64 s.ast, .int .i64 s.asq, .bool s.has, .string s.body] ∧ But (S) w x) ?_ ?_
      ·
       refine wp_block ?_
       have hI0 : InS S w.heap.size u := ((InS.of (fun i hi => (hSS i).2 (.inr hi))))
       have hn0 : u.ownBlock ≠ some b := hbu
       have h98 : Slots 152 [(0, pt b 0), (3, pt N3 0)] _ := h87.sub ⟨rfl, rfl, trivial⟩; clear h87
       refine co_loop (fun mm a x => ∃ (j : Nat) (u1 : Value) (t : Int), Slots 152 [(0, pt b 0), (3, pt N3 0)] a ∧ mm = K.q.length - j ∧ (j ≤ K.q.length) ∧ ((t = K.told - j ∧ 0 ≤ t) ∨ (t = 0 ∧ K.told ≤ j)) ∧ (j = 0 ∨ (s.ab = K.boot ∧ s.ast = K.stream ∧ K.first + j ≤ s.asq)) ∧ (InS S w.heap.size u1) ∧ (u1.ownBlock ≠ some b) ∧ Blk x b 74 #[.int .i64 K.boot, .int .i64 K.stream, .int .i64 (K.first + (j : Int)), u1, .int .i64 t, .int .i64 K.peer, .int .i64 K.in0, .int .i64 K.next, .bool K.owes] ∧ x.ownsRow 0 9 1 u1 (K.q.drop j).length ((K.q.drop j).flatMap strE) ∧ But (S) w x ∧ Blk x N3 61 #[.int .i64 s.boot, .int .i64 s.stream, .int .i64 s.seq, .int .i64 s.ab, .int .i64 s.ast, .int .i64 s.asq, .bool s.has, .string s.body]) (K.q.length - 0) ?_ ?_
       have hk99 := hk74.but hx90 (by first | omega | (simp; omega))
       · exact ⟨0, u, K.told, h98.sub ⟨rfl, rfl, trivial⟩, rfl, by omega, by omega, by omega, by exact hI0, by exact hn0, (by first | exact hkK89' | (have h := hkK89'; simpa using h) | (have h := hkK89'; rw [show K.first + ((j + 1 : Nat) : Int) = K.first + (j : Int) + 1 by omega]; exact h)), (row_eq (row_lows hr92 (Nat.zero_le _)) (by first | rfl | simp [List.drop_drop, Nat.add_comm])), hB95, hk99⟩
       · rintro k100 a101 w102 ⟨j, u1, t, h101, rfl, hi103, hi104, hi105, hi106, hi107, hf108, hf109, hB110, hk111⟩
         have hz112 := hB110.size
         have hl113 := hk111.lt
         have hl114 := hf108.lt
         have hI1 : InS S w.heap.size u1 := by assumption
         have hn1 : u1.ownBlock ≠ some b := by assumption
         have hdl : (K.q.drop j).length = K.q.length - j := List.length_drop ..
         refine co_seq ?_
         refine co_seq ?_
         refine dr_eq (by kernel_rfl) (fun w115 hg116 => ?_)
         have hz117 := hg116.size
         refine dk0 0 (v := pt N3 3) h101 rfl rfl rfl fun a118 h118 => ?_; clear h101
         have hk119 := hk111.kept hg116 (by simp)
         refine dk 1 (v := .int .i64 s.ab) h118 rfl rfl rfl (fun x hx => by subst hx; exact (rn_load1 rfl rfl Try.isAgg3 (hk119.cell rfl))) fun a120 h120 => ?_; clear h118
         refine dk0 2 (v := pt b 0) h120 rfl rfl rfl fun a121 h121 => ?_; clear h120
         refine dk0 3 (v := pt b 0) h121 rfl rfl rfl fun a122 h122 => ?_; clear h121
         refine dk0 4 (v := pt b 0) h122 rfl rfl rfl fun a123 h123 => ?_; clear h122
         have hk124 := hf108.kept hg116 (by simp)
         refine dk 5 (v := .int .i64 K.boot) h123 rfl rfl rfl (fun x hx => by subst hx; exact (rn_load1 rfl rfl Try.isAgg3 (hk124.cell rfl))) fun a125 h125 => ?_; clear h123
         refine dk0 6 (v := .bool (s.ab == K.boot)) h125 rfl rfl rfl fun a126 h126 => ?_; clear h125
         refine dk0 7 (v := .bool (s.ab == K.boot)) h126 rfl rfl rfl fun a127 h127 => ?_; clear h126
         have hB129 := fbU_new hB110 hg116
         cases hc128 : (s.ab == K.boot)
         ·
          rw [hc128] at h127
          have hp130 : ¬ (s.ab = K.boot) := by first | simpa using hc128 | simpa [and_assoc] using hc128
          clear hc128
          refine dsk 8 h127 rfl rfl rfl fun a131 h131 => ?_; clear h127
          refine dsk 9 h131 rfl rfl rfl fun a132 h132 => ?_; clear h131
          refine dsk 10 h132 rfl rfl rfl fun a133 h133 => ?_; clear h132
          refine dsk 11 h133 rfl rfl rfl fun a134 h134 => ?_; clear h133
          refine dsk 12 h134 rfl rfl rfl fun a135 h135 => ?_; clear h134
          refine dsk 13 h135 rfl rfl rfl fun a136 h136 => ?_; clear h135
          refine dsk 14 h136 rfl rfl rfl fun a137 h137 => ?_; clear h136
          refine dk0 15 (v := .bool false) h137 rfl rfl rfl fun a138 h138 => ?_; clear h137
          refine dk0 16 (v := .bool false) h138 rfl rfl rfl fun a139 h139 => ?_; clear h138
          refine dsk 17 h139 rfl rfl rfl fun a140 h140 => ?_; clear h139
          refine dsk 18 h140 rfl rfl rfl fun a141 h141 => ?_; clear h140
          refine dsk 19 h141 rfl rfl rfl fun a142 h142 => ?_; clear h141
          refine dsk 20 h142 rfl rfl rfl fun a143 h143 => ?_; clear h142
          refine dsk 21 h143 rfl rfl rfl fun a144 h144 => ?_; clear h143
          refine dsk 22 h144 rfl rfl rfl fun a145 h145 => ?_; clear h144
          refine dk0 23 (v := .bool false) h145 rfl rfl rfl fun a146 h146 => ?_; clear h145
          refine dk0 24 (v := .bool false) h146 rfl rfl rfl fun a147 h147 => ?_; clear h146
          refine dsk 25 h147 rfl rfl rfl fun a148 h148 => ?_; clear h147
          refine dsk 26 h148 rfl rfl rfl fun a149 h149 => ?_; clear h148
          refine dsk 27 h149 rfl rfl rfl fun a150 h150 => ?_; clear h149
          refine dsk 28 h150 rfl rfl rfl fun a151 h151 => ?_; clear h150
          refine dsk 29 h151 rfl rfl rfl fun a152 h152 => ?_; clear h151
          refine dsk 30 h152 rfl rfl rfl fun a153 h153 => ?_; clear h152
          refine dsk 31 h153 rfl rfl rfl fun a154 h154 => ?_; clear h153
          refine dk0 32 (v := .bool false) h154 rfl rfl rfl fun a155 h155 => ?_; clear h154
          refine dr_done (by kernel_rfl) ?_
          refine co_then ?_
          refine co_false h155 rfl ?_
          refine wp_exit ?_
          refine co_thenX ?_
          refine co_thenX ?_
          refine co_blockX ?_
          refine co_then ?_
          have hAA : A.first = K.first + (j : Int) ∧ A.q = (K.q.drop j) ∧ A.told = t := ack_k (k := j) hA hKok (by omega) (by omega) (by omega) (by omega)
          have hcA := ackT_c K s; rw [← hA] at hcA
          have hr156 := row_kept_new hf109 hg116
          exact ⟨u1, h155.sub ⟨rfl, rfl, trivial⟩, (hI1), hn1, (by rw [hcA.1, hcA.2.1, hAA.1, hAA.2.2, hcA.2.2.1, hcA.2.2.2.1, hcA.2.2.2.2.1, hcA.2.2.2.2.2]; exact hk124), (row_eq (row_lows hr156 (Nat.zero_le _)) hAA.2.1.symm), hk119, hB129⟩
         ·
          rw [hc128] at h127
          have hp157 : s.ab = K.boot := by first | simpa using hc128 | simpa [and_assoc] using hc128
          clear hc128
          refine dk0 8 (v := pt N3 4) h127 rfl rfl rfl fun a158 h158 => ?_; clear h127
          refine dk 9 (v := .int .i64 s.ast) h158 rfl rfl rfl (fun x hx => by subst hx; exact (rn_load1 rfl rfl Try.isAgg3 (hk119.cell rfl))) fun a159 h159 => ?_; clear h158
          refine dk0 10 (v := pt b 0) h159 rfl rfl rfl fun a160 h160 => ?_; clear h159
          refine dk0 11 (v := pt b 0) h160 rfl rfl rfl fun a161 h161 => ?_; clear h160
          refine dk0 12 (v := pt b 1) h161 rfl rfl rfl fun a162 h162 => ?_; clear h161
          refine dk 13 (v := .int .i64 K.stream) h162 rfl rfl rfl (fun x hx => by subst hx; exact (rn_load1 rfl rfl Try.isAgg3 (hk124.cell rfl))) fun a163 h163 => ?_; clear h162
          refine dk0 14 (v := .bool (s.ast == K.stream)) h163 rfl rfl rfl fun a164 h164 => ?_; clear h163
          refine dk0 15 (v := .bool (s.ast == K.stream)) h164 rfl rfl rfl fun a165 h165 => ?_; clear h164
          refine dk0 16 (v := .bool (s.ast == K.stream)) h165 rfl rfl rfl fun a166 h166 => ?_; clear h165
          cases hc167 : (s.ast == K.stream)
          ·
           rw [hc167] at h166
           have hp168 : ¬ (s.ast = K.stream) := by first | simpa using hc167 | simpa [and_assoc] using hc167
           clear hc167
           refine dsk 17 h166 rfl rfl rfl fun a169 h169 => ?_; clear h166
           refine dsk 18 h169 rfl rfl rfl fun a170 h170 => ?_; clear h169
           refine dsk 19 h170 rfl rfl rfl fun a171 h171 => ?_; clear h170
           refine dsk 20 h171 rfl rfl rfl fun a172 h172 => ?_; clear h171
           refine dsk 21 h172 rfl rfl rfl fun a173 h173 => ?_; clear h172
           refine dsk 22 h173 rfl rfl rfl fun a174 h174 => ?_; clear h173
           refine dk0 23 (v := .bool false) h174 rfl rfl rfl fun a175 h175 => ?_; clear h174
           refine dk0 24 (v := .bool false) h175 rfl rfl rfl fun a176 h176 => ?_; clear h175
           refine dsk 25 h176 rfl rfl rfl fun a177 h177 => ?_; clear h176
           refine dsk 26 h177 rfl rfl rfl fun a178 h178 => ?_; clear h177
           refine dsk 27 h178 rfl rfl rfl fun a179 h179 => ?_; clear h178
           refine dsk 28 h179 rfl rfl rfl fun a180 h180 => ?_; clear h179
           refine dsk 29 h180 rfl rfl rfl fun a181 h181 => ?_; clear h180
           refine dsk 30 h181 rfl rfl rfl fun a182 h182 => ?_; clear h181
           refine dsk 31 h182 rfl rfl rfl fun a183 h183 => ?_; clear h182
           refine dk0 32 (v := .bool false) h183 rfl rfl rfl fun a184 h184 => ?_; clear h183
           refine dr_done (by kernel_rfl) ?_
           refine co_then ?_
           refine co_false h184 rfl ?_
           refine wp_exit ?_
           refine co_thenX ?_
           refine co_thenX ?_
           refine co_blockX ?_
           refine co_then ?_
           have hAA : A.first = K.first + (j : Int) ∧ A.q = (K.q.drop j) ∧ A.told = t := ack_k (k := j) hA hKok (by omega) (by omega) (by omega) (by omega)
           have hcA := ackT_c K s; rw [← hA] at hcA
           have hr185 := row_kept_new hf109 hg116
           exact ⟨u1, h184.sub ⟨rfl, rfl, trivial⟩, (hI1), hn1, (by rw [hcA.1, hcA.2.1, hAA.1, hAA.2.2, hcA.2.2.1, hcA.2.2.2.1, hcA.2.2.2.2.1, hcA.2.2.2.2.2]; exact hk124), (row_eq (row_lows hr185 (Nat.zero_le _)) hAA.2.1.symm), hk119, hB129⟩
          ·
           rw [hc167] at h166
           have hp186 : s.ast = K.stream := by first | simpa using hc167 | simpa [and_assoc] using hc167
           clear hc167
           refine dk0 17 (v := pt b 0) h166 rfl rfl rfl fun a187 h187 => ?_; clear h166
           refine dk0 18 (v := pt b 0) h187 rfl rfl rfl fun a188 h188 => ?_; clear h187
           refine dk0 19 (v := pt b 3) h188 rfl rfl rfl fun a189 h189 => ?_; clear h188
           refine dk 20 (v := u1) h189 rfl rfl rfl (fun x hx => by subst hx; exact (rn_load1 rfl rfl Try.isAgg38 (hk124.cell rfl))) fun a190 h190 => ?_; clear h189
           have hr191 := row_kept_new hf109 hg116
           refine dk 21 (v := .int .i64 (((K.q.drop j).length : Nat) : Int)) h190 rfl rfl rfl (fun x hx => by subst hx; exact (rn_lenOwn rfl rfl Try.underlying38 hr191)) fun a192 h192 => ?_; clear h190
           refine dk0 22 (v := .bool (decide ((((K.q.drop j).length : Nat) : Int) > 0))) h192 rfl rfl rfl fun a193 h193 => ?_; clear h192
           refine dk0 23 (v := .bool (decide ((((K.q.drop j).length : Nat) : Int) > 0))) h193 rfl rfl rfl fun a194 h194 => ?_; clear h193
           refine dk0 24 (v := .bool (decide ((((K.q.drop j).length : Nat) : Int) > 0))) h194 rfl rfl rfl fun a195 h195 => ?_; clear h194
           cases hc196 : (decide ((((K.q.drop j).length : Nat) : Int) > 0))
           ·
            rw [hc196] at h195
            have hp197 : ¬ ((((K.q.drop j).length : Nat) : Int) > 0) := of_decide_eq_false hc196
            clear hc196
            refine dsk 25 h195 rfl rfl rfl fun a198 h198 => ?_; clear h195
            refine dsk 26 h198 rfl rfl rfl fun a199 h199 => ?_; clear h198
            refine dsk 27 h199 rfl rfl rfl fun a200 h200 => ?_; clear h199
            refine dsk 28 h200 rfl rfl rfl fun a201 h201 => ?_; clear h200
            refine dsk 29 h201 rfl rfl rfl fun a202 h202 => ?_; clear h201
            refine dsk 30 h202 rfl rfl rfl fun a203 h203 => ?_; clear h202
            refine dsk 31 h203 rfl rfl rfl fun a204 h204 => ?_; clear h203
            refine dk0 32 (v := .bool false) h204 rfl rfl rfl fun a205 h205 => ?_; clear h204
            refine dr_done (by kernel_rfl) ?_
            refine co_then ?_
            refine co_false h205 rfl ?_
            refine wp_exit ?_
            refine co_thenX ?_
            refine co_thenX ?_
            refine co_blockX ?_
            refine co_then ?_
            have hAA : A.first = K.first + (j : Int) ∧ A.q = (K.q.drop j) ∧ A.told = t := ack_k (k := j) hA hKok (by omega) (by omega) (by omega) (by omega)
            have hcA := ackT_c K s; rw [← hA] at hcA
            exact ⟨u1, h205.sub ⟨rfl, rfl, trivial⟩, (hI1), hn1, (by rw [hcA.1, hcA.2.1, hAA.1, hAA.2.2, hcA.2.2.1, hcA.2.2.2.1, hcA.2.2.2.2.1, hcA.2.2.2.2.2]; exact hk124), (row_eq (row_lows hr191 (Nat.zero_le _)) hAA.2.1.symm), hk119, hB129⟩
           ·
            rw [hc196] at h195
            have hp206 : (((K.q.drop j).length : Nat) : Int) > 0 := of_decide_eq_true hc196
            clear hc196
            refine dk0 25 (v := pt b 0) h195 rfl rfl rfl fun a207 h207 => ?_; clear h195
            refine dk0 26 (v := pt b 0) h207 rfl rfl rfl fun a208 h208 => ?_; clear h207
            refine dk0 27 (v := pt b 2) h208 rfl rfl rfl fun a209 h209 => ?_; clear h208
            refine dk 28 (v := .int .i64 (K.first + (j : Int))) h209 rfl rfl rfl (fun x hx => by subst hx; exact (rn_load1 rfl rfl Try.isAgg3 (hk124.cell rfl))) fun a210 h210 => ?_; clear h209
            refine dk0 29 (v := pt N3 5) h210 rfl rfl rfl fun a211 h211 => ?_; clear h210
            refine dk 30 (v := .int .i64 s.asq) h211 rfl rfl rfl (fun x hx => by subst hx; exact (rn_load1 rfl rfl Try.isAgg3 (hk119.cell rfl))) fun a212 h212 => ?_; clear h211
            refine dk0 31 (v := .bool (decide (K.first + (j : Int) < s.asq))) h212 rfl rfl rfl fun a213 h213 => ?_; clear h212
            refine dk0 32 (v := .bool (decide (K.first + (j : Int) < s.asq))) h213 rfl rfl rfl fun a214 h214 => ?_; clear h213
            refine dr_done (by kernel_rfl) ?_
            refine co_then ?_
            cases hc215 : (decide (K.first + (j : Int) < s.asq))
            ·
             rw [hc215] at h214
             have hp216 : ¬ (K.first + (j : Int) < s.asq) := of_decide_eq_false hc215
             clear hc215
             refine co_false h214 rfl ?_
             refine wp_exit ?_
             refine co_thenX ?_
             refine co_thenX ?_
             refine co_blockX ?_
             refine co_then ?_
             have hAA : A.first = K.first + (j : Int) ∧ A.q = (K.q.drop j) ∧ A.told = t := ack_k (k := j) hA hKok (by omega) (by omega) (by omega) (by omega)
             have hcA := ackT_c K s; rw [← hA] at hcA
             exact ⟨u1, h214.sub ⟨rfl, rfl, trivial⟩, (hI1), hn1, (by rw [hcA.1, hcA.2.1, hAA.1, hAA.2.2, hcA.2.2.1, hcA.2.2.2.1, hcA.2.2.2.2.1, hcA.2.2.2.2.2]; exact hk124), (row_eq (row_lows hr191 (Nat.zero_le _)) hAA.2.1.symm), hk119, hB129⟩
            ·
             rw [hc215] at h214
             have hp217 : K.first + (j : Int) < s.asq := of_decide_eq_true hc215
             clear hc215
             refine co_true h214 rfl ?_
             refine wp_skip ?_
             refine co_then ?_
             refine wp_block ?_
             refine co_seq ?_
             refine co_reg ?_
             refine pk0 (v := pt b 0) h214 rfl fun a218 h218 => ?_; clear h214
             refine pw h218 rfl (op_new (v := fun N => .slice (some ⟨N, 0, none⟩) 0 0) (T := 9) (cs := #[]) (by kernel_rfl) (by kernel_rfl) (by kernel_rfl)) ?_; clear h218
             rintro _ w220 a219 ⟨N221, rfl, hN224, hz225, hk223, hg222⟩ h219
             have ha226 := row_fresh hr191 hN224
             have hu227 := row_under hr191 hN224
             have hz228 := hg222.size
             try dsimp only at h219
             refine pk0 (v := pt b 0) h219 rfl fun a229 h229 => ?_; clear h219
             refine pk0 (v := pt b 0) h229 rfl fun a230 h230 => ?_; clear h229
             refine pk0 (v := pt b 3) h230 rfl fun a231 h231 => ?_; clear h230
             have hk232 := hk124.kept hg222 (by simp)
             refine pk (v := u1) h231 rfl (rn_load1 rfl rfl Try.isAgg38 (hk232.cell rfl)) fun a233 h233 => ?_; clear h231
             have hr234 := row_kept_new hr191 hg222
             refine pk (v := subV u1 1 ((K.q.drop j).length) 1) h233 rfl (rn_sliceFrom rfl rfl rfl Try.underlying38 Try.sizeOf9 (row_sl hr234 strE_len) (by omega) (by omega)) fun a235 h235 => ?_; clear h233
             have hr238 := row_of_blkL hk223 (Nat.le_refl _) 1 strE
             refine pw h235 rfl (op_appendSrc rfl N221 9 (z := .string (⟨#[]⟩)) (size := 1) (bytes := 16) Try.underlying38 (by kernel_rfl) rfl rfl rfl hr238 rfl (sl_drop (row_sl hr234 strE_len) _ (by omega)) (fun y hy => ⟨strE_len y, strE_one y⟩) (by first | omega | (simp only [List.length_nil, List.length_append, List.length_cons, List.length_take, List.length_drop]; omega)) (by first | omega | (simp only [List.length_nil, List.length_append, List.length_cons, List.length_take, List.length_drop]; omega)) (by omega)) ?_; clear h235
             rintro v239 w237 a236 ⟨hr240, hg241⟩ h236
             have hr240' : w237.ownsRow N221 9 1 v239 (((K.q.drop j).drop 1).length) (((K.q.drop j).drop 1).flatMap strE) := row_app (l := []) hr240; clear hr240
             have hz243 := hg241.size
             have hk244 := hk119.kept hg222 (by simp)
             refine pk0 (v := pt b 0) h236 rfl fun a245 h245 => ?_; clear h236
             refine pk0 (v := pt b 3) h245 rfl fun a246 h246 => ?_; clear h245
             have hk252 := hk232.kept hg241 (own_neT hr238 hk232 (by decide))
             refine pwD h246 rfl (op_store1 rfl rfl rfl (row_one hr240') Try.sizeOf38 hk252 rfl) ?_; clear h246
             rintro _ w248 a247 ⟨hk249, hz250, hg251⟩ h247
             have hk249' : Blk w248 b 74 #[.int .i64 K.boot, .int .i64 K.stream, .int .i64 (K.first + (j : Int)), v239, .int .i64 t, .int .i64 K.peer, .int .i64 K.in0, .int .i64 K.next, .bool K.owes] := hk249; clear hk249
             have hz253 := hg251.size
             refine pl_nil ?_
             refine co_then ?_
             refine co_seq ?_
             refine co_reg ?_
             refine pk0 (v := pt b 0) h247 rfl fun a254 h254 => ?_; clear h247
             refine pk0 (v := pt b 0) h254 rfl fun a255 h255 => ?_; clear h254
             refine pk0 (v := pt b 2) h255 rfl fun a256 h256 => ?_; clear h255
             refine pk (v := .int .i64 (K.first + (j : Int))) h256 rfl (rn_load1 rfl rfl Try.isAgg3 (hk249'.cell rfl)) fun a257 h257 => ?_; clear h256
             refine pk (v := .int .i64 ((K.first + (j : Int)) + 1)) h257 rfl (rn_arith rfl rfl rfl rfl rfl rfl (IntWalk.i64_in _ (by omega))) fun a258 h258 => ?_; clear h257
             refine pk0 (v := pt b 0) h258 rfl fun a259 h259 => ?_; clear h258
             refine pk0 (v := pt b 2) h259 rfl fun a260 h260 => ?_; clear h259
             refine pwD h260 rfl (op_store1 rfl rfl rfl rfl Try.sizeOf3 hk249' rfl) ?_; clear h260
             rintro _ w262 a261 ⟨hk263, hz264, hg265⟩ h261
             have hk263' : Blk w262 b 74 #[.int .i64 K.boot, .int .i64 K.stream, .int .i64 ((K.first + (j : Int)) + 1), v239, .int .i64 t, .int .i64 K.peer, .int .i64 K.in0, .int .i64 K.next, .bool K.owes] := hk263; clear hk263
             have hz266 := hg265.size
             refine pl_nil ?_
             refine co_then ?_
             refine co_reg ?_
             refine pk0 (v := pt b 0) h261 rfl fun a267 h267 => ?_; clear h261
             refine pk0 (v := pt b 0) h267 rfl fun a268 h268 => ?_; clear h267
             refine pk0 (v := pt b 0) h268 rfl fun a269 h269 => ?_; clear h268
             refine pk0 (v := pt b 4) h269 rfl fun a270 h270 => ?_; clear h269
             refine pk (v := .int .i64 t) h270 rfl (rn_load1 rfl rfl Try.isAgg3 (hk263'.cell rfl)) fun a271 h271 => ?_; clear h270
             refine pk (v := .int .i64 (t - 1)) h271 rfl (rn_arith rfl rfl rfl rfl rfl rfl (IntWalk.i64_in _ (by omega))) fun a272 h272 => ?_; clear h271
             by_cases hs273 : t - 1 < 0
             ·
              refine pk (v := .int .i64 0) h272 rfl (rn_max2 rfl rfl rfl rfl (by omega)) fun a274 h274 => ?_; clear h272
              refine pk0 (v := pt b 0) h274 rfl fun a275 h275 => ?_; clear h274
              refine pk0 (v := pt b 4) h275 rfl fun a276 h276 => ?_; clear h275
              refine pwD h276 rfl (op_store1 rfl rfl rfl rfl Try.sizeOf3 hk263' rfl) ?_; clear h276
              rintro _ w278 a277 ⟨hk279, hz280, hg281⟩ h277
              have hk279' : Blk w278 b 74 #[.int .i64 K.boot, .int .i64 K.stream, .int .i64 ((K.first + (j : Int)) + 1), v239, .int .i64 0, .int .i64 K.peer, .int .i64 K.in0, .int .i64 K.next, .bool K.owes] := hk279; clear hk279
              have hz282 := hg281.size
              refine pl_nil ?_
              refine co_blockN ?_
              refine co_then ?_
              refine ⟨(K.q.length - (j + 1)), by omega, ?_⟩
              have hr283 := row_kept_at hr240' hg251 (own_neT hr240' hk252 (by decide))
              have hr284 := row_kept_at hr283 hg265 (own_neT hr283 hk249' (by decide))
              have hr285 := row_kept_at hr284 hg281 (own_neT hr284 hk263' (by decide))
              have hI0 : InS S w.heap.size v239 := (InS.low hr285 (by omega))
              have hn0 : v239.ownBlock ≠ some b := (own_neT hr285 hk279' (by decide))
              have hB286 := fbU_new hB129 hg222
              have hB287 := fbU_row hB286 (InS.low hr238 (by omega)) hg241
              have hB288 := fbU_at hB287 hg251 (fun hlt => by rcases hSb with hq | hq; exact hq; omega)
              have hB289 := fbU_at hB288 hg265 (fun hlt => by rcases hSb with hq | hq; exact hq; omega)
              have hB290 := fbU_at hB289 hg281 (fun hlt => by rcases hSb with hq | hq; exact hq; omega)
              have hk291 := hk244.kept hg241 (own_neT hr238 hk244 (by decide))
              have hk292 := hk291.kept hg251 (by simp; omega)
              have hk293 := hk292.kept hg265 (by simp; omega)
              have hk294 := hk293.kept hg281 (by simp; omega)
              exact ⟨j + 1, v239, 0, h277.sub ⟨rfl, rfl, trivial⟩, rfl, by omega, by omega, by omega, by exact hI0, by exact hn0, (by first | exact hk279' | (have h := hk279'; simpa using h) | (have h := hk279'; rw [show K.first + ((j + 1 : Nat) : Int) = K.first + (j : Int) + 1 by omega]; exact h)), (row_eq (row_lows hr285 (Nat.zero_le _)) (by first | rfl | simp [List.drop_drop, Nat.add_comm])), hB290, hk294⟩
             ·
              refine pk (v := .int .i64 (t - 1)) h272 rfl (rn_max1 rfl rfl rfl rfl (by omega)) fun a295 h295 => ?_; clear h272
              refine pk0 (v := pt b 0) h295 rfl fun a296 h296 => ?_; clear h295
              refine pk0 (v := pt b 4) h296 rfl fun a297 h297 => ?_; clear h296
              refine pwD h297 rfl (op_store1 rfl rfl rfl rfl Try.sizeOf3 hk263' rfl) ?_; clear h297
              rintro _ w299 a298 ⟨hk300, hz301, hg302⟩ h298
              have hk300' : Blk w299 b 74 #[.int .i64 K.boot, .int .i64 K.stream, .int .i64 ((K.first + (j : Int)) + 1), v239, .int .i64 (t - 1), .int .i64 K.peer, .int .i64 K.in0, .int .i64 K.next, .bool K.owes] := hk300; clear hk300
              have hz303 := hg302.size
              refine pl_nil ?_
              refine co_blockN ?_
              refine co_then ?_
              refine ⟨(K.q.length - (j + 1)), by omega, ?_⟩
              have hr304 := row_kept_at hr240' hg251 (own_neT hr240' hk252 (by decide))
              have hr305 := row_kept_at hr304 hg265 (own_neT hr304 hk249' (by decide))
              have hr306 := row_kept_at hr305 hg302 (own_neT hr305 hk263' (by decide))
              have hI0 : InS S w.heap.size v239 := (InS.low hr306 (by omega))
              have hn0 : v239.ownBlock ≠ some b := (own_neT hr306 hk300' (by decide))
              have hB307 := fbU_new hB129 hg222
              have hB308 := fbU_row hB307 (InS.low hr238 (by omega)) hg241
              have hB309 := fbU_at hB308 hg251 (fun hlt => by rcases hSb with hq | hq; exact hq; omega)
              have hB310 := fbU_at hB309 hg265 (fun hlt => by rcases hSb with hq | hq; exact hq; omega)
              have hB311 := fbU_at hB310 hg302 (fun hlt => by rcases hSb with hq | hq; exact hq; omega)
              have hk312 := hk244.kept hg241 (own_neT hr238 hk244 (by decide))
              have hk313 := hk312.kept hg251 (by simp; omega)
              have hk314 := hk313.kept hg265 (by simp; omega)
              have hk315 := hk314.kept hg302 (by simp; omega)
              exact ⟨j + 1, v239, (t - 1), h298.sub ⟨rfl, rfl, trivial⟩, rfl, by omega, by omega, by omega, by exact hI0, by exact hn0, (by first | exact hk300' | (have h := hk300'; simpa using h) | (have h := hk300'; rw [show K.first + ((j + 1 : Nat) : Int) = K.first + (j : Int) + 1 by omega]; exact h)), (row_eq (row_lows hr306 (Nat.zero_le _)) (by first | rfl | simp [List.drop_drop, Nat.add_comm])), hB311, hk315⟩
      rintro a316 w317 ⟨u2, h316, hi318, hi319, hf320, hf321, hf322, hB323⟩
      have hz324 := hB323.size
      have hl325 := hf320.lt
      have hl326 := hf322.lt
      have hI2 := hi318
      have hn2 := hi319
      have hAok : LnOk A := hA ▸ ackT_ok hKok hm
      have hcA := ackT_c K s; rw [← hA] at hcA
      have hAn := hAok.next
      refine co_seq ?_
      refine co_seq ?_
      refine co_reg ?_
      refine pk0 (v := pt N3 6) h316 rfl fun a327 h327 => ?_; clear h316
      refine pk (v := .bool s.has) h327 rfl (rn_load1 rfl rfl Try.isAgg4 (hf322.cell rfl)) fun a328 h328 => ?_; clear h327
      cases hc329 : (s.has)
      ·
       rw [hc329] at h328
       refine pk0 (v := .bool true) h328 rfl fun a330 h330 => ?_; clear h328
       refine pl_nil ?_
       refine co_then ?_
       refine co_true h330 rfl ?_
       refine co_seq ?_
       refine co_reg ?_
       refine pk0 (v := .slice none 0 0) h330 rfl fun a331 h331 => ?_; clear h330
       refine pk0 (v := .int .i64 0) h331 rfl fun a332 h332 => ?_; clear h331
       refine pl_nil ?_
       refine co_then ?_
       refine wp_ret ?_
       refine co_thenR ?_
       refine co_ret2 h332 rfl rfl rfl ?_
       have hE : inT L s = ([], 0, A) := inT_c hm (by omega) (hA.trans (by rw [hK])) (by simp_all)
       rw [hE]
       have hok2 : LnOk A := by have h := inT_ok hok s; rw [hE] at h; exact h
       have hbl : Blk w317 b 74 (lnC A u2) := hf320
       obtain ⟨S', hq1, hq2, hq3⟩ := LkU.row3 (L' := A) hU hbl hf321 hI2 (own_neT hf321 hf320 (by decide)) hB323 hok2
       exact ⟨_, _, rfl, ⟨S', hq1, hq2, World.ownsRow_nil _ _ _ _, by simp [Value.ownBlock]⟩, hB323⟩
      ·
       rw [hc329] at h328
       refine pk0 (v := .bool false) h328 rfl fun a333 h333 => ?_; clear h328
       refine pl_nil ?_
       refine co_then ?_
       refine co_false h333 rfl ?_
       refine wp_skip ?_
       refine co_then ?_
       refine co_seq ?_
       refine co_reg ?_
       refine pk0 (v := pt b 0) h333 rfl fun a334 h334 => ?_; clear h333
       refine pk0 (v := pt b 0) h334 rfl fun a335 h335 => ?_; clear h334
       refine pk0 (v := pt b 8) h335 rfl fun a336 h336 => ?_; clear h335
       refine pwD h336 rfl (op_store1 rfl rfl rfl rfl Try.sizeOf4 hf320 rfl) ?_; clear h336
       rintro _ w338 a337 ⟨hk339, hz340, hg341⟩ h337
       have hk339' : Blk w338 b 74 #[.int .i64 A.boot, .int .i64 A.stream, .int .i64 A.first, u2, .int .i64 A.told, .int .i64 A.peer, .int .i64 A.in0, .int .i64 A.next, .bool true] := hk339; clear hk339
       have hz342 := hg341.size
       refine pl_nil ?_
       refine co_then ?_
       refine co_seq ?_
       refine co_seq ?_
       refine dr_eq (by kernel_rfl) (fun w343 hg344 => ?_)
       have hz345 := hg344.size
       refine dk0 0 (v := pt N3 3) h337 rfl rfl rfl fun a346 h346 => ?_; clear h337
       have hk347 := hf322.kept hg341 (by simp; omega)
       have hk348 := hk347.kept hg344 (by simp)
       refine dk 1 (v := .int .i64 s.ab) h346 rfl rfl rfl (fun x hx => by subst hx; exact (rn_load1 rfl rfl Try.isAgg3 (hk348.cell rfl))) fun a349 h349 => ?_; clear h346
       refine dk0 2 (v := pt b 0) h349 rfl rfl rfl fun a350 h350 => ?_; clear h349
       refine dk0 3 (v := pt b 0) h350 rfl rfl rfl fun a351 h351 => ?_; clear h350
       refine dk0 4 (v := pt b 0) h351 rfl rfl rfl fun a352 h352 => ?_; clear h351
       have hk353 := hk339'.kept hg344 (by simp)
       refine dk 5 (v := .int .i64 A.boot) h352 rfl rfl rfl (fun x hx => by subst hx; exact (rn_load1 rfl rfl Try.isAgg3 (hk353.cell rfl))) fun a354 h354 => ?_; clear h352
       refine dk0 6 (v := .bool (s.ab == A.boot)) h354 rfl rfl rfl fun a355 h355 => ?_; clear h354
       refine dk0 7 (v := .bool (s.ab == A.boot)) h355 rfl rfl rfl fun a356 h356 => ?_; clear h355
       have hB358 := fbU_at hB323 hg341 (fun hlt => by rcases hSb with hq | hq; exact hq; omega)
       have hB359 := fbU_new hB358 hg344
       have hr360 := row_kept_at hf321 hg341 (hn2)
       have hr361 := row_kept_new hr360 hg344
       cases hc357 : (s.ab == A.boot)
       ·
        rw [hc357] at h356
        have hp362 : ¬ (s.ab = A.boot) := by first | simpa using hc357 | simpa [and_assoc] using hc357
        clear hc357
        refine dsk 8 h356 rfl rfl rfl fun a363 h363 => ?_; clear h356
        refine dsk 9 h363 rfl rfl rfl fun a364 h364 => ?_; clear h363
        refine dsk 10 h364 rfl rfl rfl fun a365 h365 => ?_; clear h364
        refine dsk 11 h365 rfl rfl rfl fun a366 h366 => ?_; clear h365
        refine dsk 12 h366 rfl rfl rfl fun a367 h367 => ?_; clear h366
        refine dsk 13 h367 rfl rfl rfl fun a368 h368 => ?_; clear h367
        refine dsk 14 h368 rfl rfl rfl fun a369 h369 => ?_; clear h368
        refine dk0 15 (v := .bool false) h369 rfl rfl rfl fun a370 h370 => ?_; clear h369
        refine dk0 16 (v := .bool false) h370 rfl rfl rfl fun a371 h371 => ?_; clear h370
        refine dsk 17 h371 rfl rfl rfl fun a372 h372 => ?_; clear h371
        refine dsk 18 h372 rfl rfl rfl fun a373 h373 => ?_; clear h372
        refine dsk 19 h373 rfl rfl rfl fun a374 h374 => ?_; clear h373
        refine dsk 20 h374 rfl rfl rfl fun a375 h375 => ?_; clear h374
        refine dsk 21 h375 rfl rfl rfl fun a376 h376 => ?_; clear h375
        refine dsk 22 h376 rfl rfl rfl fun a377 h377 => ?_; clear h376
        refine dsk 23 h377 rfl rfl rfl fun a378 h378 => ?_; clear h377
        refine dk0 24 (v := .bool false) h378 rfl rfl rfl fun a379 h379 => ?_; clear h378
        refine dr_done (by kernel_rfl) ?_
        refine co_then ?_
        refine co_false h379 rfl ?_
        refine wp_skip ?_
        refine co_then ?_
        refine co_seq ?_
        refine co_reg ?_
        refine pk0 (v := .slice none 0 0) h379 rfl fun a380 h380 => ?_; clear h379
        refine pk0 (v := .int .i64 0) h380 rfl fun a381 h381 => ?_; clear h380
        refine pl_nil ?_
        refine co_then ?_
        refine wp_ret ?_
        refine co_ret2 h381 rfl rfl rfl ?_
        have hE : inT L s = ([], 0, { A with owes := true }) := inT_d hm (by omega) (hA.trans (by rw [hK])) (by simp_all) (by first | omega | (simp only [beq_iff_eq, beq_eq_false_iff_ne, ne_eq] at *; omega))
        rw [hE]
        have hok2 : LnOk ({ A with owes := true }) := by have h := inT_ok hok s; rw [hE] at h; exact h
        have hbl : Blk w343 b 74 (lnC ({ A with owes := true }) u2) := hk353
        obtain ⟨S', hq1, hq2, hq3⟩ := LkU.row3 (L' := { A with owes := true }) hU hbl hr361 hI2 (own_neT hr361 hk353 (by decide)) hB359 hok2
        exact ⟨_, _, rfl, ⟨S', hq1, hq2, World.ownsRow_nil _ _ _ _, by simp [Value.ownBlock]⟩, hB359⟩
       ·
        rw [hc357] at h356
        have hp382 : s.ab = A.boot := by first | simpa using hc357 | simpa [and_assoc] using hc357
        clear hc357
        refine dk0 8 (v := pt N3 1) h356 rfl rfl rfl fun a383 h383 => ?_; clear h356
        refine dk 9 (v := .int .i64 s.stream) h383 rfl rfl rfl (fun x hx => by subst hx; exact (rn_load1 rfl rfl Try.isAgg3 (hk348.cell rfl))) fun a384 h384 => ?_; clear h383
        refine dk0 10 (v := pt b 0) h384 rfl rfl rfl fun a385 h385 => ?_; clear h384
        refine dk0 11 (v := pt b 0) h385 rfl rfl rfl fun a386 h386 => ?_; clear h385
        refine dk0 12 (v := pt b 6) h386 rfl rfl rfl fun a387 h387 => ?_; clear h386
        refine dk 13 (v := .int .i64 A.in0) h387 rfl rfl rfl (fun x hx => by subst hx; exact (rn_load1 rfl rfl Try.isAgg3 (hk353.cell rfl))) fun a388 h388 => ?_; clear h387
        refine dk0 14 (v := .bool (s.stream == A.in0)) h388 rfl rfl rfl fun a389 h389 => ?_; clear h388
        refine dk0 15 (v := .bool (s.stream == A.in0)) h389 rfl rfl rfl fun a390 h390 => ?_; clear h389
        refine dk0 16 (v := .bool (s.stream == A.in0)) h390 rfl rfl rfl fun a391 h391 => ?_; clear h390
        cases hc392 : (s.stream == A.in0)
        ·
         rw [hc392] at h391
         have hp393 : ¬ (s.stream = A.in0) := by first | simpa using hc392 | simpa [and_assoc] using hc392
         clear hc392
         refine dsk 17 h391 rfl rfl rfl fun a394 h394 => ?_; clear h391
         refine dsk 18 h394 rfl rfl rfl fun a395 h395 => ?_; clear h394
         refine dsk 19 h395 rfl rfl rfl fun a396 h396 => ?_; clear h395
         refine dsk 20 h396 rfl rfl rfl fun a397 h397 => ?_; clear h396
         refine dsk 21 h397 rfl rfl rfl fun a398 h398 => ?_; clear h397
         refine dsk 22 h398 rfl rfl rfl fun a399 h399 => ?_; clear h398
         refine dsk 23 h399 rfl rfl rfl fun a400 h400 => ?_; clear h399
         refine dk0 24 (v := .bool false) h400 rfl rfl rfl fun a401 h401 => ?_; clear h400
         refine dr_done (by kernel_rfl) ?_
         refine co_then ?_
         refine co_false h401 rfl ?_
         refine wp_skip ?_
         refine co_then ?_
         refine co_seq ?_
         refine co_reg ?_
         refine pk0 (v := .slice none 0 0) h401 rfl fun a402 h402 => ?_; clear h401
         refine pk0 (v := .int .i64 0) h402 rfl fun a403 h403 => ?_; clear h402
         refine pl_nil ?_
         refine co_then ?_
         refine wp_ret ?_
         refine co_ret2 h403 rfl rfl rfl ?_
         have hE : inT L s = ([], 0, { A with owes := true }) := inT_d hm (by omega) (hA.trans (by rw [hK])) (by simp_all) (by first | omega | (simp only [beq_iff_eq, beq_eq_false_iff_ne, ne_eq] at *; omega))
         rw [hE]
         have hok2 : LnOk ({ A with owes := true }) := by have h := inT_ok hok s; rw [hE] at h; exact h
         have hbl : Blk w343 b 74 (lnC ({ A with owes := true }) u2) := hk353
         obtain ⟨S', hq1, hq2, hq3⟩ := LkU.row3 (L' := { A with owes := true }) hU hbl hr361 hI2 (own_neT hr361 hk353 (by decide)) hB359 hok2
         exact ⟨_, _, rfl, ⟨S', hq1, hq2, World.ownsRow_nil _ _ _ _, by simp [Value.ownBlock]⟩, hB359⟩
        ·
         rw [hc392] at h391
         have hp404 : s.stream = A.in0 := by first | simpa using hc392 | simpa [and_assoc] using hc392
         clear hc392
         refine dk0 17 (v := pt N3 2) h391 rfl rfl rfl fun a405 h405 => ?_; clear h391
         refine dk 18 (v := .int .i64 s.seq) h405 rfl rfl rfl (fun x hx => by subst hx; exact (rn_load1 rfl rfl Try.isAgg3 (hk348.cell rfl))) fun a406 h406 => ?_; clear h405
         refine dk0 19 (v := pt b 0) h406 rfl rfl rfl fun a407 h407 => ?_; clear h406
         refine dk0 20 (v := pt b 0) h407 rfl rfl rfl fun a408 h408 => ?_; clear h407
         refine dk0 21 (v := pt b 7) h408 rfl rfl rfl fun a409 h409 => ?_; clear h408
         refine dk 22 (v := .int .i64 A.next) h409 rfl rfl rfl (fun x hx => by subst hx; exact (rn_load1 rfl rfl Try.isAgg3 (hk353.cell rfl))) fun a410 h410 => ?_; clear h409
         refine dk0 23 (v := .bool (s.seq == A.next)) h410 rfl rfl rfl fun a411 h411 => ?_; clear h410
         refine dk0 24 (v := .bool (s.seq == A.next)) h411 rfl rfl rfl fun a412 h412 => ?_; clear h411
         refine dr_done (by kernel_rfl) ?_
         refine co_then ?_
         cases hc413 : (s.seq == A.next)
         ·
          rw [hc413] at h412
          have hp414 : ¬ (s.seq = A.next) := by first | simpa using hc413 | simpa [and_assoc] using hc413
          clear hc413
          refine co_false h412 rfl ?_
          refine wp_skip ?_
          refine co_then ?_
          refine co_seq ?_
          refine co_reg ?_
          refine pk0 (v := .slice none 0 0) h412 rfl fun a415 h415 => ?_; clear h412
          refine pk0 (v := .int .i64 0) h415 rfl fun a416 h416 => ?_; clear h415
          refine pl_nil ?_
          refine co_then ?_
          refine wp_ret ?_
          refine co_ret2 h416 rfl rfl rfl ?_
          have hE : inT L s = ([], 0, { A with owes := true }) := inT_d hm (by omega) (hA.trans (by rw [hK])) (by simp_all) (by first | omega | (simp only [beq_iff_eq, beq_eq_false_iff_ne, ne_eq] at *; omega))
          rw [hE]
          have hok2 : LnOk ({ A with owes := true }) := by have h := inT_ok hok s; rw [hE] at h; exact h
          have hbl : Blk w343 b 74 (lnC ({ A with owes := true }) u2) := hk353
          obtain ⟨S', hq1, hq2, hq3⟩ := LkU.row3 (L' := { A with owes := true }) hU hbl hr361 hI2 (own_neT hr361 hk353 (by decide)) hB359 hok2
          exact ⟨_, _, rfl, ⟨S', hq1, hq2, World.ownsRow_nil _ _ _ _, by simp [Value.ownBlock]⟩, hB359⟩
         ·
          rw [hc413] at h412
          have hp417 : s.seq = A.next := by first | simpa using hc413 | simpa [and_assoc] using hc413
          clear hc413
          refine co_true h412 rfl ?_
          refine co_seq ?_
          refine co_reg ?_
          refine pk0 (v := pt b 0) h412 rfl fun a418 h418 => ?_; clear h412
          refine pk0 (v := pt b 0) h418 rfl fun a419 h419 => ?_; clear h418
          refine pk0 (v := pt b 7) h419 rfl fun a420 h420 => ?_; clear h419
          refine pk (v := .int .i64 A.next) h420 rfl (rn_load1 rfl rfl Try.isAgg3 (hk353.cell rfl)) fun a421 h421 => ?_; clear h420
          refine pk (v := .int .i64 (A.next + 1)) h421 rfl (rn_arith rfl rfl rfl rfl rfl rfl (IntWalk.i64_in _ (by omega))) fun a422 h422 => ?_; clear h421
          refine pk0 (v := pt b 0) h422 rfl fun a423 h423 => ?_; clear h422
          refine pk0 (v := pt b 7) h423 rfl fun a424 h424 => ?_; clear h423
          refine pwD h424 rfl (op_store1 rfl rfl rfl rfl Try.sizeOf3 hk353 rfl) ?_; clear h424
          rintro _ w426 a425 ⟨hk427, hz428, hg429⟩ h425
          have hk427' : Blk w426 b 74 #[.int .i64 A.boot, .int .i64 A.stream, .int .i64 A.first, u2, .int .i64 A.told, .int .i64 A.peer, .int .i64 A.in0, .int .i64 (A.next + 1), .bool true] := hk427; clear hk427
          have hz430 := hg429.size
          refine pl_nil ?_
          refine co_then ?_
          refine co_seq ?_
          refine co_reg ?_
          refine pk0 (v := pt N3 7) h425 rfl fun a431 h431 => ?_; clear h425
          have hk432 := hk348.kept hg429 (by simp; omega)
          refine pk (v := .string s.body) h431 rfl (rn_load1 rfl rfl Try.isAgg9 (hk432.cell rfl)) fun a433 h433 => ?_; clear h431
          refine pw h433 rfl (op_new (v := fun N => .slice (some ⟨N, 0, none⟩) 1 1) (T := 9) (cs := #[.string s.body]) (by kernel_rfl) (by kernel_rfl) (by kernel_rfl)) ?_; clear h433
          rintro _ w435 a434 ⟨N436, rfl, hN439, hz440, hk438, hg437⟩ h434
          have hr442 := row_kept_at hr361 hg429 (hn2)
          have ha441 := row_fresh hr442 hN439
          have hu443 := row_under hr442 hN439
          have hz444 := hg437.size
          try dsimp only at h434
          refine pk0 (v := .slice (some ⟨N436, 0, none⟩) 1 1) h434 rfl fun a445 h445 => ?_; clear h434
          refine pk0 (v := .int .i64 0) h445 rfl fun a446 h446 => ?_; clear h445
          refine pl_nil ?_
          refine co_then ?_
          refine wp_ret ?_
          refine co_thenR ?_
          refine co_ret2 h446 rfl rfl rfl ?_
          have hr447 := row_kept_new hr442 hg437
          have hk448 := hk427'.kept hg437 (by simp)
          have hB449 := fbU_at hB359 hg429 (fun hlt => by rcases hSb with hq | hq; exact hq; omega)
          have hB450 := fbU_new hB449 hg437
          have hE : inT L s = ([s.body], 0, { A with owes := true, next := A.next + 1 }) := inT_e hm (by omega) (hA.trans (by rw [hK])) (by simp_all) (by first | omega | (simp only [beq_iff_eq, beq_eq_false_iff_ne, ne_eq] at *; omega))
          rw [hE]
          have hok2 : LnOk ({ A with owes := true, next := A.next + 1 }) := by have h := inT_ok hok s; rw [hE] at h; exact h
          have hbl : Blk w435 b 74 (lnC ({ A with owes := true, next := A.next + 1 }) u2) := hk448
          obtain ⟨S', hq1, hq2, hq3⟩ := LkU.row3 (L' := { A with owes := true, next := A.next + 1 }) hU hbl hr447 hI2 (own_neT hr447 hk448 (by decide)) hB450 hok2
          have hrv := row_of_cells (enc := strE) (sz := 1) ([s.body] : List ByteArray) hk438 (Nat.le_refl _) rfl rfl (by unfold maxLen; simp)
          exact ⟨_, _, rfl, ⟨S', hq1, hq2, row_lows hrv (by omega), fun i hi => by simp only [Value.ownBlock, Option.some.injEq] at hi; subst hi; exact hq3 _ (by omega) ha441⟩, hB450⟩
     ·
      rw [hc82] at h81
      have hp451 : s.boot < L.peer := of_decide_eq_true hc82
      clear hc82
      refine co_true h81 rfl ?_
      refine co_seq ?_
      refine co_reg ?_
      refine pk0 (v := .slice none 0 0) h81 rfl fun a452 h452 => ?_; clear h81
      refine pk0 (v := .int .i64 0) h452 rfl fun a453 h453 => ?_; clear h452
      refine pl_nil ?_
      refine co_then ?_
      refine wp_ret ?_
      refine co_thenR ?_
      refine co_ret2 h453 rfl rfl rfl ?_
      have hr454 := row_kept_new hf52 hg71
      have hE := (inT_b (by first | assumption | exact may_yes (bn_6 (by assumption) (by omega)) (by omega)) (by omega) : inT L s = ([], 0, L))
      rw [hE]
      exact ⟨u, _, rfl, ⟨S, (LkU.same' hU hB83 hk79 hr454).1, (LkU.same' hU hB83 hk79 hr454).2, World.ownsRow_nil _ _ _ _, by simp [Value.ownBlock]⟩, hB83⟩
    ·
     rw [hc68] at h67
     have hp455 : s.boot = 0 := by first | simpa using hc68 | simpa [and_assoc] using hc68
     clear hc68
     refine co_true h67 rfl ?_
     refine co_seq ?_
     refine co_reg ?_
     refine pk0 (v := .slice none 0 0) h67 rfl fun a456 h456 => ?_; clear h67
     refine pk0 (v := .int .i64 1) h456 rfl fun a457 h457 => ?_; clear h456
     refine pl_nil ?_
     refine co_then ?_
     refine wp_ret ?_
     refine co_thenR ?_
     refine co_ret2 h457 rfl rfl rfl ?_
     have hE := (inT_a (by first | exact may_zero (by omega) | exact may_out (by assumption) (by omega) | assumption) : inT L s = ([], 1, L))
     rw [hE]
     exact ⟨u, _, rfl, ⟨S, (LkU.same' hU hB53 hk54 hf52).1, (LkU.same' hU hB53 hk54 hf52).2, World.ownsRow_nil _ _ _ _, by simp [Value.ownBlock]⟩, hB53⟩
   ·
    rw [hc63] at h62
    have hp458 : ((k : Nat) : Int) < 6 := of_decide_eq_true hc63
    clear hc63
    refine co_true h62 rfl ?_
    refine wp_skip ?_
    refine co_then ?_
    refine co_seq ?_
    refine wp_block ?_
    refine co_seq ?_
    refine co_reg ?_
    refine pk0 (v := .slice (some ⟨N27, 0, none⟩) 6 6) h62 rfl fun a459 h459 => ?_; clear h62
    refine pk0 (v := .int .i64 ((k : Nat) : Int)) h459 rfl fun a460 h460 => ?_; clear h459
    obtain ⟨y461, hy461⟩ : ∃ z, ([s.boot, s.stream, s.seq, s.ab, s.ast, s.asq] : List Int)[k]? = some z := ⟨_, List.getElem?_eq_getElem (by first | omega | (simp; done) | (simp; omega))⟩
    refine pk (v := pt (blkOf (.slice (some ⟨N27, 0, none⟩) 6 6)) (offOf (.slice (some ⟨N27, 0, none⟩) 6 6) + k * 1)) h460 rfl (rn_index rfl rfl rfl Try.underlying93 Try.sizeOf3 (row_sl hf51 intE_lenL) (by omega) (by first | omega | (simp; done) | (simp; omega))) fun a462 h462 => ?_; clear h460
    refine pk (v := .int .i64 y461) h462 rfl (rn_load1 rfl rfl Try.isAgg3 ((sl_at (row_sl hf51 intE_lenL) hy461) 0 _ rfl)) fun a463 h463 => ?_; clear h462
    refine pk0 (v := .bool (decide (y461 < 0))) h463 rfl fun a464 h464 => ?_; clear h463
    refine pk0 (v := .bool (decide (y461 < 0))) h464 rfl fun a465 h465 => ?_; clear h464
    cases hc466 : (decide (y461 < 0))
    ·
     rw [hc466] at h465
     have hp467 : ¬ (y461 < 0) := of_decide_eq_false hc466
     clear hc466
     refine pk0 (v := .slice (some ⟨N27, 0, none⟩) 6 6) h465 rfl fun a468 h468 => ?_; clear h465
     refine pk0 (v := .int .i64 ((k : Nat) : Int)) h468 rfl fun a469 h469 => ?_; clear h468
     refine pk (v := pt (blkOf (.slice (some ⟨N27, 0, none⟩) 6 6)) (offOf (.slice (some ⟨N27, 0, none⟩) 6 6) + k * 1)) h469 rfl (rn_index rfl rfl rfl Try.underlying93 Try.sizeOf3 (row_sl hf51 intE_lenL) (by omega) (by first | omega | (simp; done) | (simp; omega))) fun a470 h470 => ?_; clear h469
     refine pk (v := .int .i64 y461) h470 rfl (rn_load1 rfl rfl Try.isAgg3 ((sl_at (row_sl hf51 intE_lenL) hy461) 0 _ rfl)) fun a471 h471 => ?_; clear h470
     refine pk0 (v := .bool (decide (y461 > 1073741824))) h471 rfl fun a472 h472 => ?_; clear h471
     refine pk0 (v := .bool (decide (y461 > 1073741824))) h472 rfl fun a473 h473 => ?_; clear h472
     refine pl_nil ?_
     refine co_then ?_
     cases hc474 : (decide (y461 > 1073741824))
     ·
      rw [hc474] at h473
      have hp475 : ¬ (y461 > 1073741824) := of_decide_eq_false hc474
      clear hc474
      refine co_false h473 rfl ?_
      refine wp_skip ?_
      refine co_blockN ?_
      refine co_then ?_
      refine co_reg ?_
      refine pk0 (v := .int .i64 ((k : Nat) : Int)) h473 rfl fun a476 h476 => ?_; clear h473
      refine pk (v := .int .i64 ((k + 1 : Nat) : Int)) h476 rfl (rn_arith' rfl rfl rfl rfl rfl rfl (IntWalk.i64_in _ (by omega)) (by omega)) fun a477 h477 => ?_; clear h476
      refine pk0 (v := .int .i64 ((k + 1 : Nat) : Int)) h477 rfl fun a478 h478 => ?_; clear h477
      refine pl_nil ?_
      refine co_then ?_
      refine ⟨(6 - (k + 1)), by omega, ?_⟩
      exact ⟨k + 1, h478.sub ⟨rfl, rfl, rfl, rfl, trivial⟩, rfl, by omega, by first | rfl | exact bn_step (by assumption) (by assumption) (by omega), hf51, hf52, hB53, hk54, hk55⟩
     ·
      rw [hc474] at h473
      have hp479 : y461 > 1073741824 := of_decide_eq_true hc474
      clear hc474
      refine co_true h473 rfl ?_
      refine co_seq ?_
      refine co_reg ?_
      refine pk0 (v := .slice none 0 0) h473 rfl fun a480 h480 => ?_; clear h473
      refine pk0 (v := .int .i64 1) h480 rfl fun a481 h481 => ?_; clear h480
      refine pl_nil ?_
      refine co_then ?_
      refine wp_ret ?_
      refine co_blockR ?_
      refine co_thenR ?_
      refine co_thenR ?_
      refine co_blockR ?_
      refine co_thenR ?_
      refine co_ret2 h481 rfl rfl rfl ?_
      have hE := (inT_a (by first | exact may_zero (by omega) | exact may_out (by assumption) (by omega) | assumption) : inT L s = ([], 1, L))
      rw [hE]
      exact ⟨u, _, rfl, ⟨S, (LkU.same' hU hB53 hk54 hf52).1, (LkU.same' hU hB53 hk54 hf52).2, World.ownsRow_nil _ _ _ _, by simp [Value.ownBlock]⟩, hB53⟩
    ·
     rw [hc466] at h465
     have hp482 : y461 < 0 := of_decide_eq_true hc466
     clear hc466
     refine psk h465 rfl fun a483 h483 => ?_; clear h465
     refine psk h483 rfl fun a484 h484 => ?_; clear h483
     refine psk h484 rfl fun a485 h485 => ?_; clear h484
     refine psk h485 rfl fun a486 h486 => ?_; clear h485
     refine psk h486 rfl fun a487 h487 => ?_; clear h486
     refine pk0 (v := .bool true) h487 rfl fun a488 h488 => ?_; clear h487
     refine pl_nil ?_
     refine co_then ?_
     refine co_true h488 rfl ?_
     refine co_seq ?_
     refine co_reg ?_
     refine pk0 (v := .slice none 0 0) h488 rfl fun a489 h489 => ?_; clear h488
     refine pk0 (v := .int .i64 1) h489 rfl fun a490 h490 => ?_; clear h489
     refine pl_nil ?_
     refine co_then ?_
     refine wp_ret ?_
     refine co_blockR ?_
     refine co_thenR ?_
     refine co_thenR ?_
     refine co_blockR ?_
     refine co_thenR ?_
     refine co_ret2 h490 rfl rfl rfl ?_
     have hE := (inT_a (by first | exact may_zero (by omega) | exact may_out (by assumption) (by omega) | assumption) : inT L s = ([], 1, L))
     rw [hE]
     exact ⟨u, _, rfl, ⟨S, (LkU.same' hU hB53 hk54 hf52).1, (LkU.same' hU hB53 hk54 hf52).2, World.ownsRow_nil _ _ _ _, by simp [Value.ownBlock]⟩, hB53⟩
end Go.Proofs.Ythmljllgfigebaa
