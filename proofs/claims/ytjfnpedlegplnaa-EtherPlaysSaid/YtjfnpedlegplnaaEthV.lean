/- Package ether and catenaref21: Take of none, Drop; Same of one list; Double of none and of too many. Conditions: at most 1000 packets. -/
import Derived.Test.YtjfnpedlegplnaaEthT
import Derived.BigQuiet
namespace Go.Proofs.Ytjfnpedlegplnaa
open Go.RowKit Go.PlainAid

theorem EthPost.trans {b : Nat} {v : Value} {w w1 w2 : World} {l1 l2 : List PktT} {n1 n2 : Int} (h1 : EthPost b v w l1 n1 w1) (h2 : ∀ v1, Eth w1 b v1 l1 n1 → EthPost b v1 w1 l2 n2 w2) : EthPost b v w l2 n2 w2 := by
  obtain ⟨v1, e1, b1, o1⟩ := h1
  obtain ⟨v2, e2, b2, o2⟩ := h2 v1 e1
  refine ⟨v2, e2, b1.trans' b2 (fun i hi hs => ?_), fun g hg => ?_⟩
  · rcases hs with hs | hs
    · exact .inl hs
    · rcases o1 i hs with k | k
      · exact .inr k
      · omega
  · rcases o2 g hg with k | k
    · exact o1 g k
    · exact .inr (Nat.le_trans b1.size k)
theorem RPost.trans {b : Nat} {v : Value} {w w1 w2 : World} {l1 l2 : List PktT} {n1 n2 : Int} (h1 : RPost b v w l1 n1 w1) (h2 : ∀ v1, REth w1 b v1 l1 n1 → RPost b v1 w1 l2 n2 w2) : RPost b v w l2 n2 w2 := by
  obtain ⟨v1, e1, b1, o1⟩ := h1
  obtain ⟨v2, e2, b2, o2⟩ := h2 v1 e1
  refine ⟨v2, e2, b1.trans b2, fun g hg => ?_⟩
  rcases o2 g hg with k | k
  · exact o1 g k
  · exact .inr (Nat.le_trans b1.size k)
set_option maxRecDepth 100000 in
set_option maxHeartbeats 800000 in
theorem etake_none (w : World) (b : Nat) (v : Value) (n k : Int) (h : Eth w b v [] n) :
    Calls Try.prog 62 #[.pointer (some ⟨b, 0, none⟩), .int .i64 k] w fun e w' => e = .returned (.tuple #[.agg #[.int .i64 0, .int .i64 0, .string ⟨#[]⟩], .int .i64 7]) ∧ EthPost b v w [] n w' := by
  have HE := Lib.hid h
  have HE1 := Lib.hid (h.kept (w' := w.alloc (.cells #[.int .i64 0, .int .i64 0, .string ⟨#[]⟩] 110)) ((Below.refl _ w).alloc (Nat.le_refl _) _))
  have r0 : (w.alloc (.cells #[.int .i64 0, .int .i64 0, .string ⟨#[]⟩] 110)).cell? ⟨w.heap.size, 0, none⟩ = some (.int .i64 0) := by rw [World.cell?_alloc_mark]; rfl
  have r1 : (w.alloc (.cells #[.int .i64 0, .int .i64 0, .string ⟨#[]⟩] 110)).cell? ⟨w.heap.size, 1, none⟩ = some (.int .i64 0) := by rw [World.cell?_alloc_mark]; rfl
  have r2 : (w.alloc (.cells #[.int .i64 0, .int .i64 0, .string ⟨#[]⟩] 110)).cell? ⟨w.heap.size, 2, none⟩ = some (.string ⟨#[]⟩) := by rw [World.cell?_alloc_mark]; rfl
  clear h
  go_enter Try.func62, Try.ntmps62
  go_wp2_with (first
    | (go_at_call 103; refine (zero_made _ _ _ _ _ HE1.out).mono ?_; rintro e w1 ⟨rfl, rfl⟩)
    | (go_at_call 68; refine (elen_made _ _ _ _ _ HE1.out).mono ?_; rintro e w1 ⟨rfl, rfl⟩))
  exact bodyPost_ret (v := .tuple #[.agg #[.int .i64 0, .int .i64 0, .string ⟨#[]⟩], .int .i64 7]) (by simp [results, Try.results62, go_sem, r0, r1, r2]) rfl ⟨rfl, EthPost.kept HE.out ((Below.refl _ _).alloc (Nat.le_refl _) _)⟩
set_option maxRecDepth 100000 in
set_option maxHeartbeats 800000 in
theorem rtake_none (w : World) (b : Nat) (v : Value) (n k : Int) (h : REth w b v [] n) :
    Calls Try.prog 63 #[.pointer (some ⟨b, 0, none⟩), .int .i64 k] w fun e w' => e = .returned (.tuple #[.agg #[.int .i64 0, .int .i64 0, .string ⟨#[]⟩], .int .i64 7]) ∧ RPost b v w [] n w' := by
  have HE := Lib.hid h
  have hbl := h.lt
  have c0 := h.c0
  obtain ⟨ao, cap, rfl, _⟩ := h.slice
  have r0 : (w.alloc (.cells #[.int .i64 0, .int .i64 0, .string ⟨#[]⟩] 110)).cell? ⟨w.heap.size, 0, none⟩ = some (.int .i64 0) := by rw [World.cell?_alloc_mark]; rfl
  have r1 : (w.alloc (.cells #[.int .i64 0, .int .i64 0, .string ⟨#[]⟩] 110)).cell? ⟨w.heap.size, 1, none⟩ = some (.int .i64 0) := by rw [World.cell?_alloc_mark]; rfl
  have r2 : (w.alloc (.cells #[.int .i64 0, .int .i64 0, .string ⟨#[]⟩] 110)).cell? ⟨w.heap.size, 2, none⟩ = some (.string ⟨#[]⟩) := by rw [World.cell?_alloc_mark]; rfl
  clear h
  go_enter Try.func63, Try.ntmps63
  go_wp2
  exact bodyPost_ret (v := .tuple #[.agg #[.int .i64 0, .int .i64 0, .string ⟨#[]⟩], .int .i64 7]) (by simp [results, Try.results63, go_sem, r0, r1, r2]) rfl ⟨rfl, RPost.kept HE.out ((Below.refl _ _).alloc (Nat.le_refl _) _)⟩
set_option maxRecDepth 100000 in
set_option maxHeartbeats 800000 in
theorem edrop_none (w : World) (b : Nat) (v : Value) (n k : Int) (h : Eth w b v [] n) :
    Calls Try.prog 64 #[.pointer (some ⟨b, 0, none⟩), .int .i64 k] w fun e w' => e = .returned (.int .i64 7) ∧ EthPost b v w [] n w' := by
  have HE := Lib.hid h; clear h
  go_enter Try.func64, Try.ntmps64
  go_wp2_with fail
  refine (etake_none _ b v n _ HE.out).mono ?_
  rintro e w1 ⟨rfl, hp⟩
  have HP := Lib.hid hp; clear hp
  go_wp2
  go_ret
  exact ⟨rfl, HP.out.trans (fun v1 e1 => EthPost.kept e1 ((Below.refl _ _).alloc (Nat.le_refl _) _))⟩
set_option maxRecDepth 100000 in
set_option maxHeartbeats 800000 in
theorem edrop_made (w : World) (b : Nat) (v : Value) (l : List PktT) (n k : Int) (i : Nat) (fr to : Int) (bd : ByteArray) (h : Eth w b v l n) (hl : l.length ≤ 1000) (hk : (Lit.int .i64 k).wf = true) (h0 : 0 < l.length) (hi : k.toNat % l.length = i) (hil : i < l.length) (hp : l[i] = (fr, to, bd)) (hn0 : 0 ≤ n) (hn1 : n ≤ 1073741824) :
    Calls Try.prog 64 #[.pointer (some ⟨b, 0, none⟩), .int .i64 k] w fun e w' => e = .returned (.int .i64 0) ∧ EthPost b v w (l.take i ++ l.drop (i + 1)) (lostN n) w' := by
  have HE := Lib.hid h; have HQP := Lib.hid hp; have HI := Lib.hid hi; clear h hp hi
  go_enter Try.func64, Try.ntmps64
  go_wp2_with fail
  refine (etake_made _ b v l n k i fr to bd HE.out hl hk h0 HI.out hil HQP.out).mono ?_
  rintro e w1 ⟨rfl, hp⟩
  have HP := Lib.hid hp
  obtain ⟨v1, he1, _, _⟩ := hp
  have HE1 := Lib.hid (he1.kept (w' := w1.alloc (.cells #[.int .i64 fr, .int .i64 to, .string bd] 110)) ((Below.refl _ _).alloc (Nat.le_refl _) _))
  clear he1
  go_wp2_with (go_at_call 105; refine (lose_any _ _ _ _ _ HE1.out hn0 hn1).mono ?_; rintro e w2 ⟨rfl, hw2⟩; have HW2 := Lib.hid hw2; clear hw2)
  go_ret
  exact ⟨rfl, HP.out.trans (fun v1 e1 => by rw [HW2.out]; exact (EthPost.lost (e1.kept (w' := w1.alloc (.cells #[.int .i64 fr, .int .i64 to, .string bd] 110)) ((Below.refl _ _).alloc (Nat.le_refl _) _))).after ((Below.refl _ _).alloc (Nat.le_refl _) _))⟩
set_option maxRecDepth 100000 in
set_option maxHeartbeats 800000 in
theorem rdrop_none (w : World) (b : Nat) (v : Value) (n k : Int) (h : REth w b v [] n) :
    Calls Try.prog 65 #[.pointer (some ⟨b, 0, none⟩), .int .i64 k] w fun e w' => e = .returned (.int .i64 7) ∧ RPost b v w [] n w' := by
  have HE := Lib.hid h; clear h
  go_enter Try.func65, Try.ntmps65
  go_wp2_with fail
  refine (rtake_none _ b v n _ HE.out).mono ?_
  rintro e w1 ⟨rfl, hp⟩
  have HP := Lib.hid hp; clear hp
  go_wp2
  go_ret
  exact ⟨rfl, HP.out.trans (fun v1 e1 => RPost.kept e1 ((Below.refl _ _).alloc (Nat.le_refl _) _))⟩
set_option maxRecDepth 100000 in
set_option maxHeartbeats 800000 in
theorem edouble_none (w : World) (b : Nat) (v : Value) (n k : Int) (h : Eth w b v [] n) :
    Calls Try.prog 66 #[.pointer (some ⟨b, 0, none⟩), .int .i64 k] w fun e w' => e = .returned (.int .i64 7) ∧ w = w' := by
  have HE := Lib.hid h; clear h
  go_enter Try.func66, Try.ntmps66
  go_wp2_with (first
    | (go_at_call 103; refine (zero_made _ _ _ _ _ HE.out).mono ?_; rintro e w1 ⟨rfl, rfl⟩)
    | (go_at_call 68; refine (elen_made _ _ _ _ _ HE.out).mono ?_; rintro e w1 ⟨rfl, rfl⟩))
  go_ret
  exact ⟨rfl, rfl⟩
set_option maxRecDepth 100000 in
set_option maxHeartbeats 800000 in
theorem rdouble_none (w : World) (b : Nat) (v : Value) (n k : Int) (h : REth w b v [] n) :
    Calls Try.prog 67 #[.pointer (some ⟨b, 0, none⟩), .int .i64 k] w fun e w' => e = .returned (.int .i64 7) ∧ w = w' := by
  have c0 := h.c0
  obtain ⟨ao, cap, rfl, _⟩ := h.slice
  clear h
  go_enter Try.func67, Try.ntmps67
  go_wp2
  go_ret
  exact ⟨rfl, rfl⟩
theorem neq_pkt (a : PktT) (w : World) : (binOp .neq 110 (pktV a) (pktV a)).run Try.prog w = .ok (.bool false) w := by
  have u := Try.underlying3
  have us := Try.underlying9
  have hS : Try.prog.underlying 110 = some (.struct (Try.prog.fieldsOf 110)) := by kernel_rfl
  have hp : Try.prog.stoodInHeld 110 = false := by kernel_rfl
  obtain ⟨a1, a2, a3⟩ := a
  unfold pktV
  rw [run_neq_struct, show (10000 : Nat) = 9999 + 1 from rfl, run_equalIn_agg w 9999 110 _ _ hS hp]
  simp only [Program.fieldsOf, Try.underlying110]
  go_simp
theorem rangePE {w : World} {ao : Option Addr} {n cap : Nat} {l : List PktT} (h : SliceOf pktE 3 w (.slice ao n cap) l) (i : Nat) (hi : i < l.length) : ∃ b off, ao = some ⟨b, off, none⟩ ∧ w.rangeAt b (off + i * 3) (pktE l[i]) := by
  obtain ⟨a', c', e1, _, _, _, hx⟩ := h
  obtain ⟨b, off, e2, hr⟩ := hx i hi
  simp only [Value.slice.injEq] at e1
  exact ⟨b, off, by rw [e1.1, e2], hr⟩
set_option maxRecDepth 100000 in
set_option maxHeartbeats 800000 in
/-- A list is itself. -/
theorem samep_any (u v : Value) (l : List PktT) (w : World) (hu : SliceOf pktE 3 w u l) (hv : SliceOf pktE 3 w v l) :
    Calls Try.prog 70 #[u, v] w fun e w' => e = .returned (.bool true) ∧ Below w.heap.size w w' := by
  have HU := Lib.hid hu; have HV := Lib.hid hv
  obtain ⟨ao, cap, rfl, hcap, hcm, _, _⟩ := hu
  obtain ⟨a2, c2, rfl, hcap2, hcm2, _, _⟩ := hv
  go_enter Try.func70, Try.ntmps70
  go_wp2
  go_loopg [5] (l.length + 1) (fun g s5 wr => ∃ i : Nat, s5 = .int .i64 i ∧ i ≤ l.length ∧ l.length + 1 ≤ i + g ∧ Hid (SliceOf pktE 3 wr (.slice ao l.length cap) l) ∧ Hid (SliceOf pktE 3 wr (.slice a2 l.length c2) l) ∧ Hid (Below w.heap.size w wr))
  case atStart => exact ⟨0, rfl, by omega, by omega, HU, HV, Lib.hid (Below.refl _ _)⟩
  case round =>
    obtain ⟨i, rfl, hi, hg, H1, H2, HB⟩ := hrel
    by_cases hlt : i < l.length
    · obtain ⟨b, off, rfl, k1⟩ := rangePE H1.out i hlt
      obtain ⟨b', off', rfl, k2⟩ := rangePE H2.out i hlt
      obtain ⟨⟨fr, to, bd⟩, hs⟩ : ∃ s, l[i] = s := ⟨_, rfl⟩
      rw [hs] at k1 k2
      have y0 : wr.cell? ⟨b, off + i * 3, none⟩ = some (.int .i64 fr) := k1 0 _ rfl
      have y1 : wr.cell? ⟨b, off + i * 3 + 1, none⟩ = some (.int .i64 to) := k1 1 _ rfl
      have y2 : wr.cell? ⟨b, off + i * 3 + 2, none⟩ = some (.string bd) := k1 2 _ rfl
      have z0 : wr.cell? ⟨b', off' + i * 3, none⟩ = some (.int .i64 fr) := k2 0 _ rfl
      have z1 : wr.cell? ⟨b', off' + i * 3 + 1, none⟩ = some (.int .i64 to) := k2 1 _ rfl
      have z2 : wr.cell? ⟨b', off' + i * 3 + 2, none⟩ = some (.string bd) := k2 2 _ rfl
      have hnq := neq_pkt (fr, to, bd)
      unfold pktV at hnq
      dsimp only at hnq
      have hd : decide ((i : Int) < (l.length : Int)) = true := decide_eq_true (by omega)
      clear hs k1 k2
      go_wp2_with fail
      go_quiet (fail)
      obtain ⟨z, hz⟩ : ∃ z, z = nq := ⟨_, rfl⟩
      rw [← hz]; clear hz
      go_wp2
      go_roundg (gk - 1)
      case rel => exact ⟨i + 1, by go_num, by omega, by omega, Lib.hid (H1.out.below (below_draws (Below.refl _ _) z)), Lib.hid (H2.out.below (below_draws (Below.refl _ _) z)), Lib.hid (below_draws HB.out z)⟩
      case measure => omega
    · have hd : decide ((i : Int) < (l.length : Int)) = false := decide_eq_false (by omega)
      go_wp2
      go_ret
      exact ⟨rfl, HB.out⟩
end Go.Proofs.Ytjfnpedlegplnaa
