/- catenalaw22: awake. Conditions: none. -/
import Derived.Test.YthmljllgfigebaaLinkMpLo
import Derived.Test.YthmljllgfigebaaPexVLo
namespace Go.Proofs.Ythmljllgfigebaa
open Go.RowKit Go.PlainAid
set_option linter.unusedVariables false


/-- Texts are said one behind the other. -/
def says (g : ByteArray) (ms : List ByteArray) : ByteArray := ms.foldl (· ++ ·) g
theorem says_app (g : ByteArray) (a b : List ByteArray) : says g (a ++ b) = says (says g a) b := List.foldl_append
theorem says_step {g : ByteArray} {l : List ByteArray} {j : Nat} {y : ByteArray} (h : l[j]? = some y) : says g (l.take j) ++ y = says g (l.take (j + 1)) := by rw [List.take_add_one, h, says_app]; rfl
def awI : Nat → LnT × LnT × ByteArray
  | 0 => ((sendT (newLn 1) ⟨#[120]⟩).2, newLn 1, ⟨#[]⟩)
  | i + 1 =>
    let A := (awI i).1; let B := (awI i).2.1; let g := (awI i).2.2
    let B1 := feed B (outT A true)
    (feed (outN A) (outT B1 true), outN B1, says g (heard B (outT A true)))
theorem awI_end : (awI 4).1.q = [] ∧ (awI 4).1.peer = 1 ∧ (awI 4).2.2 = ⟨#[120]⟩ := by refine ⟨?_, ?_, ?_⟩ <;> rfl
theorem says_size {g : ByteArray} {n : Nat} (h : g.size ≤ n) : ∀ (ms : List ByteArray), (∀ m ∈ ms, m.size ≤ 65536) → (says g ms).size ≤ n + 65536 * ms.length
  | [], _ => by simpa [says] using h
  | m :: r, hm => by
    have h1 : (g ++ m).size ≤ n + 65536 := by rw [ByteArray.size_append]; have := hm m (by simp); omega
    have h2 := says_size h1 r (fun x hx => hm x (by simp [hx]))
    show (says (g ++ m) r).size ≤ _
    rw [List.length_cons]; omega
theorem inT_size {L : LnT} {s : SegT} (h : s.body.size ≤ 65536) : ∀ m ∈ (inT L s).1, m.size ≤ 65536 := by
  intro m hm; rcases inT_one L s with e | e <;> rw [e] at hm
  · simp at hm
  · simp at hm; subst hm; exact h
theorem heard_in {B : LnT} {l : List SegT} (h : ∀ s ∈ l, s.body.size ≤ 65536) : (∀ m ∈ heard B l, m.size ≤ 65536) ∧ (heard B l).length ≤ l.length := by
  induction l generalizing B with
  | nil => exact ⟨fun m hm => by simp [heard] at hm, by simp [heard]⟩
  | cons g r ih =>
    obtain ⟨h1, h2⟩ := ih (B := (inT B g).2.2) (fun s hs => h s (by simp [hs]))
    refine ⟨fun m hm => ?_, ?_⟩
    · simp only [heard, List.mem_append] at hm
      rcases hm with hm | hm
      · exact inT_size (h g (by simp)) m hm
      · exact h1 m hm
    · simp only [heard, List.length_append, List.length_cons]
      have : (inT B g).1.length ≤ 1 := by rcases inT_one B g with e | e <;> rw [e] <;> simp
      omega
theorem awI_size (i : Nat) (h : LnOk (awI i).1) : (says (awI i).2.2 (heard (awI i).2.1 (outT (awI i).1 true))).size ≤ (awI i).2.2.size + 524288 := by
  have h1 := heard_in (B := (awI i).2.1) (outT_body h true)
  have h2 := says_size (Nat.le_refl (awI i).2.2.size) _ h1.1
  have := outT_len (awI i).1 true
  have := h1.2
  have : 65536 * (heard (awI i).2.1 (outT (awI i).1 true)).length ≤ 65536 * 8 := Nat.mul_le_mul_left _ (by omega)
  omega

set_option maxRecDepth 100000 in
set_option maxHeartbeats 6400000 in
theorem awake22  (w : World)  :
    Calls Try.prog 43 #[] w fun e w' => e = .returned (.bool true) ∧ Below w.heap.size w w' := by
 have hB0 := Below.refl w.heap.size w
 refine co_enter (n := 94) Try.func43 rfl rfl rfl [] rfl (fun a h0 => ?_)
 refine co_seq ?_
 refine co_reg ?_
 refine pk0 (v := .bool false) h0 rfl fun a1 h1 => ?_; clear h0
 refine pl_nil ?_
 refine co_then ?_
 refine co_seq ?_
 refine co_reg ?_
 refine pw h1 rfl (op_call (args := #[.int .i64 1]) (R := fun res xw => ∃ (N : Nat) (S : Nat → Prop), res = .tuple #[pt N 0, .int .i64 0] ∧ LkP S xw N (newLn 1) ∧ (∀ q, S q → w.heap.size ≤ q) ∧ Below w.heap.size w xw) rfl rfl rfl (by kernel_rfl) (by kernel_rfl) (Try.call32 _ _) (nPNew 1 w (by omega)) (by rintro e x ⟨N, S, rfl, h⟩; exact ⟨_, rfl, N, S, rfl, h⟩)) ?_; clear h1
 rintro _ w3 a2 ⟨N4, S5, rfl, hO6, hlo7, hb8⟩ h2
 have hz10 := hb8.size
 have hlo11 : ∀ q, S5 q → w.heap.size ≤ q := fun q hq => by have := hlo7 q hq; omega
 refine pk0 (v := .tuple #[pt N4 0, .int .i64 0]) h2 rfl fun a12 h12 => ?_; clear h2
 refine pk0 (v := pt N4 0) h12 rfl fun a13 h13 => ?_; clear h12
 refine pk0 (v := .int .i64 0) h13 rfl fun a14 h14 => ?_; clear h13
 refine pk0 (v := pt N4 0) h14 rfl fun a15 h15 => ?_; clear h14
 refine pk0 (v := .int .i64 0) h15 rfl fun a16 h16 => ?_; clear h15
 refine pl_nil ?_
 refine co_then ?_
 refine co_seq ?_
 refine co_reg ?_
 have ho19 := LkP.ofS hO6
 refine pw h16 rfl (op_call (args := #[.int .i64 1]) (R := fun res xw => ∃ (N : Nat) (S : Nat → Prop), res = .tuple #[pt N 0, .int .i64 0] ∧ LkP S xw N (newLn 1) ∧ (∀ q, S q → w3.heap.size ≤ q) ∧ Below w3.heap.size w3 xw) rfl rfl rfl (by kernel_rfl) (by kernel_rfl) (Try.call32 _ _) (nPNew 1 w3 (by omega)) (by rintro e x ⟨N, S, rfl, h⟩; exact ⟨_, rfl, N, S, rfl, h⟩)) ?_; clear h16
 rintro _ w18 a17 ⟨N20, S21, rfl, hO22, hlo23, hb24⟩ h17
 have hz26 := hb24.size
 have ho27 := LkP.ofS hO6
 have hlo28 : ∀ q, S21 q → w.heap.size ≤ q := fun q hq => by have := hlo23 q hq; omega
 refine pk0 (v := .tuple #[pt N20 0, .int .i64 0]) h17 rfl fun a29 h29 => ?_; clear h17
 refine pk0 (v := pt N20 0) h29 rfl fun a30 h30 => ?_; clear h29
 refine pk0 (v := .int .i64 0) h30 rfl fun a31 h31 => ?_; clear h30
 refine pk0 (v := pt N20 0) h31 rfl fun a32 h32 => ?_; clear h31
 refine pk0 (v := .int .i64 0) h32 rfl fun a33 h33 => ?_; clear h32
 refine pl_nil ?_
 refine co_then ?_
 refine co_seq ?_
 refine co_reg ?_
 refine pk0 (v := pt N4 0) h33 rfl fun a34 h34 => ?_; clear h33
 have hO38 := LkP.gr hO6 (below_grown hb24) (fun k e => by cases e)
 have ho37 := LkP.ofS hO38
 have ho39 := LkP.ofS hO22
 have hB40 := hb_call hB0 hb8
 have hB41 := hb_call hB40 hb24
 refine pw h34 rfl (op_call (args := #[pt N4 0, .string (⟨#[120]⟩)]) (R := fun res xw => ∃ S' : Nat → Prop, res = .int .i64 ((sendT (newLn 1) (⟨#[120]⟩ : ByteArray)).1) ∧ LkP S' xw N4 ((sendT (newLn 1) (⟨#[120]⟩ : ByteArray)).2) ∧ Grew S5 S' w18 xw) rfl rfl rfl (by kernel_rfl) (by kernel_rfl) (Try.call34 _ _) (kSend w18 (⟨#[120]⟩ : ByteArray) hO38) (by rintro e x ⟨S', h0, h⟩; exact ⟨_, h0, S', rfl, h⟩)) ?_; clear h34
 rintro _ w36 a35 ⟨S42, rfl, hO43, hx44⟩ h35
 have hlo46 : ∀ q, S42 q → w.heap.size ≤ q := hx44.lo hlo11 (by omega)
 have hB45 := hbL hB41 hlo11 hx44.but
 have hz47 := hB45.size
 have hz48 := hx44.but.size
 refine pl_nil ?_
 refine co_then ?_
 refine co_seq ?_
 refine co_reg ?_
 refine pk0 (v := .string (⟨#[]⟩)) h35 rfl fun a49 h49 => ?_; clear h35
 refine pl_nil ?_
 refine co_then ?_
 refine co_seq ?_
 refine co_seq ?_
 refine co_reg ?_
 refine pk0 (v := .int .i64 0) h49 rfl fun a50 h50 => ?_; clear h49
 refine pl_nil ?_
 refine co_then ?_
 refine wp_block ?_
 have hloA9 := hlo46
 have hloB9 := hlo28
 have hap9 := (ap_symm (ap_symm (Grew.ap hx44 (ap_symm (ap_symm (fun q h1 h2 => by have e1 := ho19 q h1; have e2 := hlo23 q h2; omega))) (LkP.ofS hO22))))
 have h51 : Slots 94 [(1, pt N4 0), (3, pt N20 0), (5, .string (⟨#[]⟩)), (6, .int .i64 0)] _ := h50.sub ⟨rfl, rfl, rfl, rfl, trivial⟩; clear h50
 refine co_loop (fun mm a x => ∃ (SA : Nat → Prop) (SB : Nat → Prop) (i : Nat) (A : LnT) (B : LnT) (g : ByteArray), Slots 94 [(1, pt N4 0), (3, pt N20 0), (5, .string g), (6, .int .i64 ((i : Nat) : Int))] a ∧ mm = 4 - i ∧ (∀ q, SA q → w.heap.size ≤ q) ∧ (∀ q, SB q → w.heap.size ≤ q) ∧ (∀ q, SA q → SB q → False) ∧ (i ≤ 4) ∧ (awI i = (A, B, g)) ∧ (g.size ≤ 600000 * i) ∧ LkP SA x N4 A ∧ LkP SB x N20 B ∧ Below w.heap.size w x) (4 - 0) ?_ ?_
 have hO52 := LkP.but hO22 hx44.but (ap_symm (fun q h1 h2 => by have e1 := ho19 q h1; have e2 := hlo23 q h2; omega))
 · exact ⟨S42, S21, 0, ((sendT (newLn 1) (⟨#[120]⟩ : ByteArray)).2), (newLn 1), ⟨#[]⟩, h51.sub ⟨rfl, rfl, rfl, (slot_eq rfl (congrArg (Value.int .i64) (by first | rfl | omega))), trivial⟩, rfl, by exact hloA9, by exact hloB9, by exact hap9, by omega, by first | rfl | exact hE9, by first | exact hS9 | (simp; done) | decide, hO43, hO52, hB45⟩
 · rintro k53 a54 w55 ⟨SA, SB, i, A, B, g, h54, rfl, hi56, hi57, hi58, hi59, hi60, hi61, hf62, hf63, hB64⟩
   have hz65 := hB64.size
   have hlo66 : ∀ q, SA q → w.heap.size ≤ q := by assumption
   have hlo67 : ∀ q, SB q → w.heap.size ≤ q := by assumption
   have hap68 : ∀ q, SA q → SB q → False := by assumption
   have hI1 : awI i = (A, B, g) := by assumption
   have hokA := hf62.ok
   have hgs : g.size ≤ 600000 * i := by assumption
   refine co_seq ?_
   refine co_seq ?_
   refine co_reg ?_
   refine pk0 (v := .int .i64 ((i : Nat) : Int)) h54 rfl fun a69 h69 => ?_; clear h54
   refine pk0 (v := .bool (decide (((i : Nat) : Int) < 4))) h69 rfl fun a70 h70 => ?_; clear h69
   refine pl_nil ?_
   refine co_then ?_
   cases hc71 : (decide (((i : Nat) : Int) < 4))
   ·
    rw [hc71] at h70
    have hp72 : ¬ (((i : Nat) : Int) < 4) := of_decide_eq_false hc71
    clear hc71
    refine co_false h70 rfl ?_
    refine wp_exit ?_
    refine co_thenX ?_
    refine co_thenX ?_
    refine co_blockX ?_
    refine co_then ?_
    refine co_seq ?_
    refine co_reg ?_
    refine pk0 (v := .string g) h70 rfl fun a73 h73 => ?_; clear h70
    refine pk0 (v := .bool (g.toList == (⟨#[120]⟩ : ByteArray).toList)) h73 rfl fun a74 h74 => ?_; clear h73
    refine pk0 (v := .bool (g.toList == (⟨#[120]⟩ : ByteArray).toList)) h74 rfl fun a75 h75 => ?_; clear h74
    have hc76 : (g.toList == (⟨#[120]⟩ : ByteArray).toList) = true := by (have hf := awI_end); (have hi4 : i = 4 := by omega); subst hi4; rw [hI1] at hf; obtain ⟨f1, f2, f3⟩ := hf; dsimp only at f1 f2 f3; simp [f1, f2, f3]
    rw [hc76] at h75; clear hc76
    refine pk0 (v := pt N4 0) h75 rfl fun a77 h77 => ?_; clear h75
    refine pw h77 rfl (op_call (args := #[pt N4 0]) (R := fun res xw => res = .int .i64 ((A.q.length : Nat) : Int) ∧ w55 = xw) rfl rfl rfl (by kernel_rfl) (by kernel_rfl) (Try.call41 _ _) (kWaiting w55 hf62) (by rintro e x ⟨rfl, rfl⟩; exact ⟨_, rfl, rfl, rfl⟩)) ?_; clear h77
    rintro _ _ a78 ⟨rfl, rfl⟩ h78
    refine pk0 (v := .bool (((A.q.length : Nat) : Int) == 0)) h78 rfl fun a80 h80 => ?_; clear h78
    refine pk0 (v := .bool (((A.q.length : Nat) : Int) == 0)) h80 rfl fun a81 h81 => ?_; clear h80
    refine pk0 (v := .bool (((A.q.length : Nat) : Int) == 0)) h81 rfl fun a82 h82 => ?_; clear h81
    have hc83 : (((A.q.length : Nat) : Int) == 0) = true := by (have hf := awI_end); (have hi4 : i = 4 := by omega); subst hi4; rw [hI1] at hf; obtain ⟨f1, f2, f3⟩ := hf; dsimp only at f1 f2 f3; simp [f1, f2, f3]
    rw [hc83] at h82; clear hc83
    refine pk0 (v := pt N4 0) h82 rfl fun a84 h84 => ?_; clear h82
    refine pw h84 rfl (op_call (args := #[pt N4 0]) (R := fun res xw => res = .int .i64 A.peer ∧ w55 = xw) rfl rfl rfl (by kernel_rfl) (by kernel_rfl) (Try.call42 _ _) (kKnows w55 hf62) (by rintro e x ⟨rfl, rfl⟩; exact ⟨_, rfl, rfl, rfl⟩)) ?_; clear h84
    rintro _ _ a85 ⟨rfl, rfl⟩ h85
    refine pk0 (v := .bool (A.peer == 1)) h85 rfl fun a87 h87 => ?_; clear h85
    refine pk0 (v := .bool (A.peer == 1)) h87 rfl fun a88 h88 => ?_; clear h87
    refine pk0 (v := .bool (A.peer == 1)) h88 rfl fun a89 h89 => ?_; clear h88
    refine pl_nil ?_
    refine co_then ?_
    refine wp_ret ?_
    refine co_ret1 h89 rfl rfl ?_
    exact ⟨by rw [show (A.peer == 1) = true from by (have hf := awI_end); (have hi4 : i = 4 := by omega); subst hi4; rw [hI1] at hf; obtain ⟨f1, f2, f3⟩ := hf; dsimp only at f1 f2 f3; simp [f1, f2, f3]], hB64⟩
   ·
    rw [hc71] at h70
    have hp90 : ((i : Nat) : Int) < 4 := of_decide_eq_true hc71
    clear hc71
    refine co_true h70 rfl ?_
    refine wp_skip ?_
    refine co_then ?_
    refine co_seq ?_
    refine wp_block ?_
    refine co_seq ?_
    refine co_reg ?_
    refine pk0 (v := pt N4 0) h70 rfl fun a91 h91 => ?_; clear h70
    have ho94 := LkP.ofS hf62
    have ho95 := LkP.ofS hf63
    refine pw h91 rfl (op_call (args := #[pt N4 0, .bool true]) (R := fun res xw => ∃ v : Value, ∃ S' : Nat → Prop, res = v ∧ LkP S' xw N4 (outN A) ∧ (xw.ownsRow w55.heap.size 61 8 v (outT A true).length ((outT A true).flatMap segE)) ∧ (∀ q, S' q → q < w55.heap.size) ∧ Grew SA S' w55 xw) rfl rfl rfl (by kernel_rfl) (by kernel_rfl) (Try.call37 _ _) (kOut w55 true hf62) (by rintro e x ⟨v, S', h0, h⟩; exact ⟨_, h0, v, S', rfl, h⟩)) ?_; clear h91
    rintro v96 w93 a92 ⟨_, S97, rfl, hO98, hq100, hq101, hx99⟩ h92
    have hlo103 : ∀ q, S97 q → w.heap.size ≤ q := hx99.lo hlo66 (by omega)
    have hB102 := hbL hB64 hlo66 hx99.but
    have hz104 := hB102.size
    have hz105 := hx99.but.size
    have hbody := outT_body hf62.ok true
    have hl106 := outT_len A true
    refine pk0 (v := v96) h92 rfl fun a107 h107 => ?_; clear h92
    refine pl_nil ?_
    refine co_then ?_
    refine co_seq ?_
    refine co_seq ?_
    refine co_reg ?_
    refine pk0 (v := .int .i64 0) h107 rfl fun a108 h108 => ?_; clear h107
    refine pl_nil ?_
    refine co_then ?_
    refine wp_block ?_
    have hloA9 := hlo103
    have hloB9 := hlo67
    have hap9 := (ap_symm (ap_symm (Grew.ap hx99 (ap_symm (ap_symm hap68)) (LkP.ofS hf63))))
    have hSA93 : ∀ i, v96.ownBlock = some i → ¬ S97 i := (offR_row hq101 hq100 (Nat.le_refl _))
    have hSB94 : ∀ i, v96.ownBlock = some i → ¬ SB i := (offR_row ho95 hq100 (Nat.le_refl _))
    have h109 : Slots 94 [(1, pt N4 0), (3, pt N20 0), (5, .string g), (6, .int .i64 ((i : Nat) : Int)), (7, v96), (8, .int .i64 0)] _ := h108.sub ⟨rfl, rfl, rfl, rfl, rfl, rfl, trivial⟩; clear h108
    refine co_loop (fun mm a x => ∃ (SA : Nat → Prop) (SB : Nat → Prop) (k : Nat) (gk : ByteArray), Slots 94 [(1, pt N4 0), (3, pt N20 0), (5, .string gk), (6, .int .i64 ((i : Nat) : Int)), (7, v96), (8, .int .i64 ((k : Nat) : Int))] a ∧ mm = (outT A true).length - k ∧ (∀ q, SA q → w.heap.size ≤ q) ∧ (∀ q, SB q → w.heap.size ≤ q) ∧ (∀ q, SA q → SB q → False) ∧ (∀ i, v96.ownBlock = some i → ¬ SA i) ∧ (∀ i, v96.ownBlock = some i → ¬ SB i) ∧ (k ≤ (outT A true).length) ∧ (gk = says g (heard B ((outT A true).take k))) ∧ (gk.size ≤ 600000 * i + 65536 * k) ∧ LkP SA x N4 (outN A) ∧ LkP SB x N20 (feed B ((outT A true).take k)) ∧ x.ownsRow w55.heap.size 61 8 v96 (outT A true).length ((outT A true).flatMap segE) ∧ Below w.heap.size w x) ((outT A true).length - 0) ?_ ?_
    have hO110 := LkP.but hf63 hx99.but (ap_symm hap68)
    · exact ⟨S97, SB, 0, g, h109.sub ⟨rfl, rfl, rfl, rfl, rfl, (slot_eq rfl (congrArg (Value.int .i64) (by first | rfl | omega))), trivial⟩, rfl, by exact hloA9, by exact hloB9, by exact hap9, by exact hSA93, by exact hSB94, by omega, by first | exact hE9 | rfl, by first | exact hS9 | omega, hO98, hO110, hq100, hB102⟩
    · rintro k111 a112 w113 ⟨SA, SB, k, gk, h112, rfl, hi114, hi115, hi116, hi117, hi118, hi119, hi120, hi121, hf122, hf123, hf124, hB125⟩
      have hz126 := hB125.size
      have hlo127 : ∀ q, SA q → w.heap.size ≤ q := by assumption
      have hlo128 : ∀ q, SB q → w.heap.size ≤ q := by assumption
      have hap129 : ∀ q, SA q → SB q → False := by assumption
      have ho130 : ∀ i, v96.ownBlock = some i → ¬ SA i := by assumption
      have ho131 : ∀ i, v96.ownBlock = some i → ¬ SB i := by assumption
      have hE8 : gk = says g (heard B ((outT A true).take k)) := by assumption
      refine co_seq ?_
      refine co_seq ?_
      refine co_reg ?_
      refine pk0 (v := .int .i64 ((k : Nat) : Int)) h112 rfl fun a132 h132 => ?_; clear h112
      refine pk0 (v := v96) h132 rfl fun a133 h133 => ?_; clear h132
      refine pk (v := .int .i64 (((outT A true).length : Nat) : Int)) h133 rfl (rn_lenOwn rfl rfl Try.underlying67 hf124) fun a134 h134 => ?_; clear h133
      refine pk0 (v := .bool (decide (((k : Nat) : Int) < (((outT A true).length : Nat) : Int)))) h134 rfl fun a135 h135 => ?_; clear h134
      refine pk0 (v := .bool (decide (((k : Nat) : Int) < (((outT A true).length : Nat) : Int)))) h135 rfl fun a136 h136 => ?_; clear h135
      cases hc137 : (decide (((k : Nat) : Int) < (((outT A true).length : Nat) : Int)))
      ·
       rw [hc137] at h136
       have hp138 : ¬ (((k : Nat) : Int) < (((outT A true).length : Nat) : Int)) := of_decide_eq_false hc137
       clear hc137
       refine psk h136 rfl fun a139 h139 => ?_; clear h136
       refine psk h139 rfl fun a140 h140 => ?_; clear h139
       refine pk0 (v := .bool false) h140 rfl fun a141 h141 => ?_; clear h140
       refine pl_nil ?_
       refine co_then ?_
       refine co_false h141 rfl ?_
       refine wp_exit ?_
       refine co_thenX ?_
       refine co_thenX ?_
       refine co_blockX ?_
       refine co_then ?_
       refine co_seq ?_
       refine co_reg ?_
       refine pk0 (v := pt N20 0) h141 rfl fun a142 h142 => ?_; clear h141
       have ho145 := LkP.ofS hf122
       have ho146 := LkP.ofS hf123
       refine pw h142 rfl (op_call (args := #[pt N20 0, .bool true]) (R := fun res xw => ∃ v : Value, ∃ S' : Nat → Prop, res = v ∧ LkP S' xw N20 (outN (feed B ((outT A true).take k))) ∧ (xw.ownsRow w113.heap.size 61 8 v (outT (feed B ((outT A true).take k)) true).length ((outT (feed B ((outT A true).take k)) true).flatMap segE)) ∧ (∀ q, S' q → q < w113.heap.size) ∧ Grew SB S' w113 xw) rfl rfl rfl (by kernel_rfl) (by kernel_rfl) (Try.call37 _ _) (kOut w113 true hf123) (by rintro e x ⟨v, S', h0, h⟩; exact ⟨_, h0, v, S', rfl, h⟩)) ?_; clear h142
       rintro v147 w144 a143 ⟨_, S148, rfl, hO149, hq151, hq152, hx150⟩ h143
       have hlo154 : ∀ q, S148 q → w.heap.size ≤ q := hx150.lo hlo128 (by omega)
       have hB153 := hbL hB125 hlo128 hx150.but
       have hz155 := hB153.size
       have hz156 := hx150.but.size
       have hbody := outT_body hf123.ok true
       have hl157 := outT_len (feed B ((outT A true).take k)) true
       refine pk0 (v := v147) h143 rfl fun a158 h158 => ?_; clear h143
       refine pl_nil ?_
       refine co_then ?_
       refine co_seq ?_
       refine co_reg ?_
       refine pk0 (v := .int .i64 0) h158 rfl fun a159 h159 => ?_; clear h158
       refine pl_nil ?_
       refine co_then ?_
       refine wp_block ?_
       obtain ⟨B1, hB1⟩ : ∃ B1, B1 = feed B (outT A true) := ⟨_, rfl⟩
       have hBt : feed B ((outT A true).take k) = B1 := by rw [hB1, List.take_of_length_le (by omega)]
       have hgk : gk = says g (heard B (outT A true)) := by rw [hE8, List.take_of_length_le (by omega)]
       rw [hBt] at hbody
       have hO160 := hO149; rw [hBt] at hO160
       have hr161 := hq151; rw [hBt] at hr161
       have hl3 := outT_len B1 true
       have hloA9 := hlo127
       have hloB9 := hlo154
       have hap9 := (ap_symm (Grew.ap hx150 (ap_symm hap129) (LkP.ofS hf122)))
       have hSA93 : ∀ i, v147.ownBlock = some i → ¬ SA i := (offR_row ho145 hr161 (Nat.le_refl _))
       have hSB94 : ∀ i, v147.ownBlock = some i → ¬ S148 i := (offR_row hq152 hq151 (Nat.le_refl _))
       have h162 : Slots 94 [(1, pt N4 0), (3, pt N20 0), (5, .string gk), (6, .int .i64 ((i : Nat) : Int)), (7, v147), (12, .int .i64 0)] _ := h159.sub ⟨rfl, rfl, rfl, rfl, rfl, rfl, trivial⟩; clear h159
       refine co_loop (fun mm a x => ∃ (SA : Nat → Prop) (SB : Nat → Prop) (k2 : Nat), Slots 94 [(1, pt N4 0), (3, pt N20 0), (5, .string gk), (6, .int .i64 ((i : Nat) : Int)), (7, v147), (12, .int .i64 ((k2 : Nat) : Int))] a ∧ mm = (outT B1 true).length - k2 ∧ (∀ q, SA q → w.heap.size ≤ q) ∧ (∀ q, SB q → w.heap.size ≤ q) ∧ (∀ q, SA q → SB q → False) ∧ (∀ i, v147.ownBlock = some i → ¬ SA i) ∧ (∀ i, v147.ownBlock = some i → ¬ SB i) ∧ (k2 ≤ (outT B1 true).length) ∧ LkP SA x N4 (feed (outN A) ((outT B1 true).take k2)) ∧ LkP SB x N20 (outN B1) ∧ x.ownsRow w113.heap.size 61 8 v147 (outT B1 true).length ((outT B1 true).flatMap segE) ∧ Below w.heap.size w x) ((outT B1 true).length - 0) ?_ ?_
       have hO163 := LkP.but hf122 hx150.but hap129
       · exact ⟨SA, S148, 0, h162.sub ⟨rfl, rfl, rfl, rfl, rfl, (slot_eq rfl (congrArg (Value.int .i64) (by first | rfl | omega))), trivial⟩, rfl, by exact hloA9, by exact hloB9, by exact hap9, by exact hSA93, by exact hSB94, by omega, hO163, hO160, hr161, hB153⟩
       · rintro k164 a165 w166 ⟨SA, SB, k2, h165, rfl, hi167, hi168, hi169, hi170, hi171, hi172, hf173, hf174, hf175, hB176⟩
         have hz177 := hB176.size
         have hlo178 : ∀ q, SA q → w.heap.size ≤ q := by assumption
         have hlo179 : ∀ q, SB q → w.heap.size ≤ q := by assumption
         have hap180 : ∀ q, SA q → SB q → False := by assumption
         have ho181 : ∀ i, v147.ownBlock = some i → ¬ SA i := by assumption
         have ho182 : ∀ i, v147.ownBlock = some i → ¬ SB i := by assumption
         refine co_seq ?_
         refine co_seq ?_
         refine co_reg ?_
         refine pk0 (v := .int .i64 ((k2 : Nat) : Int)) h165 rfl fun a183 h183 => ?_; clear h165
         refine pk0 (v := v147) h183 rfl fun a184 h184 => ?_; clear h183
         refine pk (v := .int .i64 (((outT B1 true).length : Nat) : Int)) h184 rfl (rn_lenOwn rfl rfl Try.underlying67 hf175) fun a185 h185 => ?_; clear h184
         refine pk0 (v := .bool (decide (((k2 : Nat) : Int) < (((outT B1 true).length : Nat) : Int)))) h185 rfl fun a186 h186 => ?_; clear h185
         refine pk0 (v := .bool (decide (((k2 : Nat) : Int) < (((outT B1 true).length : Nat) : Int)))) h186 rfl fun a187 h187 => ?_; clear h186
         cases hc188 : (decide (((k2 : Nat) : Int) < (((outT B1 true).length : Nat) : Int)))
         ·
          rw [hc188] at h187
          have hp189 : ¬ (((k2 : Nat) : Int) < (((outT B1 true).length : Nat) : Int)) := of_decide_eq_false hc188
          clear hc188
          refine psk h187 rfl fun a190 h190 => ?_; clear h187
          refine psk h190 rfl fun a191 h191 => ?_; clear h190
          refine pk0 (v := .bool false) h191 rfl fun a192 h192 => ?_; clear h191
          refine pl_nil ?_
          refine co_then ?_
          refine co_false h192 rfl ?_
          refine wp_exit ?_
          refine co_thenX ?_
          refine co_thenX ?_
          refine co_blockX ?_
          refine co_blockN ?_
          refine co_then ?_
          refine co_reg ?_
          refine pk0 (v := .int .i64 ((i : Nat) : Int)) h192 rfl fun a193 h193 => ?_; clear h192
          refine pk (v := .int .i64 ((i + 1 : Nat) : Int)) h193 rfl (rn_arith' rfl rfl rfl rfl rfl rfl (IntWalk.i64_in _ (by omega)) (by omega)) fun a194 h194 => ?_; clear h193
          refine pk0 (v := .int .i64 ((i + 1 : Nat) : Int)) h194 rfl fun a195 h195 => ?_; clear h194
          refine pl_nil ?_
          refine co_then ?_
          refine ⟨(4 - (i + 1)), by omega, ?_⟩
          have hloA9 := hlo178
          have hloB9 := hlo179
          have hap9 := hap180
          have hE9 : awI (i + 1) = ((feed (outN A) ((outT B1 true).take k2)), (outN B1), gk) := by show (_, _, _) = _; rw [hI1]; dsimp only; rw [← hB1, ← hgk, List.take_of_length_le (by omega)]
          have hS9 : gk.size ≤ 600000 * (i + 1) := by have h := awI_size i (by rw [hI1]; exact hokA); rw [hI1] at h; dsimp only at h; rw [← hgk] at h; omega
          exact ⟨SA, SB, i + 1, (feed (outN A) ((outT B1 true).take k2)), (outN B1), gk, h195.sub ⟨rfl, rfl, rfl, rfl, trivial⟩, rfl, by exact hloA9, by exact hloB9, by exact hap9, by omega, by first | rfl | exact hE9, by first | exact hS9 | (simp; done) | decide, hf173, hf174, hB176⟩
         ·
          rw [hc188] at h187
          have hp196 : ((k2 : Nat) : Int) < (((outT B1 true).length : Nat) : Int) := of_decide_eq_true hc188
          clear hc188
          refine pk0 (v := .int .i64 ((k2 : Nat) : Int)) h187 rfl fun a197 h197 => ?_; clear h187
          refine pk0 (v := .bool (decide (((k2 : Nat) : Int) < 9))) h197 rfl fun a198 h198 => ?_; clear h197
          refine pk0 (v := .bool (decide (((k2 : Nat) : Int) < 9))) h198 rfl fun a199 h199 => ?_; clear h198
          refine pl_nil ?_
          refine co_then ?_
          have hc200 : (decide (((k2 : Nat) : Int) < 9)) = true := decide_eq_true (by omega)
          rw [hc200] at h199; clear hc200
          refine co_true h199 rfl ?_
          refine wp_skip ?_
          refine co_then ?_
          refine co_seq ?_
          refine wp_block ?_
          refine co_reg ?_
          refine pk0 (v := pt N4 0) h199 rfl fun a201 h201 => ?_; clear h199
          refine pk0 (v := v147) h201 rfl fun a202 h202 => ?_; clear h201
          refine pk0 (v := .int .i64 ((k2 : Nat) : Int)) h202 rfl fun a203 h203 => ?_; clear h202
          obtain ⟨y204, hy204⟩ : ∃ z, (outT B1 true)[k2]? = some z := ⟨_, List.getElem?_eq_getElem (by first | omega | (simp; done) | (simp; omega))⟩
          refine pk (v := pt (blkOf v147) (offOf v147 + k2 * 8)) h203 rfl (rn_index rfl rfl rfl Try.underlying67 Try.sizeOf61 (row_sl hf175 segE_len) (by omega) (by first | omega | (simp; done) | (simp; omega))) fun a205 h205 => ?_; clear h203
          refine pk (v := .agg #[.int .i64 y204.boot, .int .i64 y204.stream, .int .i64 y204.seq, .int .i64 y204.ab, .int .i64 y204.ast, .int .i64 y204.asq, .bool y204.has, .string y204.body]) h205 rfl (rn_loadN rfl rfl Try.underlying61 rfl (by kernel_rfl) (sl_at (row_sl hf175 segE_len) hy204)) fun a206 h206 => ?_; clear h205
          have ho209 := LkP.ofS hf173
          have ho210 := LkP.ofS hf174
          refine pw h206 rfl (op_call (args := #[pt N4 0, .agg #[.int .i64 y204.boot, .int .i64 y204.stream, .int .i64 y204.seq, .int .i64 y204.ab, .int .i64 y204.ast, .int .i64 y204.asq, .bool y204.has, .string y204.body]]) (R := fun res xw => ∃ v : Value, ∃ S' : Nat → Prop, res = .tuple #[v, .int .i64 ((inT (feed (outN A) ((outT B1 true).take k2)) y204).2.1)] ∧ LkP S' xw N4 ((inT (feed (outN A) ((outT B1 true).take k2)) y204).2.2) ∧ (xw.ownsRow w166.heap.size 9 1 v (inT (feed (outN A) ((outT B1 true).take k2)) y204).1.length ((inT (feed (outN A) ((outT B1 true).take k2)) y204).1.flatMap strE)) ∧ (∀ i, v.ownBlock = some i → ¬ S' i) ∧ Grew SA S' w166 xw) rfl rfl rfl (by kernel_rfl) (by kernel_rfl) (Try.call39 _ _) (kIn w166 y204 hf173) (by rintro e x ⟨v, S', h0, h⟩; exact ⟨_, h0, v, S', rfl, h⟩)) ?_; clear h206
          rintro _ w208 a207 ⟨v211, S212, rfl, hO213, hq215, hq216, hx214⟩ h207
          have hlo218 : ∀ q, S212 q → w.heap.size ≤ q := hx214.lo hlo178 (by omega)
          have hB217 := hbL hB176 hlo178 hx214.but
          have hz219 := hB217.size
          have hz220 := hx214.but.size
          have hl221 : (inT (feed (outN A) ((outT B1 true).take k2)) y204).1.length ≤ 1 := by rcases inT_one (feed (outN A) ((outT B1 true).take k2)) y204 with h | h <;> rw [h] <;> simp
          have hsz222 := inT_size (L := (feed (outN A) ((outT B1 true).take k2))) (hbody y204 (List.mem_of_getElem? hy204))
          refine pl_nil ?_
          refine co_blockN ?_
          refine co_then ?_
          refine co_reg ?_
          refine pk0 (v := .int .i64 ((k2 : Nat) : Int)) h207 rfl fun a223 h223 => ?_; clear h207
          refine pk (v := .int .i64 ((k2 + 1 : Nat) : Int)) h223 rfl (rn_arith' rfl rfl rfl rfl rfl rfl (IntWalk.i64_in _ (by omega)) (by omega)) fun a224 h224 => ?_; clear h223
          refine pk0 (v := .int .i64 ((k2 + 1 : Nat) : Int)) h224 rfl fun a225 h225 => ?_; clear h224
          refine pl_nil ?_
          refine co_then ?_
          refine ⟨((outT B1 true).length - (k2 + 1)), by omega, ?_⟩
          have hloA9 := hlo218
          have hloB9 := hlo179
          have hap9 := (ap_symm (ap_symm (Grew.ap hx214 (ap_symm (ap_symm hap180)) (LkP.ofS hf174))))
          have hSA93 : ∀ i, v147.ownBlock = some i → ¬ S212 i := (Grew.offR hx214 hf175 ho181)
          have hSB94 : ∀ i, v147.ownBlock = some i → ¬ SB i := ho182
          have hfs := feed_step (B := outN A) hy204
          have hO226 := LkP.but hf174 hx214.but (ap_symm hap180)
          have hr227 := own_butS hf175 hx214.but ho181
          exact ⟨S212, SB, k2 + 1, h225.sub ⟨rfl, rfl, rfl, rfl, rfl, rfl, trivial⟩, rfl, by exact hloA9, by exact hloB9, by exact hap9, by exact hSA93, by exact hSB94, by omega, (by rw [hfs]; exact hO213), hO226, hr227, hB217⟩
      ·
       rw [hc137] at h136
       have hp228 : ((k : Nat) : Int) < (((outT A true).length : Nat) : Int) := of_decide_eq_true hc137
       clear hc137
       refine pk0 (v := .int .i64 ((k : Nat) : Int)) h136 rfl fun a229 h229 => ?_; clear h136
       refine pk0 (v := .bool (decide (((k : Nat) : Int) < 9))) h229 rfl fun a230 h230 => ?_; clear h229
       refine pk0 (v := .bool (decide (((k : Nat) : Int) < 9))) h230 rfl fun a231 h231 => ?_; clear h230
       refine pl_nil ?_
       refine co_then ?_
       have hc232 : (decide (((k : Nat) : Int) < 9)) = true := decide_eq_true (by omega)
       rw [hc232] at h231; clear hc232
       refine co_true h231 rfl ?_
       refine wp_skip ?_
       refine co_then ?_
       refine co_seq ?_
       refine wp_block ?_
       refine co_seq ?_
       refine co_reg ?_
       refine pk0 (v := pt N20 0) h231 rfl fun a233 h233 => ?_; clear h231
       refine pk0 (v := v96) h233 rfl fun a234 h234 => ?_; clear h233
       refine pk0 (v := .int .i64 ((k : Nat) : Int)) h234 rfl fun a235 h235 => ?_; clear h234
       obtain ⟨y236, hy236⟩ : ∃ z, (outT A true)[k]? = some z := ⟨_, List.getElem?_eq_getElem (by first | omega | (simp; done) | (simp; omega))⟩
       refine pk (v := pt (blkOf v96) (offOf v96 + k * 8)) h235 rfl (rn_index rfl rfl rfl Try.underlying67 Try.sizeOf61 (row_sl hf124 segE_len) (by omega) (by first | omega | (simp; done) | (simp; omega))) fun a237 h237 => ?_; clear h235
       refine pk (v := .agg #[.int .i64 y236.boot, .int .i64 y236.stream, .int .i64 y236.seq, .int .i64 y236.ab, .int .i64 y236.ast, .int .i64 y236.asq, .bool y236.has, .string y236.body]) h237 rfl (rn_loadN rfl rfl Try.underlying61 rfl (by kernel_rfl) (sl_at (row_sl hf124 segE_len) hy236)) fun a238 h238 => ?_; clear h237
       have ho241 := LkP.ofS hf122
       have ho242 := LkP.ofS hf123
       refine pw h238 rfl (op_call (args := #[pt N20 0, .agg #[.int .i64 y236.boot, .int .i64 y236.stream, .int .i64 y236.seq, .int .i64 y236.ab, .int .i64 y236.ast, .int .i64 y236.asq, .bool y236.has, .string y236.body]]) (R := fun res xw => ∃ v : Value, ∃ S' : Nat → Prop, res = .tuple #[v, .int .i64 ((inT (feed B ((outT A true).take k)) y236).2.1)] ∧ LkP S' xw N20 ((inT (feed B ((outT A true).take k)) y236).2.2) ∧ (xw.ownsRow w113.heap.size 9 1 v (inT (feed B ((outT A true).take k)) y236).1.length ((inT (feed B ((outT A true).take k)) y236).1.flatMap strE)) ∧ (∀ i, v.ownBlock = some i → ¬ S' i) ∧ Grew SB S' w113 xw) rfl rfl rfl (by kernel_rfl) (by kernel_rfl) (Try.call39 _ _) (kIn w113 y236 hf123) (by rintro e x ⟨v, S', h0, h⟩; exact ⟨_, h0, v, S', rfl, h⟩)) ?_; clear h238
       rintro _ w240 a239 ⟨v243, S244, rfl, hO245, hq247, hq248, hx246⟩ h239
       have hlo250 : ∀ q, S244 q → w.heap.size ≤ q := hx246.lo hlo128 (by omega)
       have hB249 := hbL hB125 hlo128 hx246.but
       have hz251 := hB249.size
       have hz252 := hx246.but.size
       have hl253 : (inT (feed B ((outT A true).take k)) y236).1.length ≤ 1 := by rcases inT_one (feed B ((outT A true).take k)) y236 with h | h <;> rw [h] <;> simp
       have hsz254 := inT_size (L := (feed B ((outT A true).take k))) (hbody y236 (List.mem_of_getElem? hy236))
       refine pk0 (v := .tuple #[v243, .int .i64 ((inT (feed B ((outT A true).take k)) y236).2.1)]) h239 rfl fun a255 h255 => ?_; clear h239
       refine pk0 (v := v243) h255 rfl fun a256 h256 => ?_; clear h255
       refine pk0 (v := .int .i64 ((inT (feed B ((outT A true).take k)) y236).2.1)) h256 rfl fun a257 h257 => ?_; clear h256
       refine pk0 (v := v243) h257 rfl fun a258 h258 => ?_; clear h257
       refine pk0 (v := .int .i64 ((inT (feed B ((outT A true).take k)) y236).2.1)) h258 rfl fun a259 h259 => ?_; clear h258
       refine pl_nil ?_
       refine co_then ?_
       refine co_seq ?_
       refine co_reg ?_
       refine pk0 (v := .int .i64 0) h259 rfl fun a260 h260 => ?_; clear h259
       refine pl_nil ?_
       refine co_then ?_
       refine wp_block ?_
       have hloA9 := hlo127
       have hloB9 := hlo250
       have hap9 := (ap_symm (Grew.ap hx246 (ap_symm hap129) (LkP.ofS hf122)))
       have hSA93 : ∀ i, v96.ownBlock = some i → ¬ SA i := ho130
       have hSB94 : ∀ i, v96.ownBlock = some i → ¬ S244 i := (Grew.offR hx246 hf124 ho131)
       have hSA95 : ∀ i, v243.ownBlock = some i → ¬ SA i := (offR_row ho241 hq247 (Nat.le_refl _))
       have hSB96 : ∀ i, v243.ownBlock = some i → ¬ S244 i := hq248
       have h261 : Slots 94 [(1, pt N4 0), (3, pt N20 0), (5, .string gk), (6, .int .i64 ((i : Nat) : Int)), (7, v96), (8, .int .i64 ((k : Nat) : Int)), (9, v243), (11, .int .i64 0)] _ := h260.sub ⟨rfl, rfl, rfl, rfl, rfl, rfl, rfl, rfl, trivial⟩; clear h260
       refine co_loop (fun mm a x => ∃ (SA : Nat → Prop) (SB : Nat → Prop) (j : Nat) (gj : ByteArray), Slots 94 [(1, pt N4 0), (3, pt N20 0), (5, .string gj), (6, .int .i64 ((i : Nat) : Int)), (7, v96), (8, .int .i64 ((k : Nat) : Int)), (9, v243), (11, .int .i64 ((j : Nat) : Int))] a ∧ mm = (inT (feed B ((outT A true).take k)) y236).1.length - j ∧ (∀ q, SA q → w.heap.size ≤ q) ∧ (∀ q, SB q → w.heap.size ≤ q) ∧ (∀ q, SA q → SB q → False) ∧ (∀ i, v96.ownBlock = some i → ¬ SA i) ∧ (∀ i, v96.ownBlock = some i → ¬ SB i) ∧ (∀ i, v243.ownBlock = some i → ¬ SA i) ∧ (∀ i, v243.ownBlock = some i → ¬ SB i) ∧ (j ≤ (inT (feed B ((outT A true).take k)) y236).1.length) ∧ (gj = says gk ((inT (feed B ((outT A true).take k)) y236).1.take j)) ∧ (gj.size ≤ 600000 * i + 65536 * k + 65536 * j) ∧ LkP SA x N4 (outN A) ∧ LkP SB x N20 (inT (feed B ((outT A true).take k)) y236).2.2 ∧ x.ownsRow w55.heap.size 61 8 v96 (outT A true).length ((outT A true).flatMap segE) ∧ x.ownsRow w113.heap.size 9 1 v243 ((inT (feed B ((outT A true).take k)) y236).1).length (((inT (feed B ((outT A true).take k)) y236).1).flatMap strE) ∧ Below w.heap.size w x) ((inT (feed B ((outT A true).take k)) y236).1.length - 0) ?_ ?_
       have hO262 := LkP.but hf122 hx246.but hap129
       have hr263 := own_butS hf124 hx246.but ho131
       · exact ⟨SA, S244, 0, gk, h261.sub ⟨rfl, rfl, rfl, rfl, rfl, rfl, rfl, (slot_eq rfl (congrArg (Value.int .i64) (by first | rfl | omega))), trivial⟩, rfl, by exact hloA9, by exact hloB9, by exact hap9, by exact hSA93, by exact hSB94, by exact hSA95, by exact hSB96, by omega, by first | rfl | exact hE6, by first | omega | exact hS6, hO262, hO245, hr263, hq247, hB249⟩
       · rintro k264 a265 w266 ⟨SA, SB, j, gj, h265, rfl, hi267, hi268, hi269, hi270, hi271, hi272, hi273, hi274, hi275, hi276, hf277, hf278, hf279, hf280, hB281⟩
         have hz282 := hB281.size
         have hlo283 : ∀ q, SA q → w.heap.size ≤ q := by assumption
         have hlo284 : ∀ q, SB q → w.heap.size ≤ q := by assumption
         have hap285 : ∀ q, SA q → SB q → False := by assumption
         have ho286 : ∀ i, v96.ownBlock = some i → ¬ SA i := by assumption
         have ho287 : ∀ i, v96.ownBlock = some i → ¬ SB i := by assumption
         have ho288 : ∀ i, v243.ownBlock = some i → ¬ SA i := by assumption
         have ho289 : ∀ i, v243.ownBlock = some i → ¬ SB i := by assumption
         have hE5 : gj = says gk ((inT (feed B ((outT A true).take k)) y236).1.take j) := by assumption
         have hE7 : (inT (feed B ((outT A true).take k)) y236).1.length ≤ j → gj = says gk (inT (feed B ((outT A true).take k)) y236).1 := fun hq => by rw [hE5, List.take_of_length_le hq]
         refine co_seq ?_
         refine co_seq ?_
         refine co_reg ?_
         refine pk0 (v := .int .i64 ((j : Nat) : Int)) h265 rfl fun a290 h290 => ?_; clear h265
         refine pk0 (v := v243) h290 rfl fun a291 h291 => ?_; clear h290
         refine pk (v := .int .i64 ((((inT (feed B ((outT A true).take k)) y236).1).length : Nat) : Int)) h291 rfl (rn_lenOwn rfl rfl Try.underlying38 hf280) fun a292 h292 => ?_; clear h291
         refine pk0 (v := .bool (decide (((j : Nat) : Int) < ((((inT (feed B ((outT A true).take k)) y236).1).length : Nat) : Int)))) h292 rfl fun a293 h293 => ?_; clear h292
         refine pk0 (v := .bool (decide (((j : Nat) : Int) < ((((inT (feed B ((outT A true).take k)) y236).1).length : Nat) : Int)))) h293 rfl fun a294 h294 => ?_; clear h293
         cases hc295 : (decide (((j : Nat) : Int) < ((((inT (feed B ((outT A true).take k)) y236).1).length : Nat) : Int)))
         ·
          rw [hc295] at h294
          have hp296 : ¬ (((j : Nat) : Int) < ((((inT (feed B ((outT A true).take k)) y236).1).length : Nat) : Int)) := of_decide_eq_false hc295
          clear hc295
          refine psk h294 rfl fun a297 h297 => ?_; clear h294
          refine psk h297 rfl fun a298 h298 => ?_; clear h297
          refine pk0 (v := .bool false) h298 rfl fun a299 h299 => ?_; clear h298
          refine pl_nil ?_
          refine co_then ?_
          refine co_false h299 rfl ?_
          refine wp_exit ?_
          refine co_thenX ?_
          refine co_thenX ?_
          refine co_blockX ?_
          refine co_blockN ?_
          refine co_then ?_
          refine co_reg ?_
          refine pk0 (v := .int .i64 ((k : Nat) : Int)) h299 rfl fun a300 h300 => ?_; clear h299
          refine pk (v := .int .i64 ((k + 1 : Nat) : Int)) h300 rfl (rn_arith' rfl rfl rfl rfl rfl rfl (IntWalk.i64_in _ (by omega)) (by omega)) fun a301 h301 => ?_; clear h300
          refine pk0 (v := .int .i64 ((k + 1 : Nat) : Int)) h301 rfl fun a302 h302 => ?_; clear h301
          refine pl_nil ?_
          refine co_then ?_
          refine ⟨((outT A true).length - (k + 1)), by omega, ?_⟩
          have hloA9 := hlo283
          have hloB9 := hlo284
          have hap9 := hap285
          have hSA93 : ∀ i, v96.ownBlock = some i → ¬ SA i := ho286
          have hSB94 : ∀ i, v96.ownBlock = some i → ¬ SB i := ho287
          have hfs := feed_step (B := B) hy236
          have hE9 : gj = says g (heard B ((outT A true).take (k + 1))) := by rw [heard_step hy236, says_app, ← hE8]; exact hE7 (by omega)
          have hS9 : gj.size ≤ 600000 * i + 65536 * (k + 1) := by omega
          exact ⟨SA, SB, k + 1, gj, h302.sub ⟨rfl, rfl, rfl, rfl, rfl, rfl, trivial⟩, rfl, by exact hloA9, by exact hloB9, by exact hap9, by exact hSA93, by exact hSB94, by omega, by first | exact hE9 | rfl, by first | exact hS9 | omega, hf277, (by rw [hfs]; exact hf278), hf279, hB281⟩
         ·
          rw [hc295] at h294
          have hp303 : ((j : Nat) : Int) < ((((inT (feed B ((outT A true).take k)) y236).1).length : Nat) : Int) := of_decide_eq_true hc295
          clear hc295
          refine pk0 (v := .int .i64 ((j : Nat) : Int)) h294 rfl fun a304 h304 => ?_; clear h294
          refine pk0 (v := .bool (decide (((j : Nat) : Int) < 9))) h304 rfl fun a305 h305 => ?_; clear h304
          refine pk0 (v := .bool (decide (((j : Nat) : Int) < 9))) h305 rfl fun a306 h306 => ?_; clear h305
          refine pl_nil ?_
          refine co_then ?_
          have hc307 : (decide (((j : Nat) : Int) < 9)) = true := decide_eq_true (by omega)
          rw [hc307] at h306; clear hc307
          refine co_true h306 rfl ?_
          refine wp_skip ?_
          refine co_then ?_
          refine co_seq ?_
          refine wp_block ?_
          refine co_reg ?_
          refine pk0 (v := .string gj) h306 rfl fun a308 h308 => ?_; clear h306
          refine pk0 (v := v243) h308 rfl fun a309 h309 => ?_; clear h308
          refine pk0 (v := .int .i64 ((j : Nat) : Int)) h309 rfl fun a310 h310 => ?_; clear h309
          obtain ⟨y311, hy311⟩ : ∃ z, ((inT (feed B ((outT A true).take k)) y236).1)[j]? = some z := ⟨_, List.getElem?_eq_getElem (by first | omega | (simp; done) | (simp; omega))⟩
          have oky311 := hsz254 _ (List.mem_of_getElem? hy311)
          have k312 : y311.size ≤ 65536 := oky311
          refine pk (v := pt (blkOf v243) (offOf v243 + j * 1)) h310 rfl (rn_index rfl rfl rfl Try.underlying38 Try.sizeOf9 (row_sl hf280 strE_len) (by omega) (by first | omega | (simp; done) | (simp; omega))) fun a313 h313 => ?_; clear h310
          refine pk (v := .string y311) h313 rfl (rn_load1 rfl rfl Try.isAgg9 ((sl_at (row_sl hf280 strE_len) hy311) 0 _ rfl)) fun a314 h314 => ?_; clear h313
          refine pk (v := .string (gj ++ y311)) h314 rfl (rn_addStr rfl rfl rfl (by omega)) fun a315 h315 => ?_; clear h314
          refine pk0 (v := .string (gj ++ y311)) h315 rfl fun a316 h316 => ?_; clear h315
          refine pl_nil ?_
          refine co_blockN ?_
          refine co_then ?_
          refine co_reg ?_
          refine pk0 (v := .int .i64 ((j : Nat) : Int)) h316 rfl fun a317 h317 => ?_; clear h316
          refine pk (v := .int .i64 ((j + 1 : Nat) : Int)) h317 rfl (rn_arith' rfl rfl rfl rfl rfl rfl (IntWalk.i64_in _ (by omega)) (by omega)) fun a318 h318 => ?_; clear h317
          refine pk0 (v := .int .i64 ((j + 1 : Nat) : Int)) h318 rfl fun a319 h319 => ?_; clear h318
          refine pl_nil ?_
          refine co_then ?_
          refine ⟨((inT (feed B ((outT A true).take k)) y236).1.length - (j + 1)), by omega, ?_⟩
          have hloA9 := hlo283
          have hloB9 := hlo284
          have hap9 := hap285
          have hSA93 : ∀ i, v96.ownBlock = some i → ¬ SA i := ho286
          have hSB94 : ∀ i, v96.ownBlock = some i → ¬ SB i := ho287
          have hSA95 : ∀ i, v243.ownBlock = some i → ¬ SA i := ho288
          have hSB96 : ∀ i, v243.ownBlock = some i → ¬ SB i := ho289
          have hE6 : gj ++ y311 = says gk ((inT (feed B ((outT A true).take k)) y236).1.take (j + 1)) := by rw [hE5]; exact says_step hy311
          have hS6 : (gj ++ y311).size ≤ 600000 * i + 65536 * k + 65536 * (j + 1) := by have hq := inT_size (L := (feed B ((outT A true).take k))) (hbody y236 (List.mem_of_getElem? hy236)) y311 (List.mem_of_getElem? hy311); rw [ByteArray.size_append]; omega
          exact ⟨SA, SB, j + 1, (gj ++ y311), h319.sub ⟨rfl, rfl, rfl, rfl, rfl, rfl, rfl, rfl, trivial⟩, rfl, by exact hloA9, by exact hloB9, by exact hap9, by exact hSA93, by exact hSB94, by exact hSA95, by exact hSB96, by omega, by first | rfl | exact hE6, by first | omega | exact hS6, hf277, hf278, hf279, hf280, hB281⟩
end Go.Proofs.Ythmljllgfigebaa
