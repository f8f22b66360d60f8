/- Package link: zero, Knows, Waiting, know; the document's known. Conditions: none. -/
import Derived.Test.YthmljllgfigebaaLinkA
namespace Go.Proofs.Ythmljllgfigebaa
open Go.RowKit Go.PlainAid
set_option linter.unusedVariables false


theorem strE_len (s : ByteArray) : (strE s).length = 1 := rfl
theorem strE_one (s : ByteArray) : ∀ u ∈ strE s, u.oneCell' = true := by intro u hu; simp [strE] at hu; subst hu; rfl
theorem own_but {S : Nat → Prop} {w x : World} {v : Value} {e : TypeId} {B sz k : Nat} {xs : List Value} (h : w.ownsRow B e sz v k xs) (hb : But S w x) (hn : ∀ i, v.ownBlock = some i → ¬ S i) : x.ownsRow B e sz v k xs := own_butS h hb hn
theorem Blk.but {S : Nat → Prop} {w x : World} {N : Nat} {T : TypeId} {cs : Array Value} (h : Blk w N T cs) (hb : But S w x) (hn : ¬ S N) : Blk x N T cs := h.butS hb hn
theorem intE_lenL (y : Int) : (intE .i64 y).length = 1 := rfl
theorem intE_oneL (y : Int) : ∀ u ∈ intE .i64 y, u.oneCell' = true := by intro u hu; simp [intE] at hu; subst hu; rfl

set_option maxRecDepth 100000 in
theorem lkZero_blk (b : Nat) (u : Value) (L : LnT) (w : World) (hB : Blk w b 102 #[.int .i64 L.boot, .int .i64 L.stream, .int .i64 L.first, u, .int .i64 L.told, .int .i64 L.peer, .int .i64 L.in0, .int .i64 L.next, .bool L.owes]) (hok : LnOk L) :
    Calls Try.prog 71 #[pt b 0] w fun e w' => e = .returned (.bool false) ∧ w = w' := by
 have hB0 := Below.refl w.heap.size w
 have hl_hB := hB.lt
 obtain ⟨⟨k1, k2⟩, ⟨k3, k4⟩, ⟨k5, k6⟩, ⟨k7, k8⟩, ⟨k9, k10⟩, ⟨k11, k12⟩, ⟨k13, k14⟩, k15, k16⟩ := id hok
 refine co_enter (n := 12) Try.func71 rfl rfl rfl [(0, pt b 0)] rfl (fun a h0 => ?_)
 refine co_seq ?_
 refine co_reg ?_
 refine pk0 (v := .bool false) h0 rfl fun a1 h1 => ?_; clear h0
 refine pl_nil ?_
 refine co_then ?_
 refine co_seq ?_
 refine co_reg ?_
 refine pk0 (v := pt b 0) h1 rfl fun a2 h2 => ?_; clear h1
 refine pk0 (v := .bool false) h2 rfl fun a3 h3 => ?_; clear h2
 refine pk0 (v := .bool false) h3 rfl fun a4 h4 => ?_; clear h3
 refine pk0 (v := pt b 0) h4 rfl fun a5 h5 => ?_; clear h4
 refine pk0 (v := pt b 0) h5 rfl fun a6 h6 => ?_; clear h5
 refine pk0 (v := pt b 0) h6 rfl fun a7 h7 => ?_; clear h6
 refine pk (v := .int .i64 L.boot) h7 rfl (rn_load1 rfl rfl Try.isAgg3 (hB.cell rfl)) fun a8 h8 => ?_; clear h7
 refine pk0 (v := .bool (L.boot == 0)) h8 rfl fun a9 h9 => ?_; clear h8
 refine pk0 (v := .bool (L.boot == 0)) h9 rfl fun a10 h10 => ?_; clear h9
 refine pk0 (v := .bool (L.boot == 0)) h10 rfl fun a11 h11 => ?_; clear h10
 refine pl_nil ?_
 refine co_then ?_
 refine wp_ret ?_
 refine co_ret1 h11 rfl rfl ?_
 exact ⟨by rw [beq_false_of_ne (show L.boot ≠ 0 by omega)], rfl⟩
set_option maxRecDepth 100000 in
theorem lkKnows_blk (b : Nat) (u : Value) (L : LnT) (w : World) (hB : Blk w b 102 #[.int .i64 L.boot, .int .i64 L.stream, .int .i64 L.first, u, .int .i64 L.told, .int .i64 L.peer, .int .i64 L.in0, .int .i64 L.next, .bool L.owes]) (hok : LnOk L) :
    Calls Try.prog 42 #[pt b 0] w fun e w' => e = .returned (.int .i64 L.peer) ∧ w = w' := by
 have hB0 := Below.refl w.heap.size w
 have hl_hB := hB.lt
 obtain ⟨⟨k1, k2⟩, ⟨k3, k4⟩, ⟨k5, k6⟩, ⟨k7, k8⟩, ⟨k9, k10⟩, ⟨k11, k12⟩, ⟨k13, k14⟩, k15, k16⟩ := id hok
 refine co_enter (n := 9) Try.func42 rfl rfl rfl [(0, pt b 0)] rfl (fun a h0 => ?_)
 refine co_seq ?_
 refine co_reg ?_
 refine pk0 (v := .int .i64 0) h0 rfl fun a1 h1 => ?_; clear h0
 refine pl_nil ?_
 refine co_then ?_
 refine co_seq ?_
 refine co_seq ?_
 refine co_reg ?_
 refine pk0 (v := pt b 0) h1 rfl fun a2 h2 => ?_; clear h1
 refine pw h2 rfl (op_call (args := #[pt b 0]) (R := fun res xw => res = .bool false ∧ w = xw) rfl rfl rfl (by kernel_rfl) (by kernel_rfl) (Try.call71 _ _) (lkZero_blk b u _ w hB (by first | omega | (simp; done) | (simp; omega))) (by rintro e x ⟨rfl, rfl⟩; exact ⟨_, rfl, ⟨rfl, rfl⟩⟩)) ?_; clear h2
 rintro _ _ a3 ⟨rfl, rfl⟩ h3
 refine pl_nil ?_
 refine co_then ?_
 refine co_false h3 rfl ?_
 refine wp_skip ?_
 refine co_then ?_
 refine co_seq ?_
 refine co_reg ?_
 refine pk0 (v := pt b 0) h3 rfl fun a6 h6 => ?_; clear h3
 refine pk0 (v := pt b 0) h6 rfl fun a7 h7 => ?_; clear h6
 refine pk0 (v := pt b 5) h7 rfl fun a8 h8 => ?_; clear h7
 refine pk (v := .int .i64 L.peer) h8 rfl (rn_load1 rfl rfl Try.isAgg3 (hB.cell rfl)) fun a9 h9 => ?_; clear h8
 refine pk0 (v := .int .i64 L.peer) h9 rfl fun a10 h10 => ?_; clear h9
 refine pl_nil ?_
 refine co_then ?_
 refine wp_ret ?_
 refine co_ret1 h10 rfl rfl ?_
 exact ⟨rfl, rfl⟩
set_option maxRecDepth 100000 in
theorem lkWaiting_blk (b : Nat) (u : Value) (L : LnT) (w : World) (hB : Blk w b 102 #[.int .i64 L.boot, .int .i64 L.stream, .int .i64 L.first, u, .int .i64 L.told, .int .i64 L.peer, .int .i64 L.in0, .int .i64 L.next, .bool L.owes]) (hok : LnOk L) (hs : SliceOf strE 1 w u L.q) :
    Calls Try.prog 41 #[pt b 0] w fun e w' => e = .returned (.int .i64 (L.q.length : Int)) ∧ w = w' := by
 have hB0 := Below.refl w.heap.size w
 have hl_hB := hB.lt
 have hl_hs := sl_len hs
 obtain ⟨⟨k1, k2⟩, ⟨k3, k4⟩, ⟨k5, k6⟩, ⟨k7, k8⟩, ⟨k9, k10⟩, ⟨k11, k12⟩, ⟨k13, k14⟩, k15, k16⟩ := id hok
 refine co_enter (n := 11) Try.func41 rfl rfl rfl [(0, pt b 0)] rfl (fun a h0 => ?_)
 refine co_seq ?_
 refine co_reg ?_
 refine pk0 (v := .int .i64 0) h0 rfl fun a1 h1 => ?_; clear h0
 refine pl_nil ?_
 refine co_then ?_
 refine co_seq ?_
 refine co_seq ?_
 refine co_reg ?_
 refine pk0 (v := pt b 0) h1 rfl fun a2 h2 => ?_; clear h1
 refine pw h2 rfl (op_call (args := #[pt b 0]) (R := fun res xw => res = .bool false ∧ w = xw) rfl rfl rfl (by kernel_rfl) (by kernel_rfl) (Try.call71 _ _) (lkZero_blk b u _ w hB (by first | omega | (simp; done) | (simp; omega))) (by rintro e x ⟨rfl, rfl⟩; exact ⟨_, rfl, ⟨rfl, rfl⟩⟩)) ?_; clear h2
 rintro _ _ a3 ⟨rfl, rfl⟩ h3
 refine pl_nil ?_
 refine co_then ?_
 refine co_false h3 rfl ?_
 refine wp_skip ?_
 refine co_then ?_
 refine co_seq ?_
 refine co_reg ?_
 refine pk0 (v := pt b 0) h3 rfl fun a6 h6 => ?_; clear h3
 refine pk0 (v := pt b 0) h6 rfl fun a7 h7 => ?_; clear h6
 refine pk0 (v := pt b 2) h7 rfl fun a8 h8 => ?_; clear h7
 refine pk0 (v := pt b 3) h8 rfl fun a9 h9 => ?_; clear h8
 refine pk (v := u) h9 rfl (rn_load1 rfl rfl Try.isAgg38 (hB.cell rfl)) fun a10 h10 => ?_; clear h9
 refine pk (v := .int .i64 ((L.q.length : Nat) : Int)) h10 rfl (rn_len rfl rfl Try.underlying38 hs) fun a11 h11 => ?_; clear h10
 refine pk0 (v := .int .i64 ((L.q.length : Nat) : Int)) h11 rfl fun a12 h12 => ?_; clear h11
 refine pl_nil ?_
 refine co_then ?_
 refine wp_ret ?_
 refine co_ret1 h12 rfl rfl ?_
 exact ⟨rfl, rfl⟩
set_option maxRecDepth 100000 in
theorem lkKnow_blk (b : Nat) (u : Value) (L : LnT) (s : SegT) (w : World) (hB : Blk w b 102 #[.int .i64 L.boot, .int .i64 L.stream, .int .i64 L.first, u, .int .i64 L.told, .int .i64 L.peer, .int .i64 L.in0, .int .i64 L.next, .bool L.owes]) (hok : LnOk L) (hm : 0 ≤ s.boot ∧ 0 ≤ s.stream) :
    Calls Try.prog 75 #[pt b 0, .agg #[.int .i64 s.boot, .int .i64 s.stream, .int .i64 s.seq, .int .i64 s.ab, .int .i64 s.ast, .int .i64 s.asq, .bool s.has, .string s.body]] w fun e w' => e = .returned (.tuple #[]) ∧ Blk w' b 102 (lnC (knowT L s) u) ∧ But (fun q => q = b) w w' := by
 have hB0 := But.refl (fun q => q = b) w
 have hl_hB := hB.lt
 obtain ⟨⟨k1, k2⟩, ⟨k3, k4⟩, ⟨k5, k6⟩, ⟨k7, k8⟩, ⟨k9, k10⟩, ⟨k11, k12⟩, ⟨k13, k14⟩, k15, k16⟩ := id hok
 have hSb : (fun q => q = b) b ∨ w.heap.size ≤ b := .inl rfl
 refine co_enter (n := 60) Try.func75 rfl rfl rfl [(0, pt b 0), (1, .agg #[.int .i64 s.boot, .int .i64 s.stream, .int .i64 s.seq, .int .i64 s.ab, .int .i64 s.ast, .int .i64 s.asq, .bool s.has, .string s.body])] rfl (fun a h0 => ?_)
 refine co_seq ?_
 refine co_reg ?_
 refine pw h0 rfl (op_new (v := fun N => pt N 0) (T := 61) (cs := #[.int .i64 s.boot, .int .i64 s.stream, .int .i64 s.seq, .int .i64 s.ab, .int .i64 s.ast, .int .i64 s.asq, .bool s.has, .string s.body]) (by kernel_rfl) (by kernel_rfl) (by kernel_rfl)) ?_; clear h0
 rintro _ w2 a1 ⟨N3, rfl, hN6, hz7, hk5, hg4⟩ h1
 have hz8 := hg4.size
 try dsimp only at h1
 refine pl_nil ?_
 refine co_then ?_
 refine wp_block ?_
 refine co_seq ?_
 refine dr_eq (by kernel_rfl) (fun w9 hg10 => ?_)
 have hz11 := hg10.size
 refine dk0 0 (v := pt N3 0) h1 rfl rfl rfl fun a12 h12 => ?_; clear h1
 have hk13 := hk5.kept hg10 (by simp)
 refine dk 1 (v := .int .i64 s.boot) h12 rfl rfl rfl (fun x hx => by subst hx; exact (rn_load1 rfl rfl Try.isAgg3 (hk13.cell rfl))) fun a14 h14 => ?_; clear h12
 refine dk0 2 (v := pt b 0) h14 rfl rfl rfl fun a15 h15 => ?_; clear h14
 refine dk0 3 (v := pt b 0) h15 rfl rfl rfl fun a16 h16 => ?_; clear h15
 refine dk0 4 (v := pt b 5) h16 rfl rfl rfl fun a17 h17 => ?_; clear h16
 have hk18 := hB.kept hg4 (by simp)
 have hk19 := hk18.kept hg10 (by simp)
 refine dk 5 (v := .int .i64 L.peer) h17 rfl rfl rfl (fun x hx => by subst hx; exact (rn_load1 rfl rfl Try.isAgg3 (hk19.cell rfl))) fun a20 h20 => ?_; clear h17
 refine dk0 6 (v := .bool (decide (s.boot > L.peer))) h20 rfl rfl rfl fun a21 h21 => ?_; clear h20
 refine dk0 7 (v := .bool (decide (s.boot > L.peer))) h21 rfl rfl rfl fun a22 h22 => ?_; clear h21
 refine dr_done (by kernel_rfl) ?_
 refine co_then ?_
 have hB24 := fbU_new hB0 hg4
 have hB25 := fbU_new hB24 hg10
 cases hc23 : (decide (s.boot > L.peer))
 ·
  rw [hc23] at h22
  have hp26 : ¬ (s.boot > L.peer) := of_decide_eq_false hc23
  clear hc23
  refine co_false h22 rfl ?_
  refine co_seq ?_
  refine dr_eq (by kernel_rfl) (fun w27 hg28 => ?_)
  have hz29 := hg28.size
  refine dk0 0 (v := pt N3 1) h22 rfl rfl rfl fun a30 h30 => ?_; clear h22
  have hk31 := hk13.kept hg28 (by simp)
  refine dk 1 (v := .int .i64 s.stream) h30 rfl rfl rfl (fun x hx => by subst hx; exact (rn_load1 rfl rfl Try.isAgg3 (hk31.cell rfl))) fun a32 h32 => ?_; clear h30
  refine dk0 2 (v := pt b 0) h32 rfl rfl rfl fun a33 h33 => ?_; clear h32
  refine dk0 3 (v := pt b 0) h33 rfl rfl rfl fun a34 h34 => ?_; clear h33
  refine dk0 4 (v := pt b 6) h34 rfl rfl rfl fun a35 h35 => ?_; clear h34
  have hk36 := hk19.kept hg28 (by simp)
  refine dk 5 (v := .int .i64 L.in0) h35 rfl rfl rfl (fun x hx => by subst hx; exact (rn_load1 rfl rfl Try.isAgg3 (hk36.cell rfl))) fun a37 h37 => ?_; clear h35
  refine dk0 6 (v := .bool (decide (s.stream > L.in0))) h37 rfl rfl rfl fun a38 h38 => ?_; clear h37
  refine dk0 7 (v := .bool (decide (s.stream > L.in0))) h38 rfl rfl rfl fun a39 h39 => ?_; clear h38
  refine dr_done (by kernel_rfl) ?_
  refine co_then ?_
  have hB41 := fbU_new hB25 hg28
  cases hc40 : (decide (s.stream > L.in0))
  ·
   rw [hc40] at h39
   have hp42 : ¬ (s.stream > L.in0) := of_decide_eq_false hc40
   clear hc40
   refine co_false h39 rfl ?_
   refine wp_skip ?_
   refine co_blockN ?_
   refine co_ret0n h39 rfl ?_
   have hE : Blk w27 b 102 (lnC (knowT L s) u) := by
     unfold knowT; first
     | (rw [if_pos (by omega), if_pos (by omega)]; exact hk36)
     | (rw [if_pos (by omega), if_neg (by omega)]; exact hk36)
     | (rw [if_neg (by omega), if_pos (by omega)]; exact hk36)
     | (rw [if_neg (by omega), if_neg (by omega)]; exact hk36)
   exact ⟨rfl, hE, hB41⟩
  ·
   rw [hc40] at h39
   have hp43 : s.stream > L.in0 := of_decide_eq_true hc40
   clear hc40
   refine co_true h39 rfl ?_
   refine co_reg ?_
   refine pk0 (v := pt b 0) h39 rfl fun a44 h44 => ?_; clear h39
   refine pk0 (v := pt b 0) h44 rfl fun a45 h45 => ?_; clear h44
   refine pk0 (v := pt N3 1) h45 rfl fun a46 h46 => ?_; clear h45
   refine pk (v := .int .i64 s.stream) h46 rfl (rn_load1 rfl rfl Try.isAgg3 (hk31.cell rfl)) fun a47 h47 => ?_; clear h46
   refine pk0 (v := pt b 0) h47 rfl fun a48 h48 => ?_; clear h47
   refine pk0 (v := pt b 6) h48 rfl fun a49 h49 => ?_; clear h48
   refine pwD h49 rfl (op_store1 rfl rfl rfl rfl Try.sizeOf3 hk36 rfl) ?_; clear h49
   rintro _ w51 a50 ⟨hk52, hz53, hg54⟩ h50
   have hk52' : Blk w51 b 102 #[.int .i64 L.boot, .int .i64 L.stream, .int .i64 L.first, u, .int .i64 L.told, .int .i64 L.peer, .int .i64 s.stream, .int .i64 L.next, .bool L.owes] := hk52; clear hk52
   have hz55 := hg54.size
   refine pk0 (v := pt b 0) h50 rfl fun a56 h56 => ?_; clear h50
   refine pk0 (v := pt b 7) h56 rfl fun a57 h57 => ?_; clear h56
   refine pwD h57 rfl (op_store1 rfl rfl rfl rfl Try.sizeOf3 hk52' rfl) ?_; clear h57
   rintro _ w59 a58 ⟨hk60, hz61, hg62⟩ h58
   have hk60' : Blk w59 b 102 #[.int .i64 L.boot, .int .i64 L.stream, .int .i64 L.first, u, .int .i64 L.told, .int .i64 L.peer, .int .i64 s.stream, .int .i64 0, .bool L.owes] := hk60; clear hk60
   have hz63 := hg62.size
   refine pl_nil ?_
   refine co_blockN ?_
   refine co_ret0n h58 rfl ?_
   have hB64 := fbU_at hB41 hg54 (fun hlt => by rcases hSb with hq | hq; exact hq; omega)
   have hB65 := fbU_at hB64 hg62 (fun hlt => by rcases hSb with hq | hq; exact hq; omega)
   have hE : Blk w59 b 102 (lnC (knowT L s) u) := by
     unfold knowT; first
     | (rw [if_pos (by omega), if_pos (by omega)]; exact hk60')
     | (rw [if_pos (by omega), if_neg (by omega)]; exact hk60')
     | (rw [if_neg (by omega), if_pos (by omega)]; exact hk60')
     | (rw [if_neg (by omega), if_neg (by omega)]; exact hk60')
   exact ⟨rfl, hE, hB65⟩
 ·
  rw [hc23] at h22
  have hp66 : s.boot > L.peer := of_decide_eq_true hc23
  clear hc23
  refine co_true h22 rfl ?_
  refine co_seq ?_
  refine co_seq ?_
  refine co_reg ?_
  refine pk0 (v := pt b 0) h22 rfl fun a67 h67 => ?_; clear h22
  refine pk0 (v := pt b 0) h67 rfl fun a68 h68 => ?_; clear h67
  refine pk0 (v := pt b 5) h68 rfl fun a69 h69 => ?_; clear h68
  refine pk (v := .int .i64 L.peer) h69 rfl (rn_load1 rfl rfl Try.isAgg3 (hk19.cell rfl)) fun a70 h70 => ?_; clear h69
  refine pk0 (v := .bool (L.peer != 0)) h70 rfl fun a71 h71 => ?_; clear h70
  refine pl_nil ?_
  refine co_then ?_
  cases hc72 : (L.peer != 0)
  ·
   rw [hc72] at h71
   have hp73 : ¬ (L.peer ≠ 0) := by first | simpa using hc72 | simpa [and_assoc] using hc72
   clear hc72
   refine co_false h71 rfl ?_
   refine wp_skip ?_
   refine co_then ?_
   refine dr_gen (fun x => But (fun q => q = b) w x ∧ Blk x N3 61 #[.int .i64 s.boot, .int .i64 s.stream, .int .i64 s.seq, .int .i64 s.ab, .int .i64 s.ast, .int .i64 s.asq, .bool s.has, .string s.body]) (by kernel_rfl) (fun w74 hg75 => ?_) (fun w74 hg75 => ?_)
   ·
    have hz76 := hg75.size
    have hB77 := fbU_new hB25 hg75
    have hk78 := hk13.kept hg75 (by simp)
    exact ⟨hB77, hk78⟩
   have hz79 := hg75.size
   have hB80 := fbU_new hB25 hg75
   have hk81 := hk13.kept hg75 (by simp)
   refine dk0 0 (v := pt b 0) h71 rfl rfl ⟨hB80, hk81⟩ fun a82 h82 => ?_; clear h71
   refine dk0 1 (v := pt b 0) h82 rfl rfl ⟨hB80, hk81⟩ fun a83 h83 => ?_; clear h82
   refine dk0 2 (v := pt b 0) h83 rfl rfl ⟨hB80, hk81⟩ fun a84 h84 => ?_; clear h83
   refine dk0 3 (v := pt N3 0) h84 rfl rfl ⟨hB80, hk81⟩ fun a85 h85 => ?_; clear h84
   refine dk0 5 (v := pt N3 1) h85 rfl rfl ⟨hB80, hk81⟩ fun a86 h86 => ?_; clear h85
   refine dr_many [4, 6] (by kernel_rfl) (by simp) ⟨?_, ?_, trivial⟩
   ·
    refine dr_opVal (i := 4) (v := .int .i64 s.boot) h86 rfl rfl rfl rfl (by kernel_rfl) rfl (rn_load1 rfl rfl Try.isAgg3 (hk81.cell rfl)) ⟨hB80, hk81⟩ (fun a87 h87 => ?_); clear h86
    refine dk0 7 (v := pt b 0) h87 rfl rfl ⟨hB80, hk81⟩ fun a88 h88 => ?_; clear h87
    refine dk0 8 (v := pt b 5) h88 rfl rfl ⟨hB80, hk81⟩ fun a89 h89 => ?_; clear h88
    refine dr_many [6, 9] (by kernel_rfl) (by simp) ⟨?_, ?_, trivial⟩
    ·
     refine dr_opVal (i := 6) (v := .int .i64 s.stream) h89 rfl rfl rfl rfl (by kernel_rfl) rfl (rn_load1 rfl rfl Try.isAgg3 (hk81.cell rfl)) ⟨hB80, hk81⟩ (fun a90 h90 => ?_); clear h89
     have hk96 := hk19.kept hg75 (by simp)
     refine d1D 9 h90 rfl rfl (op_store1 rfl rfl rfl rfl Try.sizeOf3 hk96 rfl) ?_ ?_; clear h90
     ·
      rintro _ w92 ⟨hk93, hz94, hg95⟩
      have hk93' : Blk w92 b 102 #[.int .i64 L.boot, .int .i64 L.stream, .int .i64 L.first, u, .int .i64 L.told, .int .i64 s.boot, .int .i64 L.in0, .int .i64 L.next, .bool L.owes] := hk93; clear hk93
      have hz97 := hg95.size
      have hB98 := fbU_at hB80 hg95 (fun hlt => by rcases hSb with hq | hq; exact hq; omega)
      have hk99 := hk81.kept hg95 (by simp; omega)
      exact ⟨hB98, hk99⟩
     rintro _ w92 a91 ⟨hk93, hz94, hg95⟩ h91
     have hk93' : Blk w92 b 102 #[.int .i64 L.boot, .int .i64 L.stream, .int .i64 L.first, u, .int .i64 L.told, .int .i64 s.boot, .int .i64 L.in0, .int .i64 L.next, .bool L.owes] := hk93; clear hk93
     have hz97 := hg95.size
     have hB98 := fbU_at hB80 hg95 (fun hlt => by rcases hSb with hq | hq; exact hq; omega)
     have hk99 := hk81.kept hg95 (by simp; omega)
     refine dk0 10 (v := pt b 0) h91 rfl rfl ⟨hB98, hk99⟩ fun a100 h100 => ?_; clear h91
     refine dk0 11 (v := pt b 6) h100 rfl rfl ⟨hB98, hk99⟩ fun a101 h101 => ?_; clear h100
     refine d1D 12 h101 rfl rfl (op_store1 rfl rfl rfl rfl Try.sizeOf3 hk93' rfl) ?_ ?_; clear h101
     ·
      rintro _ w103 ⟨hk104, hz105, hg106⟩
      have hk104' : Blk w103 b 102 #[.int .i64 L.boot, .int .i64 L.stream, .int .i64 L.first, u, .int .i64 L.told, .int .i64 s.boot, .int .i64 s.stream, .int .i64 L.next, .bool L.owes] := hk104; clear hk104
      have hz107 := hg106.size
      have hB108 := fbU_at hB98 hg106 (fun hlt => by rcases hSb with hq | hq; exact hq; omega)
      have hk109 := hk99.kept hg106 (by simp; omega)
      exact ⟨hB108, hk109⟩
     rintro _ w103 a102 ⟨hk104, hz105, hg106⟩ h102
     have hk104' : Blk w103 b 102 #[.int .i64 L.boot, .int .i64 L.stream, .int .i64 L.first, u, .int .i64 L.told, .int .i64 s.boot, .int .i64 s.stream, .int .i64 L.next, .bool L.owes] := hk104; clear hk104
     have hz107 := hg106.size
     have hB108 := fbU_at hB98 hg106 (fun hlt => by rcases hSb with hq | hq; exact hq; omega)
     have hk109 := hk99.kept hg106 (by simp; omega)
     refine dk0 13 (v := pt b 0) h102 rfl rfl ⟨hB108, hk109⟩ fun a110 h110 => ?_; clear h102
     refine dk0 14 (v := pt b 7) h110 rfl rfl ⟨hB108, hk109⟩ fun a111 h111 => ?_; clear h110
     refine d1D 15 h111 rfl rfl (op_store1 rfl rfl rfl rfl Try.sizeOf3 hk104' rfl) ?_ ?_; clear h111
     ·
      rintro _ w113 ⟨hk114, hz115, hg116⟩
      have hk114' : Blk w113 b 102 #[.int .i64 L.boot, .int .i64 L.stream, .int .i64 L.first, u, .int .i64 L.told, .int .i64 s.boot, .int .i64 s.stream, .int .i64 0, .bool L.owes] := hk114; clear hk114
      have hz117 := hg116.size
      have hB118 := fbU_at hB108 hg116 (fun hlt => by rcases hSb with hq | hq; exact hq; omega)
      have hk119 := hk109.kept hg116 (by simp; omega)
      exact ⟨hB118, hk119⟩
     rintro _ w113 a112 ⟨hk114, hz115, hg116⟩ h112
     have hk114' : Blk w113 b 102 #[.int .i64 L.boot, .int .i64 L.stream, .int .i64 L.first, u, .int .i64 L.told, .int .i64 s.boot, .int .i64 s.stream, .int .i64 0, .bool L.owes] := hk114; clear hk114
     have hz117 := hg116.size
     refine dr_done (by kernel_rfl) ?_
     refine co_blockN ?_
     refine co_ret0n h112 rfl ?_
     have hB118 := fbU_at hB108 hg116 (fun hlt => by rcases hSb with hq | hq; exact hq; omega)
     have hE : Blk w113 b 102 (lnC (knowT L s) u) := by
       unfold knowT; first
       | (rw [if_pos (by omega), if_pos (by omega)]; exact hk114')
       | (rw [if_pos (by omega), if_neg (by omega)]; exact hk114')
       | (rw [if_neg (by omega), if_pos (by omega)]; exact hk114')
       | (rw [if_neg (by omega), if_neg (by omega)]; exact hk114')
     exact ⟨rfl, hE, hB118⟩
    ·
     have hk124 := hk19.kept hg75 (by simp)
     refine dr_opDo (i := 9) h89 rfl rfl rfl (op_store1 rfl rfl rfl rfl Try.sizeOf3 hk124 rfl) ?_ ?_; clear h89
     ·
      rintro _ w120 ⟨hk121, hz122, hg123⟩
      have hk121' : Blk w120 b 102 #[.int .i64 L.boot, .int .i64 L.stream, .int .i64 L.first, u, .int .i64 L.told, .int .i64 s.boot, .int .i64 L.in0, .int .i64 L.next, .bool L.owes] := hk121; clear hk121
      have hz125 := hg123.size
      have hB126 := fbU_at hB80 hg123 (fun hlt => by rcases hSb with hq | hq; exact hq; omega)
      have hk127 := hk81.kept hg123 (by simp; omega)
      exact ⟨hB126, hk127⟩
     rintro _ w120 a119 ⟨hk121, hz122, hg123⟩ h119
     have hk121' : Blk w120 b 102 #[.int .i64 L.boot, .int .i64 L.stream, .int .i64 L.first, u, .int .i64 L.told, .int .i64 s.boot, .int .i64 L.in0, .int .i64 L.next, .bool L.owes] := hk121; clear hk121
     have hz125 := hg123.size
     have hB126 := fbU_at hB80 hg123 (fun hlt => by rcases hSb with hq | hq; exact hq; omega)
     have hk127 := hk81.kept hg123 (by simp; omega)
     refine dr_many [6] (by kernel_rfl) (by simp) ⟨?_, trivial⟩
     ·
      refine dr_opVal (i := 6) (v := .int .i64 s.stream) h119 rfl rfl rfl rfl (by kernel_rfl) rfl (rn_load1 rfl rfl Try.isAgg3 (hk127.cell rfl)) ⟨hB126, hk127⟩ (fun a128 h128 => ?_); clear h119
      refine dk0 10 (v := pt b 0) h128 rfl rfl ⟨hB126, hk127⟩ fun a129 h129 => ?_; clear h128
      refine dk0 11 (v := pt b 6) h129 rfl rfl ⟨hB126, hk127⟩ fun a130 h130 => ?_; clear h129
      refine d1D 12 h130 rfl rfl (op_store1 rfl rfl rfl rfl Try.sizeOf3 hk121' rfl) ?_ ?_; clear h130
      ·
       rintro _ w132 ⟨hk133, hz134, hg135⟩
       have hk133' : Blk w132 b 102 #[.int .i64 L.boot, .int .i64 L.stream, .int .i64 L.first, u, .int .i64 L.told, .int .i64 s.boot, .int .i64 s.stream, .int .i64 L.next, .bool L.owes] := hk133; clear hk133
       have hz136 := hg135.size
       have hB137 := fbU_at hB126 hg135 (fun hlt => by rcases hSb with hq | hq; exact hq; omega)
       have hk138 := hk127.kept hg135 (by simp; omega)
       exact ⟨hB137, hk138⟩
      rintro _ w132 a131 ⟨hk133, hz134, hg135⟩ h131
      have hk133' : Blk w132 b 102 #[.int .i64 L.boot, .int .i64 L.stream, .int .i64 L.first, u, .int .i64 L.told, .int .i64 s.boot, .int .i64 s.stream, .int .i64 L.next, .bool L.owes] := hk133; clear hk133
      have hz136 := hg135.size
      have hB137 := fbU_at hB126 hg135 (fun hlt => by rcases hSb with hq | hq; exact hq; omega)
      have hk138 := hk127.kept hg135 (by simp; omega)
      refine dk0 13 (v := pt b 0) h131 rfl rfl ⟨hB137, hk138⟩ fun a139 h139 => ?_; clear h131
      refine dk0 14 (v := pt b 7) h139 rfl rfl ⟨hB137, hk138⟩ fun a140 h140 => ?_; clear h139
      refine d1D 15 h140 rfl rfl (op_store1 rfl rfl rfl rfl Try.sizeOf3 hk133' rfl) ?_ ?_; clear h140
      ·
       rintro _ w142 ⟨hk143, hz144, hg145⟩
       have hk143' : Blk w142 b 102 #[.int .i64 L.boot, .int .i64 L.stream, .int .i64 L.first, u, .int .i64 L.told, .int .i64 s.boot, .int .i64 s.stream, .int .i64 0, .bool L.owes] := hk143; clear hk143
       have hz146 := hg145.size
       have hB147 := fbU_at hB137 hg145 (fun hlt => by rcases hSb with hq | hq; exact hq; omega)
       have hk148 := hk138.kept hg145 (by simp; omega)
       exact ⟨hB147, hk148⟩
      rintro _ w142 a141 ⟨hk143, hz144, hg145⟩ h141
      have hk143' : Blk w142 b 102 #[.int .i64 L.boot, .int .i64 L.stream, .int .i64 L.first, u, .int .i64 L.told, .int .i64 s.boot, .int .i64 s.stream, .int .i64 0, .bool L.owes] := hk143; clear hk143
      have hz146 := hg145.size
      refine dr_done (by kernel_rfl) ?_
      refine co_blockN ?_
      refine co_ret0n h141 rfl ?_
      have hB147 := fbU_at hB137 hg145 (fun hlt => by rcases hSb with hq | hq; exact hq; omega)
      have hE : Blk w142 b 102 (lnC (knowT L s) u) := by
        unfold knowT; first
        | (rw [if_pos (by omega), if_pos (by omega)]; exact hk143')
        | (rw [if_pos (by omega), if_neg (by omega)]; exact hk143')
        | (rw [if_neg (by omega), if_pos (by omega)]; exact hk143')
        | (rw [if_neg (by omega), if_neg (by omega)]; exact hk143')
      exact ⟨rfl, hE, hB147⟩
   ·
    refine dr_opVal (i := 6) (v := .int .i64 s.stream) h86 rfl rfl rfl rfl (by kernel_rfl) rfl (rn_load1 rfl rfl Try.isAgg3 (hk81.cell rfl)) ⟨hB80, hk81⟩ (fun a148 h148 => ?_); clear h86
    refine dr_many [4] (by kernel_rfl) (by simp) ⟨?_, trivial⟩
    ·
     refine dr_opVal (i := 4) (v := .int .i64 s.boot) h148 rfl rfl rfl rfl (by kernel_rfl) rfl (rn_load1 rfl rfl Try.isAgg3 (hk81.cell rfl)) ⟨hB80, hk81⟩ (fun a149 h149 => ?_); clear h148
     refine dk0 7 (v := pt b 0) h149 rfl rfl ⟨hB80, hk81⟩ fun a150 h150 => ?_; clear h149
     refine dk0 8 (v := pt b 5) h150 rfl rfl ⟨hB80, hk81⟩ fun a151 h151 => ?_; clear h150
     have hk157 := hk19.kept hg75 (by simp)
     refine d1D 9 h151 rfl rfl (op_store1 rfl rfl rfl rfl Try.sizeOf3 hk157 rfl) ?_ ?_; clear h151
     ·
      rintro _ w153 ⟨hk154, hz155, hg156⟩
      have hk154' : Blk w153 b 102 #[.int .i64 L.boot, .int .i64 L.stream, .int .i64 L.first, u, .int .i64 L.told, .int .i64 s.boot, .int .i64 L.in0, .int .i64 L.next, .bool L.owes] := hk154; clear hk154
      have hz158 := hg156.size
      have hB159 := fbU_at hB80 hg156 (fun hlt => by rcases hSb with hq | hq; exact hq; omega)
      have hk160 := hk81.kept hg156 (by simp; omega)
      exact ⟨hB159, hk160⟩
     rintro _ w153 a152 ⟨hk154, hz155, hg156⟩ h152
     have hk154' : Blk w153 b 102 #[.int .i64 L.boot, .int .i64 L.stream, .int .i64 L.first, u, .int .i64 L.told, .int .i64 s.boot, .int .i64 L.in0, .int .i64 L.next, .bool L.owes] := hk154; clear hk154
     have hz158 := hg156.size
     have hB159 := fbU_at hB80 hg156 (fun hlt => by rcases hSb with hq | hq; exact hq; omega)
     have hk160 := hk81.kept hg156 (by simp; omega)
     refine dk0 10 (v := pt b 0) h152 rfl rfl ⟨hB159, hk160⟩ fun a161 h161 => ?_; clear h152
     refine dk0 11 (v := pt b 6) h161 rfl rfl ⟨hB159, hk160⟩ fun a162 h162 => ?_; clear h161
     refine d1D 12 h162 rfl rfl (op_store1 rfl rfl rfl rfl Try.sizeOf3 hk154' rfl) ?_ ?_; clear h162
     ·
      rintro _ w164 ⟨hk165, hz166, hg167⟩
      have hk165' : Blk w164 b 102 #[.int .i64 L.boot, .int .i64 L.stream, .int .i64 L.first, u, .int .i64 L.told, .int .i64 s.boot, .int .i64 s.stream, .int .i64 L.next, .bool L.owes] := hk165; clear hk165
      have hz168 := hg167.size
      have hB169 := fbU_at hB159 hg167 (fun hlt => by rcases hSb with hq | hq; exact hq; omega)
      have hk170 := hk160.kept hg167 (by simp; omega)
      exact ⟨hB169, hk170⟩
     rintro _ w164 a163 ⟨hk165, hz166, hg167⟩ h163
     have hk165' : Blk w164 b 102 #[.int .i64 L.boot, .int .i64 L.stream, .int .i64 L.first, u, .int .i64 L.told, .int .i64 s.boot, .int .i64 s.stream, .int .i64 L.next, .bool L.owes] := hk165; clear hk165
     have hz168 := hg167.size
     have hB169 := fbU_at hB159 hg167 (fun hlt => by rcases hSb with hq | hq; exact hq; omega)
     have hk170 := hk160.kept hg167 (by simp; omega)
     refine dk0 13 (v := pt b 0) h163 rfl rfl ⟨hB169, hk170⟩ fun a171 h171 => ?_; clear h163
     refine dk0 14 (v := pt b 7) h171 rfl rfl ⟨hB169, hk170⟩ fun a172 h172 => ?_; clear h171
     refine d1D 15 h172 rfl rfl (op_store1 rfl rfl rfl rfl Try.sizeOf3 hk165' rfl) ?_ ?_; clear h172
     ·
      rintro _ w174 ⟨hk175, hz176, hg177⟩
      have hk175' : Blk w174 b 102 #[.int .i64 L.boot, .int .i64 L.stream, .int .i64 L.first, u, .int .i64 L.told, .int .i64 s.boot, .int .i64 s.stream, .int .i64 0, .bool L.owes] := hk175; clear hk175
      have hz178 := hg177.size
      have hB179 := fbU_at hB169 hg177 (fun hlt => by rcases hSb with hq | hq; exact hq; omega)
      have hk180 := hk170.kept hg177 (by simp; omega)
      exact ⟨hB179, hk180⟩
     rintro _ w174 a173 ⟨hk175, hz176, hg177⟩ h173
     have hk175' : Blk w174 b 102 #[.int .i64 L.boot, .int .i64 L.stream, .int .i64 L.first, u, .int .i64 L.told, .int .i64 s.boot, .int .i64 s.stream, .int .i64 0, .bool L.owes] := hk175; clear hk175
     have hz178 := hg177.size
     refine dr_done (by kernel_rfl) ?_
     refine co_blockN ?_
     refine co_ret0n h173 rfl ?_
     have hB179 := fbU_at hB169 hg177 (fun hlt => by rcases hSb with hq | hq; exact hq; omega)
     have hE : Blk w174 b 102 (lnC (knowT L s) u) := by
       unfold knowT; first
       | (rw [if_pos (by omega), if_pos (by omega)]; exact hk175')
       | (rw [if_pos (by omega), if_neg (by omega)]; exact hk175')
       | (rw [if_neg (by omega), if_pos (by omega)]; exact hk175')
       | (rw [if_neg (by omega), if_neg (by omega)]; exact hk175')
     exact ⟨rfl, hE, hB179⟩
  ·
   rw [hc72] at h71
   have hp180 : L.peer ≠ 0 := by first | simpa using hc72 | simpa [and_assoc] using hc72
   clear hc72
   refine co_true h71 rfl ?_
   refine co_seq ?_
   refine co_reg ?_
   refine pk0 (v := pt b 0) h71 rfl fun a181 h181 => ?_; clear h71
   refine pk0 (v := pt b 0) h181 rfl fun a182 h182 => ?_; clear h181
   refine pk0 (v := pt b 1) h182 rfl fun a183 h183 => ?_; clear h182
   refine pk (v := .int .i64 L.stream) h183 rfl (rn_load1 rfl rfl Try.isAgg3 (hk19.cell rfl)) fun a184 h184 => ?_; clear h183
   refine pk (v := .int .i64 (L.stream + 1)) h184 rfl (rn_arith rfl rfl rfl rfl rfl rfl (IntWalk.i64_in _ (by omega))) fun a185 h185 => ?_; clear h184
   refine pk0 (v := pt b 0) h185 rfl fun a186 h186 => ?_; clear h185
   refine pk0 (v := pt b 1) h186 rfl fun a187 h187 => ?_; clear h186
   refine pwD h187 rfl (op_store1 rfl rfl rfl rfl Try.sizeOf3 hk19 rfl) ?_; clear h187
   rintro _ w189 a188 ⟨hk190, hz191, hg192⟩ h188
   have hk190' : Blk w189 b 102 #[.int .i64 L.boot, .int .i64 (L.stream + 1), .int .i64 L.first, u, .int .i64 L.told, .int .i64 L.peer, .int .i64 L.in0, .int .i64 L.next, .bool L.owes] := hk190; clear hk190
   have hz193 := hg192.size
   refine pl_nil ?_
   refine co_then ?_
   refine co_reg ?_
   refine pk0 (v := pt b 0) h188 rfl fun a194 h194 => ?_; clear h188
   refine pk0 (v := pt b 0) h194 rfl fun a195 h195 => ?_; clear h194
   refine pk0 (v := pt b 0) h195 rfl fun a196 h196 => ?_; clear h195
   refine pk0 (v := pt b 2) h196 rfl fun a197 h197 => ?_; clear h196
   refine pk0 (v := pt b 2) h197 rfl fun a198 h198 => ?_; clear h197
   refine pwD h198 rfl (op_store1 rfl rfl rfl rfl Try.sizeOf3 hk190' rfl) ?_; clear h198
   rintro _ w200 a199 ⟨hk201, hz202, hg203⟩ h199
   have hk201' : Blk w200 b 102 #[.int .i64 L.boot, .int .i64 (L.stream + 1), .int .i64 0, u, .int .i64 L.told, .int .i64 L.peer, .int .i64 L.in0, .int .i64 L.next, .bool L.owes] := hk201; clear hk201
   have hz204 := hg203.size
   refine pk0 (v := pt b 0) h199 rfl fun a205 h205 => ?_; clear h199
   refine pk0 (v := pt b 4) h205 rfl fun a206 h206 => ?_; clear h205
   refine pwD h206 rfl (op_store1 rfl rfl rfl rfl Try.sizeOf3 hk201' rfl) ?_; clear h206
   rintro _ w208 a207 ⟨hk209, hz210, hg211⟩ h207
   have hk209' : Blk w208 b 102 #[.int .i64 L.boot, .int .i64 (L.stream + 1), .int .i64 0, u, .int .i64 0, .int .i64 L.peer, .int .i64 L.in0, .int .i64 L.next, .bool L.owes] := hk209; clear hk209
   have hz212 := hg211.size
   refine pl_nil ?_
   refine co_then ?_
   refine dr_gen (fun x => But (fun q => q = b) w x ∧ Blk x N3 61 #[.int .i64 s.boot, .int .i64 s.stream, .int .i64 s.seq, .int .i64 s.ab, .int .i64 s.ast, .int .i64 s.asq, .bool s.has, .string s.body]) (by kernel_rfl) (fun w213 hg214 => ?_) (fun w213 hg214 => ?_)
   ·
    have hz215 := hg214.size
    have hB216 := fbU_at hB25 hg192 (fun hlt => by rcases hSb with hq | hq; exact hq; omega)
    have hB217 := fbU_at hB216 hg203 (fun hlt => by rcases hSb with hq | hq; exact hq; omega)
    have hB218 := fbU_at hB217 hg211 (fun hlt => by rcases hSb with hq | hq; exact hq; omega)
    have hB219 := fbU_new hB218 hg214
    have hk220 := hk13.kept hg192 (by simp; omega)
    have hk221 := hk220.kept hg203 (by simp; omega)
    have hk222 := hk221.kept hg211 (by simp; omega)
    have hk223 := hk222.kept hg214 (by simp)
    exact ⟨hB219, hk223⟩
   have hz224 := hg214.size
   have hB225 := fbU_at hB25 hg192 (fun hlt => by rcases hSb with hq | hq; exact hq; omega)
   have hB226 := fbU_at hB225 hg203 (fun hlt => by rcases hSb with hq | hq; exact hq; omega)
   have hB227 := fbU_at hB226 hg211 (fun hlt => by rcases hSb with hq | hq; exact hq; omega)
   have hB228 := fbU_new hB227 hg214
   have hk229 := hk13.kept hg192 (by simp; omega)
   have hk230 := hk229.kept hg203 (by simp; omega)
   have hk231 := hk230.kept hg211 (by simp; omega)
   have hk232 := hk231.kept hg214 (by simp)
   refine dk0 0 (v := pt b 0) h207 rfl rfl ⟨hB228, hk232⟩ fun a233 h233 => ?_; clear h207
   refine dk0 1 (v := pt b 0) h233 rfl rfl ⟨hB228, hk232⟩ fun a234 h234 => ?_; clear h233
   refine dk0 2 (v := pt b 0) h234 rfl rfl ⟨hB228, hk232⟩ fun a235 h235 => ?_; clear h234
   refine dk0 3 (v := pt N3 0) h235 rfl rfl ⟨hB228, hk232⟩ fun a236 h236 => ?_; clear h235
   refine dk0 5 (v := pt N3 1) h236 rfl rfl ⟨hB228, hk232⟩ fun a237 h237 => ?_; clear h236
   refine dr_many [4, 6] (by kernel_rfl) (by simp) ⟨?_, ?_, trivial⟩
   ·
    refine dr_opVal (i := 4) (v := .int .i64 s.boot) h237 rfl rfl rfl rfl (by kernel_rfl) rfl (rn_load1 rfl rfl Try.isAgg3 (hk232.cell rfl)) ⟨hB228, hk232⟩ (fun a238 h238 => ?_); clear h237
    refine dk0 7 (v := pt b 0) h238 rfl rfl ⟨hB228, hk232⟩ fun a239 h239 => ?_; clear h238
    refine dk0 8 (v := pt b 5) h239 rfl rfl ⟨hB228, hk232⟩ fun a240 h240 => ?_; clear h239
    refine dr_many [6, 9] (by kernel_rfl) (by simp) ⟨?_, ?_, trivial⟩
    ·
     refine dr_opVal (i := 6) (v := .int .i64 s.stream) h240 rfl rfl rfl rfl (by kernel_rfl) rfl (rn_load1 rfl rfl Try.isAgg3 (hk232.cell rfl)) ⟨hB228, hk232⟩ (fun a241 h241 => ?_); clear h240
     have hk247 := hk209'.kept hg214 (by simp)
     refine d1D 9 h241 rfl rfl (op_store1 rfl rfl rfl rfl Try.sizeOf3 hk247 rfl) ?_ ?_; clear h241
     ·
      rintro _ w243 ⟨hk244, hz245, hg246⟩
      have hk244' : Blk w243 b 102 #[.int .i64 L.boot, .int .i64 (L.stream + 1), .int .i64 0, u, .int .i64 0, .int .i64 s.boot, .int .i64 L.in0, .int .i64 L.next, .bool L.owes] := hk244; clear hk244
      have hz248 := hg246.size
      have hB249 := fbU_at hB228 hg246 (fun hlt => by rcases hSb with hq | hq; exact hq; omega)
      have hk250 := hk232.kept hg246 (by simp; omega)
      exact ⟨hB249, hk250⟩
     rintro _ w243 a242 ⟨hk244, hz245, hg246⟩ h242
     have hk244' : Blk w243 b 102 #[.int .i64 L.boot, .int .i64 (L.stream + 1), .int .i64 0, u, .int .i64 0, .int .i64 s.boot, .int .i64 L.in0, .int .i64 L.next, .bool L.owes] := hk244; clear hk244
     have hz248 := hg246.size
     have hB249 := fbU_at hB228 hg246 (fun hlt => by rcases hSb with hq | hq; exact hq; omega)
     have hk250 := hk232.kept hg246 (by simp; omega)
     refine dk0 10 (v := pt b 0) h242 rfl rfl ⟨hB249, hk250⟩ fun a251 h251 => ?_; clear h242
     refine dk0 11 (v := pt b 6) h251 rfl rfl ⟨hB249, hk250⟩ fun a252 h252 => ?_; clear h251
     refine d1D 12 h252 rfl rfl (op_store1 rfl rfl rfl rfl Try.sizeOf3 hk244' rfl) ?_ ?_; clear h252
     ·
      rintro _ w254 ⟨hk255, hz256, hg257⟩
      have hk255' : Blk w254 b 102 #[.int .i64 L.boot, .int .i64 (L.stream + 1), .int .i64 0, u, .int .i64 0, .int .i64 s.boot, .int .i64 s.stream, .int .i64 L.next, .bool L.owes] := hk255; clear hk255
      have hz258 := hg257.size
      have hB259 := fbU_at hB249 hg257 (fun hlt => by rcases hSb with hq | hq; exact hq; omega)
      have hk260 := hk250.kept hg257 (by simp; omega)
      exact ⟨hB259, hk260⟩
     rintro _ w254 a253 ⟨hk255, hz256, hg257⟩ h253
     have hk255' : Blk w254 b 102 #[.int .i64 L.boot, .int .i64 (L.stream + 1), .int .i64 0, u, .int .i64 0, .int .i64 s.boot, .int .i64 s.stream, .int .i64 L.next, .bool L.owes] := hk255; clear hk255
     have hz258 := hg257.size
     have hB259 := fbU_at hB249 hg257 (fun hlt => by rcases hSb with hq | hq; exact hq; omega)
     have hk260 := hk250.kept hg257 (by simp; omega)
     refine dk0 13 (v := pt b 0) h253 rfl rfl ⟨hB259, hk260⟩ fun a261 h261 => ?_; clear h253
     refine dk0 14 (v := pt b 7) h261 rfl rfl ⟨hB259, hk260⟩ fun a262 h262 => ?_; clear h261
     refine d1D 15 h262 rfl rfl (op_store1 rfl rfl rfl rfl Try.sizeOf3 hk255' rfl) ?_ ?_; clear h262
     ·
      rintro _ w264 ⟨hk265, hz266, hg267⟩
      have hk265' : Blk w264 b 102 #[.int .i64 L.boot, .int .i64 (L.stream + 1), .int .i64 0, u, .int .i64 0, .int .i64 s.boot, .int .i64 s.stream, .int .i64 0, .bool L.owes] := hk265; clear hk265
      have hz268 := hg267.size
      have hB269 := fbU_at hB259 hg267 (fun hlt => by rcases hSb with hq | hq; exact hq; omega)
      have hk270 := hk260.kept hg267 (by simp; omega)
      exact ⟨hB269, hk270⟩
     rintro _ w264 a263 ⟨hk265, hz266, hg267⟩ h263
     have hk265' : Blk w264 b 102 #[.int .i64 L.boot, .int .i64 (L.stream + 1), .int .i64 0, u, .int .i64 0, .int .i64 s.boot, .int .i64 s.stream, .int .i64 0, .bool L.owes] := hk265; clear hk265
     have hz268 := hg267.size
     refine dr_done (by kernel_rfl) ?_
     refine co_blockN ?_
     refine co_ret0n h263 rfl ?_
     have hB269 := fbU_at hB259 hg267 (fun hlt => by rcases hSb with hq | hq; exact hq; omega)
     have hE : Blk w264 b 102 (lnC (knowT L s) u) := by
       unfold knowT; first
       | (rw [if_pos (by omega), if_pos (by omega)]; exact hk265')
       | (rw [if_pos (by omega), if_neg (by omega)]; exact hk265')
       | (rw [if_neg (by omega), if_pos (by omega)]; exact hk265')
       | (rw [if_neg (by omega), if_neg (by omega)]; exact hk265')
     exact ⟨rfl, hE, hB269⟩
    ·
     have hk275 := hk209'.kept hg214 (by simp)
     refine dr_opDo (i := 9) h240 rfl rfl rfl (op_store1 rfl rfl rfl rfl Try.sizeOf3 hk275 rfl) ?_ ?_; clear h240
     ·
      rintro _ w271 ⟨hk272, hz273, hg274⟩
      have hk272' : Blk w271 b 102 #[.int .i64 L.boot, .int .i64 (L.stream + 1), .int .i64 0, u, .int .i64 0, .int .i64 s.boot, .int .i64 L.in0, .int .i64 L.next, .bool L.owes] := hk272; clear hk272
      have hz276 := hg274.size
      have hB277 := fbU_at hB228 hg274 (fun hlt => by rcases hSb with hq | hq; exact hq; omega)
      have hk278 := hk232.kept hg274 (by simp; omega)
      exact ⟨hB277, hk278⟩
     rintro _ w271 a270 ⟨hk272, hz273, hg274⟩ h270
     have hk272' : Blk w271 b 102 #[.int .i64 L.boot, .int .i64 (L.stream + 1), .int .i64 0, u, .int .i64 0, .int .i64 s.boot, .int .i64 L.in0, .int .i64 L.next, .bool L.owes] := hk272; clear hk272
     have hz276 := hg274.size
     have hB277 := fbU_at hB228 hg274 (fun hlt => by rcases hSb with hq | hq; exact hq; omega)
     have hk278 := hk232.kept hg274 (by simp; omega)
     refine dr_many [6] (by kernel_rfl) (by simp) ⟨?_, trivial⟩
     ·
      refine dr_opVal (i := 6) (v := .int .i64 s.stream) h270 rfl rfl rfl rfl (by kernel_rfl) rfl (rn_load1 rfl rfl Try.isAgg3 (hk278.cell rfl)) ⟨hB277, hk278⟩ (fun a279 h279 => ?_); clear h270
      refine dk0 10 (v := pt b 0) h279 rfl rfl ⟨hB277, hk278⟩ fun a280 h280 => ?_; clear h279
      refine dk0 11 (v := pt b 6) h280 rfl rfl ⟨hB277, hk278⟩ fun a281 h281 => ?_; clear h280
      refine d1D 12 h281 rfl rfl (op_store1 rfl rfl rfl rfl Try.sizeOf3 hk272' rfl) ?_ ?_; clear h281
      ·
       rintro _ w283 ⟨hk284, hz285, hg286⟩
       have hk284' : Blk w283 b 102 #[.int .i64 L.boot, .int .i64 (L.stream + 1), .int .i64 0, u, .int .i64 0, .int .i64 s.boot, .int .i64 s.stream, .int .i64 L.next, .bool L.owes] := hk284; clear hk284
       have hz287 := hg286.size
       have hB288 := fbU_at hB277 hg286 (fun hlt => by rcases hSb with hq | hq; exact hq; omega)
       have hk289 := hk278.kept hg286 (by simp; omega)
       exact ⟨hB288, hk289⟩
      rintro _ w283 a282 ⟨hk284, hz285, hg286⟩ h282
      have hk284' : Blk w283 b 102 #[.int .i64 L.boot, .int .i64 (L.stream + 1), .int .i64 0, u, .int .i64 0, .int .i64 s.boot, .int .i64 s.stream, .int .i64 L.next, .bool L.owes] := hk284; clear hk284
      have hz287 := hg286.size
      have hB288 := fbU_at hB277 hg286 (fun hlt => by rcases hSb with hq | hq; exact hq; omega)
      have hk289 := hk278.kept hg286 (by simp; omega)
      refine dk0 13 (v := pt b 0) h282 rfl rfl ⟨hB288, hk289⟩ fun a290 h290 => ?_; clear h282
      refine dk0 14 (v := pt b 7) h290 rfl rfl ⟨hB288, hk289⟩ fun a291 h291 => ?_; clear h290
      refine d1D 15 h291 rfl rfl (op_store1 rfl rfl rfl rfl Try.sizeOf3 hk284' rfl) ?_ ?_; clear h291
      ·
       rintro _ w293 ⟨hk294, hz295, hg296⟩
       have hk294' : Blk w293 b 102 #[.int .i64 L.boot, .int .i64 (L.stream + 1), .int .i64 0, u, .int .i64 0, .int .i64 s.boot, .int .i64 s.stream, .int .i64 0, .bool L.owes] := hk294; clear hk294
       have hz297 := hg296.size
       have hB298 := fbU_at hB288 hg296 (fun hlt => by rcases hSb with hq | hq; exact hq; omega)
       have hk299 := hk289.kept hg296 (by simp; omega)
       exact ⟨hB298, hk299⟩
      rintro _ w293 a292 ⟨hk294, hz295, hg296⟩ h292
      have hk294' : Blk w293 b 102 #[.int .i64 L.boot, .int .i64 (L.stream + 1), .int .i64 0, u, .int .i64 0, .int .i64 s.boot, .int .i64 s.stream, .int .i64 0, .bool L.owes] := hk294; clear hk294
      have hz297 := hg296.size
      refine dr_done (by kernel_rfl) ?_
      refine co_blockN ?_
      refine co_ret0n h292 rfl ?_
      have hB298 := fbU_at hB288 hg296 (fun hlt => by rcases hSb with hq | hq; exact hq; omega)
      have hE : Blk w293 b 102 (lnC (knowT L s) u) := by
        unfold knowT; first
        | (rw [if_pos (by omega), if_pos (by omega)]; exact hk294')
        | (rw [if_pos (by omega), if_neg (by omega)]; exact hk294')
        | (rw [if_neg (by omega), if_pos (by omega)]; exact hk294')
        | (rw [if_neg (by omega), if_neg (by omega)]; exact hk294')
      exact ⟨rfl, hE, hB298⟩
   ·
    refine dr_opVal (i := 6) (v := .int .i64 s.stream) h237 rfl rfl rfl rfl (by kernel_rfl) rfl (rn_load1 rfl rfl Try.isAgg3 (hk232.cell rfl)) ⟨hB228, hk232⟩ (fun a299 h299 => ?_); clear h237
    refine dr_many [4] (by kernel_rfl) (by simp) ⟨?_, trivial⟩
    ·
     refine dr_opVal (i := 4) (v := .int .i64 s.boot) h299 rfl rfl rfl rfl (by kernel_rfl) rfl (rn_load1 rfl rfl Try.isAgg3 (hk232.cell rfl)) ⟨hB228, hk232⟩ (fun a300 h300 => ?_); clear h299
     refine dk0 7 (v := pt b 0) h300 rfl rfl ⟨hB228, hk232⟩ fun a301 h301 => ?_; clear h300
     refine dk0 8 (v := pt b 5) h301 rfl rfl ⟨hB228, hk232⟩ fun a302 h302 => ?_; clear h301
     have hk308 := hk209'.kept hg214 (by simp)
     refine d1D 9 h302 rfl rfl (op_store1 rfl rfl rfl rfl Try.sizeOf3 hk308 rfl) ?_ ?_; clear h302
     ·
      rintro _ w304 ⟨hk305, hz306, hg307⟩
      have hk305' : Blk w304 b 102 #[.int .i64 L.boot, .int .i64 (L.stream + 1), .int .i64 0, u, .int .i64 0, .int .i64 s.boot, .int .i64 L.in0, .int .i64 L.next, .bool L.owes] := hk305; clear hk305
      have hz309 := hg307.size
      have hB310 := fbU_at hB228 hg307 (fun hlt => by rcases hSb with hq | hq; exact hq; omega)
      have hk311 := hk232.kept hg307 (by simp; omega)
      exact ⟨hB310, hk311⟩
     rintro _ w304 a303 ⟨hk305, hz306, hg307⟩ h303
     have hk305' : Blk w304 b 102 #[.int .i64 L.boot, .int .i64 (L.stream + 1), .int .i64 0, u, .int .i64 0, .int .i64 s.boot, .int .i64 L.in0, .int .i64 L.next, .bool L.owes] := hk305; clear hk305
     have hz309 := hg307.size
     have hB310 := fbU_at hB228 hg307 (fun hlt => by rcases hSb with hq | hq; exact hq; omega)
     have hk311 := hk232.kept hg307 (by simp; omega)
     refine dk0 10 (v := pt b 0) h303 rfl rfl ⟨hB310, hk311⟩ fun a312 h312 => ?_; clear h303
     refine dk0 11 (v := pt b 6) h312 rfl rfl ⟨hB310, hk311⟩ fun a313 h313 => ?_; clear h312
     refine d1D 12 h313 rfl rfl (op_store1 rfl rfl rfl rfl Try.sizeOf3 hk305' rfl) ?_ ?_; clear h313
     ·
      rintro _ w315 ⟨hk316, hz317, hg318⟩
      have hk316' : Blk w315 b 102 #[.int .i64 L.boot, .int .i64 (L.stream + 1), .int .i64 0, u, .int .i64 0, .int .i64 s.boot, .int .i64 s.stream, .int .i64 L.next, .bool L.owes] := hk316; clear hk316
      have hz319 := hg318.size
      have hB320 := fbU_at hB310 hg318 (fun hlt => by rcases hSb with hq | hq; exact hq; omega)
      have hk321 := hk311.kept hg318 (by simp; omega)
      exact ⟨hB320, hk321⟩
     rintro _ w315 a314 ⟨hk316, hz317, hg318⟩ h314
     have hk316' : Blk w315 b 102 #[.int .i64 L.boot, .int .i64 (L.stream + 1), .int .i64 0, u, .int .i64 0, .int .i64 s.boot, .int .i64 s.stream, .int .i64 L.next, .bool L.owes] := hk316; clear hk316
     have hz319 := hg318.size
     have hB320 := fbU_at hB310 hg318 (fun hlt => by rcases hSb with hq | hq; exact hq; omega)
     have hk321 := hk311.kept hg318 (by simp; omega)
     refine dk0 13 (v := pt b 0) h314 rfl rfl ⟨hB320, hk321⟩ fun a322 h322 => ?_; clear h314
     refine dk0 14 (v := pt b 7) h322 rfl rfl ⟨hB320, hk321⟩ fun a323 h323 => ?_; clear h322
     refine d1D 15 h323 rfl rfl (op_store1 rfl rfl rfl rfl Try.sizeOf3 hk316' rfl) ?_ ?_; clear h323
     ·
      rintro _ w325 ⟨hk326, hz327, hg328⟩
      have hk326' : Blk w325 b 102 #[.int .i64 L.boot, .int .i64 (L.stream + 1), .int .i64 0, u, .int .i64 0, .int .i64 s.boot, .int .i64 s.stream, .int .i64 0, .bool L.owes] := hk326; clear hk326
      have hz329 := hg328.size
      have hB330 := fbU_at hB320 hg328 (fun hlt => by rcases hSb with hq | hq; exact hq; omega)
      have hk331 := hk321.kept hg328 (by simp; omega)
      exact ⟨hB330, hk331⟩
     rintro _ w325 a324 ⟨hk326, hz327, hg328⟩ h324
     have hk326' : Blk w325 b 102 #[.int .i64 L.boot, .int .i64 (L.stream + 1), .int .i64 0, u, .int .i64 0, .int .i64 s.boot, .int .i64 s.stream, .int .i64 0, .bool L.owes] := hk326; clear hk326
     have hz329 := hg328.size
     refine dr_done (by kernel_rfl) ?_
     refine co_blockN ?_
     refine co_ret0n h324 rfl ?_
     have hB330 := fbU_at hB320 hg328 (fun hlt => by rcases hSb with hq | hq; exact hq; omega)
     have hE : Blk w325 b 102 (lnC (knowT L s) u) := by
       unfold knowT; first
       | (rw [if_pos (by omega), if_pos (by omega)]; exact hk326')
       | (rw [if_pos (by omega), if_neg (by omega)]; exact hk326')
       | (rw [if_neg (by omega), if_pos (by omega)]; exact hk326')
       | (rw [if_neg (by omega), if_neg (by omega)]; exact hk326')
     exact ⟨rfl, hE, hB330⟩
set_option maxRecDepth 100000 in
theorem rlKnown_blk (b : Nat) (u : Value) (L : LnT) (s : SegT) (w : World) (hB : Blk w b 74 #[.int .i64 L.boot, .int .i64 L.stream, .int .i64 L.first, u, .int .i64 L.told, .int .i64 L.peer, .int .i64 L.in0, .int .i64 L.next, .bool L.owes]) (hok : LnOk L) (hm : 0 ≤ s.boot ∧ 0 ≤ s.stream) :
    Calls Try.prog 77 #[pt b 0, .agg #[.int .i64 s.boot, .int .i64 s.stream, .int .i64 s.seq, .int .i64 s.ab, .int .i64 s.ast, .int .i64 s.asq, .bool s.has, .string s.body]] w fun e w' => e = .returned (.tuple #[]) ∧ Blk w' b 74 (lnC (knowT L s) u) ∧ But (fun q => q = b) w w' := by
 have hB0 := But.refl (fun q => q = b) w
 have hl_hB := hB.lt
 obtain ⟨⟨k1, k2⟩, ⟨k3, k4⟩, ⟨k5, k6⟩, ⟨k7, k8⟩, ⟨k9, k10⟩, ⟨k11, k12⟩, ⟨k13, k14⟩, k15, k16⟩ := id hok
 have hSb : (fun q => q = b) b ∨ w.heap.size ≤ b := .inl rfl
 refine co_enter (n := 57) Try.func77 rfl rfl rfl [(0, pt b 0), (1, .agg #[.int .i64 s.boot, .int .i64 s.stream, .int .i64 s.seq, .int .i64 s.ab, .int .i64 s.ast, .int .i64 s.asq, .bool s.has, .string s.body])] rfl (fun a h0 => ?_)
 refine co_seq ?_
 refine co_reg ?_
 refine pw h0 rfl (op_new (v := fun N => pt N 0) (T := 61) (cs := #[.int .i64 s.boot, .int .i64 s.stream, .int .i64 s.seq, .int .i64 s.ab, .int .i64 s.ast, .int .i64 s.asq, .bool s.has, .string s.body]) (by kernel_rfl) (by kernel_rfl) (by kernel_rfl)) ?_; clear h0
 rintro _ w2 a1 ⟨N3, rfl, hN6, hz7, hk5, hg4⟩ h1
 have hz8 := hg4.size
 try dsimp only at h1
 refine pl_nil ?_
 refine co_then ?_
 refine co_seq ?_
 refine co_seq ?_
 refine dr_eq (by kernel_rfl) (fun w9 hg10 => ?_)
 have hz11 := hg10.size
 refine dk0 0 (v := pt N3 0) h1 rfl rfl rfl fun a12 h12 => ?_; clear h1
 have hk13 := hk5.kept hg10 (by simp)
 refine dk 1 (v := .int .i64 s.boot) h12 rfl rfl rfl (fun x hx => by subst hx; exact (rn_load1 rfl rfl Try.isAgg3 (hk13.cell rfl))) fun a14 h14 => ?_; clear h12
 refine dk0 2 (v := pt b 0) h14 rfl rfl rfl fun a15 h15 => ?_; clear h14
 refine dk0 3 (v := pt b 0) h15 rfl rfl rfl fun a16 h16 => ?_; clear h15
 refine dk0 4 (v := pt b 5) h16 rfl rfl rfl fun a17 h17 => ?_; clear h16
 have hk18 := hB.kept hg4 (by simp)
 have hk19 := hk18.kept hg10 (by simp)
 refine dk 5 (v := .int .i64 L.peer) h17 rfl rfl rfl (fun x hx => by subst hx; exact (rn_load1 rfl rfl Try.isAgg3 (hk19.cell rfl))) fun a20 h20 => ?_; clear h17
 refine dk0 6 (v := .bool (decide (s.boot > L.peer))) h20 rfl rfl rfl fun a21 h21 => ?_; clear h20
 refine dr_done (by kernel_rfl) ?_
 refine co_then ?_
 have hB23 := fbU_new hB0 hg4
 have hB24 := fbU_new hB23 hg10
 cases hc22 : (decide (s.boot > L.peer))
 ·
  rw [hc22] at h21
  have hp25 : ¬ (s.boot > L.peer) := of_decide_eq_false hc22
  clear hc22
  refine co_false h21 rfl ?_
  refine wp_skip ?_
  refine co_then ?_
  refine co_seq ?_
  refine dr_eq (by kernel_rfl) (fun w26 hg27 => ?_)
  have hz28 := hg27.size
  refine dk0 0 (v := pt N3 1) h21 rfl rfl rfl fun a29 h29 => ?_; clear h21
  have hk30 := hk13.kept hg27 (by simp)
  refine dk 1 (v := .int .i64 s.stream) h29 rfl rfl rfl (fun x hx => by subst hx; exact (rn_load1 rfl rfl Try.isAgg3 (hk30.cell rfl))) fun a31 h31 => ?_; clear h29
  refine dk0 2 (v := pt b 0) h31 rfl rfl rfl fun a32 h32 => ?_; clear h31
  refine dk0 3 (v := pt b 0) h32 rfl rfl rfl fun a33 h33 => ?_; clear h32
  refine dk0 4 (v := pt b 6) h33 rfl rfl rfl fun a34 h34 => ?_; clear h33
  have hk35 := hk19.kept hg27 (by simp)
  refine dk 5 (v := .int .i64 L.in0) h34 rfl rfl rfl (fun x hx => by subst hx; exact (rn_load1 rfl rfl Try.isAgg3 (hk35.cell rfl))) fun a36 h36 => ?_; clear h34
  refine dk0 6 (v := .bool (decide (s.stream > L.in0))) h36 rfl rfl rfl fun a37 h37 => ?_; clear h36
  refine dr_done (by kernel_rfl) ?_
  refine co_then ?_
  have hB39 := fbU_new hB24 hg27
  cases hc38 : (decide (s.stream > L.in0))
  ·
   rw [hc38] at h37
   have hp40 : ¬ (s.stream > L.in0) := of_decide_eq_false hc38
   clear hc38
   refine co_false h37 rfl ?_
   refine wp_skip ?_
   refine co_ret0n h37 rfl ?_
   have hE : Blk w26 b 74 (lnC (knowT L s) u) := by
     unfold knowT; first
     | (rw [if_pos (by omega), if_pos (by omega)]; exact hk35)
     | (rw [if_pos (by omega), if_neg (by omega)]; exact hk35)
     | (rw [if_neg (by omega), if_pos (by omega)]; exact hk35)
     | (rw [if_neg (by omega), if_neg (by omega)]; exact hk35)
   exact ⟨rfl, hE, hB39⟩
  ·
   rw [hc38] at h37
   have hp41 : s.stream > L.in0 := of_decide_eq_true hc38
   clear hc38
   refine co_true h37 rfl ?_
   refine co_seq ?_
   refine co_reg ?_
   refine pk0 (v := pt b 0) h37 rfl fun a42 h42 => ?_; clear h37
   refine pk0 (v := pt N3 1) h42 rfl fun a43 h43 => ?_; clear h42
   refine pk (v := .int .i64 s.stream) h43 rfl (rn_load1 rfl rfl Try.isAgg3 (hk30.cell rfl)) fun a44 h44 => ?_; clear h43
   refine pk0 (v := pt b 0) h44 rfl fun a45 h45 => ?_; clear h44
   refine pk0 (v := pt b 6) h45 rfl fun a46 h46 => ?_; clear h45
   refine pwD h46 rfl (op_store1 rfl rfl rfl rfl Try.sizeOf3 hk35 rfl) ?_; clear h46
   rintro _ w48 a47 ⟨hk49, hz50, hg51⟩ h47
   have hk49' : Blk w48 b 74 #[.int .i64 L.boot, .int .i64 L.stream, .int .i64 L.first, u, .int .i64 L.told, .int .i64 L.peer, .int .i64 s.stream, .int .i64 L.next, .bool L.owes] := hk49; clear hk49
   have hz52 := hg51.size
   refine pl_nil ?_
   refine co_then ?_
   refine co_reg ?_
   refine pk0 (v := pt b 0) h47 rfl fun a53 h53 => ?_; clear h47
   refine pk0 (v := pt b 0) h53 rfl fun a54 h54 => ?_; clear h53
   refine pk0 (v := pt b 7) h54 rfl fun a55 h55 => ?_; clear h54
   refine pwD h55 rfl (op_store1 rfl rfl rfl rfl Try.sizeOf3 hk49' rfl) ?_; clear h55
   rintro _ w57 a56 ⟨hk58, hz59, hg60⟩ h56
   have hk58' : Blk w57 b 74 #[.int .i64 L.boot, .int .i64 L.stream, .int .i64 L.first, u, .int .i64 L.told, .int .i64 L.peer, .int .i64 s.stream, .int .i64 0, .bool L.owes] := hk58; clear hk58
   have hz61 := hg60.size
   refine pl_nil ?_
   refine co_ret0n h56 rfl ?_
   have hB62 := fbU_at hB39 hg51 (fun hlt => by rcases hSb with hq | hq; exact hq; omega)
   have hB63 := fbU_at hB62 hg60 (fun hlt => by rcases hSb with hq | hq; exact hq; omega)
   have hE : Blk w57 b 74 (lnC (knowT L s) u) := by
     unfold knowT; first
     | (rw [if_pos (by omega), if_pos (by omega)]; exact hk58')
     | (rw [if_pos (by omega), if_neg (by omega)]; exact hk58')
     | (rw [if_neg (by omega), if_pos (by omega)]; exact hk58')
     | (rw [if_neg (by omega), if_neg (by omega)]; exact hk58')
   exact ⟨rfl, hE, hB63⟩
 ·
  rw [hc22] at h21
  have hp64 : s.boot > L.peer := of_decide_eq_true hc22
  clear hc22
  refine co_true h21 rfl ?_
  refine co_seq ?_
  refine co_seq ?_
  refine co_reg ?_
  refine pk0 (v := pt b 0) h21 rfl fun a65 h65 => ?_; clear h21
  refine pk0 (v := pt b 0) h65 rfl fun a66 h66 => ?_; clear h65
  refine pk0 (v := pt b 5) h66 rfl fun a67 h67 => ?_; clear h66
  refine pk (v := .int .i64 L.peer) h67 rfl (rn_load1 rfl rfl Try.isAgg3 (hk19.cell rfl)) fun a68 h68 => ?_; clear h67
  refine pk0 (v := .bool (decide (L.peer > 0))) h68 rfl fun a69 h69 => ?_; clear h68
  refine pl_nil ?_
  refine co_then ?_
  cases hc70 : (decide (L.peer > 0))
  ·
   rw [hc70] at h69
   have hp71 : ¬ (L.peer > 0) := of_decide_eq_false hc70
   clear hc70
   refine co_false h69 rfl ?_
   refine wp_skip ?_
   refine co_then ?_
   refine co_seq ?_
   refine co_reg ?_
   refine pk0 (v := pt b 0) h69 rfl fun a72 h72 => ?_; clear h69
   refine pk0 (v := pt N3 0) h72 rfl fun a73 h73 => ?_; clear h72
   refine pk (v := .int .i64 s.boot) h73 rfl (rn_load1 rfl rfl Try.isAgg3 (hk13.cell rfl)) fun a74 h74 => ?_; clear h73
   refine pk0 (v := pt b 0) h74 rfl fun a75 h75 => ?_; clear h74
   refine pk0 (v := pt b 5) h75 rfl fun a76 h76 => ?_; clear h75
   refine pwD h76 rfl (op_store1 rfl rfl rfl rfl Try.sizeOf3 hk19 rfl) ?_; clear h76
   rintro _ w78 a77 ⟨hk79, hz80, hg81⟩ h77
   have hk79' : Blk w78 b 74 #[.int .i64 L.boot, .int .i64 L.stream, .int .i64 L.first, u, .int .i64 L.told, .int .i64 s.boot, .int .i64 L.in0, .int .i64 L.next, .bool L.owes] := hk79; clear hk79
   have hz82 := hg81.size
   refine pl_nil ?_
   refine co_then ?_
   refine co_seq ?_
   refine co_reg ?_
   refine pk0 (v := pt b 0) h77 rfl fun a83 h83 => ?_; clear h77
   refine pk0 (v := pt N3 1) h83 rfl fun a84 h84 => ?_; clear h83
   have hk85 := hk13.kept hg81 (by simp; omega)
   refine pk (v := .int .i64 s.stream) h84 rfl (rn_load1 rfl rfl Try.isAgg3 (hk85.cell rfl)) fun a86 h86 => ?_; clear h84
   refine pk0 (v := pt b 0) h86 rfl fun a87 h87 => ?_; clear h86
   refine pk0 (v := pt b 6) h87 rfl fun a88 h88 => ?_; clear h87
   refine pwD h88 rfl (op_store1 rfl rfl rfl rfl Try.sizeOf3 hk79' rfl) ?_; clear h88
   rintro _ w90 a89 ⟨hk91, hz92, hg93⟩ h89
   have hk91' : Blk w90 b 74 #[.int .i64 L.boot, .int .i64 L.stream, .int .i64 L.first, u, .int .i64 L.told, .int .i64 s.boot, .int .i64 s.stream, .int .i64 L.next, .bool L.owes] := hk91; clear hk91
   have hz94 := hg93.size
   refine pl_nil ?_
   refine co_then ?_
   refine co_seq ?_
   refine co_reg ?_
   refine pk0 (v := pt b 0) h89 rfl fun a95 h95 => ?_; clear h89
   refine pk0 (v := pt b 0) h95 rfl fun a96 h96 => ?_; clear h95
   refine pk0 (v := pt b 7) h96 rfl fun a97 h97 => ?_; clear h96
   refine pwD h97 rfl (op_store1 rfl rfl rfl rfl Try.sizeOf3 hk91' rfl) ?_; clear h97
   rintro _ w99 a98 ⟨hk100, hz101, hg102⟩ h98
   have hk100' : Blk w99 b 74 #[.int .i64 L.boot, .int .i64 L.stream, .int .i64 L.first, u, .int .i64 L.told, .int .i64 s.boot, .int .i64 s.stream, .int .i64 0, .bool L.owes] := hk100; clear hk100
   have hz103 := hg102.size
   refine pl_nil ?_
   refine co_then ?_
   refine wp_ret ?_
   refine co_thenR ?_
   refine co_ret0 h98 rfl ?_
   have hB104 := fbU_at hB24 hg81 (fun hlt => by rcases hSb with hq | hq; exact hq; omega)
   have hB105 := fbU_at hB104 hg93 (fun hlt => by rcases hSb with hq | hq; exact hq; omega)
   have hB106 := fbU_at hB105 hg102 (fun hlt => by rcases hSb with hq | hq; exact hq; omega)
   have hE : Blk w99 b 74 (lnC (knowT L s) u) := by
     unfold knowT; first
     | (rw [if_pos (by omega), if_pos (by omega)]; exact hk100')
     | (rw [if_pos (by omega), if_neg (by omega)]; exact hk100')
     | (rw [if_neg (by omega), if_pos (by omega)]; exact hk100')
     | (rw [if_neg (by omega), if_neg (by omega)]; exact hk100')
   exact ⟨rfl, hE, hB106⟩
  ·
   rw [hc70] at h69
   have hp107 : L.peer > 0 := of_decide_eq_true hc70
   clear hc70
   refine co_true h69 rfl ?_
   refine co_seq ?_
   refine co_reg ?_
   refine pk0 (v := pt b 0) h69 rfl fun a108 h108 => ?_; clear h69
   refine pk0 (v := pt b 0) h108 rfl fun a109 h109 => ?_; clear h108
   refine pk0 (v := pt b 1) h109 rfl fun a110 h110 => ?_; clear h109
   refine pk (v := .int .i64 L.stream) h110 rfl (rn_load1 rfl rfl Try.isAgg3 (hk19.cell rfl)) fun a111 h111 => ?_; clear h110
   refine pk (v := .int .i64 (L.stream + 1)) h111 rfl (rn_arith rfl rfl rfl rfl rfl rfl (IntWalk.i64_in _ (by omega))) fun a112 h112 => ?_; clear h111
   refine pk0 (v := pt b 0) h112 rfl fun a113 h113 => ?_; clear h112
   refine pk0 (v := pt b 1) h113 rfl fun a114 h114 => ?_; clear h113
   refine pwD h114 rfl (op_store1 rfl rfl rfl rfl Try.sizeOf3 hk19 rfl) ?_; clear h114
   rintro _ w116 a115 ⟨hk117, hz118, hg119⟩ h115
   have hk117' : Blk w116 b 74 #[.int .i64 L.boot, .int .i64 (L.stream + 1), .int .i64 L.first, u, .int .i64 L.told, .int .i64 L.peer, .int .i64 L.in0, .int .i64 L.next, .bool L.owes] := hk117; clear hk117
   have hz120 := hg119.size
   refine pl_nil ?_
   refine co_then ?_
   refine co_seq ?_
   refine co_reg ?_
   refine pk0 (v := pt b 0) h115 rfl fun a121 h121 => ?_; clear h115
   refine pk0 (v := pt b 0) h121 rfl fun a122 h122 => ?_; clear h121
   refine pk0 (v := pt b 2) h122 rfl fun a123 h123 => ?_; clear h122
   refine pwD h123 rfl (op_store1 rfl rfl rfl rfl Try.sizeOf3 hk117' rfl) ?_; clear h123
   rintro _ w125 a124 ⟨hk126, hz127, hg128⟩ h124
   have hk126' : Blk w125 b 74 #[.int .i64 L.boot, .int .i64 (L.stream + 1), .int .i64 0, u, .int .i64 L.told, .int .i64 L.peer, .int .i64 L.in0, .int .i64 L.next, .bool L.owes] := hk126; clear hk126
   have hz129 := hg128.size
   refine pl_nil ?_
   refine co_then ?_
   refine co_reg ?_
   refine pk0 (v := pt b 0) h124 rfl fun a130 h130 => ?_; clear h124
   refine pk0 (v := pt b 0) h130 rfl fun a131 h131 => ?_; clear h130
   refine pk0 (v := pt b 4) h131 rfl fun a132 h132 => ?_; clear h131
   refine pwD h132 rfl (op_store1 rfl rfl rfl rfl Try.sizeOf3 hk126' rfl) ?_; clear h132
   rintro _ w134 a133 ⟨hk135, hz136, hg137⟩ h133
   have hk135' : Blk w134 b 74 #[.int .i64 L.boot, .int .i64 (L.stream + 1), .int .i64 0, u, .int .i64 0, .int .i64 L.peer, .int .i64 L.in0, .int .i64 L.next, .bool L.owes] := hk135; clear hk135
   have hz138 := hg137.size
   refine pl_nil ?_
   refine co_then ?_
   refine co_seq ?_
   refine co_reg ?_
   refine pk0 (v := pt b 0) h133 rfl fun a139 h139 => ?_; clear h133
   refine pk0 (v := pt N3 0) h139 rfl fun a140 h140 => ?_; clear h139
   have hk141 := hk13.kept hg119 (by simp; omega)
   have hk142 := hk141.kept hg128 (by simp; omega)
   have hk143 := hk142.kept hg137 (by simp; omega)
   refine pk (v := .int .i64 s.boot) h140 rfl (rn_load1 rfl rfl Try.isAgg3 (hk143.cell rfl)) fun a144 h144 => ?_; clear h140
   refine pk0 (v := pt b 0) h144 rfl fun a145 h145 => ?_; clear h144
   refine pk0 (v := pt b 5) h145 rfl fun a146 h146 => ?_; clear h145
   refine pwD h146 rfl (op_store1 rfl rfl rfl rfl Try.sizeOf3 hk135' rfl) ?_; clear h146
   rintro _ w148 a147 ⟨hk149, hz150, hg151⟩ h147
   have hk149' : Blk w148 b 74 #[.int .i64 L.boot, .int .i64 (L.stream + 1), .int .i64 0, u, .int .i64 0, .int .i64 s.boot, .int .i64 L.in0, .int .i64 L.next, .bool L.owes] := hk149; clear hk149
   have hz152 := hg151.size
   refine pl_nil ?_
   refine co_then ?_
   refine co_seq ?_
   refine co_reg ?_
   refine pk0 (v := pt b 0) h147 rfl fun a153 h153 => ?_; clear h147
   refine pk0 (v := pt N3 1) h153 rfl fun a154 h154 => ?_; clear h153
   have hk155 := hk143.kept hg151 (by simp; omega)
   refine pk (v := .int .i64 s.stream) h154 rfl (rn_load1 rfl rfl Try.isAgg3 (hk155.cell rfl)) fun a156 h156 => ?_; clear h154
   refine pk0 (v := pt b 0) h156 rfl fun a157 h157 => ?_; clear h156
   refine pk0 (v := pt b 6) h157 rfl fun a158 h158 => ?_; clear h157
   refine pwD h158 rfl (op_store1 rfl rfl rfl rfl Try.sizeOf3 hk149' rfl) ?_; clear h158
   rintro _ w160 a159 ⟨hk161, hz162, hg163⟩ h159
   have hk161' : Blk w160 b 74 #[.int .i64 L.boot, .int .i64 (L.stream + 1), .int .i64 0, u, .int .i64 0, .int .i64 s.boot, .int .i64 s.stream, .int .i64 L.next, .bool L.owes] := hk161; clear hk161
   have hz164 := hg163.size
   refine pl_nil ?_
   refine co_then ?_
   refine co_seq ?_
   refine co_reg ?_
   refine pk0 (v := pt b 0) h159 rfl fun a165 h165 => ?_; clear h159
   refine pk0 (v := pt b 0) h165 rfl fun a166 h166 => ?_; clear h165
   refine pk0 (v := pt b 7) h166 rfl fun a167 h167 => ?_; clear h166
   refine pwD h167 rfl (op_store1 rfl rfl rfl rfl Try.sizeOf3 hk161' rfl) ?_; clear h167
   rintro _ w169 a168 ⟨hk170, hz171, hg172⟩ h168
   have hk170' : Blk w169 b 74 #[.int .i64 L.boot, .int .i64 (L.stream + 1), .int .i64 0, u, .int .i64 0, .int .i64 s.boot, .int .i64 s.stream, .int .i64 0, .bool L.owes] := hk170; clear hk170
   have hz173 := hg172.size
   refine pl_nil ?_
   refine co_then ?_
   refine wp_ret ?_
   refine co_thenR ?_
   refine co_ret0 h168 rfl ?_
   have hB174 := fbU_at hB24 hg119 (fun hlt => by rcases hSb with hq | hq; exact hq; omega)
   have hB175 := fbU_at hB174 hg128 (fun hlt => by rcases hSb with hq | hq; exact hq; omega)
   have hB176 := fbU_at hB175 hg137 (fun hlt => by rcases hSb with hq | hq; exact hq; omega)
   have hB177 := fbU_at hB176 hg151 (fun hlt => by rcases hSb with hq | hq; exact hq; omega)
   have hB178 := fbU_at hB177 hg163 (fun hlt => by rcases hSb with hq | hq; exact hq; omega)
   have hB179 := fbU_at hB178 hg172 (fun hlt => by rcases hSb with hq | hq; exact hq; omega)
   have hE : Blk w169 b 74 (lnC (knowT L s) u) := by
     unfold knowT; first
     | (rw [if_pos (by omega), if_pos (by omega)]; exact hk170')
     | (rw [if_pos (by omega), if_neg (by omega)]; exact hk170')
     | (rw [if_neg (by omega), if_pos (by omega)]; exact hk170')
     | (rw [if_neg (by omega), if_neg (by omega)]; exact hk170')
   exact ⟨rfl, hE, hB179⟩
end Go.Proofs.Ythmljllgfigebaa
