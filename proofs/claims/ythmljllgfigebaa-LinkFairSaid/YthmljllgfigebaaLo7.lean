/- Put together: LinkB, LinkC, LinkD. Conditions: as each says. -/
import Derived.Test.YthmljllgfigebaaLinkALo
/- Package link: zero, Knows, Waiting, know; the document's known. Conditions: none. -/
namespace Go.Proofs.Ythmljllgfigebaa
open Go.RowKit Go.PlainAid
set_option linter.unusedVariables false


theorem strE_len (s : ByteArray) : (strE s).length = 1 := rfl
theorem strE_one (s : ByteArray) : ∀ u ∈ strE s, u.oneCell' = true := by intro u hu; simp [strE] at hu; subst hu; rfl
theorem own_but {S : Nat → Prop} {w x : World} {v : Value} {e : TypeId} {B sz k : Nat} {xs : List Value} (h : w.ownsRow B e sz v k xs) (hb : But S w x) (hn : ∀ i, v.ownBlock = some i → ¬ S i) : x.ownsRow B e sz v k xs := own_butS h hb hn
theorem Blk.but {S : Nat → Prop} {w x : World} {N : Nat} {T : TypeId} {cs : Array Value} (h : Blk w N T cs) (hb : But S w x) (hn : ¬ S N) : Blk x N T cs := h.butS hb hn
theorem intE_lenL (y : Int) : (intE .i64 y).length = 1 := rfl
theorem intE_oneL (y : Int) : ∀ u ∈ intE .i64 y, u.oneCell' = true := by intro u hu; simp [intE] at hu; subst hu; rfl

set_option maxRecDepth 100000 in
theorem lkZero_blk (b : Nat) (u : Value) (L : LnT) (w : World) (hB : Blk w b 102 #[.int .i64 L.boot, .int .i64 L.stream, .int .i64 L.first, u, .int .i64 L.told, .int .i64 L.peer, .int .i64 L.in0, .int .i64 L.next, .bool L.owes]) (hok : LnOk L) :
    Calls Try.prog 71 #[pt b 0] w fun e w' => e = .returned (.bool false) ∧ w = w' := by
 have hB0 := Below.refl w.heap.size w
 have hl_hB := hB.lt
 obtain ⟨⟨k1, k2⟩, ⟨k3, k4⟩, ⟨k5, k6⟩, ⟨k7, k8⟩, ⟨k9, k10⟩, ⟨k11, k12⟩, ⟨k13, k14⟩, k15, k16⟩ := id hok
 refine co_enter (n := 12) Try.func71 rfl rfl rfl [(0, pt b 0)] rfl (fun a h0 => ?_)
 refine co_seq ?_
 refine co_reg ?_
 refine pk0 (v := .bool false) h0 rfl fun a1 h1 => ?_; clear h0
 refine pl_nil ?_
 refine co_then ?_
 refine co_seq ?_
 refine co_reg ?_
 refine pk0 (v := pt b 0) h1 rfl fun a2 h2 => ?_; clear h1
 refine pk0 (v := .bool false) h2 rfl fun a3 h3 => ?_; clear h2
 refine pk0 (v := .bool false) h3 rfl fun a4 h4 => ?_; clear h3
 refine pk0 (v := pt b 0) h4 rfl fun a5 h5 => ?_; clear h4
 refine pk0 (v := pt b 0) h5 rfl fun a6 h6 => ?_; clear h5
 refine pk0 (v := pt b 0) h6 rfl fun a7 h7 => ?_; clear h6
 refine pk (v := .int .i64 L.boot) h7 rfl (rn_load1 rfl rfl Try.isAgg3 (hB.cell rfl)) fun a8 h8 => ?_; clear h7
 refine pk0 (v := .bool (L.boot == 0)) h8 rfl fun a9 h9 => ?_; clear h8
 refine pk0 (v := .bool (L.boot == 0)) h9 rfl fun a10 h10 => ?_; clear h9
 refine pk0 (v := .bool (L.boot == 0)) h10 rfl fun a11 h11 => ?_; clear h10
 refine pl_nil ?_
 refine co_then ?_
 refine wp_ret ?_
 refine co_ret1 h11 rfl rfl ?_
 exact ⟨by rw [beq_false_of_ne (show L.boot ≠ 0 by omega)], rfl⟩
set_option maxRecDepth 100000 in
theorem lkKnows_blk (b : Nat) (u : Value) (L : LnT) (w : World) (hB : Blk w b 102 #[.int .i64 L.boot, .int .i64 L.stream, .int .i64 L.first, u, .int .i64 L.told, .int .i64 L.peer, .int .i64 L.in0, .int .i64 L.next, .bool L.owes]) (hok : LnOk L) :
    Calls Try.prog 42 #[pt b 0] w fun e w' => e = .returned (.int .i64 L.peer) ∧ w = w' := by
 have hB0 := Below.refl w.heap.size w
 have hl_hB := hB.lt
 obtain ⟨⟨k1, k2⟩, ⟨k3, k4⟩, ⟨k5, k6⟩, ⟨k7, k8⟩, ⟨k9, k10⟩, ⟨k11, k12⟩, ⟨k13, k14⟩, k15, k16⟩ := id hok
 refine co_enter (n := 9) Try.func42 rfl rfl rfl [(0, pt b 0)] rfl (fun a h0 => ?_)
 refine co_seq ?_
 refine co_reg ?_
 refine pk0 (v := .int .i64 0) h0 rfl fun a1 h1 => ?_; clear h0
 refine pl_nil ?_
 refine co_then ?_
 refine co_seq ?_
 refine co_seq ?_
 refine co_reg ?_
 refine pk0 (v := pt b 0) h1 rfl fun a2 h2 => ?_; clear h1
 refine pw h2 rfl (op_call (args := #[pt b 0]) (R := fun res xw => res = .bool false ∧ w = xw) rfl rfl rfl (by kernel_rfl) (by kernel_rfl) (Try.call71 _ _) (lkZero_blk b u _ w hB hok) (by rintro e x ⟨rfl, rfl⟩; exact ⟨_, rfl, ⟨rfl, rfl⟩⟩)) ?_; clear h2
 rintro _ _ a3 ⟨rfl, rfl⟩ h3
 refine pl_nil ?_
 refine co_then ?_
 refine co_false h3 rfl ?_
 refine wp_skip ?_
 refine co_then ?_
 refine co_seq ?_
 refine co_reg ?_
 refine pk0 (v := pt b 0) h3 rfl fun a6 h6 => ?_; clear h3
 refine pk0 (v := pt b 0) h6 rfl fun a7 h7 => ?_; clear h6
 refine pk0 (v := pt b 5) h7 rfl fun a8 h8 => ?_; clear h7
 refine pk (v := .int .i64 L.peer) h8 rfl (rn_load1 rfl rfl Try.isAgg3 (hB.cell rfl)) fun a9 h9 => ?_; clear h8
 refine pk0 (v := .int .i64 L.peer) h9 rfl fun a10 h10 => ?_; clear h9
 refine pl_nil ?_
 refine co_then ?_
 refine wp_ret ?_
 refine co_ret1 h10 rfl rfl ?_
 exact ⟨rfl, rfl⟩
set_option maxRecDepth 100000 in
theorem lkWaiting_blk (b : Nat) (u : Value) (L : LnT) (w : World) (hB : Blk w b 102 #[.int .i64 L.boot, .int .i64 L.stream, .int .i64 L.first, u, .int .i64 L.told, .int .i64 L.peer, .int .i64 L.in0, .int .i64 L.next, .bool L.owes]) (hok : LnOk L) (hs : SliceOf strE 1 w u L.q) :
    Calls Try.prog 41 #[pt b 0] w fun e w' => e = .returned (.int .i64 (L.q.length : Int)) ∧ w = w' := by
 have hB0 := Below.refl w.heap.size w
 have hl_hB := hB.lt
 have hl_hs := sl_len hs
 obtain ⟨⟨k1, k2⟩, ⟨k3, k4⟩, ⟨k5, k6⟩, ⟨k7, k8⟩, ⟨k9, k10⟩, ⟨k11, k12⟩, ⟨k13, k14⟩, k15, k16⟩ := id hok
 refine co_enter (n := 11) Try.func41 rfl rfl rfl [(0, pt b 0)] rfl (fun a h0 => ?_)
 refine co_seq ?_
 refine co_reg ?_
 refine pk0 (v := .int .i64 0) h0 rfl fun a1 h1 => ?_; clear h0
 refine pl_nil ?_
 refine co_then ?_
 refine co_seq ?_
 refine co_seq ?_
 refine co_reg ?_
 refine pk0 (v := pt b 0) h1 rfl fun a2 h2 => ?_; clear h1
 refine pw h2 rfl (op_call (args := #[pt b 0]) (R := fun res xw => res = .bool false ∧ w = xw) rfl rfl rfl (by kernel_rfl) (by kernel_rfl) (Try.call71 _ _) (lkZero_blk b u _ w hB hok) (by rintro e x ⟨rfl, rfl⟩; exact ⟨_, rfl, ⟨rfl, rfl⟩⟩)) ?_; clear h2
 rintro _ _ a3 ⟨rfl, rfl⟩ h3
 refine pl_nil ?_
 refine co_then ?_
 refine co_false h3 rfl ?_
 refine wp_skip ?_
 refine co_then ?_
 refine co_seq ?_
 refine co_reg ?_
 refine pk0 (v := pt b 0) h3 rfl fun a6 h6 => ?_; clear h3
 refine pk0 (v := pt b 0) h6 rfl fun a7 h7 => ?_; clear h6
 refine pk0 (v := pt b 2) h7 rfl fun a8 h8 => ?_; clear h7
 refine pk0 (v := pt b 3) h8 rfl fun a9 h9 => ?_; clear h8
 refine pk (v := u) h9 rfl (rn_load1 rfl rfl Try.isAgg38 (hB.cell rfl)) fun a10 h10 => ?_; clear h9
 refine pk (v := .int .i64 ((L.q.length : Nat) : Int)) h10 rfl (rn_len rfl rfl Try.underlying38 hs) fun a11 h11 => ?_; clear h10
 refine pk0 (v := .int .i64 ((L.q.length : Nat) : Int)) h11 rfl fun a12 h12 => ?_; clear h11
 refine pl_nil ?_
 refine co_then ?_
 refine wp_ret ?_
 refine co_ret1 h12 rfl rfl ?_
 exact ⟨rfl, rfl⟩
set_option maxRecDepth 100000 in
theorem lkKnow_blk (b : Nat) (u : Value) (L : LnT) (s : SegT) (w : World) (hB : Blk w b 102 #[.int .i64 L.boot, .int .i64 L.stream, .int .i64 L.first, u, .int .i64 L.told, .int .i64 L.peer, .int .i64 L.in0, .int .i64 L.next, .bool L.owes]) (hok : LnOk L) (hm : 0 ≤ s.boot ∧ 0 ≤ s.stream) :
    Calls Try.prog 75 #[pt b 0, .agg #[.int .i64 s.boot, .int .i64 s.stream, .int .i64 s.seq, .int .i64 s.ab, .int .i64 s.ast, .int .i64 s.asq, .bool s.has, .string s.body]] w fun e w' => e = .returned (.tuple #[]) ∧ Blk w' b 102 (lnC (knowT L s) u) ∧ But (fun q => q = b) w w' := by
 have hB0 := But.refl (fun q => q = b) w
 have hl_hB := hB.lt
 obtain ⟨⟨k1, k2⟩, ⟨k3, k4⟩, ⟨k5, k6⟩, ⟨k7, k8⟩, ⟨k9, k10⟩, ⟨k11, k12⟩, ⟨k13, k14⟩, k15, k16⟩ := id hok
 have hSb : (fun q => q = b) b ∨ w.heap.size ≤ b := .inl rfl
 refine co_enter (n := 60) Try.func75 rfl rfl rfl [(0, pt b 0), (1, .agg #[.int .i64 s.boot, .int .i64 s.stream, .int .i64 s.seq, .int .i64 s.ab, .int .i64 s.ast, .int .i64 s.asq, .bool s.has, .string s.body])] rfl (fun a h0 => ?_)
 refine co_seq ?_
 refine co_reg ?_
 refine pw h0 rfl (op_new (v := fun N => pt N 0) (T := 61) (cs := #[.int .i64 s.boot, .int .i64 s.stream, .int .i64 s.seq, .int .i64 s.ab, .int .i64 s.ast, .int .i64 s.asq, .bool s.has, .string s.body]) (by kernel_rfl) (by kernel_rfl) (by kernel_rfl)) ?_; clear h0
 rintro _ w2 a1 ⟨N3, rfl, hN6, hz7, hk5, hg4⟩ h1
 have hz8 := hg4.size
 try dsimp only at h1
 refine pl_nil ?_
 refine co_then ?_
 refine wp_block ?_
 refine co_seq ?_
 refine dr_eq (by kernel_rfl) (fun w9 hg10 => ?_)
 have hz11 := hg10.size
 refine dk0 0 (v := pt N3 0) h1 rfl rfl rfl fun a12 h12 => ?_; clear h1
 have hk13 := hk5.kept hg10 (by simp)
 refine dk 1 (v := .int .i64 s.boot) h12 rfl rfl rfl (fun x hx => by subst hx; exact (rn_load1 rfl rfl Try.isAgg3 (hk13.cell rfl))) fun a14 h14 => ?_; clear h12
 refine dk0 2 (v := pt b 0) h14 rfl rfl rfl fun a15 h15 => ?_; clear h14
 refine dk0 3 (v := pt b 0) h15 rfl rfl rfl fun a16 h16 => ?_; clear h15
 refine dk0 4 (v := pt b 5) h16 rfl rfl rfl fun a17 h17 => ?_; clear h16
 have hk18 := hB.kept hg4 (by simp)
 have hk19 := hk18.kept hg10 (by simp)
 refine dk 5 (v := .int .i64 L.peer) h17 rfl rfl rfl (fun x hx => by subst hx; exact (rn_load1 rfl rfl Try.isAgg3 (hk19.cell rfl))) fun a20 h20 => ?_; clear h17
 refine dk0 6 (v := .bool (decide (s.boot > L.peer))) h20 rfl rfl rfl fun a21 h21 => ?_; clear h20
 refine dk0 7 (v := .bool (decide (s.boot > L.peer))) h21 rfl rfl rfl fun a22 h22 => ?_; clear h21
 refine dr_done (by kernel_rfl) ?_
 refine co_then ?_
 have hB24 := fbU_new hB0 hg4
 have hB25 := fbU_new hB24 hg10
 cases hc23 : (decide (s.boot > L.peer))
 ·
  rw [hc23] at h22
  have hp26 : ¬ (s.boot > L.peer) := of_decide_eq_false hc23
  clear hc23
  refine co_false h22 rfl ?_
  refine co_seq ?_
  refine dr_eq (by kernel_rfl) (fun w27 hg28 => ?_)
  have hz29 := hg28.size
  refine dk0 0 (v := pt N3 1) h22 rfl rfl rfl fun a30 h30 => ?_; clear h22
  have hk31 := hk13.kept hg28 (by simp)
  refine dk 1 (v := .int .i64 s.stream) h30 rfl rfl rfl (fun x hx => by subst hx; exact (rn_load1 rfl rfl Try.isAgg3 (hk31.cell rfl))) fun a32 h32 => ?_; clear h30
  refine dk0 2 (v := pt b 0) h32 rfl rfl rfl fun a33 h33 => ?_; clear h32
  refine dk0 3 (v := pt b 0) h33 rfl rfl rfl fun a34 h34 => ?_; clear h33
  refine dk0 4 (v := pt b 6) h34 rfl rfl rfl fun a35 h35 => ?_; clear h34
  have hk36 := hk19.kept hg28 (by simp)
  refine dk 5 (v := .int .i64 L.in0) h35 rfl rfl rfl (fun x hx => by subst hx; exact (rn_load1 rfl rfl Try.isAgg3 (hk36.cell rfl))) fun a37 h37 => ?_; clear h35
  refine dk0 6 (v := .bool (decide (s.stream > L.in0))) h37 rfl rfl rfl fun a38 h38 => ?_; clear h37
  refine dk0 7 (v := .bool (decide (s.stream > L.in0))) h38 rfl rfl rfl fun a39 h39 => ?_; clear h38
  refine dr_done (by kernel_rfl) ?_
  refine co_then ?_
  have hB41 := fbU_new hB25 hg28
  cases hc40 : (decide (s.stream > L.in0))
  ·
   rw [hc40] at h39
   have hp42 : ¬ (s.stream > L.in0) := of_decide_eq_false hc40
   clear hc40
   refine co_false h39 rfl ?_
   refine wp_skip ?_
   refine co_blockN ?_
   refine co_ret0n h39 rfl ?_
   have hE : Blk w27 b 102 (lnC (knowT L s) u) := by
     unfold knowT; first
     | (rw [if_pos (by omega), if_pos (by omega)]; exact hk36)
     | (rw [if_pos (by omega), if_neg (by omega)]; exact hk36)
     | (rw [if_neg (by omega), if_pos (by omega)]; exact hk36)
     | (rw [if_neg (by omega), if_neg (by omega)]; exact hk36)
   exact ⟨rfl, hE, hB41⟩
  ·
   rw [hc40] at h39
   have hp43 : s.stream > L.in0 := of_decide_eq_true hc40
   clear hc40
   refine co_true h39 rfl ?_
   refine co_reg ?_
   refine pk0 (v := pt b 0) h39 rfl fun a44 h44 => ?_; clear h39
   refine pk0 (v := pt b 0) h44 rfl fun a45 h45 => ?_; clear h44
   refine pk0 (v := pt N3 1) h45 rfl fun a46 h46 => ?_; clear h45
   refine pk (v := .int .i64 s.stream) h46 rfl (rn_load1 rfl rfl Try.isAgg3 (hk31.cell rfl)) fun a47 h47 => ?_; clear h46
   refine pk0 (v := pt b 0) h47 rfl fun a48 h48 => ?_; clear h47
   refine pk0 (v := pt b 6) h48 rfl fun a49 h49 => ?_; clear h48
   refine pwD h49 rfl (op_store1 rfl rfl rfl rfl Try.sizeOf3 hk36 rfl) ?_; clear h49
   rintro _ w51 a50 ⟨hk52, hz53, hg54⟩ h50
   have hk52' : Blk w51 b 102 #[.int .i64 L.boot, .int .i64 L.stream, .int .i64 L.first, u, .int .i64 L.told, .int .i64 L.peer, .int .i64 s.stream, .int .i64 L.next, .bool L.owes] := hk52; clear hk52
   have hz55 := hg54.size
   refine pk0 (v := pt b 0) h50 rfl fun a56 h56 => ?_; clear h50
   refine pk0 (v := pt b 7) h56 rfl fun a57 h57 => ?_; clear h56
   refine pwD h57 rfl (op_store1 rfl rfl rfl rfl Try.sizeOf3 hk52' rfl) ?_; clear h57
   rintro _ w59 a58 ⟨hk60, hz61, hg62⟩ h58
   have hk60' : Blk w59 b 102 #[.int .i64 L.boot, .int .i64 L.stream, .int .i64 L.first, u, .int .i64 L.told, .int .i64 L.peer, .int .i64 s.stream, .int .i64 0, .bool L.owes] := hk60; clear hk60
   have hz63 := hg62.size
   refine pl_nil ?_
   refine co_blockN ?_
   refine co_ret0n h58 rfl ?_
   have hB64 := fbU_at hB41 hg54 (fun hlt => by rcases hSb with hq | hq; exact hq; omega)
   have hB65 := fbU_at hB64 hg62 (fun hlt => by rcases hSb with hq | hq; exact hq; omega)
   have hE : Blk w59 b 102 (lnC (knowT L s) u) := by
     unfold knowT; first
     | (rw [if_pos (by omega), if_pos (by omega)]; exact hk60')
     | (rw [if_pos (by omega), if_neg (by omega)]; exact hk60')
     | (rw [if_neg (by omega), if_pos (by omega)]; exact hk60')
     | (rw [if_neg (by omega), if_neg (by omega)]; exact hk60')
   exact ⟨rfl, hE, hB65⟩
 ·
  rw [hc23] at h22
  have hp66 : s.boot > L.peer := of_decide_eq_true hc23
  clear hc23
  refine co_true h22 rfl ?_
  refine co_seq ?_
  refine co_seq ?_
  refine co_reg ?_
  refine pk0 (v := pt b 0) h22 rfl fun a67 h67 => ?_; clear h22
  refine pk0 (v := pt b 0) h67 rfl fun a68 h68 => ?_; clear h67
  refine pk0 (v := pt b 5) h68 rfl fun a69 h69 => ?_; clear h68
  refine pk (v := .int .i64 L.peer) h69 rfl (rn_load1 rfl rfl Try.isAgg3 (hk19.cell rfl)) fun a70 h70 => ?_; clear h69
  refine pk0 (v := .bool (L.peer != 0)) h70 rfl fun a71 h71 => ?_; clear h70
  refine pl_nil ?_
  refine co_then ?_
  cases hc72 : (L.peer != 0)
  ·
   rw [hc72] at h71
   have hp73 : ¬ (L.peer ≠ 0) := by first | simpa using hc72 | simpa [and_assoc] using hc72
   clear hc72
   refine co_false h71 rfl ?_
   refine wp_skip ?_
   refine co_then ?_
   refine dr_gen (fun x => But (fun q => q = b) w x ∧ Blk x N3 61 #[.int .i64 s.boot, .int .i64 s.stream, .int .i64 s.seq, .int .i64 s.ab, .int .i64 s.ast, .int .i64 s.asq, .bool s.has, .string s.body]) (by kernel_rfl) (fun w74 hg75 => ?_) (fun w74 hg75 => ?_)
   ·
    have hz76 := hg75.size
    have hB77 := fbU_new hB25 hg75
    have hk78 := hk13.kept hg75 (by simp)
    exact ⟨hB77, hk78⟩
   have hz79 := hg75.size
   have hB80 := fbU_new hB25 hg75
   have hk81 := hk13.kept hg75 (by simp)
   refine dk0 0 (v := pt b 0) h71 rfl rfl ⟨hB80, hk81⟩ fun a82 h82 => ?_; clear h71
   refine dk0 1 (v := pt b 0) h82 rfl rfl ⟨hB80, hk81⟩ fun a83 h83 => ?_; clear h82
   refine dk0 2 (v := pt b 0) h83 rfl rfl ⟨hB80, hk81⟩ fun a84 h84 => ?_; clear h83
   refine dk0 3 (v := pt N3 0) h84 rfl rfl ⟨hB80, hk81⟩ fun a85 h85 => ?_; clear h84
   refine dk 4 (v := .int .i64 s.boot) h85 rfl rfl ⟨hB80, hk81⟩ (fun x hx => (rn_load1 rfl rfl Try.isAgg3 (hx.2.cell rfl))) fun a86 h86 => ?_; clear h85
   refine dk0 5 (v := pt N3 1) h86 rfl rfl ⟨hB80, hk81⟩ fun a87 h87 => ?_; clear h86
   refine dk 6 (v := .int .i64 s.stream) h87 rfl rfl ⟨hB80, hk81⟩ (fun x hx => (rn_load1 rfl rfl Try.isAgg3 (hx.2.cell rfl))) fun a88 h88 => ?_; clear h87
   refine dk0 7 (v := pt b 0) h88 rfl rfl ⟨hB80, hk81⟩ fun a89 h89 => ?_; clear h88
   refine dk0 8 (v := pt b 5) h89 rfl rfl ⟨hB80, hk81⟩ fun a90 h90 => ?_; clear h89
   have hk96 := hk19.kept hg75 (by simp)
   refine d1D 9 h90 rfl rfl (op_store1 rfl rfl rfl rfl Try.sizeOf3 hk96 rfl) ?_ ?_; clear h90
   ·
    rintro _ w92 ⟨hk93, hz94, hg95⟩
    have hk93' : Blk w92 b 102 #[.int .i64 L.boot, .int .i64 L.stream, .int .i64 L.first, u, .int .i64 L.told, .int .i64 s.boot, .int .i64 L.in0, .int .i64 L.next, .bool L.owes] := hk93; clear hk93
    have hz97 := hg95.size
    have hB98 := fbU_at hB80 hg95 (fun hlt => by rcases hSb with hq | hq; exact hq; omega)
    have hk99 := hk81.kept hg95 (by simp; omega)
    exact ⟨hB98, hk99⟩
   rintro _ w92 a91 ⟨hk93, hz94, hg95⟩ h91
   have hk93' : Blk w92 b 102 #[.int .i64 L.boot, .int .i64 L.stream, .int .i64 L.first, u, .int .i64 L.told, .int .i64 s.boot, .int .i64 L.in0, .int .i64 L.next, .bool L.owes] := hk93; clear hk93
   have hz97 := hg95.size
   have hB98 := fbU_at hB80 hg95 (fun hlt => by rcases hSb with hq | hq; exact hq; omega)
   have hk99 := hk81.kept hg95 (by simp; omega)
   refine dk0 10 (v := pt b 0) h91 rfl rfl ⟨hB98, hk99⟩ fun a100 h100 => ?_; clear h91
   refine dk0 11 (v := pt b 6) h100 rfl rfl ⟨hB98, hk99⟩ fun a101 h101 => ?_; clear h100
   refine d1D 12 h101 rfl rfl (op_store1 rfl rfl rfl rfl Try.sizeOf3 hk93' rfl) ?_ ?_; clear h101
   ·
    rintro _ w103 ⟨hk104, hz105, hg106⟩
    have hk104' : Blk w103 b 102 #[.int .i64 L.boot, .int .i64 L.stream, .int .i64 L.first, u, .int .i64 L.told, .int .i64 s.boot, .int .i64 s.stream, .int .i64 L.next, .bool L.owes] := hk104; clear hk104
    have hz107 := hg106.size
    have hB108 := fbU_at hB98 hg106 (fun hlt => by rcases hSb with hq | hq; exact hq; omega)
    have hk109 := hk99.kept hg106 (by simp; omega)
    exact ⟨hB108, hk109⟩
   rintro _ w103 a102 ⟨hk104, hz105, hg106⟩ h102
   have hk104' : Blk w103 b 102 #[.int .i64 L.boot, .int .i64 L.stream, .int .i64 L.first, u, .int .i64 L.told, .int .i64 s.boot, .int .i64 s.stream, .int .i64 L.next, .bool L.owes] := hk104; clear hk104
   have hz107 := hg106.size
   have hB108 := fbU_at hB98 hg106 (fun hlt => by rcases hSb with hq | hq; exact hq; omega)
   have hk109 := hk99.kept hg106 (by simp; omega)
   refine dk0 13 (v := pt b 0) h102 rfl rfl ⟨hB108, hk109⟩ fun a110 h110 => ?_; clear h102
   refine dk0 14 (v := pt b 7) h110 rfl rfl ⟨hB108, hk109⟩ fun a111 h111 => ?_; clear h110
   refine d1D 15 h111 rfl rfl (op_store1 rfl rfl rfl rfl Try.sizeOf3 hk104' rfl) ?_ ?_; clear h111
   ·
    rintro _ w113 ⟨hk114, hz115, hg116⟩
    have hk114' : Blk w113 b 102 #[.int .i64 L.boot, .int .i64 L.stream, .int .i64 L.first, u, .int .i64 L.told, .int .i64 s.boot, .int .i64 s.stream, .int .i64 0, .bool L.owes] := hk114; clear hk114
    have hz117 := hg116.size
    have hB118 := fbU_at hB108 hg116 (fun hlt => by rcases hSb with hq | hq; exact hq; omega)
    have hk119 := hk109.kept hg116 (by simp; omega)
    exact ⟨hB118, hk119⟩
   rintro _ w113 a112 ⟨hk114, hz115, hg116⟩ h112
   have hk114' : Blk w113 b 102 #[.int .i64 L.boot, .int .i64 L.stream, .int .i64 L.first, u, .int .i64 L.told, .int .i64 s.boot, .int .i64 s.stream, .int .i64 0, .bool L.owes] := hk114; clear hk114
   have hz117 := hg116.size
   refine dr_done (by kernel_rfl) ?_
   refine co_blockN ?_
   refine co_ret0n h112 rfl ?_
   have hB118 := fbU_at hB108 hg116 (fun hlt => by rcases hSb with hq | hq; exact hq; omega)
   have hE : Blk w113 b 102 (lnC (knowT L s) u) := by
     unfold knowT; first
     | (rw [if_pos (by omega), if_pos (by omega)]; exact hk114')
     | (rw [if_pos (by omega), if_neg (by omega)]; exact hk114')
     | (rw [if_neg (by omega), if_pos (by omega)]; exact hk114')
     | (rw [if_neg (by omega), if_neg (by omega)]; exact hk114')
   exact ⟨rfl, hE, hB118⟩
  ·
   rw [hc72] at h71
   have hp119 : L.peer ≠ 0 := by first | simpa using hc72 | simpa [and_assoc] using hc72
   clear hc72
   refine co_true h71 rfl ?_
   refine co_seq ?_
   refine co_reg ?_
   refine pk0 (v := pt b 0) h71 rfl fun a120 h120 => ?_; clear h71
   refine pk0 (v := pt b 0) h120 rfl fun a121 h121 => ?_; clear h120
   refine pk0 (v := pt b 1) h121 rfl fun a122 h122 => ?_; clear h121
   refine pk (v := .int .i64 L.stream) h122 rfl (rn_load1 rfl rfl Try.isAgg3 (hk19.cell rfl)) fun a123 h123 => ?_; clear h122
   refine pk (v := .int .i64 (L.stream + 1)) h123 rfl (rn_arith rfl rfl rfl rfl rfl rfl (IntWalk.i64_in _ (by omega))) fun a124 h124 => ?_; clear h123
   refine pk0 (v := pt b 0) h124 rfl fun a125 h125 => ?_; clear h124
   refine pk0 (v := pt b 1) h125 rfl fun a126 h126 => ?_; clear h125
   refine pwD h126 rfl (op_store1 rfl rfl rfl rfl Try.sizeOf3 hk19 rfl) ?_; clear h126
   rintro _ w128 a127 ⟨hk129, hz130, hg131⟩ h127
   have hk129' : Blk w128 b 102 #[.int .i64 L.boot, .int .i64 (L.stream + 1), .int .i64 L.first, u, .int .i64 L.told, .int .i64 L.peer, .int .i64 L.in0, .int .i64 L.next, .bool L.owes] := hk129; clear hk129
   have hz132 := hg131.size
   refine pl_nil ?_
   refine co_then ?_
   refine co_reg ?_
   refine pk0 (v := pt b 0) h127 rfl fun a133 h133 => ?_; clear h127
   refine pk0 (v := pt b 0) h133 rfl fun a134 h134 => ?_; clear h133
   refine pk0 (v := pt b 0) h134 rfl fun a135 h135 => ?_; clear h134
   refine pk0 (v := pt b 2) h135 rfl fun a136 h136 => ?_; clear h135
   refine pk0 (v := pt b 2) h136 rfl fun a137 h137 => ?_; clear h136
   refine pwD h137 rfl (op_store1 rfl rfl rfl rfl Try.sizeOf3 hk129' rfl) ?_; clear h137
   rintro _ w139 a138 ⟨hk140, hz141, hg142⟩ h138
   have hk140' : Blk w139 b 102 #[.int .i64 L.boot, .int .i64 (L.stream + 1), .int .i64 0, u, .int .i64 L.told, .int .i64 L.peer, .int .i64 L.in0, .int .i64 L.next, .bool L.owes] := hk140; clear hk140
   have hz143 := hg142.size
   refine pk0 (v := pt b 0) h138 rfl fun a144 h144 => ?_; clear h138
   refine pk0 (v := pt b 4) h144 rfl fun a145 h145 => ?_; clear h144
   refine pwD h145 rfl (op_store1 rfl rfl rfl rfl Try.sizeOf3 hk140' rfl) ?_; clear h145
   rintro _ w147 a146 ⟨hk148, hz149, hg150⟩ h146
   have hk148' : Blk w147 b 102 #[.int .i64 L.boot, .int .i64 (L.stream + 1), .int .i64 0, u, .int .i64 0, .int .i64 L.peer, .int .i64 L.in0, .int .i64 L.next, .bool L.owes] := hk148; clear hk148
   have hz151 := hg150.size
   refine pl_nil ?_
   refine co_then ?_
   refine dr_gen (fun x => But (fun q => q = b) w x ∧ Blk x N3 61 #[.int .i64 s.boot, .int .i64 s.stream, .int .i64 s.seq, .int .i64 s.ab, .int .i64 s.ast, .int .i64 s.asq, .bool s.has, .string s.body]) (by kernel_rfl) (fun w152 hg153 => ?_) (fun w152 hg153 => ?_)
   ·
    have hz154 := hg153.size
    have hB155 := fbU_at hB25 hg131 (fun hlt => by rcases hSb with hq | hq; exact hq; omega)
    have hB156 := fbU_at hB155 hg142 (fun hlt => by rcases hSb with hq | hq; exact hq; omega)
    have hB157 := fbU_at hB156 hg150 (fun hlt => by rcases hSb with hq | hq; exact hq; omega)
    have hB158 := fbU_new hB157 hg153
    have hk159 := hk13.kept hg131 (by simp; omega)
    have hk160 := hk159.kept hg142 (by simp; omega)
    have hk161 := hk160.kept hg150 (by simp; omega)
    have hk162 := hk161.kept hg153 (by simp)
    exact ⟨hB158, hk162⟩
   have hz163 := hg153.size
   have hB164 := fbU_at hB25 hg131 (fun hlt => by rcases hSb with hq | hq; exact hq; omega)
   have hB165 := fbU_at hB164 hg142 (fun hlt => by rcases hSb with hq | hq; exact hq; omega)
   have hB166 := fbU_at hB165 hg150 (fun hlt => by rcases hSb with hq | hq; exact hq; omega)
   have hB167 := fbU_new hB166 hg153
   have hk168 := hk13.kept hg131 (by simp; omega)
   have hk169 := hk168.kept hg142 (by simp; omega)
   have hk170 := hk169.kept hg150 (by simp; omega)
   have hk171 := hk170.kept hg153 (by simp)
   refine dk0 0 (v := pt b 0) h146 rfl rfl ⟨hB167, hk171⟩ fun a172 h172 => ?_; clear h146
   refine dk0 1 (v := pt b 0) h172 rfl rfl ⟨hB167, hk171⟩ fun a173 h173 => ?_; clear h172
   refine dk0 2 (v := pt b 0) h173 rfl rfl ⟨hB167, hk171⟩ fun a174 h174 => ?_; clear h173
   refine dk0 3 (v := pt N3 0) h174 rfl rfl ⟨hB167, hk171⟩ fun a175 h175 => ?_; clear h174
   refine dk 4 (v := .int .i64 s.boot) h175 rfl rfl ⟨hB167, hk171⟩ (fun x hx => (rn_load1 rfl rfl Try.isAgg3 (hx.2.cell rfl))) fun a176 h176 => ?_; clear h175
   refine dk0 5 (v := pt N3 1) h176 rfl rfl ⟨hB167, hk171⟩ fun a177 h177 => ?_; clear h176
   refine dk 6 (v := .int .i64 s.stream) h177 rfl rfl ⟨hB167, hk171⟩ (fun x hx => (rn_load1 rfl rfl Try.isAgg3 (hx.2.cell rfl))) fun a178 h178 => ?_; clear h177
   refine dk0 7 (v := pt b 0) h178 rfl rfl ⟨hB167, hk171⟩ fun a179 h179 => ?_; clear h178
   refine dk0 8 (v := pt b 5) h179 rfl rfl ⟨hB167, hk171⟩ fun a180 h180 => ?_; clear h179
   have hk186 := hk148'.kept hg153 (by simp)
   refine d1D 9 h180 rfl rfl (op_store1 rfl rfl rfl rfl Try.sizeOf3 hk186 rfl) ?_ ?_; clear h180
   ·
    rintro _ w182 ⟨hk183, hz184, hg185⟩
    have hk183' : Blk w182 b 102 #[.int .i64 L.boot, .int .i64 (L.stream + 1), .int .i64 0, u, .int .i64 0, .int .i64 s.boot, .int .i64 L.in0, .int .i64 L.next, .bool L.owes] := hk183; clear hk183
    have hz187 := hg185.size
    have hB188 := fbU_at hB167 hg185 (fun hlt => by rcases hSb with hq | hq; exact hq; omega)
    have hk189 := hk171.kept hg185 (by simp; omega)
    exact ⟨hB188, hk189⟩
   rintro _ w182 a181 ⟨hk183, hz184, hg185⟩ h181
   have hk183' : Blk w182 b 102 #[.int .i64 L.boot, .int .i64 (L.stream + 1), .int .i64 0, u, .int .i64 0, .int .i64 s.boot, .int .i64 L.in0, .int .i64 L.next, .bool L.owes] := hk183; clear hk183
   have hz187 := hg185.size
   have hB188 := fbU_at hB167 hg185 (fun hlt => by rcases hSb with hq | hq; exact hq; omega)
   have hk189 := hk171.kept hg185 (by simp; omega)
   refine dk0 10 (v := pt b 0) h181 rfl rfl ⟨hB188, hk189⟩ fun a190 h190 => ?_; clear h181
   refine dk0 11 (v := pt b 6) h190 rfl rfl ⟨hB188, hk189⟩ fun a191 h191 => ?_; clear h190
   refine d1D 12 h191 rfl rfl (op_store1 rfl rfl rfl rfl Try.sizeOf3 hk183' rfl) ?_ ?_; clear h191
   ·
    rintro _ w193 ⟨hk194, hz195, hg196⟩
    have hk194' : Blk w193 b 102 #[.int .i64 L.boot, .int .i64 (L.stream + 1), .int .i64 0, u, .int .i64 0, .int .i64 s.boot, .int .i64 s.stream, .int .i64 L.next, .bool L.owes] := hk194; clear hk194
    have hz197 := hg196.size
    have hB198 := fbU_at hB188 hg196 (fun hlt => by rcases hSb with hq | hq; exact hq; omega)
    have hk199 := hk189.kept hg196 (by simp; omega)
    exact ⟨hB198, hk199⟩
   rintro _ w193 a192 ⟨hk194, hz195, hg196⟩ h192
   have hk194' : Blk w193 b 102 #[.int .i64 L.boot, .int .i64 (L.stream + 1), .int .i64 0, u, .int .i64 0, .int .i64 s.boot, .int .i64 s.stream, .int .i64 L.next, .bool L.owes] := hk194; clear hk194
   have hz197 := hg196.size
   have hB198 := fbU_at hB188 hg196 (fun hlt => by rcases hSb with hq | hq; exact hq; omega)
   have hk199 := hk189.kept hg196 (by simp; omega)
   refine dk0 13 (v := pt b 0) h192 rfl rfl ⟨hB198, hk199⟩ fun a200 h200 => ?_; clear h192
   refine dk0 14 (v := pt b 7) h200 rfl rfl ⟨hB198, hk199⟩ fun a201 h201 => ?_; clear h200
   refine d1D 15 h201 rfl rfl (op_store1 rfl rfl rfl rfl Try.sizeOf3 hk194' rfl) ?_ ?_; clear h201
   ·
    rintro _ w203 ⟨hk204, hz205, hg206⟩
    have hk204' : Blk w203 b 102 #[.int .i64 L.boot, .int .i64 (L.stream + 1), .int .i64 0, u, .int .i64 0, .int .i64 s.boot, .int .i64 s.stream, .int .i64 0, .bool L.owes] := hk204; clear hk204
    have hz207 := hg206.size
    have hB208 := fbU_at hB198 hg206 (fun hlt => by rcases hSb with hq | hq; exact hq; omega)
    have hk209 := hk199.kept hg206 (by simp; omega)
    exact ⟨hB208, hk209⟩
   rintro _ w203 a202 ⟨hk204, hz205, hg206⟩ h202
   have hk204' : Blk w203 b 102 #[.int .i64 L.boot, .int .i64 (L.stream + 1), .int .i64 0, u, .int .i64 0, .int .i64 s.boot, .int .i64 s.stream, .int .i64 0, .bool L.owes] := hk204; clear hk204
   have hz207 := hg206.size
   refine dr_done (by kernel_rfl) ?_
   refine co_blockN ?_
   refine co_ret0n h202 rfl ?_
   have hB208 := fbU_at hB198 hg206 (fun hlt => by rcases hSb with hq | hq; exact hq; omega)
   have hE : Blk w203 b 102 (lnC (knowT L s) u) := by
     unfold knowT; first
     | (rw [if_pos (by omega), if_pos (by omega)]; exact hk204')
     | (rw [if_pos (by omega), if_neg (by omega)]; exact hk204')
     | (rw [if_neg (by omega), if_pos (by omega)]; exact hk204')
     | (rw [if_neg (by omega), if_neg (by omega)]; exact hk204')
   exact ⟨rfl, hE, hB208⟩
set_option maxRecDepth 100000 in
theorem rlKnown_blk (b : Nat) (u : Value) (L : LnT) (s : SegT) (w : World) (hB : Blk w b 74 #[.int .i64 L.boot, .int .i64 L.stream, .int .i64 L.first, u, .int .i64 L.told, .int .i64 L.peer, .int .i64 L.in0, .int .i64 L.next, .bool L.owes]) (hok : LnOk L) (hm : 0 ≤ s.boot ∧ 0 ≤ s.stream) :
    Calls Try.prog 77 #[pt b 0, .agg #[.int .i64 s.boot, .int .i64 s.stream, .int .i64 s.seq, .int .i64 s.ab, .int .i64 s.ast, .int .i64 s.asq, .bool s.has, .string s.body]] w fun e w' => e = .returned (.tuple #[]) ∧ Blk w' b 74 (lnC (knowT L s) u) ∧ But (fun q => q = b) w w' := by
 have hB0 := But.refl (fun q => q = b) w
 have hl_hB := hB.lt
 obtain ⟨⟨k1, k2⟩, ⟨k3, k4⟩, ⟨k5, k6⟩, ⟨k7, k8⟩, ⟨k9, k10⟩, ⟨k11, k12⟩, ⟨k13, k14⟩, k15, k16⟩ := id hok
 have hSb : (fun q => q = b) b ∨ w.heap.size ≤ b := .inl rfl
 refine co_enter (n := 57) Try.func77 rfl rfl rfl [(0, pt b 0), (1, .agg #[.int .i64 s.boot, .int .i64 s.stream, .int .i64 s.seq, .int .i64 s.ab, .int .i64 s.ast, .int .i64 s.asq, .bool s.has, .string s.body])] rfl (fun a h0 => ?_)
 refine co_seq ?_
 refine co_reg ?_
 refine pw h0 rfl (op_new (v := fun N => pt N 0) (T := 61) (cs := #[.int .i64 s.boot, .int .i64 s.stream, .int .i64 s.seq, .int .i64 s.ab, .int .i64 s.ast, .int .i64 s.asq, .bool s.has, .string s.body]) (by kernel_rfl) (by kernel_rfl) (by kernel_rfl)) ?_; clear h0
 rintro _ w2 a1 ⟨N3, rfl, hN6, hz7, hk5, hg4⟩ h1
 have hz8 := hg4.size
 try dsimp only at h1
 refine pl_nil ?_
 refine co_then ?_
 refine co_seq ?_
 refine co_seq ?_
 refine dr_eq (by kernel_rfl) (fun w9 hg10 => ?_)
 have hz11 := hg10.size
 refine dk0 0 (v := pt N3 0) h1 rfl rfl rfl fun a12 h12 => ?_; clear h1
 have hk13 := hk5.kept hg10 (by simp)
 refine dk 1 (v := .int .i64 s.boot) h12 rfl rfl rfl (fun x hx => by subst hx; exact (rn_load1 rfl rfl Try.isAgg3 (hk13.cell rfl))) fun a14 h14 => ?_; clear h12
 refine dk0 2 (v := pt b 0) h14 rfl rfl rfl fun a15 h15 => ?_; clear h14
 refine dk0 3 (v := pt b 0) h15 rfl rfl rfl fun a16 h16 => ?_; clear h15
 refine dk0 4 (v := pt b 5) h16 rfl rfl rfl fun a17 h17 => ?_; clear h16
 have hk18 := hB.kept hg4 (by simp)
 have hk19 := hk18.kept hg10 (by simp)
 refine dk 5 (v := .int .i64 L.peer) h17 rfl rfl rfl (fun x hx => by subst hx; exact (rn_load1 rfl rfl Try.isAgg3 (hk19.cell rfl))) fun a20 h20 => ?_; clear h17
 refine dk0 6 (v := .bool (decide (s.boot > L.peer))) h20 rfl rfl rfl fun a21 h21 => ?_; clear h20
 refine dr_done (by kernel_rfl) ?_
 refine co_then ?_
 have hB23 := fbU_new hB0 hg4
 have hB24 := fbU_new hB23 hg10
 cases hc22 : (decide (s.boot > L.peer))
 ·
  rw [hc22] at h21
  have hp25 : ¬ (s.boot > L.peer) := of_decide_eq_false hc22
  clear hc22
  refine co_false h21 rfl ?_
  refine wp_skip ?_
  refine co_then ?_
  refine co_seq ?_
  refine dr_eq (by kernel_rfl) (fun w26 hg27 => ?_)
  have hz28 := hg27.size
  refine dk0 0 (v := pt N3 1) h21 rfl rfl rfl fun a29 h29 => ?_; clear h21
  have hk30 := hk13.kept hg27 (by simp)
  refine dk 1 (v := .int .i64 s.stream) h29 rfl rfl rfl (fun x hx => by subst hx; exact (rn_load1 rfl rfl Try.isAgg3 (hk30.cell rfl))) fun a31 h31 => ?_; clear h29
  refine dk0 2 (v := pt b 0) h31 rfl rfl rfl fun a32 h32 => ?_; clear h31
  refine dk0 3 (v := pt b 0) h32 rfl rfl rfl fun a33 h33 => ?_; clear h32
  refine dk0 4 (v := pt b 6) h33 rfl rfl rfl fun a34 h34 => ?_; clear h33
  have hk35 := hk19.kept hg27 (by simp)
  refine dk 5 (v := .int .i64 L.in0) h34 rfl rfl rfl (fun x hx => by subst hx; exact (rn_load1 rfl rfl Try.isAgg3 (hk35.cell rfl))) fun a36 h36 => ?_; clear h34
  refine dk0 6 (v := .bool (decide (s.stream > L.in0))) h36 rfl rfl rfl fun a37 h37 => ?_; clear h36
  refine dr_done (by kernel_rfl) ?_
  refine co_then ?_
  have hB39 := fbU_new hB24 hg27
  cases hc38 : (decide (s.stream > L.in0))
  ·
   rw [hc38] at h37
   have hp40 : ¬ (s.stream > L.in0) := of_decide_eq_false hc38
   clear hc38
   refine co_false h37 rfl ?_
   refine wp_skip ?_
   refine co_ret0n h37 rfl ?_
   have hE : Blk w26 b 74 (lnC (knowT L s) u) := by
     unfold knowT; first
     | (rw [if_pos (by omega), if_pos (by omega)]; exact hk35)
     | (rw [if_pos (by omega), if_neg (by omega)]; exact hk35)
     | (rw [if_neg (by omega), if_pos (by omega)]; exact hk35)
     | (rw [if_neg (by omega), if_neg (by omega)]; exact hk35)
   exact ⟨rfl, hE, hB39⟩
  ·
   rw [hc38] at h37
   have hp41 : s.stream > L.in0 := of_decide_eq_true hc38
   clear hc38
   refine co_true h37 rfl ?_
   refine co_seq ?_
   refine co_reg ?_
   refine pk0 (v := pt b 0) h37 rfl fun a42 h42 => ?_; clear h37
   refine pk0 (v := pt N3 1) h42 rfl fun a43 h43 => ?_; clear h42
   refine pk (v := .int .i64 s.stream) h43 rfl (rn_load1 rfl rfl Try.isAgg3 (hk30.cell rfl)) fun a44 h44 => ?_; clear h43
   refine pk0 (v := pt b 0) h44 rfl fun a45 h45 => ?_; clear h44
   refine pk0 (v := pt b 6) h45 rfl fun a46 h46 => ?_; clear h45
   refine pwD h46 rfl (op_store1 rfl rfl rfl rfl Try.sizeOf3 hk35 rfl) ?_; clear h46
   rintro _ w48 a47 ⟨hk49, hz50, hg51⟩ h47
   have hk49' : Blk w48 b 74 #[.int .i64 L.boot, .int .i64 L.stream, .int .i64 L.first, u, .int .i64 L.told, .int .i64 L.peer, .int .i64 s.stream, .int .i64 L.next, .bool L.owes] := hk49; clear hk49
   have hz52 := hg51.size
   refine pl_nil ?_
   refine co_then ?_
   refine co_reg ?_
   refine pk0 (v := pt b 0) h47 rfl fun a53 h53 => ?_; clear h47
   refine pk0 (v := pt b 0) h53 rfl fun a54 h54 => ?_; clear h53
   refine pk0 (v := pt b 7) h54 rfl fun a55 h55 => ?_; clear h54
   refine pwD h55 rfl (op_store1 rfl rfl rfl rfl Try.sizeOf3 hk49' rfl) ?_; clear h55
   rintro _ w57 a56 ⟨hk58, hz59, hg60⟩ h56
   have hk58' : Blk w57 b 74 #[.int .i64 L.boot, .int .i64 L.stream, .int .i64 L.first, u, .int .i64 L.told, .int .i64 L.peer, .int .i64 s.stream, .int .i64 0, .bool L.owes] := hk58; clear hk58
   have hz61 := hg60.size
   refine pl_nil ?_
   refine co_ret0n h56 rfl ?_
   have hB62 := fbU_at hB39 hg51 (fun hlt => by rcases hSb with hq | hq; exact hq; omega)
   have hB63 := fbU_at hB62 hg60 (fun hlt => by rcases hSb with hq | hq; exact hq; omega)
   have hE : Blk w57 b 74 (lnC (knowT L s) u) := by
     unfold knowT; first
     | (rw [if_pos (by omega), if_pos (by omega)]; exact hk58')
     | (rw [if_pos (by omega), if_neg (by omega)]; exact hk58')
     | (rw [if_neg (by omega), if_pos (by omega)]; exact hk58')
     | (rw [if_neg (by omega), if_neg (by omega)]; exact hk58')
   exact ⟨rfl, hE, hB63⟩
 ·
  rw [hc22] at h21
  have hp64 : s.boot > L.peer := of_decide_eq_true hc22
  clear hc22
  refine co_true h21 rfl ?_
  refine co_seq ?_
  refine co_seq ?_
  refine co_reg ?_
  refine pk0 (v := pt b 0) h21 rfl fun a65 h65 => ?_; clear h21
  refine pk0 (v := pt b 0) h65 rfl fun a66 h66 => ?_; clear h65
  refine pk0 (v := pt b 5) h66 rfl fun a67 h67 => ?_; clear h66
  refine pk (v := .int .i64 L.peer) h67 rfl (rn_load1 rfl rfl Try.isAgg3 (hk19.cell rfl)) fun a68 h68 => ?_; clear h67
  refine pk0 (v := .bool (decide (L.peer > 0))) h68 rfl fun a69 h69 => ?_; clear h68
  refine pl_nil ?_
  refine co_then ?_
  cases hc70 : (decide (L.peer > 0))
  ·
   rw [hc70] at h69
   have hp71 : ¬ (L.peer > 0) := of_decide_eq_false hc70
   clear hc70
   refine co_false h69 rfl ?_
   refine wp_skip ?_
   refine co_then ?_
   refine co_seq ?_
   refine co_reg ?_
   refine pk0 (v := pt b 0) h69 rfl fun a72 h72 => ?_; clear h69
   refine pk0 (v := pt N3 0) h72 rfl fun a73 h73 => ?_; clear h72
   refine pk (v := .int .i64 s.boot) h73 rfl (rn_load1 rfl rfl Try.isAgg3 (hk13.cell rfl)) fun a74 h74 => ?_; clear h73
   refine pk0 (v := pt b 0) h74 rfl fun a75 h75 => ?_; clear h74
   refine pk0 (v := pt b 5) h75 rfl fun a76 h76 => ?_; clear h75
   refine pwD h76 rfl (op_store1 rfl rfl rfl rfl Try.sizeOf3 hk19 rfl) ?_; clear h76
   rintro _ w78 a77 ⟨hk79, hz80, hg81⟩ h77
   have hk79' : Blk w78 b 74 #[.int .i64 L.boot, .int .i64 L.stream, .int .i64 L.first, u, .int .i64 L.told, .int .i64 s.boot, .int .i64 L.in0, .int .i64 L.next, .bool L.owes] := hk79; clear hk79
   have hz82 := hg81.size
   refine pl_nil ?_
   refine co_then ?_
   refine co_seq ?_
   refine co_reg ?_
   refine pk0 (v := pt b 0) h77 rfl fun a83 h83 => ?_; clear h77
   refine pk0 (v := pt N3 1) h83 rfl fun a84 h84 => ?_; clear h83
   have hk85 := hk13.kept hg81 (by simp; omega)
   refine pk (v := .int .i64 s.stream) h84 rfl (rn_load1 rfl rfl Try.isAgg3 (hk85.cell rfl)) fun a86 h86 => ?_; clear h84
   refine pk0 (v := pt b 0) h86 rfl fun a87 h87 => ?_; clear h86
   refine pk0 (v := pt b 6) h87 rfl fun a88 h88 => ?_; clear h87
   refine pwD h88 rfl (op_store1 rfl rfl rfl rfl Try.sizeOf3 hk79' rfl) ?_; clear h88
   rintro _ w90 a89 ⟨hk91, hz92, hg93⟩ h89
   have hk91' : Blk w90 b 74 #[.int .i64 L.boot, .int .i64 L.stream, .int .i64 L.first, u, .int .i64 L.told, .int .i64 s.boot, .int .i64 s.stream, .int .i64 L.next, .bool L.owes] := hk91; clear hk91
   have hz94 := hg93.size
   refine pl_nil ?_
   refine co_then ?_
   refine co_seq ?_
   refine co_reg ?_
   refine pk0 (v := pt b 0) h89 rfl fun a95 h95 => ?_; clear h89
   refine pk0 (v := pt b 0) h95 rfl fun a96 h96 => ?_; clear h95
   refine pk0 (v := pt b 7) h96 rfl fun a97 h97 => ?_; clear h96
   refine pwD h97 rfl (op_store1 rfl rfl rfl rfl Try.sizeOf3 hk91' rfl) ?_; clear h97
   rintro _ w99 a98 ⟨hk100, hz101, hg102⟩ h98
   have hk100' : Blk w99 b 74 #[.int .i64 L.boot, .int .i64 L.stream, .int .i64 L.first, u, .int .i64 L.told, .int .i64 s.boot, .int .i64 s.stream, .int .i64 0, .bool L.owes] := hk100; clear hk100
   have hz103 := hg102.size
   refine pl_nil ?_
   refine co_then ?_
   refine wp_ret ?_
   refine co_thenR ?_
   refine co_ret0 h98 rfl ?_
   have hB104 := fbU_at hB24 hg81 (fun hlt => by rcases hSb with hq | hq; exact hq; omega)
   have hB105 := fbU_at hB104 hg93 (fun hlt => by rcases hSb with hq | hq; exact hq; omega)
   have hB106 := fbU_at hB105 hg102 (fun hlt => by rcases hSb with hq | hq; exact hq; omega)
   have hE : Blk w99 b 74 (lnC (knowT L s) u) := by
     unfold knowT; first
     | (rw [if_pos (by omega), if_pos (by omega)]; exact hk100')
     | (rw [if_pos (by omega), if_neg (by omega)]; exact hk100')
     | (rw [if_neg (by omega), if_pos (by omega)]; exact hk100')
     | (rw [if_neg (by omega), if_neg (by omega)]; exact hk100')
   exact ⟨rfl, hE, hB106⟩
  ·
   rw [hc70] at h69
   have hp107 : L.peer > 0 := of_decide_eq_true hc70
   clear hc70
   refine co_true h69 rfl ?_
   refine co_seq ?_
   refine co_reg ?_
   refine pk0 (v := pt b 0) h69 rfl fun a108 h108 => ?_; clear h69
   refine pk0 (v := pt b 0) h108 rfl fun a109 h109 => ?_; clear h108
   refine pk0 (v := pt b 1) h109 rfl fun a110 h110 => ?_; clear h109
   refine pk (v := .int .i64 L.stream) h110 rfl (rn_load1 rfl rfl Try.isAgg3 (hk19.cell rfl)) fun a111 h111 => ?_; clear h110
   refine pk (v := .int .i64 (L.stream + 1)) h111 rfl (rn_arith rfl rfl rfl rfl rfl rfl (IntWalk.i64_in _ (by omega))) fun a112 h112 => ?_; clear h111
   refine pk0 (v := pt b 0) h112 rfl fun a113 h113 => ?_; clear h112
   refine pk0 (v := pt b 1) h113 rfl fun a114 h114 => ?_; clear h113
   refine pwD h114 rfl (op_store1 rfl rfl rfl rfl Try.sizeOf3 hk19 rfl) ?_; clear h114
   rintro _ w116 a115 ⟨hk117, hz118, hg119⟩ h115
   have hk117' : Blk w116 b 74 #[.int .i64 L.boot, .int .i64 (L.stream + 1), .int .i64 L.first, u, .int .i64 L.told, .int .i64 L.peer, .int .i64 L.in0, .int .i64 L.next, .bool L.owes] := hk117; clear hk117
   have hz120 := hg119.size
   refine pl_nil ?_
   refine co_then ?_
   refine co_seq ?_
   refine co_reg ?_
   refine pk0 (v := pt b 0) h115 rfl fun a121 h121 => ?_; clear h115
   refine pk0 (v := pt b 0) h121 rfl fun a122 h122 => ?_; clear h121
   refine pk0 (v := pt b 2) h122 rfl fun a123 h123 => ?_; clear h122
   refine pwD h123 rfl (op_store1 rfl rfl rfl rfl Try.sizeOf3 hk117' rfl) ?_; clear h123
   rintro _ w125 a124 ⟨hk126, hz127, hg128⟩ h124
   have hk126' : Blk w125 b 74 #[.int .i64 L.boot, .int .i64 (L.stream + 1), .int .i64 0, u, .int .i64 L.told, .int .i64 L.peer, .int .i64 L.in0, .int .i64 L.next, .bool L.owes] := hk126; clear hk126
   have hz129 := hg128.size
   refine pl_nil ?_
   refine co_then ?_
   refine co_reg ?_
   refine pk0 (v := pt b 0) h124 rfl fun a130 h130 => ?_; clear h124
   refine pk0 (v := pt b 0) h130 rfl fun a131 h131 => ?_; clear h130
   refine pk0 (v := pt b 4) h131 rfl fun a132 h132 => ?_; clear h131
   refine pwD h132 rfl (op_store1 rfl rfl rfl rfl Try.sizeOf3 hk126' rfl) ?_; clear h132
   rintro _ w134 a133 ⟨hk135, hz136, hg137⟩ h133
   have hk135' : Blk w134 b 74 #[.int .i64 L.boot, .int .i64 (L.stream + 1), .int .i64 0, u, .int .i64 0, .int .i64 L.peer, .int .i64 L.in0, .int .i64 L.next, .bool L.owes] := hk135; clear hk135
   have hz138 := hg137.size
   refine pl_nil ?_
   refine co_then ?_
   refine co_seq ?_
   refine co_reg ?_
   refine pk0 (v := pt b 0) h133 rfl fun a139 h139 => ?_; clear h133
   refine pk0 (v := pt N3 0) h139 rfl fun a140 h140 => ?_; clear h139
   have hk141 := hk13.kept hg119 (by simp; omega)
   have hk142 := hk141.kept hg128 (by simp; omega)
   have hk143 := hk142.kept hg137 (by simp; omega)
   refine pk (v := .int .i64 s.boot) h140 rfl (rn_load1 rfl rfl Try.isAgg3 (hk143.cell rfl)) fun a144 h144 => ?_; clear h140
   refine pk0 (v := pt b 0) h144 rfl fun a145 h145 => ?_; clear h144
   refine pk0 (v := pt b 5) h145 rfl fun a146 h146 => ?_; clear h145
   refine pwD h146 rfl (op_store1 rfl rfl rfl rfl Try.sizeOf3 hk135' rfl) ?_; clear h146
   rintro _ w148 a147 ⟨hk149, hz150, hg151⟩ h147
   have hk149' : Blk w148 b 74 #[.int .i64 L.boot, .int .i64 (L.stream + 1), .int .i64 0, u, .int .i64 0, .int .i64 s.boot, .int .i64 L.in0, .int .i64 L.next, .bool L.owes] := hk149; clear hk149
   have hz152 := hg151.size
   refine pl_nil ?_
   refine co_then ?_
   refine co_seq ?_
   refine co_reg ?_
   refine pk0 (v := pt b 0) h147 rfl fun a153 h153 => ?_; clear h147
   refine pk0 (v := pt N3 1) h153 rfl fun a154 h154 => ?_; clear h153
   have hk155 := hk143.kept hg151 (by simp; omega)
   refine pk (v := .int .i64 s.stream) h154 rfl (rn_load1 rfl rfl Try.isAgg3 (hk155.cell rfl)) fun a156 h156 => ?_; clear h154
   refine pk0 (v := pt b 0) h156 rfl fun a157 h157 => ?_; clear h156
   refine pk0 (v := pt b 6) h157 rfl fun a158 h158 => ?_; clear h157
   refine pwD h158 rfl (op_store1 rfl rfl rfl rfl Try.sizeOf3 hk149' rfl) ?_; clear h158
   rintro _ w160 a159 ⟨hk161, hz162, hg163⟩ h159
   have hk161' : Blk w160 b 74 #[.int .i64 L.boot, .int .i64 (L.stream + 1), .int .i64 0, u, .int .i64 0, .int .i64 s.boot, .int .i64 s.stream, .int .i64 L.next, .bool L.owes] := hk161; clear hk161
   have hz164 := hg163.size
   refine pl_nil ?_
   refine co_then ?_
   refine co_seq ?_
   refine co_reg ?_
   refine pk0 (v := pt b 0) h159 rfl fun a165 h165 => ?_; clear h159
   refine pk0 (v := pt b 0) h165 rfl fun a166 h166 => ?_; clear h165
   refine pk0 (v := pt b 7) h166 rfl fun a167 h167 => ?_; clear h166
   refine pwD h167 rfl (op_store1 rfl rfl rfl rfl Try.sizeOf3 hk161' rfl) ?_; clear h167
   rintro _ w169 a168 ⟨hk170, hz171, hg172⟩ h168
   have hk170' : Blk w169 b 74 #[.int .i64 L.boot, .int .i64 (L.stream + 1), .int .i64 0, u, .int .i64 0, .int .i64 s.boot, .int .i64 s.stream, .int .i64 0, .bool L.owes] := hk170; clear hk170
   have hz173 := hg172.size
   refine pl_nil ?_
   refine co_then ?_
   refine wp_ret ?_
   refine co_thenR ?_
   refine co_ret0 h168 rfl ?_
   have hB174 := fbU_at hB24 hg119 (fun hlt => by rcases hSb with hq | hq; exact hq; omega)
   have hB175 := fbU_at hB174 hg128 (fun hlt => by rcases hSb with hq | hq; exact hq; omega)
   have hB176 := fbU_at hB175 hg137 (fun hlt => by rcases hSb with hq | hq; exact hq; omega)
   have hB177 := fbU_at hB176 hg151 (fun hlt => by rcases hSb with hq | hq; exact hq; omega)
   have hB178 := fbU_at hB177 hg163 (fun hlt => by rcases hSb with hq | hq; exact hq; omega)
   have hB179 := fbU_at hB178 hg172 (fun hlt => by rcases hSb with hq | hq; exact hq; omega)
   have hE : Blk w169 b 74 (lnC (knowT L s) u) := by
     unfold knowT; first
     | (rw [if_pos (by omega), if_pos (by omega)]; exact hk170')
     | (rw [if_pos (by omega), if_neg (by omega)]; exact hk170')
     | (rw [if_neg (by omega), if_pos (by omega)]; exact hk170')
     | (rw [if_neg (by omega), if_neg (by omega)]; exact hk170')
   exact ⟨rfl, hE, hB179⟩
end Go.Proofs.Ythmljllgfigebaa

/- Package link: below. Conditions: none. -/
namespace Go.Proofs.Ythmljllgfigebaa
open Go.RowKit Go.PlainAid
set_option linter.unusedVariables false

set_option maxRecDepth 100000 in
theorem lkBelow_blk (b : Nat) (u : Value) (L : LnT) (B0 : Nat) (n : Int) (w : World) (hB : Blk w b 102 #[.int .i64 L.boot, .int .i64 L.stream, .int .i64 L.first, u, .int .i64 L.told, .int .i64 L.peer, .int .i64 L.in0, .int .i64 L.next, .bool L.owes]) (hok : LnOk L) (hR : w.ownsRow B0 9 1 u L.q.length (L.q.flatMap strE)) (hn : 0 ≤ n ∧ n ≤ 1073741824) (hbu : u.ownBlock ≠ some b) :
    Calls Try.prog 76 #[pt b 2, .int .i64 n] w fun e w' => ∃ (u' : Value), e = .returned (.int .i64 (goneN L n : Int)) ∧ Blk w' b 102 #[.int .i64 L.boot, .int .i64 L.stream, .int .i64 (L.first + (goneN L n : Int)), u', .int .i64 L.told, .int .i64 L.peer, .int .i64 L.in0, .int .i64 L.next, .bool L.owes] ∧ w'.ownsRow w.heap.size 9 1 u' (L.q.drop (goneN L n)).length ((L.q.drop (goneN L n)).flatMap strE) ∧ But (fun q => q = b) w w' := by
 have hB0 := But.refl (fun q => q = b) w
 have hl_hB := hB.lt
 obtain ⟨⟨k1, k2⟩, ⟨k3, k4⟩, ⟨k5, k6⟩, ⟨k7, k8⟩, ⟨k9, k10⟩, ⟨k11, k12⟩, ⟨k13, k14⟩, k15, k16⟩ := id hok
 have hSb : (fun q => q = b) b ∨ w.heap.size ≤ b := .inl rfl
 refine co_enter (n := 38) Try.func76 rfl rfl rfl [(0, pt b 2), (1, .int .i64 n)] rfl (fun a h0 => ?_)
 refine co_seq ?_
 refine co_reg ?_
 refine pk0 (v := .int .i64 0) h0 rfl fun a1 h1 => ?_; clear h0
 refine pl_nil ?_
 refine co_then ?_
 refine co_seq ?_
 refine dr_eq (by kernel_rfl) (fun w2 hg3 => ?_)
 have hz4 := hg3.size
 refine dk0 0 (v := .int .i64 n) h1 rfl rfl rfl fun a5 h5 => ?_; clear h1
 refine dk0 1 (v := pt b 2) h5 rfl rfl rfl fun a6 h6 => ?_; clear h5
 refine dk0 2 (v := pt b 2) h6 rfl rfl rfl fun a7 h7 => ?_; clear h6
 refine dk0 3 (v := pt b 2) h7 rfl rfl rfl fun a8 h8 => ?_; clear h7
 have hk9 := hB.kept hg3 (by simp)
 refine dk 4 (v := .int .i64 L.first) h8 rfl rfl rfl (fun x hx => by subst hx; exact (rn_load1 rfl rfl Try.isAgg3 (hk9.cell rfl))) fun a10 h10 => ?_; clear h8
 refine dk 5 (v := .int .i64 (n - L.first)) h10 rfl rfl rfl (fun x hx => by subst hx; exact (rn_arith rfl rfl rfl rfl rfl rfl (IntWalk.i64_in _ (by omega)))) fun a11 h11 => ?_; clear h10
 by_cases hs12 : n - L.first < 0
 ·
  refine dk 6 (v := .int .i64 0) h11 rfl rfl rfl (fun x hx => by subst hx; exact (rn_max2 rfl rfl rfl rfl (by omega))) fun a13 h13 => ?_; clear h11
  refine dk0 7 (v := pt b 2) h13 rfl rfl rfl fun a14 h14 => ?_; clear h13
  refine dk0 8 (v := pt b 2) h14 rfl rfl rfl fun a15 h15 => ?_; clear h14
  refine dk0 9 (v := pt b 3) h15 rfl rfl rfl fun a16 h16 => ?_; clear h15
  refine dk 10 (v := u) h16 rfl rfl rfl (fun x hx => by subst hx; exact (rn_load1 rfl rfl Try.isAgg38 (hk9.cell rfl))) fun a17 h17 => ?_; clear h16
  have hr18 := row_kept_new hR hg3
  refine dk 11 (v := .int .i64 ((L.q.length : Nat) : Int)) h17 rfl rfl rfl (fun x hx => by subst hx; exact (rn_lenOwn rfl rfl Try.underlying38 hr18)) fun a19 h19 => ?_; clear h17
  refine dk 12 (v := .int .i64 0) h19 rfl rfl rfl (fun x hx => by subst hx; exact (rn_min1 rfl rfl rfl rfl (by omega))) fun a20 h20 => ?_; clear h19
  refine dk0 13 (v := .int .i64 0) h20 rfl rfl rfl fun a21 h21 => ?_; clear h20
  refine dr_done (by kernel_rfl) ?_
  refine co_then ?_
  refine co_seq ?_
  refine co_reg ?_
  refine pk0 (v := pt b 2) h21 rfl fun a22 h22 => ?_; clear h21
  refine pk0 (v := pt b 2) h22 rfl fun a23 h23 => ?_; clear h22
  refine pk0 (v := pt b 2) h23 rfl fun a24 h24 => ?_; clear h23
  refine pk (v := .int .i64 L.first) h24 rfl (rn_load1 rfl rfl Try.isAgg3 (hk9.cell rfl)) fun a25 h25 => ?_; clear h24
  refine pk0 (v := .int .i64 0) h25 rfl fun a26 h26 => ?_; clear h25
  refine pk (v := .int .i64 (L.first + 0)) h26 rfl (rn_arith rfl rfl rfl rfl rfl rfl (IntWalk.i64_in _ (by omega))) fun a27 h27 => ?_; clear h26
  refine pk0 (v := pt b 2) h27 rfl fun a28 h28 => ?_; clear h27
  refine pk0 (v := pt b 2) h28 rfl fun a29 h29 => ?_; clear h28
  refine pwD h29 rfl (op_store1 rfl rfl rfl rfl Try.sizeOf3 hk9 rfl) ?_; clear h29
  rintro _ w31 a30 ⟨hk32, hz33, hg34⟩ h30
  have hk32' : Blk w31 b 102 #[.int .i64 L.boot, .int .i64 L.stream, .int .i64 (L.first + 0), u, .int .i64 L.told, .int .i64 L.peer, .int .i64 L.in0, .int .i64 L.next, .bool L.owes] := hk32; clear hk32
  have hz35 := hg34.size
  refine pl_nil ?_
  refine co_then ?_
  refine co_seq ?_
  refine co_reg ?_
  refine pk0 (v := pt b 2) h30 rfl fun a36 h36 => ?_; clear h30
  refine pk0 (v := pt b 2) h36 rfl fun a37 h37 => ?_; clear h36
  refine pk0 (v := pt b 2) h37 rfl fun a38 h38 => ?_; clear h37
  refine pk0 (v := pt b 3) h38 rfl fun a39 h39 => ?_; clear h38
  refine pk (v := u) h39 rfl (rn_load1 rfl rfl Try.isAgg38 (hk32'.cell rfl)) fun a40 h40 => ?_; clear h39
  refine pk0 (v := .int .i64 0) h40 rfl fun a41 h41 => ?_; clear h40
  have hr42 := row_kept_at hr18 hg34 (hbu)
  refine pk (v := subV u 0 L.q.length 1) h41 rfl (rn_sliceFrom rfl rfl rfl Try.underlying38 Try.sizeOf9 (row_sl hr42 strE_len) (by omega) (by omega)) fun a43 h43 => ?_; clear h41
  obtain ⟨base47, hb_base47⟩ : ∃ b, b = w31.heap.size := ⟨_, rfl⟩
  have hr46 := row_nilL w31 base47 9 1 strE
  refine pw h43 rfl (op_appendSrc rfl base47 9 (z := .string (⟨#[]⟩)) (size := 1) (bytes := 16) Try.underlying38 (by kernel_rfl) rfl rfl rfl hr46 rfl (sl_drop (row_sl hr42 strE_len) _ (by omega)) (fun y hy => ⟨strE_len y, strE_one y⟩) (by first | omega | (simp only [List.length_nil, List.length_append, List.length_cons, List.length_take, List.length_drop]; omega)) (by first | omega | (simp only [List.length_nil, List.length_append, List.length_cons, List.length_take, List.length_drop]; omega)) (by omega)) ?_; clear h43
  rintro v48 w45 a44 ⟨hr49, hg50⟩ h44
  have hr49' : w45.ownsRow base47 9 1 v48 ((L.q.drop 0).length) ((L.q.drop 0).flatMap strE) := row_app (l := []) hr49; clear hr49
  have hz52 := hg50.size
  refine pk0 (v := pt b 2) h44 rfl fun a53 h53 => ?_; clear h44
  refine pk0 (v := pt b 3) h53 rfl fun a54 h54 => ?_; clear h53
  have hk60 := hk32'.kept hg50 (own_neT hr46 hk32' (by decide))
  refine pwD h54 rfl (op_store1 rfl rfl rfl (row_one hr49') Try.sizeOf38 hk60 rfl) ?_; clear h54
  rintro _ w56 a55 ⟨hk57, hz58, hg59⟩ h55
  have hk57' : Blk w56 b 102 #[.int .i64 L.boot, .int .i64 L.stream, .int .i64 (L.first + 0), v48, .int .i64 L.told, .int .i64 L.peer, .int .i64 L.in0, .int .i64 L.next, .bool L.owes] := hk57; clear hk57
  have hz61 := hg59.size
  refine pl_nil ?_
  refine co_then ?_
  refine co_seq ?_
  refine co_reg ?_
  refine pk0 (v := .int .i64 0) h55 rfl fun a62 h62 => ?_; clear h55
  refine pk0 (v := .int .i64 0) h62 rfl fun a63 h63 => ?_; clear h62
  refine pl_nil ?_
  refine co_then ?_
  refine wp_ret ?_
  refine co_ret1 h63 rfl rfl ?_
  have hr64 := row_kept_at hr49' hg59 (own_neT hr49' hk60 (by decide))
  have hB65 := fbU_new hB0 hg3
  have hB66 := fbU_at hB65 hg34 (fun hlt => by rcases hSb with hq | hq; exact hq; omega)
  have hB67 := fbU_row hB66 (InS.low hr46 (by omega)) hg50
  have hB68 := fbU_at hB67 hg59 (fun hlt => by rcases hSb with hq | hq; exact hq; omega)
  have hg : ((goneN L n : Nat) : Int) = (0 : Int) := by unfold goneN; omega
  exact ⟨_, ret_int hg.symm, (by have h := hk57'; first | exact h | (rw [hg]; exact h) | (rw [hg, Int.add_zero]; exact h) | (rw [hg]; simpa using h)), (row_eq (row_lows hr64 (by omega)) (by congr 1; unfold goneN; omega)), hB68⟩
 ·
  refine dk 6 (v := .int .i64 (n - L.first)) h11 rfl rfl rfl (fun x hx => by subst hx; exact (rn_max1 rfl rfl rfl rfl (by omega))) fun a69 h69 => ?_; clear h11
  refine dk0 7 (v := pt b 2) h69 rfl rfl rfl fun a70 h70 => ?_; clear h69
  refine dk0 8 (v := pt b 2) h70 rfl rfl rfl fun a71 h71 => ?_; clear h70
  refine dk0 9 (v := pt b 3) h71 rfl rfl rfl fun a72 h72 => ?_; clear h71
  refine dk 10 (v := u) h72 rfl rfl rfl (fun x hx => by subst hx; exact (rn_load1 rfl rfl Try.isAgg38 (hk9.cell rfl))) fun a73 h73 => ?_; clear h72
  have hr74 := row_kept_new hR hg3
  refine dk 11 (v := .int .i64 ((L.q.length : Nat) : Int)) h73 rfl rfl rfl (fun x hx => by subst hx; exact (rn_lenOwn rfl rfl Try.underlying38 hr74)) fun a75 h75 => ?_; clear h73
  by_cases hs76 : ((L.q.length : Nat) : Int) < n - L.first
  ·
   refine dk 12 (v := .int .i64 ((L.q.length : Nat) : Int)) h75 rfl rfl rfl (fun x hx => by subst hx; exact (rn_min2 rfl rfl rfl rfl (by omega))) fun a77 h77 => ?_; clear h75
   refine dk0 13 (v := .int .i64 ((L.q.length : Nat) : Int)) h77 rfl rfl rfl fun a78 h78 => ?_; clear h77
   refine dr_done (by kernel_rfl) ?_
   refine co_then ?_
   refine co_seq ?_
   refine co_reg ?_
   refine pk0 (v := pt b 2) h78 rfl fun a79 h79 => ?_; clear h78
   refine pk0 (v := pt b 2) h79 rfl fun a80 h80 => ?_; clear h79
   refine pk0 (v := pt b 2) h80 rfl fun a81 h81 => ?_; clear h80
   refine pk (v := .int .i64 L.first) h81 rfl (rn_load1 rfl rfl Try.isAgg3 (hk9.cell rfl)) fun a82 h82 => ?_; clear h81
   refine pk0 (v := .int .i64 ((L.q.length : Nat) : Int)) h82 rfl fun a83 h83 => ?_; clear h82
   refine pk (v := .int .i64 (L.first + ((L.q.length : Nat) : Int))) h83 rfl (rn_arith rfl rfl rfl rfl rfl rfl (IntWalk.i64_in _ (by omega))) fun a84 h84 => ?_; clear h83
   refine pk0 (v := pt b 2) h84 rfl fun a85 h85 => ?_; clear h84
   refine pk0 (v := pt b 2) h85 rfl fun a86 h86 => ?_; clear h85
   refine pwD h86 rfl (op_store1 rfl rfl rfl rfl Try.sizeOf3 hk9 rfl) ?_; clear h86
   rintro _ w88 a87 ⟨hk89, hz90, hg91⟩ h87
   have hk89' : Blk w88 b 102 #[.int .i64 L.boot, .int .i64 L.stream, .int .i64 (L.first + ((L.q.length : Nat) : Int)), u, .int .i64 L.told, .int .i64 L.peer, .int .i64 L.in0, .int .i64 L.next, .bool L.owes] := hk89; clear hk89
   have hz92 := hg91.size
   refine pl_nil ?_
   refine co_then ?_
   refine co_seq ?_
   refine co_reg ?_
   refine pk0 (v := pt b 2) h87 rfl fun a93 h93 => ?_; clear h87
   refine pk0 (v := pt b 2) h93 rfl fun a94 h94 => ?_; clear h93
   refine pk0 (v := pt b 2) h94 rfl fun a95 h95 => ?_; clear h94
   refine pk0 (v := pt b 3) h95 rfl fun a96 h96 => ?_; clear h95
   refine pk (v := u) h96 rfl (rn_load1 rfl rfl Try.isAgg38 (hk89'.cell rfl)) fun a97 h97 => ?_; clear h96
   refine pk0 (v := .int .i64 ((L.q.length : Nat) : Int)) h97 rfl fun a98 h98 => ?_; clear h97
   have hr99 := row_kept_at hr74 hg91 (hbu)
   refine pk (v := subV u L.q.length L.q.length 1) h98 rfl (rn_sliceFrom rfl rfl rfl Try.underlying38 Try.sizeOf9 (row_sl hr99 strE_len) (by omega) (by omega)) fun a100 h100 => ?_; clear h98
   obtain ⟨base104, hb_base104⟩ : ∃ b, b = w88.heap.size := ⟨_, rfl⟩
   have hr103 := row_nilL w88 base104 9 1 strE
   refine pw h100 rfl (op_appendSrc rfl base104 9 (z := .string (⟨#[]⟩)) (size := 1) (bytes := 16) Try.underlying38 (by kernel_rfl) rfl rfl rfl hr103 rfl (sl_drop (row_sl hr99 strE_len) _ (by omega)) (fun y hy => ⟨strE_len y, strE_one y⟩) (by first | omega | (simp only [List.length_nil, List.length_append, List.length_cons, List.length_take, List.length_drop]; omega)) (by first | omega | (simp only [List.length_nil, List.length_append, List.length_cons, List.length_take, List.length_drop]; omega)) (by omega)) ?_; clear h100
   rintro v105 w102 a101 ⟨hr106, hg107⟩ h101
   have hr106' : w102.ownsRow base104 9 1 v105 ((L.q.drop L.q.length).length) ((L.q.drop L.q.length).flatMap strE) := row_app (l := []) hr106; clear hr106
   have hz109 := hg107.size
   refine pk0 (v := pt b 2) h101 rfl fun a110 h110 => ?_; clear h101
   refine pk0 (v := pt b 3) h110 rfl fun a111 h111 => ?_; clear h110
   have hk117 := hk89'.kept hg107 (own_neT hr103 hk89' (by decide))
   refine pwD h111 rfl (op_store1 rfl rfl rfl (row_one hr106') Try.sizeOf38 hk117 rfl) ?_; clear h111
   rintro _ w113 a112 ⟨hk114, hz115, hg116⟩ h112
   have hk114' : Blk w113 b 102 #[.int .i64 L.boot, .int .i64 L.stream, .int .i64 (L.first + ((L.q.length : Nat) : Int)), v105, .int .i64 L.told, .int .i64 L.peer, .int .i64 L.in0, .int .i64 L.next, .bool L.owes] := hk114; clear hk114
   have hz118 := hg116.size
   refine pl_nil ?_
   refine co_then ?_
   refine co_seq ?_
   refine co_reg ?_
   refine pk0 (v := .int .i64 ((L.q.length : Nat) : Int)) h112 rfl fun a119 h119 => ?_; clear h112
   refine pk0 (v := .int .i64 ((L.q.length : Nat) : Int)) h119 rfl fun a120 h120 => ?_; clear h119
   refine pl_nil ?_
   refine co_then ?_
   refine wp_ret ?_
   refine co_ret1 h120 rfl rfl ?_
   have hr121 := row_kept_at hr106' hg116 (own_neT hr106' hk117 (by decide))
   have hB122 := fbU_new hB0 hg3
   have hB123 := fbU_at hB122 hg91 (fun hlt => by rcases hSb with hq | hq; exact hq; omega)
   have hB124 := fbU_row hB123 (InS.low hr103 (by omega)) hg107
   have hB125 := fbU_at hB124 hg116 (fun hlt => by rcases hSb with hq | hq; exact hq; omega)
   have hg : ((goneN L n : Nat) : Int) = (((L.q.length : Nat) : Int) : Int) := by unfold goneN; omega
   exact ⟨_, ret_int hg.symm, (by have h := hk114'; first | exact h | (rw [hg]; exact h) | (rw [hg, Int.add_zero]; exact h) | (rw [hg]; simpa using h)), (row_eq (row_lows hr121 (by omega)) (by congr 1; unfold goneN; omega)), hB125⟩
  ·
   refine dk 12 (v := .int .i64 (n - L.first)) h75 rfl rfl rfl (fun x hx => by subst hx; exact (rn_min1 rfl rfl rfl rfl (by omega))) fun a126 h126 => ?_; clear h75
   refine dk0 13 (v := .int .i64 (n - L.first)) h126 rfl rfl rfl fun a127 h127 => ?_; clear h126
   refine dr_done (by kernel_rfl) ?_
   refine co_then ?_
   refine co_seq ?_
   refine co_reg ?_
   refine pk0 (v := pt b 2) h127 rfl fun a128 h128 => ?_; clear h127
   refine pk0 (v := pt b 2) h128 rfl fun a129 h129 => ?_; clear h128
   refine pk0 (v := pt b 2) h129 rfl fun a130 h130 => ?_; clear h129
   refine pk (v := .int .i64 L.first) h130 rfl (rn_load1 rfl rfl Try.isAgg3 (hk9.cell rfl)) fun a131 h131 => ?_; clear h130
   refine pk0 (v := .int .i64 (n - L.first)) h131 rfl fun a132 h132 => ?_; clear h131
   refine pk (v := .int .i64 (L.first + (n - L.first))) h132 rfl (rn_arith rfl rfl rfl rfl rfl rfl (IntWalk.i64_in _ (by omega))) fun a133 h133 => ?_; clear h132
   refine pk0 (v := pt b 2) h133 rfl fun a134 h134 => ?_; clear h133
   refine pk0 (v := pt b 2) h134 rfl fun a135 h135 => ?_; clear h134
   refine pwD h135 rfl (op_store1 rfl rfl rfl rfl Try.sizeOf3 hk9 rfl) ?_; clear h135
   rintro _ w137 a136 ⟨hk138, hz139, hg140⟩ h136
   have hk138' : Blk w137 b 102 #[.int .i64 L.boot, .int .i64 L.stream, .int .i64 (L.first + (n - L.first)), u, .int .i64 L.told, .int .i64 L.peer, .int .i64 L.in0, .int .i64 L.next, .bool L.owes] := hk138; clear hk138
   have hz141 := hg140.size
   refine pl_nil ?_
   refine co_then ?_
   refine co_seq ?_
   refine co_reg ?_
   refine pk0 (v := pt b 2) h136 rfl fun a142 h142 => ?_; clear h136
   refine pk0 (v := pt b 2) h142 rfl fun a143 h143 => ?_; clear h142
   refine pk0 (v := pt b 2) h143 rfl fun a144 h144 => ?_; clear h143
   refine pk0 (v := pt b 3) h144 rfl fun a145 h145 => ?_; clear h144
   refine pk (v := u) h145 rfl (rn_load1 rfl rfl Try.isAgg38 (hk138'.cell rfl)) fun a146 h146 => ?_; clear h145
   refine pk0 (v := .int .i64 (n - L.first)) h146 rfl fun a147 h147 => ?_; clear h146
   have hr148 := row_kept_at hr74 hg140 (hbu)
   refine pk (v := subV u ((n - L.first).toNat) L.q.length 1) h147 rfl (rn_sliceFrom rfl rfl rfl Try.underlying38 Try.sizeOf9 (row_sl hr148 strE_len) (by omega) (by omega)) fun a149 h149 => ?_; clear h147
   obtain ⟨base153, hb_base153⟩ : ∃ b, b = w137.heap.size := ⟨_, rfl⟩
   have hr152 := row_nilL w137 base153 9 1 strE
   refine pw h149 rfl (op_appendSrc rfl base153 9 (z := .string (⟨#[]⟩)) (size := 1) (bytes := 16) Try.underlying38 (by kernel_rfl) rfl rfl rfl hr152 rfl (sl_drop (row_sl hr148 strE_len) _ (by omega)) (fun y hy => ⟨strE_len y, strE_one y⟩) (by first | omega | (simp only [List.length_nil, List.length_append, List.length_cons, List.length_take, List.length_drop]; omega)) (by first | omega | (simp only [List.length_nil, List.length_append, List.length_cons, List.length_take, List.length_drop]; omega)) (by omega)) ?_; clear h149
   rintro v154 w151 a150 ⟨hr155, hg156⟩ h150
   have hr155' : w151.ownsRow base153 9 1 v154 ((L.q.drop ((n - L.first).toNat)).length) ((L.q.drop ((n - L.first).toNat)).flatMap strE) := row_app (l := []) hr155; clear hr155
   have hz158 := hg156.size
   refine pk0 (v := pt b 2) h150 rfl fun a159 h159 => ?_; clear h150
   refine pk0 (v := pt b 3) h159 rfl fun a160 h160 => ?_; clear h159
   have hk166 := hk138'.kept hg156 (own_neT hr152 hk138' (by decide))
   refine pwD h160 rfl (op_store1 rfl rfl rfl (row_one hr155') Try.sizeOf38 hk166 rfl) ?_; clear h160
   rintro _ w162 a161 ⟨hk163, hz164, hg165⟩ h161
   have hk163' : Blk w162 b 102 #[.int .i64 L.boot, .int .i64 L.stream, .int .i64 (L.first + (n - L.first)), v154, .int .i64 L.told, .int .i64 L.peer, .int .i64 L.in0, .int .i64 L.next, .bool L.owes] := hk163; clear hk163
   have hz167 := hg165.size
   refine pl_nil ?_
   refine co_then ?_
   refine co_seq ?_
   refine co_reg ?_
   refine pk0 (v := .int .i64 (n - L.first)) h161 rfl fun a168 h168 => ?_; clear h161
   refine pk0 (v := .int .i64 (n - L.first)) h168 rfl fun a169 h169 => ?_; clear h168
   refine pl_nil ?_
   refine co_then ?_
   refine wp_ret ?_
   refine co_ret1 h169 rfl rfl ?_
   have hr170 := row_kept_at hr155' hg165 (own_neT hr155' hk166 (by decide))
   have hB171 := fbU_new hB0 hg3
   have hB172 := fbU_at hB171 hg140 (fun hlt => by rcases hSb with hq | hq; exact hq; omega)
   have hB173 := fbU_row hB172 (InS.low hr152 (by omega)) hg156
   have hB174 := fbU_at hB173 hg165 (fun hlt => by rcases hSb with hq | hq; exact hq; omega)
   have hg : ((goneN L n : Nat) : Int) = (n - L.first : Int) := by unfold goneN; omega
   exact ⟨_, ret_int hg.symm, (by have h := hk163'; first | exact h | (rw [hg]; exact h) | (rw [hg, Int.add_zero]; exact h) | (rw [hg]; simpa using h)), (row_eq (row_lows hr170 (by omega)) (by congr 1; unfold goneN; omega)), hB174⟩
end Go.Proofs.Ythmljllgfigebaa

/- Package link: add; the document's Send. Conditions: none. -/
namespace Go.Proofs.Ythmljllgfigebaa
open Go.RowKit Go.PlainAid
set_option linter.unusedVariables false

set_option maxRecDepth 100000 in
theorem lkAdd_any (S : Nat → Prop) (b : Nat) (u : Value) (L : LnT) (t : ByteArray) (w : World) (hU : LkU 102 S w b u L) (hl8 : L.q.length < 8) (ht : t.size ≤ 65536) :
    Calls Try.prog 72 #[pt b 2, .string t] w fun e w' => ∃ (u' : Value), e = .returned (.tuple #[]) ∧ (∃ S' : Nat → Prop, LkU 102 S' w' b u' { L with q := L.q ++ [t] } ∧ Grew S S' w w') ∧ But (S) w w' := by
 have hB0 := But.refl (S) w
 obtain ⟨hB, ⟨B0, hR⟩, hSS, hbu, hok⟩ := id hU
 have hB : Blk w b 102 #[.int .i64 L.boot, .int .i64 L.stream, .int .i64 L.first, u, .int .i64 L.told, .int .i64 L.peer, .int .i64 L.in0, .int .i64 L.next, .bool L.owes] := hB
 have hl_B := hB.lt
 have hR := row_lows hR (Nat.zero_le _)
 have hsb : S b := (hSS b).2 (.inl rfl)
 have hSb : S b ∨ w.heap.size ≤ b := .inl hsb
 obtain ⟨⟨k1, k2⟩, ⟨k3, k4⟩, ⟨k5, k6⟩, ⟨k7, k8⟩, ⟨k9, k10⟩, ⟨k11, k12⟩, ⟨k13, k14⟩, k15, k16⟩ := id hok
 refine co_enter (n := 14) Try.func72 rfl rfl rfl [(0, pt b 2), (1, .string t)] rfl (fun a h0 => ?_)
 refine co_reg ?_
 refine pk0 (v := pt b 2) h0 rfl fun a1 h1 => ?_; clear h0
 refine pk0 (v := pt b 2) h1 rfl fun a2 h2 => ?_; clear h1
 refine pk0 (v := pt b 2) h2 rfl fun a3 h3 => ?_; clear h2
 refine pk0 (v := pt b 3) h3 rfl fun a4 h4 => ?_; clear h3
 refine pk (v := u) h4 rfl (rn_load1 rfl rfl Try.isAgg38 (hB.cell rfl)) fun a5 h5 => ?_; clear h4
 refine pk0 (v := .string t) h5 rfl fun a6 h6 => ?_; clear h5
 refine pw h6 rfl (op_new (v := fun N => .slice (some ⟨N, 0, none⟩) 1 1) (T := 9) (cs := #[.string t]) (by kernel_rfl) (by kernel_rfl) (by kernel_rfl)) ?_; clear h6
 rintro _ w8 a7 ⟨N9, rfl, hN12, hz13, hk11, hg10⟩ h7
 have ha14 := row_fresh hR hN12
 have hu15 := row_under hR hN12
 have hz16 := hg10.size
 try dsimp only at h7
 have hr23 := row_kept_new hR hg10
 refine pw h7 rfl (op_appendF rfl 0 9 (z := .string (⟨#[]⟩)) (size := 1) (bytes := 16) Try.underlying38 (by kernel_rfl) rfl rfl rfl hr23 rfl hk11 rfl (by kernel_rfl) (by first | omega | (simp only [List.length_nil, List.length_append, List.length_cons, List.length_take, List.length_drop]; omega)) (by first | omega | (simp only [List.length_nil, List.length_append, List.length_cons, List.length_take, List.length_drop]; omega)) (by omega)) ?_; clear h7
 rintro v19 w18 a17 ⟨hr20, hwt22, hg21⟩ h17
 have hr20' : w18.ownsRow 0 9 1 v19 ((L.q ++ [t]).length) ((L.q ++ [t]).flatMap strE) := row_push (y := t) hr20 rfl rfl; clear hr20
 have hz24 := hg21.size
 refine pk0 (v := pt b 2) h17 rfl fun a25 h25 => ?_; clear h17
 refine pk0 (v := pt b 3) h25 rfl fun a26 h26 => ?_; clear h25
 have hk32 := hB.kept hg10 (by simp)
 have hk33 := hk32.kept hg21 (hbu)
 refine pwD h26 rfl (op_store1 rfl rfl rfl (row_one hr20') Try.sizeOf38 hk33 rfl) ?_; clear h26
 rintro _ w28 a27 ⟨hk29, hz30, hg31⟩ h27
 have hk29' : Blk w28 b 102 #[.int .i64 L.boot, .int .i64 L.stream, .int .i64 L.first, v19, .int .i64 L.told, .int .i64 L.peer, .int .i64 L.in0, .int .i64 L.next, .bool L.owes] := hk29; clear hk29
 have hz34 := hg31.size
 refine pl_nil ?_
 refine co_ret0n h27 rfl ?_
 have hr35 := row_kept_at hr20' hg31 (own_neT hr20' hk33 (by decide))
 have hB36 := fbU_new hB0 hg10
 have hB37 := fbU_row hB36 (InS.of (fun i hi => (hSS i).2 (.inr hi))) hg21
 have hB38 := fbU_at hB37 hg31 (fun hlt => by rcases hSb with hq | hq; exact hq; omega)
 have hbl : Blk w28 b 102 (lnC ({ L with q := L.q ++ [t] }) v19) := hk29'
 obtain ⟨S', hq1, hq2⟩ := LkU.row2 (L' := { L with q := L.q ++ [t] }) hU hbl hr35 ((InS.of (fun i hi => (hSS i).2 (.inr hi))).went hwt22 (by omega)) (own_neT hr35 hk29' (by decide)) hB38 (by have h := sendT_ok hok t; unfold sendT at h; rwa [if_neg (by omega), if_neg (by omega)] at h)
 exact ⟨_, rfl, ⟨S', hq1, hq2⟩, hB38⟩
set_option maxRecDepth 100000 in
theorem rlSend_any (S : Nat → Prop) (b : Nat) (u : Value) (L : LnT) (t : ByteArray) (w : World) (hU : LkU 74 S w b u L) :
    Calls Try.prog 35 #[pt b 0, .string t] w fun e w' => ∃ (u' : Value), e = .returned (.int .i64 ((sendT L t).1)) ∧ (∃ S' : Nat → Prop, LkU 74 S' w' b u' (sendT L t).2 ∧ Grew S S' w w') ∧ But (S) w w' := by
 have hB0 := But.refl (S) w
 obtain ⟨hB, ⟨B0, hR⟩, hSS, hbu, hok⟩ := id hU
 have hB : Blk w b 74 #[.int .i64 L.boot, .int .i64 L.stream, .int .i64 L.first, u, .int .i64 L.told, .int .i64 L.peer, .int .i64 L.in0, .int .i64 L.next, .bool L.owes] := hB
 have hl_B := hB.lt
 have hR := row_lows hR (Nat.zero_le _)
 have hsb : S b := (hSS b).2 (.inl rfl)
 have hSb : S b ∨ w.heap.size ≤ b := .inl hsb
 obtain ⟨⟨k1, k2⟩, ⟨k3, k4⟩, ⟨k5, k6⟩, ⟨k7, k8⟩, ⟨k9, k10⟩, ⟨k11, k12⟩, ⟨k13, k14⟩, k15, k16⟩ := id hok
 refine co_enter (n := 26) Try.func35 rfl rfl rfl [(0, pt b 0), (1, .string t)] rfl (fun a h0 => ?_)
 refine co_seq ?_
 refine co_reg ?_
 refine pk0 (v := .int .i64 0) h0 rfl fun a1 h1 => ?_; clear h0
 refine pl_nil ?_
 refine co_then ?_
 refine co_seq ?_
 refine co_seq ?_
 refine co_reg ?_
 refine pk0 (v := .string t) h1 rfl fun a2 h2 => ?_; clear h1
 refine pk (v := .int .i64 ((t.size : Nat) : Int)) h2 rfl (rn_lenStr rfl rfl Try.underlying9) fun a3 h3 => ?_; clear h2
 refine pk0 (v := .bool (decide (((t.size : Nat) : Int) > 65536))) h3 rfl fun a4 h4 => ?_; clear h3
 refine pl_nil ?_
 refine co_then ?_
 cases hc5 : (decide (((t.size : Nat) : Int) > 65536))
 ·
  rw [hc5] at h4
  have hp6 : ¬ (((t.size : Nat) : Int) > 65536) := of_decide_eq_false hc5
  clear hc5
  refine co_false h4 rfl ?_
  refine wp_skip ?_
  refine co_then ?_
  refine co_seq ?_
  refine co_seq ?_
  refine co_reg ?_
  refine pk0 (v := pt b 0) h4 rfl fun a7 h7 => ?_; clear h4
  refine pk0 (v := pt b 0) h7 rfl fun a8 h8 => ?_; clear h7
  refine pk0 (v := pt b 3) h8 rfl fun a9 h9 => ?_; clear h8
  refine pk (v := u) h9 rfl (rn_load1 rfl rfl Try.isAgg38 (hB.cell rfl)) fun a10 h10 => ?_; clear h9
  refine pk (v := .int .i64 ((L.q.length : Nat) : Int)) h10 rfl (rn_lenOwn rfl rfl Try.underlying38 hR) fun a11 h11 => ?_; clear h10
  refine pk0 (v := .bool (decide (((L.q.length : Nat) : Int) ≥ 8))) h11 rfl fun a12 h12 => ?_; clear h11
  refine pl_nil ?_
  refine co_then ?_
  cases hc13 : (decide (((L.q.length : Nat) : Int) ≥ 8))
  ·
   rw [hc13] at h12
   have hp14 : ¬ (((L.q.length : Nat) : Int) ≥ 8) := of_decide_eq_false hc13
   clear hc13
   refine co_false h12 rfl ?_
   refine wp_skip ?_
   refine co_then ?_
   refine co_seq ?_
   refine co_reg ?_
   refine pk0 (v := pt b 0) h12 rfl fun a15 h15 => ?_; clear h12
   refine pw h15 rfl (op_new (v := fun N => .slice (some ⟨N, 0, none⟩) 0 0) (T := 9) (cs := #[]) (by kernel_rfl) (by kernel_rfl) (by kernel_rfl)) ?_; clear h15
   rintro _ w17 a16 ⟨N18, rfl, hN21, hz22, hk20, hg19⟩ h16
   have ha23 := row_fresh hR hN21
   have hu24 := row_under hR hN21
   have hz25 := hg19.size
   try dsimp only at h16
   refine pk0 (v := pt b 0) h16 rfl fun a26 h26 => ?_; clear h16
   refine pk0 (v := pt b 0) h26 rfl fun a27 h27 => ?_; clear h26
   refine pk0 (v := pt b 3) h27 rfl fun a28 h28 => ?_; clear h27
   have hk29 := hB.kept hg19 (by simp)
   refine pk (v := u) h28 rfl (rn_load1 rfl rfl Try.isAgg38 (hk29.cell rfl)) fun a30 h30 => ?_; clear h28
   have hr33 := row_of_blkL hk20 (Nat.le_refl _) 1 strE
   have hr38 := row_kept_new hR hg19
   refine pw h30 rfl (op_appendSrc rfl N18 9 (z := .string (⟨#[]⟩)) (size := 1) (bytes := 16) Try.underlying38 (by kernel_rfl) rfl rfl rfl hr33 rfl (row_sl hr38 strE_len) (fun y hy => ⟨strE_len y, strE_one y⟩) (by first | omega | (simp only [List.length_nil, List.length_append, List.length_cons, List.length_take, List.length_drop]; omega)) (by first | omega | (simp only [List.length_nil, List.length_append, List.length_cons, List.length_take, List.length_drop]; omega)) (by omega)) ?_; clear h30
   rintro v34 w32 a31 ⟨hr35, hg36⟩ h31
   have hr35' : w32.ownsRow N18 9 1 v34 L.q.length (L.q.flatMap strE) := row_app (l := []) hr35; clear hr35
   have hz39 := hg36.size
   refine pk0 (v := .string t) h31 rfl fun a40 h40 => ?_; clear h31
   refine pw h40 rfl (op_new (v := fun N => .slice (some ⟨N, 0, none⟩) 1 1) (T := 9) (cs := #[.string t]) (by kernel_rfl) (by kernel_rfl) (by kernel_rfl)) ?_; clear h40
   rintro _ w42 a41 ⟨N43, rfl, hN46, hz47, hk45, hg44⟩ h41
   have hr49 := row_kept_ap hr38 hr33 hu24 hg36
   have ha48 := row_fresh hr49 hN46
   have hu50 := row_under hr49 hN46
   have ha51 := row_fresh hr35' hN46
   have hu52 := row_under hr35' hN46
   have hz53 := hg44.size
   try dsimp only at h41
   have hr60 := row_kept_new hr35' hg44
   refine pw h41 rfl (op_append rfl N18 9 (z := .string (⟨#[]⟩)) (size := 1) (bytes := 16) Try.underlying38 (by kernel_rfl) rfl rfl rfl hr60 rfl hk45 rfl (by kernel_rfl) (by first | omega | (simp only [List.length_nil, List.length_append, List.length_cons, List.length_take, List.length_drop]; omega)) (by first | omega | (simp only [List.length_nil, List.length_append, List.length_cons, List.length_take, List.length_drop]; omega)) (by omega)) ?_; clear h41
   rintro v56 w55 a54 ⟨hr57, hg58⟩ h54
   have hr57' : w55.ownsRow N18 9 1 v56 ((L.q ++ [t]).length) ((L.q ++ [t]).flatMap strE) := row_push (y := t) hr57 rfl rfl; clear hr57
   have hz61 := hg58.size
   have hk62 := hk29.kept hg36 (own_neT hr33 hk29 (by decide))
   have hk63 := hk62.kept hg44 (by simp)
   refine pk0 (v := pt b 0) h54 rfl fun a64 h64 => ?_; clear h54
   refine pk0 (v := pt b 3) h64 rfl fun a65 h65 => ?_; clear h64
   have hk71 := hk63.kept hg58 (own_neT hr60 hk63 (by decide))
   refine pwD h65 rfl (op_store1 rfl rfl rfl (row_one hr57') Try.sizeOf38 hk71 rfl) ?_; clear h65
   rintro _ w67 a66 ⟨hk68, hz69, hg70⟩ h66
   have hk68' : Blk w67 b 74 #[.int .i64 L.boot, .int .i64 L.stream, .int .i64 L.first, v56, .int .i64 L.told, .int .i64 L.peer, .int .i64 L.in0, .int .i64 L.next, .bool L.owes] := hk68; clear hk68
   have hz72 := hg70.size
   refine pl_nil ?_
   refine co_then ?_
   refine co_seq ?_
   refine co_reg ?_
   refine pk0 (v := .int .i64 0) h66 rfl fun a73 h73 => ?_; clear h66
   refine pl_nil ?_
   refine co_then ?_
   refine wp_ret ?_
   refine co_ret1 h73 rfl rfl ?_
   have hr74 := row_kept_at hr57' hg70 (own_neT hr57' hk71 (by decide))
   have hB75 := fbU_new hB0 hg19
   have hB76 := fbU_row hB75 (InS.low hr33 (by omega)) hg36
   have hB77 := fbU_new hB76 hg44
   have hB78 := fbU_row hB77 (InS.low hr60 (by omega)) hg58
   have hB79 := fbU_at hB78 hg70 (fun hlt => by rcases hSb with hq | hq; exact hq; omega)
   have hbl : Blk w67 b 74 (lnC ({ L with q := L.q ++ [t] }) v56) := hk68'
   obtain ⟨S', hq1, hq2⟩ := LkU.row2 (L' := { L with q := L.q ++ [t] }) hU hbl hr74 (InS.low hr74 (by omega)) (own_neT hr74 hk68' (by decide)) hB79 (by have h := sendT_ok hok t; unfold sendT at h; rwa [if_neg (by omega), if_neg (by omega)] at h)
   have hE : sendT L t = (0, { L with q := L.q ++ [t] }) := by unfold sendT; rw [if_neg (by omega), if_neg (by omega)]
   rw [hE]
   exact ⟨_, rfl, ⟨S', hq1, hq2⟩, hB79⟩
  ·
   rw [hc13] at h12
   have hp80 : ((L.q.length : Nat) : Int) ≥ 8 := of_decide_eq_true hc13
   clear hc13
   refine co_true h12 rfl ?_
   refine co_seq ?_
   refine co_reg ?_
   refine pk0 (v := .int .i64 6) h12 rfl fun a81 h81 => ?_; clear h12
   refine pl_nil ?_
   refine co_then ?_
   refine wp_ret ?_
   refine co_thenR ?_
   refine co_ret1 h81 rfl rfl ?_
   have hE : sendT L t = (6, L) := by unfold sendT; rw [if_neg (by omega), if_pos (by omega)]
   rw [hE]
   exact ⟨u, rfl, ⟨S, LkU.same' hU hB0 hB hR⟩, hB0⟩
 ·
  rw [hc5] at h4
  have hp82 : ((t.size : Nat) : Int) > 65536 := of_decide_eq_true hc5
  clear hc5
  refine co_true h4 rfl ?_
  refine co_seq ?_
  refine co_reg ?_
  refine pk0 (v := .int .i64 3) h4 rfl fun a83 h83 => ?_; clear h4
  refine pl_nil ?_
  refine co_then ?_
  refine wp_ret ?_
  refine co_thenR ?_
  refine co_ret1 h83 rfl rfl ?_
  have hE : sendT L t = (3, L) := by unfold sendT; rw [if_pos (by omega)]
  rw [hE]
  exact ⟨u, rfl, ⟨S, LkU.same' hU hB0 hB hR⟩, hB0⟩
end Go.Proofs.Ythmljllgfigebaa
