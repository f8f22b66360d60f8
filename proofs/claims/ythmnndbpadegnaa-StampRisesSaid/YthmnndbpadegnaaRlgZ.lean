/- catenalaw17.step: both logs go on alike. Conditions: at most 20 operations. -/
import Derived.Test.YthmnndbpadegnaaRlgY
import Derived.Test.YthmnndbpadegnaaGo
namespace Go.Proofs.Ythmnndbpadegnaa
open Go.RowKit Go.PlainAid
set_option linter.unusedVariables false


/-- The document's log as one object. -/
def RObj (D : Nat → Prop) (w : World) (d : Nat) (u : Value) (X : List EntT) : Prop := (∀ q, D q → q < w.heap.size) ∧ RgP D w.heap.size w d u X
section
variable {S S' D A : Nat → Prop} {n : Nat} {w x : World} {b d : Nat} {u v : Value} {L X : List EntT}
theorem LObj.ofS (h : LObj S w b L) : ∀ q, S q → q < w.heap.size := fun q hq => (h.1 q hq).1
theorem LObj.butA (h : LObj S w b L) (hb : But D w x) (hd : ∀ q, S q → D q → False) : LObj S x b L := h.but hd hb
theorem RgP.fin (h : RgP S n w d u X) : RObj (fun q => (S q ∨ n ≤ q) ∧ q < w.heap.size) w d u X := by
  refine ⟨fun q hq => hq.2, h.blk, h.row, fun e he => ?_, .inl ⟨h.sb, h.blk.lt⟩, fun i hi => .inl ⟨h.su i hi, (h.row.lt i hi).2⟩, h.len⟩
  have k := h.ents e he
  exact ⟨k.row, fun i hi => .inl ⟨k.ins i hi, (k.row.lt i hi).2⟩, k.len, k.each, k.ts0, k.ts1, k.cl, k.rq⟩
theorem Grew.fin (h : But S w x) : Grew S (fun q => (S q ∨ w.heap.size ≤ q) ∧ q < x.heap.size) w x := ⟨fun q hq => hq.1, h⟩
theorem RObj.ofS (h : RObj D w d u X) : ∀ q, D q → q < w.heap.size := h.1
theorem RObj.keep (h : RObj D w d u X) (hs : w.heap.size ≤ x.heap.size) (hk : ∀ q, D q → x.heap[q]? = w.heap[q]?) : RObj D x d u X := by
  obtain ⟨hS, h⟩ := h
  have hb : D d := by
    rcases h.sb with q | q
    · exact q
    · have := h.blk.lt; omega
  have up : ∀ {v : Value}, (∀ i, v.ownBlock = some i → D i) → InS D x.heap.size v := fun hv i hi => .inl (hv i hi)
  refine ⟨fun q hq => by have := hS q hq; omega, ?_, row_sameL h.row (fun i hi => hk i (ins_in h.su h.row i hi)), fun e he => ?_, .inl hb, up (ins_in h.su h.row), h.len⟩
  · have hB := h.blk
    unfold Blk at hB ⊢
    rw [hk d hb]; exact hB
  · have k := h.ents e he
    exact ⟨row_sameL k.row (fun i hi => hk i (ins_in k.ins k.row i hi)), up (ins_in k.ins k.row), k.len, k.each, k.ts0, k.ts1, k.cl, k.rq⟩
theorem RObj.gr {row : Option Nat} (h : RObj D w d u X) (hg : w.grownBy x row) (hr : ∀ k, row = some k → ¬ D k) : RObj D x d u X := h.keep hg.size fun k hk => hg.block k (h.1 k hk) (fun e => hr k e.symm hk)
theorem RObj.but (h : RObj D w d u X) (hb : But S w x) (hd : ∀ q, D q → S q → False) : RObj D x d u X := h.keep hb.size fun k hk => hb.block k (h.1 k hk) (fun q => hd k hk q)
/-- Both logs, which have the same, and are right. -/
def TwoP (S : Nat → Prop) (w : World) (b d : Nat) (u : Value) (L X : List EntT) : Prop :=
  ∃ A D, LObj A w b L ∧ RObj D w d u X ∧ (∀ q, A q → D q → False) ∧ (∀ q, S q ↔ (A q ∨ D q)) ∧ L.map e0 = X.map e0 ∧ RI L
theorem TwoP.ofS (h : TwoP S w b d u L X) : ∀ q, S q → q < w.heap.size := fun q hq => by
  obtain ⟨A, D, h1, h2, _, h4, _⟩ := h
  rcases (h4 q).1 hq with k | k
  · exact h1.ofS q k
  · exact h2.ofS q k
theorem TwoP.gr {row : Option Nat} (h : TwoP S w b d u L X) (hg : w.grownBy x row) (hr : ∀ k, row = some k → ¬ S k) : TwoP S x b d u L X := by
  obtain ⟨A, D, h1, h2, h3, h4, h5⟩ := h
  exact ⟨A, D, h1.gr hg (fun k e q => hr k e ((h4 k).2 (.inl q))), h2.gr hg (fun k e q => hr k e ((h4 k).2 (.inr q))), h3, h4, h5⟩
theorem TwoP.but (h : TwoP S w b d u L X) (hb : But A w x) (hd : ∀ q, S q → A q → False) : TwoP S x b d u L X := by
  obtain ⟨A', D, h1, h2, h3, h4, h5⟩ := h
  exact ⟨A', D, h1.but (fun q k => hd q ((h4 q).2 (.inl k))) hb, h2.but hb (fun q k => hd q ((h4 q).2 (.inr k))), h3, h4, h5⟩
theorem TwoP.eq (h : TwoP S w b d u L X) : L.map e0 = X.map e0 := by obtain ⟨_, _, _, _, _, _, h5, _⟩ := h; exact h5
theorem TwoP.ri (h : TwoP S w b d u L X) : RI L := by obtain ⟨_, _, _, _, _, _, _, h5⟩ := h; exact h5
theorem TwoP.blk (h : TwoP S w b d u L X) : Blk w d 41 #[u] := by obtain ⟨_, _, _, h2, _⟩ := h; exact h2.2.blk
theorem TwoP.row (h : TwoP S w b d u L X) : w.ownsRow 0 47 4 u X.length (X.flatMap entE) := by obtain ⟨_, _, _, h2, _⟩ := h; exact h2.2.row
theorem TwoP.sl (h : TwoP S w b d u L X) : SliceOf entE 4 w u X := row_sl h.row entE_len
theorem TwoP.okX (h : TwoP S w b d u L X) : ∀ z ∈ X, EntOk w z := by obtain ⟨_, _, _, h2, _⟩ := h; exact entsK_got h2.2.ents
theorem TwoP.l20 (h : TwoP S w b d u L X) : ∀ z ∈ X, z.opl.length ≤ 20 := by obtain ⟨_, _, _, h2, _⟩ := h; exact fun z hz => (h2.2.ents z hz).len
theorem TwoP.len (h : TwoP S w b d u L X) : L.length ≤ 100 := by obtain ⟨_, _, ⟨_, _, _, h1⟩, _⟩ := h; exact h1.len
theorem TwoP.lenE (h : TwoP S w b d u L X) : X.length = L.length := (e0_len h.eq).symm
/-- A call that turns the program's log alone, and leaves it as it was. -/
theorem TwoP.re (h3 : ∀ q, A q → D q → False) (h2 : RObj D w d u X) (h4 : ∀ q, S q ↔ (A q ∨ D q)) (h5 : L.map e0 = X.map e0 ∧ RI L) {A' : Nat → Prop} (k : LObj A' x b L) (g : Grew A A' w x) :
    TwoP (fun q => A' q ∨ D q) x b d u L X ∧ Grew S (fun q => A' q ∨ D q) w x :=
  ⟨⟨A', D, k, h2.but g.but (ap_symm h3), g.ap h3 h2.1, fun q => Iff.rfl, h5⟩, fun q hq => by
    rcases hq with q1 | q1
    · rcases g.sub q q1 with r | r
      · exact .inl ((h4 q).2 (.inl r))
      · exact .inr r
    · exact .inl ((h4 q).2 (.inr q1)), g.but.mono fun q _ hq => (h4 q).2 (.inl hq)⟩
end
theorem uSet {D : Nat → Prop} {d : Nat} {u : Value} {X : List EntT} (w : World) (i c r : Int) (v : Value) (l : List OpT) (ts : Int) (h : RObj D w d u X) (hs : SliceOf opE 3 w v l) (hvS : l ≠ [] → ∀ k, v.ownBlock = some k → ¬ D k) (hlen : l.length ≤ 20) (hts : 0 ≤ ts ∧ ts < 18446744073709551616) (hen : (∀ o ∈ l, opOk o) ∧ (Lit.int .i64 c).wf = true ∧ (Lit.int .i64 r).wf = true) :
    Calls Try.prog 76 #[pt d 0, .int .i64 i, .agg #[.int .i64 c, .int .i64 r, v, .int .u64 ts]] w fun e w' => ∃ u' X' D', e = .returned (.int .i64 (setE X i c r l ts)) ∧ RObj D' w' d u' X' ∧ X'.map e0 = (setL X i c r l ts).map e0 ∧ Grew D D' w w' :=
  (rSet17_any w D d u X i c r v l ts w (But.refl _ _) h.2 hs hvS hlen hts hen).mono fun e x ⟨u', X', h1, h2, h3, h4⟩ => ⟨u', X', _, h1, h2.fin, h3, .fin h4⟩
theorem uStamp {D : Nat → Prop} {d : Nat} {u : Value} {X : List EntT} (w : World) (i ts : Int) (h : RObj D w d u X) (hts : 0 ≤ ts ∧ ts < 18446744073709551616) :
    Calls Try.prog 54 #[pt d 0, .int .i64 i, .int .u64 ts] w fun e w' => ∃ u' X' D', e = .returned (.int .i64 (stE X i ts)) ∧ RObj D' w' d u' X' ∧ X'.map e0 = (stL X i ts).map e0 ∧ Grew D D' w w' :=
  (rStamp17_any w D d u X i ts w (But.refl _ _) h.2 hts).mono fun e x ⟨u', X', h1, h2, h3, h4⟩ => ⟨u', X', _, h1, h2.fin, h3, .fin h4⟩
theorem uThin {D : Nat → Prop} {d : Nat} {u : Value} {X : List EntT} (w : World) (h n : Int) (hO : RObj D w d u X) (hh : 0 ≤ h ∧ h < 18446744073709551616) (hni : -9223372036854775808 ≤ n ∧ n ≤ 9223372036854775807) :
    Calls Try.prog 77 #[pt d 0, .int .u64 h, .int .i64 n] w fun e w' => ∃ u' X' D', e = .returned (.int .i64 (thG X h n)) ∧ RObj D' w' d u' X' ∧ X'.map e0 = (thL X h n).map e0 ∧ Grew D D' w w' :=
  (rThin17_any w D d u X h n w (But.refl _ _) hO.2 hh hni).mono fun e x ⟨u', X', h1, h2, h3, h4⟩ => ⟨u', X', _, h1, h2.fin, h3, .fin h4⟩
theorem tThin {S : Nat → Prop} {b : Nat} {L : List EntT} (w : World) (h n : Int) (hO : LObj S w b L) (hh : 0 ≤ h ∧ h < 18446744073709551616) (hni : -9223372036854775808 ≤ n ∧ n ≤ 9223372036854775807) (hdk : ∀ e ∈ L, (e.opl.map (·.1)).Nodup) :
    Calls Try.prog 35 #[pt b 0, .int .u64 h, .int .i64 n] w fun e w' => ∃ L' S', e = .returned (.int .i64 (thG L h n)) ∧ LObj S' w' b L' ∧ L'.map e0 = (thL L h n).map e0 ∧ Grew S S' w w' := by
  obtain ⟨_, M, u, hP⟩ := hO
  exact (lThin_any w S b M u L h n w (But.refl _ _) hP hh hni hdk).mono fun e x ⟨L', h1, h2, h3, h4⟩ => ⟨L', _, h1, h2.fin, h3, .tot h4⟩


theorem opE_ne (l : List OpT) : ∀ y ∈ l, opE y ≠ [] := fun y _ e => by cases e
theorem hvOff_ {S A : Nat → Prop} {w : World} {v : Value} {l : List OpT} (hs : SliceOf opE 3 w v l) (hvS : l ≠ [] → ∀ k, v.ownBlock = some k → ¬ S k) (hi : ∀ q, A q → S q ∨ w.heap.size ≤ q) : l ≠ [] → ∀ k, v.ownBlock = some k → ¬ A k := fun hl k hk hq => by
  rcases hi k hq with j | j
  · exact hvS hl k hk j
  · exact sl_off (S := fun q => w.heap.size ≤ q) hs (opE_ne l) (fun _ q => q) hl k hk j

set_option maxRecDepth 100000 in
theorem step17_any (w0 : World) (S : Nat → Prop) (b : Nat) (d : Nat) (u : Value) (L : List EntT) (X : List EntT) (ac : Int) (ai : Int) (c : Int) (r : Int) (v : Value) (l : List OpT) (ts : Int) (w : World) (hbw : But S w0 w) (hw0 : w0 = w) (hT : TwoP S w b d u L X) (hs : SliceOf opE 3 w0 v l) (hvS : l ≠ [] → ∀ k, v.ownBlock = some k → ¬ S k) (hlen : l.length ≤ 20) (hts : 0 ≤ ts ∧ ts < 18446744073709551616) (hai : -9223372036854775808 ≤ ai ∧ ai ≤ 9223372036854775807) (hen : (∀ o ∈ l, opOk o) ∧ (Lit.int .i64 c).wf = true ∧ (Lit.int .i64 r).wf = true) :
    Calls Try.prog 22 #[pt b 0, pt d 0, .agg #[.int .i64 ac, .int .i64 ai, .int .i64 c, .int .i64 r, v, .int .u64 ts]] w fun e w' => ∃ (u' : Value) (L' : List EntT) (X' : List EntT) (S' : Nat → Prop), e = .returned (.bool true) ∧ TwoP S' w' b d u' L' X' ∧ Grew S S' w0 w' ∧ But (S) w0 w' := by
 have hww : w.heap.size = w0.heap.size := by rw [hw0]
 have hz0 := hbw.size
 have hvOff := fun {A : Nat → Prop} => hvOff_ (A := A) hs hvS
 have hB0 := hbw
 have hz0 := hbw.size
 obtain ⟨A0, D0, hA, hD, hap, hSS, heq, hri⟩ := hT
 have hinA : ∀ q, A0 q → S q ∨ w0.heap.size ≤ q := fun q k => .inl ((hSS q).2 (.inl k))
 have hinD : ∀ q, D0 q → S q ∨ w0.heap.size ≤ q := fun q k => .inl ((hSS q).2 (.inr k))
 refine co_enter (n := 59) Try.func22 rfl rfl rfl [(0, pt b 0), (1, pt d 0), (2, .agg #[.int .i64 ac, .int .i64 ai, .int .i64 c, .int .i64 r, v, .int .u64 ts])] rfl (fun a h0 => ?_)
 refine co_seq ?_
 refine co_reg ?_
 refine pw h0 rfl (op_new (v := fun N => pt N 0) (T := 49) (cs := #[.int .i64 ac, .int .i64 ai, .int .i64 c, .int .i64 r, v, .int .u64 ts]) (by kernel_rfl) (by kernel_rfl) (by kernel_rfl)) ?_; clear h0
 rintro _ w2 a1 ⟨N3, rfl, hN6, hz7, hk5, hg4⟩ h1
 have hz8 := hg4.size
 have ho9 := off_new (LObj.ofS hA) hN6
 have ho10 := off_new (RObj.ofS hD) hN6
 try dsimp only at h1
 refine pk0 (v := .bool false) h1 rfl fun a11 h11 => ?_; clear h1
 refine pl_nil ?_
 refine co_then ?_
 refine co_seq ?_
 refine co_seq ?_
 refine co_reg ?_
 refine pk0 (v := pt N3 0) h11 rfl fun a12 h12 => ?_; clear h11
 refine pk (v := .int .i64 ac) h12 rfl (rn_load1 rfl rfl Try.isAgg3 (hk5.cell rfl)) fun a13 h13 => ?_; clear h12
 refine pl_nil ?_
 refine co_then ?_
 refine wp_block ?_
 refine co_seq ?_
 refine co_seq ?_
 refine co_reg ?_
 refine pk0 (v := .bool (ac == 0)) h13 rfl fun a14 h14 => ?_; clear h13
 refine pk0 (v := .bool (ac == 0)) h14 rfl fun a15 h15 => ?_; clear h14
 refine pl_nil ?_
 refine co_then ?_
 have hB17 := fbU_new hB0 hg4
 cases hc16 : (ac == 0)
 ·
  rw [hc16] at h15
  have hp18 : ¬ (ac = 0) := by first | simpa using hc16 | simpa [and_assoc] using hc16
  clear hc16
  refine co_false h15 rfl ?_
  refine co_seq ?_
  refine co_reg ?_
  refine pk0 (v := .bool (ac == 1)) h15 rfl fun a19 h19 => ?_; clear h15
  refine pk0 (v := .bool (ac == 1)) h19 rfl fun a20 h20 => ?_; clear h19
  refine pl_nil ?_
  refine co_then ?_
  cases hc21 : (ac == 1)
  ·
   rw [hc21] at h20
   have hp22 : ¬ (ac = 1) := by first | simpa using hc21 | simpa [and_assoc] using hc21
   clear hc21
   refine co_false h20 rfl ?_
   refine co_reg ?_
   refine pk0 (v := .bool (ac == 2)) h20 rfl fun a23 h23 => ?_; clear h20
   refine pk0 (v := .bool (ac == 2)) h23 rfl fun a24 h24 => ?_; clear h23
   refine pl_nil ?_
   refine co_then ?_
   cases hc25 : (ac == 2)
   ·
    rw [hc25] at h24
    have hp26 : ¬ (ac = 2) := by first | simpa using hc25 | simpa [and_assoc] using hc25
    clear hc25
    refine co_false h24 rfl ?_
    refine co_seq ?_
    refine co_seq ?_
    refine co_reg ?_
    refine pk0 (v := .bool (ac == 3)) h24 rfl fun a27 h27 => ?_; clear h24
    refine pk0 (v := .bool (ac == 3)) h27 rfl fun a28 h28 => ?_; clear h27
    refine pl_nil ?_
    refine co_then ?_
    cases hc29 : (ac == 3)
    ·
     rw [hc29] at h28
     have hp30 : ¬ (ac = 3) := by first | simpa using hc29 | simpa [and_assoc] using hc29
     clear hc29
     refine co_false h28 rfl ?_
     refine co_reg ?_
     refine pk0 (v := .bool (ac == 4)) h28 rfl fun a31 h31 => ?_; clear h28
     refine pk0 (v := .bool (ac == 4)) h31 rfl fun a32 h32 => ?_; clear h31
     refine pl_nil ?_
     refine co_then ?_
     cases hc33 : (ac == 4)
     ·
      rw [hc33] at h32
      have hp34 : ¬ (ac = 4) := by first | simpa using hc33 | simpa [and_assoc] using hc33
      clear hc33
      refine co_false h32 rfl ?_
      refine wp_skip ?_
      refine co_blockN ?_
      refine co_then ?_
      refine co_seq ?_
      refine dr_gen (fun x => But (S) w0 x ∧ Blk x N3 49 #[.int .i64 ac, .int .i64 ai, .int .i64 c, .int .i64 r, v, .int .u64 ts]) (by kernel_rfl) (fun w35 hg36 => ?_) (fun w35 hg36 => ?_)
      ·
       have hz37 := hg36.size
       have hB38 := fbU_new hB17 hg36
       have hk39 := hk5.kept hg36 (by simp)
       exact ⟨hB38, hk39⟩
      have hz40 := hg36.size
      have hB41 := fbU_new hB17 hg36
      have hk42 := hk5.kept hg36 (by simp)
      refine dk0 0 (v := pt b 0) h32 rfl rfl ⟨hB41, hk42⟩ fun a43 h43 => ?_; clear h32
      refine dk0 1 (v := pt N3 2) h43 rfl rfl ⟨hB41, hk42⟩ fun a44 h44 => ?_; clear h43
      refine dk0 2 (v := pt N3 5) h44 rfl rfl ⟨hB41, hk42⟩ fun a45 h45 => ?_; clear h44
      refine dk 3 (v := .int .u64 ts) h45 rfl rfl ⟨hB41, hk42⟩ (fun x hx => (rn_load1 rfl rfl Try.isAgg45 (hx.2.cell rfl))) fun a46 h46 => ?_; clear h45
      refine dk0 4 (v := pt N3 1) h46 rfl rfl ⟨hB41, hk42⟩ fun a47 h47 => ?_; clear h46
      refine dk 5 (v := .int .i64 ai) h47 rfl rfl ⟨hB41, hk42⟩ (fun x hx => (rn_load1 rfl rfl Try.isAgg3 (hx.2.cell rfl))) fun a48 h48 => ?_; clear h47
      refine dk0 7 (v := pt d 0) h48 rfl rfl ⟨hB41, hk42⟩ fun a49 h49 => ?_; clear h48
      refine dk0 8 (v := pt N3 2) h49 rfl rfl ⟨hB41, hk42⟩ fun a50 h50 => ?_; clear h49
      refine dk0 9 (v := pt N3 5) h50 rfl rfl ⟨hB41, hk42⟩ fun a51 h51 => ?_; clear h50
      refine dk 10 (v := .int .u64 ts) h51 rfl rfl ⟨hB41, hk42⟩ (fun x hx => (rn_load1 rfl rfl Try.isAgg45 (hx.2.cell rfl))) fun a52 h52 => ?_; clear h51
      refine dk0 11 (v := pt N3 1) h52 rfl rfl ⟨hB41, hk42⟩ fun a53 h53 => ?_; clear h52
      refine dk 12 (v := .int .i64 ai) h53 rfl rfl ⟨hB41, hk42⟩ (fun x hx => (rn_load1 rfl rfl Try.isAgg3 (hx.2.cell rfl))) fun a54 h54 => ?_; clear h53
      have hO57 := LObj.gr hA hg4 (fun k e => by cases e)
      have hO58 := LObj.gr hO57 hg36 (fun k e => by cases e)
      have hO59 := RObj.gr hD hg4 (fun k e => by cases e)
      have hO60 := RObj.gr hO59 hg36 (fun k e => by cases e)
      refine d1 6 h54 rfl rfl (op_call (args := #[pt b 0, .int .u64 ts, .int .i64 ai]) (R := fun res xw => ∃ L' : List EntT, ∃ S' : Nat → Prop, res = .int .i64 (thG L ts ai) ∧ LObj S' xw b L' ∧ (L'.map e0 = (thL L ts ai).map e0) ∧ Grew A0 S' w35 xw) rfl rfl rfl (by kernel_rfl) (by kernel_rfl) (Try.call35 _ _) (tThin w35 ts ai hO58 hts hai hri.nd) (by rintro e x ⟨L', S', h0, h⟩; exact ⟨_, h0, L', S', rfl, h⟩)) ?_ ?_; clear h54
      ·
       rintro _ w56 ⟨L'61, S62, rfl, hO63, hq65, hx64⟩
       have hB66 := fbU_foot hB41 hx64.but (fun i hi hq => by rcases hinA i hq with k | k; exact k; omega)
       have hz67 := hB66.size
       have hz68 := hx64.but.size
       have hin69 : ∀ q, S62 q → S q ∨ w0.heap.size ≤ q := fun q hq => by rcases hx64.sub q hq with k | k; exact hinA q k; exact .inr (by omega)
       have hk70 := Blk.butS hk42 hx64.but ho9
       exact ⟨hB66, hk70⟩
      rintro _ w56 a55 ⟨L'61, S62, rfl, hO63, hq65, hx64⟩ h55
      have hB66 := fbU_foot hB41 hx64.but (fun i hi hq => by rcases hinA i hq with k | k; exact k; omega)
      have hz67 := hB66.size
      have hz68 := hx64.but.size
      have hin69 : ∀ q, S62 q → S q ∨ w0.heap.size ≤ q := fun q hq => by rcases hx64.sub q hq with k | k; exact hinA q k; exact .inr (by omega)
      have hk70 := Blk.butS hk42 hx64.but ho9
      have hO73 := RObj.but hO60 hx64.but (ap_symm hap)
      refine d1 13 h55 rfl rfl (op_call (args := #[pt d 0, .int .u64 ts, .int .i64 ai]) (R := fun res xw => ∃ u' : Value, ∃ X' : List EntT, ∃ S' : Nat → Prop, res = .int .i64 (thG X ts ai) ∧ RObj S' xw d u' X' ∧ (X'.map e0 = (thL X ts ai).map e0) ∧ Grew D0 S' w56 xw) rfl rfl rfl (by kernel_rfl) (by kernel_rfl) (Try.call77 _ _) (uThin w56 ts ai hO73 hts hai) (by rintro e x ⟨u', X', S', h0, h⟩; exact ⟨_, h0, u', X', S', rfl, h⟩)) ?_ ?_; clear h55
      ·
       rintro _ w72 ⟨u'74, X'75, S76, rfl, hO77, hq79, hx78⟩
       have hB80 := fbU_foot hB66 hx78.but (fun i hi hq => by rcases hinD i hq with k | k; exact k; omega)
       have hz81 := hB80.size
       have hz82 := hx78.but.size
       have hin83 : ∀ q, S76 q → S q ∨ w0.heap.size ≤ q := fun q hq => by rcases hx78.sub q hq with k | k; exact hinD q k; exact .inr (by omega)
       have hk84 := Blk.butS hk70 hx78.but ho10
       exact ⟨hB80, hk84⟩
      rintro _ w72 a71 ⟨u'74, X'75, S76, rfl, hO77, hq79, hx78⟩ h71
      have hB80 := fbU_foot hB66 hx78.but (fun i hi hq => by rcases hinD i hq with k | k; exact k; omega)
      have hz81 := hB80.size
      have hz82 := hx78.but.size
      have hin83 : ∀ q, S76 q → S q ∨ w0.heap.size ≤ q := fun q hq => by rcases hx78.sub q hq with k | k; exact hinD q k; exact .inr (by omega)
      have hk84 := Blk.butS hk70 hx78.but ho10
      refine dk0 14 (v := .bool (thG L ts ai == thG X ts ai)) h71 rfl rfl ⟨hB80, hk84⟩ fun a85 h85 => ?_; clear h71
      refine dk0 15 (v := .bool (thG L ts ai == thG X ts ai)) h85 rfl rfl ⟨hB80, hk84⟩ fun a86 h86 => ?_; clear h85
      refine dr_done (by kernel_rfl) ?_
      refine co_then ?_
      refine wp_ret ?_
      refine co_ret1 h86 rfl rfl ?_
      have hO87 := LObj.butA hO63 hx78.but (ap_symm (ap_symm (Grew.ap hx64 (ap_symm (ap_symm hap)) (RObj.ofS hO60))))
      have hLe := hq65
      have hXe := hq79
      exact ⟨u'74, _, _, _, ret_bool (by first | rfl | (simp [cong_n (F := fun L => setE L ai c r l ts) (fun L => setE_e0) heq, cong_n (F := fun L => stE L ai ts) (fun L => stE_e0) heq, cong_n (F := fun L => thG L ts ai) (fun L => thG_e0) heq]; done)), ⟨_, _, hO87, hO77, (ap_symm (Grew.ap hx78 (ap_symm (ap_symm (ap_symm (Grew.ap hx64 (ap_symm (ap_symm hap)) (RObj.ofS hO60))))) (LObj.ofS hO63))), fun q => Iff.rfl, (by rw [hLe, hXe]; first | exact cong_n (F := fun L => (setL L ai c r l ts).map e0) (fun L => setL_e0) heq | exact cong_n (F := fun L => (stL L ai ts).map e0) (fun L => stL_e0') heq | exact cong_n (F := fun L => (thL L ts ai).map e0) (fun L => thL_e0) heq), (by first | exact RI.e0 hLe.symm hri.set | exact RI.e0 hLe.symm hri.st | exact RI.e0 hLe.symm hri.th)⟩, ⟨fun q hq => by rcases hq with k | k; exact hin69 q k; exact hin83 q k, hB80⟩, hB80⟩
     ·
      rw [hc33] at h32
      have hp88 : ac = 4 := by first | simpa using hc33 | simpa [and_assoc] using hc33
      clear hc33
      refine co_true h32 rfl ?_
      refine co_seq ?_
      refine dr_gen (fun x => But (S) w0 x ∧ Blk x N3 49 #[.int .i64 ac, .int .i64 ai, .int .i64 c, .int .i64 r, v, .int .u64 ts]) (by kernel_rfl) (fun w89 hg90 => ?_) (fun w89 hg90 => ?_)
      ·
       have hz91 := hg90.size
       have hB92 := fbU_new hB17 hg90
       have hk93 := hk5.kept hg90 (by simp)
       exact ⟨hB92, hk93⟩
      have hz94 := hg90.size
      have hB95 := fbU_new hB17 hg90
      have hk96 := hk5.kept hg90 (by simp)
      refine dk0 0 (v := pt b 0) h32 rfl rfl ⟨hB95, hk96⟩ fun a97 h97 => ?_; clear h32
      refine dk0 1 (v := pt N3 1) h97 rfl rfl ⟨hB95, hk96⟩ fun a98 h98 => ?_; clear h97
      refine dk 2 (v := .int .i64 ai) h98 rfl rfl ⟨hB95, hk96⟩ (fun x hx => (rn_load1 rfl rfl Try.isAgg3 (hx.2.cell rfl))) fun a99 h99 => ?_; clear h98
      refine dk0 3 (v := pt N3 2) h99 rfl rfl ⟨hB95, hk96⟩ fun a100 h100 => ?_; clear h99
      refine dk0 4 (v := pt N3 5) h100 rfl rfl ⟨hB95, hk96⟩ fun a101 h101 => ?_; clear h100
      refine dk 5 (v := .int .u64 ts) h101 rfl rfl ⟨hB95, hk96⟩ (fun x hx => (rn_load1 rfl rfl Try.isAgg45 (hx.2.cell rfl))) fun a102 h102 => ?_; clear h101
      refine dk0 7 (v := pt d 0) h102 rfl rfl ⟨hB95, hk96⟩ fun a103 h103 => ?_; clear h102
      refine dk0 8 (v := pt N3 1) h103 rfl rfl ⟨hB95, hk96⟩ fun a104 h104 => ?_; clear h103
      refine dk 9 (v := .int .i64 ai) h104 rfl rfl ⟨hB95, hk96⟩ (fun x hx => (rn_load1 rfl rfl Try.isAgg3 (hx.2.cell rfl))) fun a105 h105 => ?_; clear h104
      refine dk0 10 (v := pt N3 2) h105 rfl rfl ⟨hB95, hk96⟩ fun a106 h106 => ?_; clear h105
      refine dk0 11 (v := pt N3 5) h106 rfl rfl ⟨hB95, hk96⟩ fun a107 h107 => ?_; clear h106
      refine dk 12 (v := .int .u64 ts) h107 rfl rfl ⟨hB95, hk96⟩ (fun x hx => (rn_load1 rfl rfl Try.isAgg45 (hx.2.cell rfl))) fun a108 h108 => ?_; clear h107
      have hO111 := LObj.gr hA hg4 (fun k e => by cases e)
      have hO112 := LObj.gr hO111 hg90 (fun k e => by cases e)
      have hO113 := RObj.gr hD hg4 (fun k e => by cases e)
      have hO114 := RObj.gr hO113 hg90 (fun k e => by cases e)
      refine d1 6 h108 rfl rfl (op_call (args := #[pt b 0, .int .i64 ai, .int .u64 ts]) (R := fun res xw => ∃ S' : Nat → Prop, res = .int .i64 (stE L ai ts) ∧ LObj S' xw b (stL L ai ts) ∧ Grew A0 S' w89 xw) rfl rfl rfl (by kernel_rfl) (by kernel_rfl) (Try.call40 _ _) (tStamp w89 ai ts hO112 hts) (by rintro e x ⟨S', h0, h⟩; exact ⟨_, h0, S', rfl, h⟩)) ?_ ?_; clear h108
      ·
       rintro _ w110 ⟨S115, rfl, hO116, hx117⟩
       have hB118 := fbU_foot hB95 hx117.but (fun i hi hq => by rcases hinA i hq with k | k; exact k; omega)
       have hz119 := hB118.size
       have hz120 := hx117.but.size
       have hin121 : ∀ q, S115 q → S q ∨ w0.heap.size ≤ q := fun q hq => by rcases hx117.sub q hq with k | k; exact hinA q k; exact .inr (by omega)
       have hk122 := Blk.butS hk96 hx117.but ho9
       exact ⟨hB118, hk122⟩
      rintro _ w110 a109 ⟨S115, rfl, hO116, hx117⟩ h109
      have hB118 := fbU_foot hB95 hx117.but (fun i hi hq => by rcases hinA i hq with k | k; exact k; omega)
      have hz119 := hB118.size
      have hz120 := hx117.but.size
      have hin121 : ∀ q, S115 q → S q ∨ w0.heap.size ≤ q := fun q hq => by rcases hx117.sub q hq with k | k; exact hinA q k; exact .inr (by omega)
      have hk122 := Blk.butS hk96 hx117.but ho9
      have hO125 := RObj.but hO114 hx117.but (ap_symm hap)
      refine d1 13 h109 rfl rfl (op_call (args := #[pt d 0, .int .i64 ai, .int .u64 ts]) (R := fun res xw => ∃ u' : Value, ∃ X' : List EntT, ∃ S' : Nat → Prop, res = .int .i64 (stE X ai ts) ∧ RObj S' xw d u' X' ∧ (X'.map e0 = (stL X ai ts).map e0) ∧ Grew D0 S' w110 xw) rfl rfl rfl (by kernel_rfl) (by kernel_rfl) (Try.call54 _ _) (uStamp w110 ai ts hO125 hts) (by rintro e x ⟨u', X', S', h0, h⟩; exact ⟨_, h0, u', X', S', rfl, h⟩)) ?_ ?_; clear h109
      ·
       rintro _ w124 ⟨u'126, X'127, S128, rfl, hO129, hq131, hx130⟩
       have hB132 := fbU_foot hB118 hx130.but (fun i hi hq => by rcases hinD i hq with k | k; exact k; omega)
       have hz133 := hB132.size
       have hz134 := hx130.but.size
       have hin135 : ∀ q, S128 q → S q ∨ w0.heap.size ≤ q := fun q hq => by rcases hx130.sub q hq with k | k; exact hinD q k; exact .inr (by omega)
       have hk136 := Blk.butS hk122 hx130.but ho10
       exact ⟨hB132, hk136⟩
      rintro _ w124 a123 ⟨u'126, X'127, S128, rfl, hO129, hq131, hx130⟩ h123
      have hB132 := fbU_foot hB118 hx130.but (fun i hi hq => by rcases hinD i hq with k | k; exact k; omega)
      have hz133 := hB132.size
      have hz134 := hx130.but.size
      have hin135 : ∀ q, S128 q → S q ∨ w0.heap.size ≤ q := fun q hq => by rcases hx130.sub q hq with k | k; exact hinD q k; exact .inr (by omega)
      have hk136 := Blk.butS hk122 hx130.but ho10
      refine dk0 14 (v := .bool (stE L ai ts == stE X ai ts)) h123 rfl rfl ⟨hB132, hk136⟩ fun a137 h137 => ?_; clear h123
      refine dk0 15 (v := .bool (stE L ai ts == stE X ai ts)) h137 rfl rfl ⟨hB132, hk136⟩ fun a138 h138 => ?_; clear h137
      refine dr_done (by kernel_rfl) ?_
      refine co_then ?_
      refine wp_ret ?_
      refine co_blockR ?_
      refine co_thenR ?_
      refine co_ret1 h138 rfl rfl ?_
      have hO139 := LObj.butA hO116 hx130.but (ap_symm (ap_symm (Grew.ap hx117 (ap_symm (ap_symm hap)) (RObj.ofS hO114))))
      have hLe := (rfl : (stL L ai ts).map e0 = _)
      have hXe := hq131
      exact ⟨u'126, _, _, _, ret_bool (by first | rfl | (simp [cong_n (F := fun L => setE L ai c r l ts) (fun L => setE_e0) heq, cong_n (F := fun L => stE L ai ts) (fun L => stE_e0) heq, cong_n (F := fun L => thG L ts ai) (fun L => thG_e0) heq]; done)), ⟨_, _, hO139, hO129, (ap_symm (Grew.ap hx130 (ap_symm (ap_symm (ap_symm (Grew.ap hx117 (ap_symm (ap_symm hap)) (RObj.ofS hO114))))) (LObj.ofS hO116))), fun q => Iff.rfl, (by rw [hLe, hXe]; first | exact cong_n (F := fun L => (setL L ai c r l ts).map e0) (fun L => setL_e0) heq | exact cong_n (F := fun L => (stL L ai ts).map e0) (fun L => stL_e0') heq | exact cong_n (F := fun L => (thL L ts ai).map e0) (fun L => thL_e0) heq), (by first | exact RI.e0 hLe.symm hri.set | exact RI.e0 hLe.symm hri.st | exact RI.e0 hLe.symm hri.th)⟩, ⟨fun q hq => by rcases hq with k | k; exact hin121 q k; exact hin135 q k, hB132⟩, hB132⟩
    ·
     rw [hc29] at h28
     have hp140 : ac = 3 := by first | simpa using hc29 | simpa [and_assoc] using hc29
     clear hc29
     refine co_true h28 rfl ?_
     refine wp_skip ?_
     refine co_then ?_
     refine co_true h28 rfl ?_
     refine co_seq ?_
     refine dr_gen (fun x => But (S) w0 x ∧ Blk x N3 49 #[.int .i64 ac, .int .i64 ai, .int .i64 c, .int .i64 r, v, .int .u64 ts]) (by kernel_rfl) (fun w141 hg142 => ?_) (fun w141 hg142 => ?_)
     ·
      have hz143 := hg142.size
      have hB144 := fbU_new hB17 hg142
      have hk145 := hk5.kept hg142 (by simp)
      exact ⟨hB144, hk145⟩
     have hz146 := hg142.size
     have hB147 := fbU_new hB17 hg142
     have hk148 := hk5.kept hg142 (by simp)
     refine dk0 0 (v := pt b 0) h28 rfl rfl ⟨hB147, hk148⟩ fun a149 h149 => ?_; clear h28
     refine dk0 1 (v := pt N3 1) h149 rfl rfl ⟨hB147, hk148⟩ fun a150 h150 => ?_; clear h149
     refine dk 2 (v := .int .i64 ai) h150 rfl rfl ⟨hB147, hk148⟩ (fun x hx => (rn_load1 rfl rfl Try.isAgg3 (hx.2.cell rfl))) fun a151 h151 => ?_; clear h150
     refine dk0 3 (v := pt N3 2) h151 rfl rfl ⟨hB147, hk148⟩ fun a152 h152 => ?_; clear h151
     refine dk0 4 (v := pt N3 5) h152 rfl rfl ⟨hB147, hk148⟩ fun a153 h153 => ?_; clear h152
     refine dk 5 (v := .int .u64 ts) h153 rfl rfl ⟨hB147, hk148⟩ (fun x hx => (rn_load1 rfl rfl Try.isAgg45 (hx.2.cell rfl))) fun a154 h154 => ?_; clear h153
     refine dk0 7 (v := pt d 0) h154 rfl rfl ⟨hB147, hk148⟩ fun a155 h155 => ?_; clear h154
     refine dk0 8 (v := pt N3 1) h155 rfl rfl ⟨hB147, hk148⟩ fun a156 h156 => ?_; clear h155
     refine dk 9 (v := .int .i64 ai) h156 rfl rfl ⟨hB147, hk148⟩ (fun x hx => (rn_load1 rfl rfl Try.isAgg3 (hx.2.cell rfl))) fun a157 h157 => ?_; clear h156
     refine dk0 10 (v := pt N3 2) h157 rfl rfl ⟨hB147, hk148⟩ fun a158 h158 => ?_; clear h157
     refine dk0 11 (v := pt N3 5) h158 rfl rfl ⟨hB147, hk148⟩ fun a159 h159 => ?_; clear h158
     refine dk 12 (v := .int .u64 ts) h159 rfl rfl ⟨hB147, hk148⟩ (fun x hx => (rn_load1 rfl rfl Try.isAgg45 (hx.2.cell rfl))) fun a160 h160 => ?_; clear h159
     have hO163 := LObj.gr hA hg4 (fun k e => by cases e)
     have hO164 := LObj.gr hO163 hg142 (fun k e => by cases e)
     have hO165 := RObj.gr hD hg4 (fun k e => by cases e)
     have hO166 := RObj.gr hO165 hg142 (fun k e => by cases e)
     refine d1 6 h160 rfl rfl (op_call (args := #[pt b 0, .int .i64 ai, .int .u64 ts]) (R := fun res xw => ∃ S' : Nat → Prop, res = .int .i64 (stE L ai ts) ∧ LObj S' xw b (stL L ai ts) ∧ Grew A0 S' w141 xw) rfl rfl rfl (by kernel_rfl) (by kernel_rfl) (Try.call40 _ _) (tStamp w141 ai ts hO164 hts) (by rintro e x ⟨S', h0, h⟩; exact ⟨_, h0, S', rfl, h⟩)) ?_ ?_; clear h160
     ·
      rintro _ w162 ⟨S167, rfl, hO168, hx169⟩
      have hB170 := fbU_foot hB147 hx169.but (fun i hi hq => by rcases hinA i hq with k | k; exact k; omega)
      have hz171 := hB170.size
      have hz172 := hx169.but.size
      have hin173 : ∀ q, S167 q → S q ∨ w0.heap.size ≤ q := fun q hq => by rcases hx169.sub q hq with k | k; exact hinA q k; exact .inr (by omega)
      have hk174 := Blk.butS hk148 hx169.but ho9
      exact ⟨hB170, hk174⟩
     rintro _ w162 a161 ⟨S167, rfl, hO168, hx169⟩ h161
     have hB170 := fbU_foot hB147 hx169.but (fun i hi hq => by rcases hinA i hq with k | k; exact k; omega)
     have hz171 := hB170.size
     have hz172 := hx169.but.size
     have hin173 : ∀ q, S167 q → S q ∨ w0.heap.size ≤ q := fun q hq => by rcases hx169.sub q hq with k | k; exact hinA q k; exact .inr (by omega)
     have hk174 := Blk.butS hk148 hx169.but ho9
     have hO177 := RObj.but hO166 hx169.but (ap_symm hap)
     refine d1 13 h161 rfl rfl (op_call (args := #[pt d 0, .int .i64 ai, .int .u64 ts]) (R := fun res xw => ∃ u' : Value, ∃ X' : List EntT, ∃ S' : Nat → Prop, res = .int .i64 (stE X ai ts) ∧ RObj S' xw d u' X' ∧ (X'.map e0 = (stL X ai ts).map e0) ∧ Grew D0 S' w162 xw) rfl rfl rfl (by kernel_rfl) (by kernel_rfl) (Try.call54 _ _) (uStamp w162 ai ts hO177 hts) (by rintro e x ⟨u', X', S', h0, h⟩; exact ⟨_, h0, u', X', S', rfl, h⟩)) ?_ ?_; clear h161
     ·
      rintro _ w176 ⟨u'178, X'179, S180, rfl, hO181, hq183, hx182⟩
      have hB184 := fbU_foot hB170 hx182.but (fun i hi hq => by rcases hinD i hq with k | k; exact k; omega)
      have hz185 := hB184.size
      have hz186 := hx182.but.size
      have hin187 : ∀ q, S180 q → S q ∨ w0.heap.size ≤ q := fun q hq => by rcases hx182.sub q hq with k | k; exact hinD q k; exact .inr (by omega)
      have hk188 := Blk.butS hk174 hx182.but ho10
      exact ⟨hB184, hk188⟩
     rintro _ w176 a175 ⟨u'178, X'179, S180, rfl, hO181, hq183, hx182⟩ h175
     have hB184 := fbU_foot hB170 hx182.but (fun i hi hq => by rcases hinD i hq with k | k; exact k; omega)
     have hz185 := hB184.size
     have hz186 := hx182.but.size
     have hin187 : ∀ q, S180 q → S q ∨ w0.heap.size ≤ q := fun q hq => by rcases hx182.sub q hq with k | k; exact hinD q k; exact .inr (by omega)
     have hk188 := Blk.butS hk174 hx182.but ho10
     refine dk0 14 (v := .bool (stE L ai ts == stE X ai ts)) h175 rfl rfl ⟨hB184, hk188⟩ fun a189 h189 => ?_; clear h175
     refine dk0 15 (v := .bool (stE L ai ts == stE X ai ts)) h189 rfl rfl ⟨hB184, hk188⟩ fun a190 h190 => ?_; clear h189
     refine dr_done (by kernel_rfl) ?_
     refine co_then ?_
     refine wp_ret ?_
     refine co_blockR ?_
     refine co_thenR ?_
     refine co_ret1 h190 rfl rfl ?_
     have hO191 := LObj.butA hO168 hx182.but (ap_symm (ap_symm (Grew.ap hx169 (ap_symm (ap_symm hap)) (RObj.ofS hO166))))
     have hLe := (rfl : (stL L ai ts).map e0 = _)
     have hXe := hq183
     exact ⟨u'178, _, _, _, ret_bool (by first | rfl | (simp [cong_n (F := fun L => setE L ai c r l ts) (fun L => setE_e0) heq, cong_n (F := fun L => stE L ai ts) (fun L => stE_e0) heq, cong_n (F := fun L => thG L ts ai) (fun L => thG_e0) heq]; done)), ⟨_, _, hO191, hO181, (ap_symm (Grew.ap hx182 (ap_symm (ap_symm (ap_symm (Grew.ap hx169 (ap_symm (ap_symm hap)) (RObj.ofS hO166))))) (LObj.ofS hO168))), fun q => Iff.rfl, (by rw [hLe, hXe]; first | exact cong_n (F := fun L => (setL L ai c r l ts).map e0) (fun L => setL_e0) heq | exact cong_n (F := fun L => (stL L ai ts).map e0) (fun L => stL_e0') heq | exact cong_n (F := fun L => (thL L ts ai).map e0) (fun L => thL_e0) heq), (by first | exact RI.e0 hLe.symm hri.set | exact RI.e0 hLe.symm hri.st | exact RI.e0 hLe.symm hri.th)⟩, ⟨fun q hq => by rcases hq with k | k; exact hin173 q k; exact hin187 q k, hB184⟩, hB184⟩
   ·
    rw [hc25] at h24
    have hp192 : ac = 2 := by first | simpa using hc25 | simpa [and_assoc] using hc25
    clear hc25
    refine co_true h24 rfl ?_
    refine co_seq ?_
    refine dr_gen (fun x => But (S) w0 x ∧ Blk x N3 49 #[.int .i64 ac, .int .i64 ai, .int .i64 c, .int .i64 r, v, .int .u64 ts]) (by kernel_rfl) (fun w193 hg194 => ?_) (fun w193 hg194 => ?_)
    ·
     have hz195 := hg194.size
     have hB196 := fbU_new hB17 hg194
     have hk197 := hk5.kept hg194 (by simp)
     exact ⟨hB196, hk197⟩
    have hz198 := hg194.size
    have hB199 := fbU_new hB17 hg194
    have hk200 := hk5.kept hg194 (by simp)
    refine dk0 0 (v := pt b 0) h24 rfl rfl ⟨hB199, hk200⟩ fun a201 h201 => ?_; clear h24
    refine dk0 1 (v := pt N3 1) h201 rfl rfl ⟨hB199, hk200⟩ fun a202 h202 => ?_; clear h201
    refine dk 2 (v := .int .i64 ai) h202 rfl rfl ⟨hB199, hk200⟩ (fun x hx => (rn_load1 rfl rfl Try.isAgg3 (hx.2.cell rfl))) fun a203 h203 => ?_; clear h202
    refine dk0 3 (v := pt N3 2) h203 rfl rfl ⟨hB199, hk200⟩ fun a204 h204 => ?_; clear h203
    refine dk 4 (v := .agg #[.int .i64 c, .int .i64 r, v, .int .u64 ts]) h204 rfl rfl ⟨hB199, hk200⟩ (fun x hx => (rn_loadN rfl rfl Try.underlying47 rfl (by kernel_rfl) (blk_part hx.2 2 (by rfl)))) fun a205 h205 => ?_; clear h204
    refine dk0 6 (v := pt d 0) h205 rfl rfl ⟨hB199, hk200⟩ fun a206 h206 => ?_; clear h205
    refine dk0 7 (v := pt N3 1) h206 rfl rfl ⟨hB199, hk200⟩ fun a207 h207 => ?_; clear h206
    refine dk 8 (v := .int .i64 ai) h207 rfl rfl ⟨hB199, hk200⟩ (fun x hx => (rn_load1 rfl rfl Try.isAgg3 (hx.2.cell rfl))) fun a208 h208 => ?_; clear h207
    refine dk0 9 (v := pt N3 2) h208 rfl rfl ⟨hB199, hk200⟩ fun a209 h209 => ?_; clear h208
    refine dk 10 (v := .agg #[.int .i64 c, .int .i64 r, v, .int .u64 ts]) h209 rfl rfl ⟨hB199, hk200⟩ (fun x hx => (rn_loadN rfl rfl Try.underlying47 rfl (by kernel_rfl) (blk_part hx.2 2 (by rfl)))) fun a210 h210 => ?_; clear h209
    have hO213 := LObj.gr hA hg4 (fun k e => by cases e)
    have hO214 := LObj.gr hO213 hg194 (fun k e => by cases e)
    have hO215 := RObj.gr hD hg4 (fun k e => by cases e)
    have hO216 := RObj.gr hO215 hg194 (fun k e => by cases e)
    refine d1 5 h210 rfl rfl (op_call (args := #[pt b 0, .int .i64 ai, .agg #[.int .i64 c, .int .i64 r, v, .int .u64 ts]]) (R := fun res xw => ∃ L' : List EntT, ∃ S' : Nat → Prop, res = .int .i64 (setE L ai c r l ts) ∧ LObj S' xw b L' ∧ (SetR L ai c r l ts L') ∧ Grew A0 S' w193 xw) rfl rfl rfl (by kernel_rfl) (by kernel_rfl) (Try.call39 _ _) (tSet w193 ai c r v l ts hO214 (sl_butN hs hB199 hvS) (hvOff hinA) hlen hts hen) (by rintro e x ⟨L', S', h0, h⟩; exact ⟨_, h0, L', S', rfl, h⟩)) ?_ ?_; clear h210
    ·
     rintro _ w212 ⟨L'217, S218, rfl, hO219, hq221, hx220⟩
     have hB222 := fbU_foot hB199 hx220.but (fun i hi hq => by rcases hinA i hq with k | k; exact k; omega)
     have hz223 := hB222.size
     have hz224 := hx220.but.size
     have hin225 : ∀ q, S218 q → S q ∨ w0.heap.size ≤ q := fun q hq => by rcases hx220.sub q hq with k | k; exact hinA q k; exact .inr (by omega)
     have hk226 := Blk.butS hk200 hx220.but ho9
     exact ⟨hB222, hk226⟩
    rintro _ w212 a211 ⟨L'217, S218, rfl, hO219, hq221, hx220⟩ h211
    have hB222 := fbU_foot hB199 hx220.but (fun i hi hq => by rcases hinA i hq with k | k; exact k; omega)
    have hz223 := hB222.size
    have hz224 := hx220.but.size
    have hin225 : ∀ q, S218 q → S q ∨ w0.heap.size ≤ q := fun q hq => by rcases hx220.sub q hq with k | k; exact hinA q k; exact .inr (by omega)
    have hk226 := Blk.butS hk200 hx220.but ho9
    have hO229 := RObj.but hO216 hx220.but (ap_symm hap)
    refine d1 11 h211 rfl rfl (op_call (args := #[pt d 0, .int .i64 ai, .agg #[.int .i64 c, .int .i64 r, v, .int .u64 ts]]) (R := fun res xw => ∃ u' : Value, ∃ X' : List EntT, ∃ S' : Nat → Prop, res = .int .i64 (setE X ai c r l ts) ∧ RObj S' xw d u' X' ∧ (X'.map e0 = (setL X ai c r l ts).map e0) ∧ Grew D0 S' w212 xw) rfl rfl rfl (by kernel_rfl) (by kernel_rfl) (Try.call76 _ _) (uSet w212 ai c r v l ts hO229 (sl_butN hs hB222 hvS) (hvOff hinD) hlen hts hen) (by rintro e x ⟨u', X', S', h0, h⟩; exact ⟨_, h0, u', X', S', rfl, h⟩)) ?_ ?_; clear h211
    ·
     rintro _ w228 ⟨u'230, X'231, S232, rfl, hO233, hq235, hx234⟩
     have hB236 := fbU_foot hB222 hx234.but (fun i hi hq => by rcases hinD i hq with k | k; exact k; omega)
     have hz237 := hB236.size
     have hz238 := hx234.but.size
     have hin239 : ∀ q, S232 q → S q ∨ w0.heap.size ≤ q := fun q hq => by rcases hx234.sub q hq with k | k; exact hinD q k; exact .inr (by omega)
     have hk240 := Blk.butS hk226 hx234.but ho10
     exact ⟨hB236, hk240⟩
    rintro _ w228 a227 ⟨u'230, X'231, S232, rfl, hO233, hq235, hx234⟩ h227
    have hB236 := fbU_foot hB222 hx234.but (fun i hi hq => by rcases hinD i hq with k | k; exact k; omega)
    have hz237 := hB236.size
    have hz238 := hx234.but.size
    have hin239 : ∀ q, S232 q → S q ∨ w0.heap.size ≤ q := fun q hq => by rcases hx234.sub q hq with k | k; exact hinD q k; exact .inr (by omega)
    have hk240 := Blk.butS hk226 hx234.but ho10
    refine dk0 12 (v := .bool (setE L ai c r l ts == setE X ai c r l ts)) h227 rfl rfl ⟨hB236, hk240⟩ fun a241 h241 => ?_; clear h227
    refine dk0 13 (v := .bool (setE L ai c r l ts == setE X ai c r l ts)) h241 rfl rfl ⟨hB236, hk240⟩ fun a242 h242 => ?_; clear h241
    refine dr_done (by kernel_rfl) ?_
    refine co_then ?_
    refine wp_ret ?_
    refine co_blockR ?_
    refine co_thenR ?_
    refine co_ret1 h242 rfl rfl ?_
    have hO243 := LObj.butA hO219 hx234.but (ap_symm (ap_symm (Grew.ap hx220 (ap_symm (ap_symm hap)) (RObj.ofS hO216))))
    have hLe := (setR_e0 hq221)
    have hXe := hq235
    exact ⟨u'230, _, _, _, ret_bool (by first | rfl | (simp [cong_n (F := fun L => setE L ai c r l ts) (fun L => setE_e0) heq, cong_n (F := fun L => stE L ai ts) (fun L => stE_e0) heq, cong_n (F := fun L => thG L ts ai) (fun L => thG_e0) heq]; done)), ⟨_, _, hO243, hO233, (ap_symm (Grew.ap hx234 (ap_symm (ap_symm (ap_symm (Grew.ap hx220 (ap_symm (ap_symm hap)) (RObj.ofS hO216))))) (LObj.ofS hO219))), fun q => Iff.rfl, (by rw [hLe, hXe]; first | exact cong_n (F := fun L => (setL L ai c r l ts).map e0) (fun L => setL_e0) heq | exact cong_n (F := fun L => (stL L ai ts).map e0) (fun L => stL_e0') heq | exact cong_n (F := fun L => (thL L ts ai).map e0) (fun L => thL_e0) heq), (by first | exact RI.e0 hLe.symm hri.set | exact RI.e0 hLe.symm hri.st | exact RI.e0 hLe.symm hri.th)⟩, ⟨fun q hq => by rcases hq with k | k; exact hin225 q k; exact hin239 q k, hB236⟩, hB236⟩
  ·
   rw [hc21] at h20
   have hp244 : ac = 1 := by first | simpa using hc21 | simpa [and_assoc] using hc21
   clear hc21
   refine co_true h20 rfl ?_
   refine wp_skip ?_
   refine co_then ?_
   refine co_true h20 rfl ?_
   refine co_seq ?_
   refine dr_gen (fun x => But (S) w0 x ∧ Blk x N3 49 #[.int .i64 ac, .int .i64 ai, .int .i64 c, .int .i64 r, v, .int .u64 ts]) (by kernel_rfl) (fun w245 hg246 => ?_) (fun w245 hg246 => ?_)
   ·
    have hz247 := hg246.size
    have hB248 := fbU_new hB17 hg246
    have hk249 := hk5.kept hg246 (by simp)
    exact ⟨hB248, hk249⟩
   have hz250 := hg246.size
   have hB251 := fbU_new hB17 hg246
   have hk252 := hk5.kept hg246 (by simp)
   refine dk0 0 (v := pt b 0) h20 rfl rfl ⟨hB251, hk252⟩ fun a253 h253 => ?_; clear h20
   refine dk0 1 (v := pt N3 1) h253 rfl rfl ⟨hB251, hk252⟩ fun a254 h254 => ?_; clear h253
   refine dk 2 (v := .int .i64 ai) h254 rfl rfl ⟨hB251, hk252⟩ (fun x hx => (rn_load1 rfl rfl Try.isAgg3 (hx.2.cell rfl))) fun a255 h255 => ?_; clear h254
   refine dk0 3 (v := pt N3 2) h255 rfl rfl ⟨hB251, hk252⟩ fun a256 h256 => ?_; clear h255
   refine dk 4 (v := .agg #[.int .i64 c, .int .i64 r, v, .int .u64 ts]) h256 rfl rfl ⟨hB251, hk252⟩ (fun x hx => (rn_loadN rfl rfl Try.underlying47 rfl (by kernel_rfl) (blk_part hx.2 2 (by rfl)))) fun a257 h257 => ?_; clear h256
   refine dk0 6 (v := pt d 0) h257 rfl rfl ⟨hB251, hk252⟩ fun a258 h258 => ?_; clear h257
   refine dk0 7 (v := pt N3 1) h258 rfl rfl ⟨hB251, hk252⟩ fun a259 h259 => ?_; clear h258
   refine dk 8 (v := .int .i64 ai) h259 rfl rfl ⟨hB251, hk252⟩ (fun x hx => (rn_load1 rfl rfl Try.isAgg3 (hx.2.cell rfl))) fun a260 h260 => ?_; clear h259
   refine dk0 9 (v := pt N3 2) h260 rfl rfl ⟨hB251, hk252⟩ fun a261 h261 => ?_; clear h260
   refine dk 10 (v := .agg #[.int .i64 c, .int .i64 r, v, .int .u64 ts]) h261 rfl rfl ⟨hB251, hk252⟩ (fun x hx => (rn_loadN rfl rfl Try.underlying47 rfl (by kernel_rfl) (blk_part hx.2 2 (by rfl)))) fun a262 h262 => ?_; clear h261
   have hO265 := LObj.gr hA hg4 (fun k e => by cases e)
   have hO266 := LObj.gr hO265 hg246 (fun k e => by cases e)
   have hO267 := RObj.gr hD hg4 (fun k e => by cases e)
   have hO268 := RObj.gr hO267 hg246 (fun k e => by cases e)
   refine d1 5 h262 rfl rfl (op_call (args := #[pt b 0, .int .i64 ai, .agg #[.int .i64 c, .int .i64 r, v, .int .u64 ts]]) (R := fun res xw => ∃ L' : List EntT, ∃ S' : Nat → Prop, res = .int .i64 (setE L ai c r l ts) ∧ LObj S' xw b L' ∧ (SetR L ai c r l ts L') ∧ Grew A0 S' w245 xw) rfl rfl rfl (by kernel_rfl) (by kernel_rfl) (Try.call39 _ _) (tSet w245 ai c r v l ts hO266 (sl_butN hs hB251 hvS) (hvOff hinA) hlen hts hen) (by rintro e x ⟨L', S', h0, h⟩; exact ⟨_, h0, L', S', rfl, h⟩)) ?_ ?_; clear h262
   ·
    rintro _ w264 ⟨L'269, S270, rfl, hO271, hq273, hx272⟩
    have hB274 := fbU_foot hB251 hx272.but (fun i hi hq => by rcases hinA i hq with k | k; exact k; omega)
    have hz275 := hB274.size
    have hz276 := hx272.but.size
    have hin277 : ∀ q, S270 q → S q ∨ w0.heap.size ≤ q := fun q hq => by rcases hx272.sub q hq with k | k; exact hinA q k; exact .inr (by omega)
    have hk278 := Blk.butS hk252 hx272.but ho9
    exact ⟨hB274, hk278⟩
   rintro _ w264 a263 ⟨L'269, S270, rfl, hO271, hq273, hx272⟩ h263
   have hB274 := fbU_foot hB251 hx272.but (fun i hi hq => by rcases hinA i hq with k | k; exact k; omega)
   have hz275 := hB274.size
   have hz276 := hx272.but.size
   have hin277 : ∀ q, S270 q → S q ∨ w0.heap.size ≤ q := fun q hq => by rcases hx272.sub q hq with k | k; exact hinA q k; exact .inr (by omega)
   have hk278 := Blk.butS hk252 hx272.but ho9
   have hO281 := RObj.but hO268 hx272.but (ap_symm hap)
   refine d1 11 h263 rfl rfl (op_call (args := #[pt d 0, .int .i64 ai, .agg #[.int .i64 c, .int .i64 r, v, .int .u64 ts]]) (R := fun res xw => ∃ u' : Value, ∃ X' : List EntT, ∃ S' : Nat → Prop, res = .int .i64 (setE X ai c r l ts) ∧ RObj S' xw d u' X' ∧ (X'.map e0 = (setL X ai c r l ts).map e0) ∧ Grew D0 S' w264 xw) rfl rfl rfl (by kernel_rfl) (by kernel_rfl) (Try.call76 _ _) (uSet w264 ai c r v l ts hO281 (sl_butN hs hB274 hvS) (hvOff hinD) hlen hts hen) (by rintro e x ⟨u', X', S', h0, h⟩; exact ⟨_, h0, u', X', S', rfl, h⟩)) ?_ ?_; clear h263
   ·
    rintro _ w280 ⟨u'282, X'283, S284, rfl, hO285, hq287, hx286⟩
    have hB288 := fbU_foot hB274 hx286.but (fun i hi hq => by rcases hinD i hq with k | k; exact k; omega)
    have hz289 := hB288.size
    have hz290 := hx286.but.size
    have hin291 : ∀ q, S284 q → S q ∨ w0.heap.size ≤ q := fun q hq => by rcases hx286.sub q hq with k | k; exact hinD q k; exact .inr (by omega)
    have hk292 := Blk.butS hk278 hx286.but ho10
    exact ⟨hB288, hk292⟩
   rintro _ w280 a279 ⟨u'282, X'283, S284, rfl, hO285, hq287, hx286⟩ h279
   have hB288 := fbU_foot hB274 hx286.but (fun i hi hq => by rcases hinD i hq with k | k; exact k; omega)
   have hz289 := hB288.size
   have hz290 := hx286.but.size
   have hin291 : ∀ q, S284 q → S q ∨ w0.heap.size ≤ q := fun q hq => by rcases hx286.sub q hq with k | k; exact hinD q k; exact .inr (by omega)
   have hk292 := Blk.butS hk278 hx286.but ho10
   refine dk0 12 (v := .bool (setE L ai c r l ts == setE X ai c r l ts)) h279 rfl rfl ⟨hB288, hk292⟩ fun a293 h293 => ?_; clear h279
   refine dk0 13 (v := .bool (setE L ai c r l ts == setE X ai c r l ts)) h293 rfl rfl ⟨hB288, hk292⟩ fun a294 h294 => ?_; clear h293
   refine dr_done (by kernel_rfl) ?_
   refine co_then ?_
   refine wp_ret ?_
   refine co_blockR ?_
   refine co_thenR ?_
   refine co_ret1 h294 rfl rfl ?_
   have hO295 := LObj.butA hO271 hx286.but (ap_symm (ap_symm (Grew.ap hx272 (ap_symm (ap_symm hap)) (RObj.ofS hO268))))
   have hLe := (setR_e0 hq273)
   have hXe := hq287
   exact ⟨u'282, _, _, _, ret_bool (by first | rfl | (simp [cong_n (F := fun L => setE L ai c r l ts) (fun L => setE_e0) heq, cong_n (F := fun L => stE L ai ts) (fun L => stE_e0) heq, cong_n (F := fun L => thG L ts ai) (fun L => thG_e0) heq]; done)), ⟨_, _, hO295, hO285, (ap_symm (Grew.ap hx286 (ap_symm (ap_symm (ap_symm (Grew.ap hx272 (ap_symm (ap_symm hap)) (RObj.ofS hO268))))) (LObj.ofS hO271))), fun q => Iff.rfl, (by rw [hLe, hXe]; first | exact cong_n (F := fun L => (setL L ai c r l ts).map e0) (fun L => setL_e0) heq | exact cong_n (F := fun L => (stL L ai ts).map e0) (fun L => stL_e0') heq | exact cong_n (F := fun L => (thL L ts ai).map e0) (fun L => thL_e0) heq), (by first | exact RI.e0 hLe.symm hri.set | exact RI.e0 hLe.symm hri.st | exact RI.e0 hLe.symm hri.th)⟩, ⟨fun q hq => by rcases hq with k | k; exact hin277 q k; exact hin291 q k, hB288⟩, hB288⟩
 ·
  rw [hc16] at h15
  have hp296 : ac = 0 := by first | simpa using hc16 | simpa [and_assoc] using hc16
  clear hc16
  refine co_true h15 rfl ?_
  refine wp_skip ?_
  refine co_then ?_
  refine co_true h15 rfl ?_
  refine co_seq ?_
  refine dr_gen (fun x => But (S) w0 x ∧ Blk x N3 49 #[.int .i64 ac, .int .i64 ai, .int .i64 c, .int .i64 r, v, .int .u64 ts]) (by kernel_rfl) (fun w297 hg298 => ?_) (fun w297 hg298 => ?_)
  ·
   have hz299 := hg298.size
   have hB300 := fbU_new hB17 hg298
   have hk301 := hk5.kept hg298 (by simp)
   exact ⟨hB300, hk301⟩
  have hz302 := hg298.size
  have hB303 := fbU_new hB17 hg298
  have hk304 := hk5.kept hg298 (by simp)
  refine dk0 0 (v := pt b 0) h15 rfl rfl ⟨hB303, hk304⟩ fun a305 h305 => ?_; clear h15
  refine dk0 1 (v := pt N3 1) h305 rfl rfl ⟨hB303, hk304⟩ fun a306 h306 => ?_; clear h305
  refine dk 2 (v := .int .i64 ai) h306 rfl rfl ⟨hB303, hk304⟩ (fun x hx => (rn_load1 rfl rfl Try.isAgg3 (hx.2.cell rfl))) fun a307 h307 => ?_; clear h306
  refine dk0 3 (v := pt N3 2) h307 rfl rfl ⟨hB303, hk304⟩ fun a308 h308 => ?_; clear h307
  refine dk 4 (v := .agg #[.int .i64 c, .int .i64 r, v, .int .u64 ts]) h308 rfl rfl ⟨hB303, hk304⟩ (fun x hx => (rn_loadN rfl rfl Try.underlying47 rfl (by kernel_rfl) (blk_part hx.2 2 (by rfl)))) fun a309 h309 => ?_; clear h308
  refine dk0 6 (v := pt d 0) h309 rfl rfl ⟨hB303, hk304⟩ fun a310 h310 => ?_; clear h309
  refine dk0 7 (v := pt N3 1) h310 rfl rfl ⟨hB303, hk304⟩ fun a311 h311 => ?_; clear h310
  refine dk 8 (v := .int .i64 ai) h311 rfl rfl ⟨hB303, hk304⟩ (fun x hx => (rn_load1 rfl rfl Try.isAgg3 (hx.2.cell rfl))) fun a312 h312 => ?_; clear h311
  refine dk0 9 (v := pt N3 2) h312 rfl rfl ⟨hB303, hk304⟩ fun a313 h313 => ?_; clear h312
  refine dk 10 (v := .agg #[.int .i64 c, .int .i64 r, v, .int .u64 ts]) h313 rfl rfl ⟨hB303, hk304⟩ (fun x hx => (rn_loadN rfl rfl Try.underlying47 rfl (by kernel_rfl) (blk_part hx.2 2 (by rfl)))) fun a314 h314 => ?_; clear h313
  have hO317 := LObj.gr hA hg4 (fun k e => by cases e)
  have hO318 := LObj.gr hO317 hg298 (fun k e => by cases e)
  have hO319 := RObj.gr hD hg4 (fun k e => by cases e)
  have hO320 := RObj.gr hO319 hg298 (fun k e => by cases e)
  refine d1 5 h314 rfl rfl (op_call (args := #[pt b 0, .int .i64 ai, .agg #[.int .i64 c, .int .i64 r, v, .int .u64 ts]]) (R := fun res xw => ∃ L' : List EntT, ∃ S' : Nat → Prop, res = .int .i64 (setE L ai c r l ts) ∧ LObj S' xw b L' ∧ (SetR L ai c r l ts L') ∧ Grew A0 S' w297 xw) rfl rfl rfl (by kernel_rfl) (by kernel_rfl) (Try.call39 _ _) (tSet w297 ai c r v l ts hO318 (sl_butN hs hB303 hvS) (hvOff hinA) hlen hts hen) (by rintro e x ⟨L', S', h0, h⟩; exact ⟨_, h0, L', S', rfl, h⟩)) ?_ ?_; clear h314
  ·
   rintro _ w316 ⟨L'321, S322, rfl, hO323, hq325, hx324⟩
   have hB326 := fbU_foot hB303 hx324.but (fun i hi hq => by rcases hinA i hq with k | k; exact k; omega)
   have hz327 := hB326.size
   have hz328 := hx324.but.size
   have hin329 : ∀ q, S322 q → S q ∨ w0.heap.size ≤ q := fun q hq => by rcases hx324.sub q hq with k | k; exact hinA q k; exact .inr (by omega)
   have hk330 := Blk.butS hk304 hx324.but ho9
   exact ⟨hB326, hk330⟩
  rintro _ w316 a315 ⟨L'321, S322, rfl, hO323, hq325, hx324⟩ h315
  have hB326 := fbU_foot hB303 hx324.but (fun i hi hq => by rcases hinA i hq with k | k; exact k; omega)
  have hz327 := hB326.size
  have hz328 := hx324.but.size
  have hin329 : ∀ q, S322 q → S q ∨ w0.heap.size ≤ q := fun q hq => by rcases hx324.sub q hq with k | k; exact hinA q k; exact .inr (by omega)
  have hk330 := Blk.butS hk304 hx324.but ho9
  have hO333 := RObj.but hO320 hx324.but (ap_symm hap)
  refine d1 11 h315 rfl rfl (op_call (args := #[pt d 0, .int .i64 ai, .agg #[.int .i64 c, .int .i64 r, v, .int .u64 ts]]) (R := fun res xw => ∃ u' : Value, ∃ X' : List EntT, ∃ S' : Nat → Prop, res = .int .i64 (setE X ai c r l ts) ∧ RObj S' xw d u' X' ∧ (X'.map e0 = (setL X ai c r l ts).map e0) ∧ Grew D0 S' w316 xw) rfl rfl rfl (by kernel_rfl) (by kernel_rfl) (Try.call76 _ _) (uSet w316 ai c r v l ts hO333 (sl_butN hs hB326 hvS) (hvOff hinD) hlen hts hen) (by rintro e x ⟨u', X', S', h0, h⟩; exact ⟨_, h0, u', X', S', rfl, h⟩)) ?_ ?_; clear h315
  ·
   rintro _ w332 ⟨u'334, X'335, S336, rfl, hO337, hq339, hx338⟩
   have hB340 := fbU_foot hB326 hx338.but (fun i hi hq => by rcases hinD i hq with k | k; exact k; omega)
   have hz341 := hB340.size
   have hz342 := hx338.but.size
   have hin343 : ∀ q, S336 q → S q ∨ w0.heap.size ≤ q := fun q hq => by rcases hx338.sub q hq with k | k; exact hinD q k; exact .inr (by omega)
   have hk344 := Blk.butS hk330 hx338.but ho10
   exact ⟨hB340, hk344⟩
  rintro _ w332 a331 ⟨u'334, X'335, S336, rfl, hO337, hq339, hx338⟩ h331
  have hB340 := fbU_foot hB326 hx338.but (fun i hi hq => by rcases hinD i hq with k | k; exact k; omega)
  have hz341 := hB340.size
  have hz342 := hx338.but.size
  have hin343 : ∀ q, S336 q → S q ∨ w0.heap.size ≤ q := fun q hq => by rcases hx338.sub q hq with k | k; exact hinD q k; exact .inr (by omega)
  have hk344 := Blk.butS hk330 hx338.but ho10
  refine dk0 12 (v := .bool (setE L ai c r l ts == setE X ai c r l ts)) h331 rfl rfl ⟨hB340, hk344⟩ fun a345 h345 => ?_; clear h331
  refine dk0 13 (v := .bool (setE L ai c r l ts == setE X ai c r l ts)) h345 rfl rfl ⟨hB340, hk344⟩ fun a346 h346 => ?_; clear h345
  refine dr_done (by kernel_rfl) ?_
  refine co_then ?_
  refine wp_ret ?_
  refine co_blockR ?_
  refine co_thenR ?_
  refine co_ret1 h346 rfl rfl ?_
  have hO347 := LObj.butA hO323 hx338.but (ap_symm (ap_symm (Grew.ap hx324 (ap_symm (ap_symm hap)) (RObj.ofS hO320))))
  have hLe := (setR_e0 hq325)
  have hXe := hq339
  exact ⟨u'334, _, _, _, ret_bool (by first | rfl | (simp [cong_n (F := fun L => setE L ai c r l ts) (fun L => setE_e0) heq, cong_n (F := fun L => stE L ai ts) (fun L => stE_e0) heq, cong_n (F := fun L => thG L ts ai) (fun L => thG_e0) heq]; done)), ⟨_, _, hO347, hO337, (ap_symm (Grew.ap hx338 (ap_symm (ap_symm (ap_symm (Grew.ap hx324 (ap_symm (ap_symm hap)) (RObj.ofS hO320))))) (LObj.ofS hO323))), fun q => Iff.rfl, (by rw [hLe, hXe]; first | exact cong_n (F := fun L => (setL L ai c r l ts).map e0) (fun L => setL_e0) heq | exact cong_n (F := fun L => (stL L ai ts).map e0) (fun L => stL_e0') heq | exact cong_n (F := fun L => (thL L ts ai).map e0) (fun L => thL_e0) heq), (by first | exact RI.e0 hLe.symm hri.set | exact RI.e0 hLe.symm hri.st | exact RI.e0 hLe.symm hri.th)⟩, ⟨fun q hq => by rcases hq with k | k; exact hin329 q k; exact hin343 q k, hB340⟩, hB340⟩
end Go.Proofs.Ythmnndbpadegnaa
