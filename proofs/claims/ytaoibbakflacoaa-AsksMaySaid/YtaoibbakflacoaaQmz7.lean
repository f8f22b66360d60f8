/- Put together: AmIQmy, MeBQmy, AmJQmy, MeCQmy, MeDQmy, AmKQmy, AmLQmy. Conditions: as each says. -/
import Derived.Test.YtaoibbakflacoaaQmz6
import Derived.Test.YtaoibbakflacoaaQmz1
/- catenalaw34: a task of any kind as an object. Conditions: a task under the number 7. -/
namespace Go.Proofs.Ytaoibbakflacoaa
open Go.RowKit Go.PlainAid
set_option linter.unusedVariables false
set_option linter.unusedSimpArgs false
theorem nx_len : ∀ (b : Nat) (k m : List UInt8), nx b k = some m → m.length ≤ b := by
  intro b
  induction b with
  | zero => intro k m h; cases k <;> simp [nx] at h
  | succ b ih =>
    intro k m h
    cases k with
    | nil => simp [nx] at h; subst h; simp
    | cons c r =>
      cases hr : nx b r with
      | some m' => simp [nx, hr] at h; subst h; have := ih r m' hr; simp; omega
      | none => simp only [nx, hr] at h; split at h
                · simp at h; subst h; simp
                · cases h
theorem nxK_size (k : ByteArray) : (nxK k).size ≤ 8 := by
  show (nextL k.data.toList).toArray.size ≤ 8
  rw [List.size_toArray]; unfold nextL
  cases h : nx 8 k.data.toList with
  | none => simp
  | some m => exact nx_len 8 _ m h
/-- What came of a task, if it is done. -/
structure RpD where
  dn : Bool
  er : Int
  at_ : Int
  pn : Int
  prs : List PrT
def rp0 : RpD := ⟨false, 0, 0, 0, []⟩
def RpOk (r : RpD) : Prop := (r.dn = false → r = rp0) ∧ (r.er ≠ 0 → r.prs = []) ∧ r.prs.length ≤ 64
def InM (S : Nat → Prop) (v : Value) : Prop := ∀ k, v.ownBlock = some k → S k
/-- A task that writes or pins. -/
def LvA (tp tb : TypeId) (S : Nat → Prop) (w : World) (tk : Nat) (wt : Int) (qa : AkD) : Prop :=
  ∃ (B : Nat) (ov : Value), Blk w tk 67 #[.iface tp (pt B 0), .int .i64 qa.rq, .int .i64 wt, .bool false, .int .i64 0, .int .i64 0, .int .u64 0, .int .i64 0, .slice none 0 0] ∧ Blk w B tb #[.int .i64 qa.c, .int .i64 qa.rq, .int .i64 qa.K, .int .i64 qa.nd, .string qa.k0, .string qa.to_, .int .u64 qa.at0, .int .i64 qa.n, ov] ∧ w.ownsRow 0 59 3 ov qa.ops.length (qa.ops.flatMap opE) ∧ S B ∧ InM S ov ∧ qa.ops.length ≤ 100 ∧ qa.rq = 7 ∧ okQ qa ∧ (0 ≤ qa.c ∧ qa.c ≤ 2) ∧ (0 ≤ qa.at0 ∧ qa.at0 < 18446744073709551616)
def GOk (g : RgD) : Prop := g.rq = 7 ∧ (0 ≤ g.nd ∧ g.nd ≤ 3) ∧ g.prs.length ≤ 32 ∧ g.key.size ≤ 8 ∧ g.to_.size ≤ (if g.K = 2 then 8 else g.to_.size) ∧ (0 ≤ g.tm ∧ g.tm < 18446744073709551616) ∧ (g.K = 2 → 0 ≤ g.n ∧ g.n ≤ 32 ∧ g.prs.length < g.n.toNat) ∧ (¬ g.K = 2 → g.prs = [])
/-- A task that reads. -/
def LvG (S : Nat → Prop) (w : World) (tk : Nat) (wt : Int) (g : RgD) : Prop :=
  ∃ (B : Nat) (ov pv : Value), Blk w tk 67 #[.iface 75 (pt B 0), .int .i64 g.rq, .int .i64 wt, .bool false, .int .i64 0, .int .i64 0, .int .u64 0, .int .i64 0, .slice none 0 0] ∧ Blk w B 77 #[.int .i64 g.c, .int .i64 g.rq, .int .i64 g.K, .int .i64 g.nd, .string g.k0, .string g.to_, .int .u64 g.at0, .int .i64 g.n, ov, .int .u64 g.tm, .string g.key, pv] ∧ w.ownsRow 0 57 2 pv g.prs.length (g.prs.flatMap prE) ∧ S B ∧ InM S pv ∧ GOk g
abbrev LvW := LvA 72 74
abbrev LvP := LvA 78 79
def LvAny (S : Nat → Prop) (w : World) (tk : Nat) (wt : Int) : Prop := (∃ qa, LvW S w tk wt qa ∧ (qa.K = 0 ∨ qa.K = 3)) ∨ (∃ qa, LvP S w tk wt qa ∧ (¬ qa.K = 0 ∧ ¬ qa.K = 1 ∧ ¬ qa.K = 2 ∧ ¬ qa.K = 3)) ∨ ∃ g, LvG S w tk wt g
def FinT (S : Nat → Prop) (w : World) (tk : Nat) (r : RpD) : Prop := ∃ (B : Nat) (ty : TypeId) (wt : Int) (u : Value), Blk w tk 67 #[.iface ty (pt B 0), .int .i64 7, .int .i64 wt, .bool true, .int .i64 7, .int .i64 r.er, .int .u64 r.at_, .int .i64 r.pn, u] ∧ w.ownsRow 0 57 2 u r.prs.length (r.prs.flatMap prE) ∧ InM S u
/-- A task under the number 7, that has waited at most n ticks. -/
def TkM (S : Nat → Prop) (w : World) (tk n : Nat) (r : RpD) : Prop :=
  (∀ q, S q → q < w.heap.size) ∧ S tk ∧ RpOk r ∧ (r.dn = false → ∃ wt : Int, 0 ≤ wt ∧ wt ≤ n ∧ LvAny S w tk wt) ∧ (r.dn = true → FinT S w tk r)
section
variable {S D : Nat → Prop} {w x : World} {tk n : Nat} {r : RpD}
theorem TkM.ofS (h : TkM S w tk n r) : ∀ q, S q → q < w.heap.size := h.1
theorem blk_mv {N : Nat} {T : TypeId} {cs : Array Value} (hb : Blk w N T cs) (hk : x.heap[N]? = w.heap[N]?) : Blk x N T cs := by unfold Blk at hb ⊢; rw [hk]; exact hb
theorem LvA.move {tp tb : TypeId} {wt : Int} {qa : AkD} (h : LvA tp tb S w tk wt qa) (hS : S tk) (hk : ∀ k, S k → x.heap[k]? = w.heap[k]?) : LvA tp tb S x tk wt qa := by
  obtain ⟨B, ov, h1, h2, h3, h4, h5, h6⟩ := h
  exact ⟨B, ov, blk_mv h1 (hk _ hS), blk_mv h2 (hk _ h4), row_sameL h3 fun i hi => hk i (h5 i hi), h4, h5, h6⟩
theorem LvG.move {wt : Int} {g : RgD} (h : LvG S w tk wt g) (hS : S tk) (hk : ∀ k, S k → x.heap[k]? = w.heap[k]?) : LvG S x tk wt g := by
  obtain ⟨B, ov, pv, h1, h2, h3, h4, h5, h6⟩ := h
  exact ⟨B, ov, pv, blk_mv h1 (hk _ hS), blk_mv h2 (hk _ h4), row_sameL h3 fun i hi => hk i (h5 i hi), h4, h5, h6⟩
theorem TkM.move (h : TkM S w tk n r) (hs : w.heap.size ≤ x.heap.size) (hk : ∀ k, S k → x.heap[k]? = w.heap[k]?) : TkM S x tk n r := by
  refine ⟨fun q hq => Nat.lt_of_lt_of_le (h.1 q hq) hs, h.2.1, h.2.2.1, fun e => ?_, fun e => ?_⟩
  · obtain ⟨wt, h1, h2, h3⟩ := h.2.2.2.1 e
    refine ⟨wt, h1, h2, ?_⟩
    rcases h3 with ⟨qa, h4, h5⟩ | ⟨qa, h4, h5⟩ | ⟨g, h4⟩
    · exact .inl ⟨qa, h4.move h.2.1 hk, h5⟩
    · exact .inr (.inl ⟨qa, h4.move h.2.1 hk, h5⟩)
    · exact .inr (.inr ⟨g, h4.move h.2.1 hk⟩)
  · obtain ⟨B, ty, wt, u, h1, h2, h3⟩ := h.2.2.2.2 e
    exact ⟨B, ty, wt, u, blk_mv h1 (hk _ h.2.1), row_sameL h2 fun i hi => hk i (h3 i hi), h3⟩
theorem TkM.gr {row : Option Nat} (h : TkM S w tk n r) (hg : w.grownBy x row) (hr : ∀ k, row = some k → ¬ S k) : TkM S x tk n r := h.move hg.size fun k hk => hg.block k (h.1 k hk) (fun e => hr k e.symm hk)
theorem TkM.but (h : TkM S w tk n r) (hb : But D w x) (hd : ∀ q, S q → D q → False) : TkM S x tk n r := h.move hb.size fun k hk => hb.block k (h.1 k hk) (fun e => hd k hk e)
theorem tm_grew (hb : Below w.heap.size w x) (hS : ∀ q, S q → q < w.heap.size) : Grew S S w x := ⟨fun q h => .inl h, But.of_below hb⟩
theorem TkM.below (h : TkM S w tk n r) (hb : Below w.heap.size w x) : TkM S x tk n r := h.move hb.size fun k hk => hb.block k (h.1 k hk)
/-- It is done now. -/
theorem tm_fin {B : Nat} {ty : TypeId} {wt er at9 pn : Int} {u : Value} {prs : List PrT} (h : TkM S w tk n r) (hb : But (fun q => q = tk) w x)
    (hT : Blk x tk 67 #[.iface ty (pt B 0), .int .i64 7, .int .i64 wt, .bool true, .int .i64 7, .int .i64 er, .int .u64 at9, .int .i64 pn, u]) (hr : x.ownsRow w.heap.size 57 2 u prs.length (prs.flatMap prE)) (hl : prs.length ≤ 64) (he : er ≠ 0 → prs = []) (n' : Nat) :
    ∃ S', TkM S' x tk n' ⟨true, er, at9, pn, prs⟩ ∧ Grew S S' w x := by
  refine ⟨fun k => k = tk ∨ u.ownBlock = some k, ⟨fun q hq => ?_, .inl rfl, ⟨fun e => (by cases e), he, hl⟩, fun e => (by cases e), fun _ => ⟨B, ty, wt, u, hT, row_lows hr (Nat.zero_le _), fun k hk => .inr hk⟩⟩, ⟨fun q hq => ?_, hb.mono fun k _ e => by (have e : k = tk := e); subst e; exact h.2.1⟩⟩
  · rcases hq with rfl | hq
    · exact hT.lt
    · exact (hr.lt q hq).2
  · rcases hq with rfl | hq
    · exact .inl h.2.1
    · exact .inr (hr.lt q hq).1
/-- It is about something else now. -/
theorem tm_then {nb : Nat} {g : RgD} {ov u : Value} (h : TkM S w tk n r) (hb : But (fun q => q = tk) w x) (hT : Blk x tk 67 #[.iface 75 (pt nb 0), .int .i64 g.rq, .int .i64 0, .bool false, .int .i64 0, .int .i64 0, .int .u64 0, .int .i64 0, .slice none 0 0])
    (hN : Blk x nb 77 #[.int .i64 g.c, .int .i64 g.rq, .int .i64 g.K, .int .i64 g.nd, .string g.k0, .string g.to_, .int .u64 g.at0, .int .i64 g.n, ov, .int .u64 g.tm, .string g.key, u]) (hn : w.heap.size ≤ nb) (hr : x.ownsRow w.heap.size 57 2 u g.prs.length (g.prs.flatMap prE)) (hg : GOk g) : ∃ S', TkM S' x tk n rp0 ∧ Grew S S' w x := by
  refine ⟨fun k => k = tk ∨ k = nb ∨ u.ownBlock = some k, ⟨fun q hq => ?_, .inl rfl, ⟨fun _ => rfl, fun _ => rfl, by show 0 ≤ 64; omega⟩, fun _ => ⟨0, by omega, by omega, .inr (.inr ⟨g, nb, ov, u, hT, hN, row_lows hr (Nat.zero_le _), .inr (.inl rfl), fun k hk => .inr (.inr hk), hg⟩)⟩, fun e => (by cases e)⟩, ⟨fun q hq => ?_, hb.mono fun k _ e => by (have e : k = tk := e); subst e; exact h.2.1⟩⟩
  · rcases hq with rfl | rfl | hq
    · exact hT.lt
    · exact hN.lt
    · exact (hr.lt q hq).2
  · rcases hq with rfl | rfl | hq
    · exact .inl h.2.1
    · exact .inr hn
    · exact .inr (hr.lt q hq).1
theorem row_tk {T : TypeId} {cs : Array Value} {v : Value} {sz k B0 : Nat} {e : TypeId} {xs : List Value} {α : Type} {l : List α} (hr : w.ownsRow B0 e sz v k xs) (hT : Blk w tk T cs) (he : e ≠ T) : l ≠ [] → ∀ k, v.ownBlock = some k → ¬ (fun q => q = tk) k := fun _ k hk e => by
  have e : k = tk := e
  subst e; exact own_ne_blk hr hT he hk
theorem off_tk {v : Value} {α : Type} {l : List α} (h : l ≠ [] → ∀ k, v.ownBlock = some k → ¬ S k) (hS : S tk) : l ≠ [] → ∀ k, v.ownBlock = some k → ¬ (fun q => q = tk) k := fun hl k hk e => by
  have e : k = tk := e
  subst e; exact h hl k hk hS
theorem nil_pr : x.ownsRow w.heap.size 57 2 (.slice none 0 0) ([] : List PrT).length (([] : List PrT).flatMap prE) := World.ownsRow_nil _ _ _ _
abbrev TakeP (w : World) (tk : Nat) (fr : Int) (mx : MsgX) (Q : Ending → World → Prop) : Prop := Calls Try.prog 11 #[pt tk 0, .int .i64 fr, .agg #[.int .i64 mx.d.k, .int .i64 mx.d.ep, .int .i64 mx.d.rq, .int .i64 mx.d.sr, .bool mx.d.fg, .int .u64 mx.d.at_, .int .u64 mx.d.la, .int .i64 mx.d.n, .int .i64 mx.d.m, .int .i64 mx.d.p, .int .i64 mx.d.e, .string mx.d.key, .string mx.d.to_, .int .i64 mx.d.cep, mx.mv, .int .u64 mx.d.cfl, .int .i64 mx.d.bc, .int .i64 mx.d.br, mx.bv, mx.ev, mx.sv, mx.pv]] w Q
/-- What a call that may turn it makes of it. -/
def TurnQ (S : Nat → Prop) (w : World) (tk n' : Nat) (r : RpD) (e : Ending) (x : World) : Prop := ∃ (r' : RpD) (b : Bool) (S' : Nat → Prop), e = .returned (.bool b) ∧ TkM S' x tk n' r' ∧ (r.dn = true → r' = r) ∧ Grew S S' w x
theorem TurnQ.same {e : Ending} {b : Bool} (h : TkM S w tk n r) (h1 : e = .returned (.bool b)) (hb : Below w.heap.size w x) : TurnQ S w tk n r e x := ⟨r, b, S, h1, h.below hb, fun _ => rfl, tm_grew hb h.1⟩
theorem TurnQ.fin {e : Ending} {b : Bool} {n' : Nat} {r' : RpD} (hd : r.dn = false) (h1 : e = .returned (.bool b)) (h : ∃ S', TkM S' x tk n' r' ∧ Grew S S' w x) : TurnQ S w tk n' r e x := by
  obtain ⟨S', h2, h3⟩ := h
  exact ⟨r', b, S', h1, h2, (fun e => by rw [hd] at e; cases e), h3⟩
theorem takeW {wt : Int} {qa : AkD} (h : TkM S w tk n r) (hd : r.dn = false) (hl : LvW S w tk wt qa) (hK : qa.K = 0 ∨ qa.K = 3) (fr : Int) (mx : MsgX) (hat : 0 ≤ mx.d.at_ ∧ mx.d.at_ < 18446744073709551616) : TakeP w tk fr mx (TurnQ S w tk n r) := by
  obtain ⟨B, ov, h1, h2, h3, h4, h5, h6, h7, h8, h9⟩ := hl
  have hs := row_sl h3 opE_len
  have hv := row_tk (l := qa.ops) h3 h1 (by decide)
  by_cases hq : mx.d.rq = qa.rq
  · by_cases c1 : (0 ≤ fr ∧ fr ≤ 3) ∧ mx.d.k = 7 ∧ mx.d.e = 16
    · refine (mTW1_any tk B qa ov wt fr mx w h1 h2 hs h6 hv hq c1).mono ?_
      rintro e x ⟨e1, e2, e3⟩
      rw [h7] at e2
      exact .fin hd e1 (tm_fin h e3 e2 nil_pr (by simp) (fun _ => rfl) n)
    · by_cases c2 : (0 ≤ fr ∧ fr ≤ 3) ∧ mx.d.k = 6 ∧ qa.K = 0
      · refine (mTW2_any tk B qa ov wt fr mx w h1 h2 hs h6 hv hq c2).mono ?_
        rintro e x ⟨e1, e2, e3⟩
        rw [h7] at e2
        exact .fin hd e1 (tm_fin h e3 e2 nil_pr (by simp) (fun _ => rfl) n)
      · by_cases c3 : (0 ≤ fr ∧ fr ≤ 3) ∧ mx.d.k = 6 ∧ qa.K = 3
        · refine (mTW3_any tk B qa ov wt fr mx w h1 h2 hs h6 hv hq c3).mono ?_
          rintro e x ⟨nb, e1, e2, e3, e4, e5⟩
          have hk := (okq1 (.inr c3.2.2)).1 h8
          have hks : qa.k0.size ≤ 8 := by
            have := hk.2; unfold keyC at this; split at this
            · omega
            · omega
          exact .fin hd e1 (tm_then (g := ⟨qa.c, qa.rq, qa.K, qa.nd, qa.k0, qa.to_, qa.at0, qa.n, mx.d.at_, qa.k0, []⟩) h e5 e2 e3 e4 nil_pr ⟨h7, hk.1, by show 0 ≤ 32; omega, hks, by dsimp only; rw [if_neg (by omega)]; exact Nat.le_refl _, hat, fun e => by (have e : qa.K = 2 := e); omega, fun _ => rfl⟩)
        · refine (mTW0_any tk B qa ov wt fr mx w h1 h2 hs h6 hv hq (by omega)).mono ?_
          rintro e x ⟨e1, e2⟩
          exact .same h e1 e2
  · refine (mTWs_any tk B qa ov wt fr mx w h1 h2 hs h6 hq).mono ?_
    rintro e x ⟨e1, e2⟩
    exact .same h e1 e2
theorem takeP {wt : Int} {qa : AkD} (h : TkM S w tk n r) (hd : r.dn = false) (hl : LvP S w tk wt qa) (fr : Int) (mx : MsgX) : TakeP w tk fr mx (TurnQ S w tk n r) := by
  obtain ⟨B, ov, h1, h2, h3, h4, h5, h6, h7, h8, h9⟩ := hl
  have hs := row_sl h3 opE_len
  have hv := row_tk (l := qa.ops) h3 h1 (by decide)
  by_cases hq : mx.d.rq = qa.rq
  · by_cases c1 : fr = 4 ∧ mx.d.k = 7
    · refine (mTP1_any tk B qa ov wt fr mx w h1 h2 hs h6 hv hq c1).mono ?_
      rintro e x ⟨e1, e2, e3⟩
      rw [h7] at e2
      exact .fin hd e1 (tm_fin h e3 e2 nil_pr (by simp) (fun _ => rfl) n)
    · by_cases c2 : fr = 4 ∧ mx.d.k = 14
      · refine (mTP2_any tk B qa ov wt fr mx w h1 h2 hs h6 hv hq c2).mono ?_
        rintro e x ⟨e1, e2, e3⟩
        rw [h7] at e2
        exact .fin hd e1 (tm_fin h e3 e2 nil_pr (by simp) (fun _ => rfl) n)
      · refine (mTP0_any tk B qa ov wt fr mx w h1 h2 hs h6 hv hq (by omega)).mono ?_
        rintro e x ⟨e1, e2⟩
        exact .same h e1 e2
  · refine (mTPs_any tk B qa ov wt fr mx w h1 h2 hs h6 hq).mono ?_
    rintro e x ⟨e1, e2⟩
    exact .same h e1 e2
theorem most_le (g : RgD) (h : GOk g) : 0 ≤ mostG g ∧ (g.K = 2 → mostG g ≤ g.n - (g.prs.length : Int)) := by
  obtain ⟨_, _, _, _, _, _, h7, _⟩ := h
  unfold mostG; have := mnI_p 2 (g.n - (g.prs.length : Int))
  split
  · next hK => have := h7 hK; exact ⟨by omega, fun _ => by omega⟩
  · exact ⟨by omega, fun e => by contradiction⟩
theorem takeG {wt : Int} {g : RgD} (h : TkM S w tk n r) (hd : r.dn = false) (hl : LvG S w tk wt g) (fr : Int) (mx : MsgX) (hp2 : SliceOf prE 2 w mx.pv mx.d.pr) (hok : ∀ z ∈ mx.d.pr, (fun z : PrT => z.1.size ≤ 9223372036854775807) z) (hoff : mx.d.pr ≠ [] → ∀ k, mx.pv.ownBlock = some k → ¬ S k) : TakeP w tk fr mx (TurnQ S w tk n r) := by
  obtain ⟨B, ov, pv, h1, h2, h3, h4, h5, hg⟩ := hl
  have hs := row_sl h3 prE_len
  have hv := row_tk (l := g.prs) h3 h1 (by decide)
  have hm := off_tk hoff h.2.1
  have hml := most_le g hg
  have hgn := gN_eq g mx.d.pr hml.1
  obtain ⟨g1, g2, g3, g4, g5, g6, g7, g8⟩ := hg
  by_cases hq : mx.d.rq = g.rq
  · by_cases c1 : fr = g.nd ∧ mx.d.k = 7 ∧ ¬ (g.K = 3 ∧ mx.d.e = 12)
    · refine (mTR1_any tk B g ov pv wt fr mx w h1 h2 hs g3 g7 hv hq c1).mono ?_
      rintro e x ⟨e1, e2, e3⟩
      rw [g1] at e2
      exact .fin hd e1 (tm_fin h e3 e2 nil_pr (by simp) (fun _ => rfl) n)
    · by_cases c2 : fr = g.nd ∧ mx.d.k = 10 ∧ mx.d.at_ = g.tm
      · cases hkq : (mx.d.key.toList == g.key.toList) with
        | false =>
          refine (mTRK_any tk B g ov pv wt fr mx w h1 h2 hs g3 g7 hv hq c2 hkq).mono ?_
          rintro e x ⟨e1, e2⟩
          exact .same h e1 e2
        | true =>
          by_cases hK : g.K = 2
          · cases hmo : moreG g mx.d.fg mx.d.pr with
            | true =>
              refine (mTRM_any tk B g ov pv wt fr mx w h1 h2 hs g3 g7 hv hq hp2 hok c2 hkq hK hmo hm).mono ?_
              rintro e x ⟨nb, u, e1, e2, e3, e4, e5, e6⟩
              have hy := moreG_y hmo
              refine .fin hd e1 (tm_then (g := ⟨g.c, g.rq, g.K, g.nd, g.k0, g.to_, g.at0, g.n, g.tm, nxK (lastG2 g mx.d.pr), g.prs ++ mx.d.pr.take (gN g mx.d.pr)⟩) h e6 e3 e4 e5 e2 ⟨g1, g2, ?_, nxK_size _, g5, g6, fun e => ⟨(g7 e).1, (g7 e).2.1, hy.2.2.1⟩, fun e => absurd hK e⟩)
              have := g7 hK; have := hy.2.2.1
              show (g.prs ++ mx.d.pr.take (gN g mx.d.pr)).length ≤ 32
              omega
            | false =>
              refine (mTRD2_any tk B g ov pv wt fr mx w h1 h2 hs g3 g7 hv hq hp2 hok c2 hkq hK hmo hm).mono ?_
              rintro e x ⟨u, e1, e2, e3, e4⟩
              rw [g1] at e3
              exact .fin hd e1 (tm_fin h e4 e3 e2 (by rw [List.length_append]; omega) (fun e => absurd rfl e) n)
          · refine (mTRD1_any tk B g ov pv wt fr mx w h1 h2 hs g3 g7 hv hq hp2 hok c2 hkq hK hm).mono ?_
            rintro e x ⟨u, e1, e2, e3, e4⟩
            rw [g1] at e3
            exact .fin hd e1 (tm_fin h e4 e3 e2 (by rw [List.length_append]; omega) (fun e => absurd rfl e) n)
      · refine (mTR0_any tk B g ov pv wt fr mx w h1 h2 hs g3 g7 hv hq (by omega)).mono ?_
        rintro e x ⟨e1, e2⟩
        exact .same h e1 e2
  · refine (mTRs_any tk B g ov pv wt fr mx w h1 h2 hs g3 g7 hq).mono ?_
    rintro e x ⟨e1, e2⟩
    exact .same h e1 e2
theorem tmTake (w : World) (h : TkM S w tk n r) (fr : Int) (mx : MsgX) (hat : 0 ≤ mx.d.at_ ∧ mx.d.at_ < 18446744073709551616) (hp2 : SliceOf prE 2 w mx.pv mx.d.pr) (hok : ∀ z ∈ mx.d.pr, (fun z : PrT => z.1.size ≤ 9223372036854775807) z) (hoff : mx.d.pr ≠ [] → ∀ k, mx.pv.ownBlock = some k → ¬ S k) : TakeP w tk fr mx (TurnQ S w tk n r) := by
  cases hd : r.dn with
  | true =>
    obtain ⟨B, ty, wt, u, h1, h2, h3⟩ := h.2.2.2.2 hd
    refine (mFTake_any tk B ty 7 r.er r.at_ r.pn u r.prs wt fr mx w h1 (row_sl h2 prE_len) h.2.2.1.2.2).mono ?_
    rintro e x ⟨e1, e2⟩
    exact .same h e1 e2
  | false =>
    obtain ⟨wt, _, _, hl⟩ := h.2.2.2.1 hd
    rcases hl with ⟨qa, h4, h5⟩ | ⟨qa, h4, h5⟩ | ⟨g, h4⟩
    · exact takeW h hd h4 h5 fr mx hat
    · exact takeP h hd h4 fr mx
    · exact takeG h hd h4 fr mx hp2 hok hoff
end
end Go.Proofs.Ytaoibbakflacoaa

/- Package mess: Check. Conditions: none. -/
namespace Go.Proofs.Ytaoibbakflacoaa
open Go.RowKit Go.PlainAid
set_option linter.unusedVariables false


theorem byteAt_pstr {k : Int} {i : Nat} (h : i < (pstr k).size) : ∃ c, (ptL k)[i]? = some c ∧ byteAt (pstr k) i = ((c.toNat : Nat) : Int) := by
  have h' : i < (ptL k).length := by simpa [pstr, ByteArray.size] using h
  refine ⟨(ptL k)[i], List.getElem?_eq_getElem h', ?_⟩
  unfold byteAt pstr
  simp [h']
theorem pstr_len (k : Int) : (pstr k).size = (ptL k).length := by simp [pstr, ByteArray.size]
theorem ptL_all (k : Int) : (ptL k).all (fun c => decide (c.toNat < 128)) = true := by
  unfold ptL
  repeat' split
  all_goals rfl
theorem ptL_ascii (k : Int) : ∀ c ∈ ptL k, c.toNat < 128 := fun c hc => of_decide_eq_true (List.all_eq_true.1 (ptL_all k) c hc)
theorem pstr_ascii (k : Int) : Ascii (pstr k) := by
  intro i h
  have h' : i < (ptL k).length := by rw [← pstr_len]; exact h
  have e : (pstr k)[i]'h = ((ptL k).toArray)[i]'(by simpa using h') := rfl
  rw [e, List.getElem_toArray]
  exact ptL_ascii k _ (List.getElem_mem h')
def cP (d : MsgD) (c : UInt8) : Int := chkP d (c.toNat : Int)
def chkMg (d : MsgD) : Int := if 1 ≤ d.k ∧ d.k ≤ 15 then chkF (cP d) (ptL d.k) else 11
theorem cp_x {d : MsgD} {p : Int} (h : p = 120) : chkP d p = if d.e < 0 ∨ d.e > 21 then 1 else 0 := by unfold chkP; rw [if_pos h]
theorem cp_n {d : MsgD} {p : Int} (h : p = 101 ∨ p = 115 ∨ p = 113 ∨ p = 110 ∨ p = 109 ∨ p = 112) : chkP d p = if numP d p < 0 ∨ numP d p > 1073741824 then 5 else 0 := by unfold chkP; rw [if_neg (by omega), if_pos (show numL p from h)]
theorem nn {p : Int} (h : ¬ (p = 101 ∨ p = 115 ∨ p = 113 ∨ p = 110 ∨ p = 109 ∨ p = 112)) : ¬ numL p := h
theorem cp_k {d : MsgD} {p : Int} (h : p = 107) : chkP d p = if (d.key.size : Int) > 8 then 3 else 0 := by unfold chkP; rw [if_neg (by omega), if_neg (nn (by omega)), if_pos h]
theorem cp_t {d : MsgD} {p : Int} (h : p = 116) : chkP d p = if (d.to_.size : Int) > 8 then 3 else 0 := by unfold chkP; rw [if_neg (by omega), if_neg (nn (by omega)), if_neg (by omega), if_pos h]
theorem cp_C {d : MsgD} {p : Int} (h : p = 67) : chkP d p = chkC d.cep d.cms := by unfold chkP; rw [if_neg (by omega), if_neg (nn (by omega)), if_neg (by omega), if_neg (by omega), if_pos h]
theorem cp_B {d : MsgD} {p : Int} (h : p = 66) : chkP d p = chkB d.bc d.br d.bl := by unfold chkP; rw [if_neg (by omega), if_neg (nn (by omega)), if_neg (by omega), if_neg (by omega), if_neg (by omega), if_pos h]
theorem cp_L {d : MsgD} {p : Int} (h : p = 76) : chkP d p = chkLs 4 chkEn d.en := by unfold chkP; rw [if_neg (by omega), if_neg (nn (by omega)), if_neg (by omega), if_neg (by omega), if_neg (by omega), if_neg (by omega), if_pos h]
theorem cp_S {d : MsgD} {p : Int} (h : p = 83) : chkP d p = chkLs 8 chkSt d.st := by unfold chkP; rw [if_neg (by omega), if_neg (nn (by omega)), if_neg (by omega), if_neg (by omega), if_neg (by omega), if_neg (by omega), if_neg (by omega), if_pos h]
theorem cp_R {d : MsgD} {p : Int} (h : p = 82) : chkP d p = chkLs 32 chkPair d.pr := by unfold chkP; rw [if_neg (by omega), if_neg (nn (by omega)), if_neg (by omega), if_neg (by omega), if_neg (by omega), if_neg (by omega), if_neg (by omega), if_neg (by omega), if_pos h]
theorem cp_0 {d : MsgD} {p : Int} (h : ¬ (p = 120 ∨ (p = 101 ∨ p = 115 ∨ p = 113 ∨ p = 110 ∨ p = 109 ∨ p = 112) ∨ p = 107 ∨ p = 116 ∨ p = 67 ∨ p = 66 ∨ p = 76 ∨ p = 83 ∨ p = 82)) : chkP d p = 0 := by unfold chkP; rw [if_neg (by omega), if_neg (nn (by omega)), if_neg (by omega), if_neg (by omega), if_neg (by omega), if_neg (by omega), if_neg (by omega), if_neg (by omega), if_neg (by omega)]

-- left out here




















-- left out here




-- left out here




-- left out here

























































































































-- left out here




















end Go.Proofs.Ytaoibbakflacoaa

/- catenalaw34: a task of any kind waits, tells what came of it and what is sent. Conditions: a task under the number 7. -/
namespace Go.Proofs.Ytaoibbakflacoaa
open Go.RowKit Go.PlainAid
set_option linter.unusedVariables false
set_option linter.unusedSimpArgs false
section
variable {S D : Nat → Prop} {w x : World} {tk n : Nat} {r : RpD}
theorem blk_neT {A B : Nat} {T1 T2 : TypeId} {c1 c2 : Array Value} (h1 : Blk w A T1 c1) (h2 : Blk w B T2 c2) (ht : T1 ≠ T2) : A ≠ B := by
  intro e; unfold Blk at h1 h2; rw [e, h2] at h1; simp at h1; exact ht h1.2.symm
/-- It waits. -/
theorem tm_wait (h : TkM S w tk n r) (hd : r.dn = false) (hb : But (fun q => q = tk) w x) {wt : Int} (h0 : 0 ≤ wt) (h1 : wt + 1 ≤ (n + 1 : Nat)) (hl : LvAny S x tk (wt + 1)) : ∃ S', TkM S' x tk (n + 1) r ∧ Grew S S' w x :=
  ⟨S, ⟨fun q hq => Nat.lt_of_lt_of_le (h.1 q hq) hb.size, h.2.1, h.2.2.1, fun _ => ⟨wt + 1, by omega, h1, hl⟩, fun e => by rw [hd] at e; cases e⟩, ⟨fun q hq => .inl hq, hb.mono fun k _ e => by (have e : k = tk := e); subst e; exact h.2.1⟩⟩
theorem TkM.more (h : TkM S w tk n r) : TkM S w tk (n + 1) r := ⟨h.1, h.2.1, h.2.2.1, fun e => by obtain ⟨wt, h1, h2, h3⟩ := h.2.2.2.1 e; exact ⟨wt, h1, by omega, h3⟩, h.2.2.2.2⟩
theorem tmTick (w : World) (h : TkM S w tk n r) (hn : n ≤ 1000) : Calls Try.prog 10 #[pt tk 0] w (TurnQ S w tk (n + 1) r) := by
  cases hd : r.dn with
  | true =>
    obtain ⟨B, ty, wt, u, h1, h2, h3⟩ := h.2.2.2.2 hd
    refine (mFTick_any tk B ty 7 r.er r.at_ r.pn u r.prs wt w h1 (row_sl h2 prE_len) h.2.2.1.2.2).mono ?_
    rintro e x ⟨e1, e2⟩
    exact .same h.more e1 e2
  | false =>
    obtain ⟨wt, hw1, hw2, hl⟩ := h.2.2.2.1 hd
    have hsz : w.heap.size ≤ w.heap.size := Nat.le_refl _
    rcases hl with ⟨qa, ⟨B, ov, h1, h2, h3, h4, h5, h6⟩, hK⟩ | ⟨qa, ⟨B, ov, h1, h2, h3, h4, h5, h6⟩, hK⟩ | ⟨g, B, ov, pv, h1, h2, h3, h4, h5, hg⟩
    · refine (mTickW_any tk B qa ov wt w h1 h2 (row_sl h3 opE_len) h6.1 (row_tk (l := qa.ops) h3 h1 (by decide)) ⟨hw1, by omega⟩).mono ?_
      rintro e x ⟨e1, e2, e3⟩
      have hBt := blk_neT h2 h1 (by decide)
      obtain ⟨S', k1, k2⟩ := tm_wait h hd e3 hw1 (by omega) (.inl ⟨qa, ⟨B, ov, e2, blk_mv h2 (e3.block _ h2.lt hBt), row_sameL h3 fun i hi => e3.block i (h3.lt i hi).2 (fun e => own_ne_blk h3 h1 (by decide) (by (have e : i = tk := e); rw [← e]; exact hi)), h4, h5, h6⟩, hK⟩)
      exact ⟨r, true, S', e1, k1, fun _ => rfl, k2⟩
    · refine (mTickP_any tk B qa ov wt w h1 h2 (row_sl h3 opE_len) h6.1 (row_tk (l := qa.ops) h3 h1 (by decide)) ⟨hw1, by omega⟩).mono ?_
      rintro e x ⟨e1, e2, e3⟩
      have hBt := blk_neT h2 h1 (by decide)
      obtain ⟨S', k1, k2⟩ := tm_wait h hd e3 hw1 (by omega) (.inr (.inl ⟨qa, ⟨B, ov, e2, blk_mv h2 (e3.block _ h2.lt hBt), row_sameL h3 fun i hi => e3.block i (h3.lt i hi).2 (fun e => own_ne_blk h3 h1 (by decide) (by (have e : i = tk := e); rw [← e]; exact hi)), h4, h5, h6⟩, hK⟩))
      exact ⟨r, true, S', e1, k1, fun _ => rfl, k2⟩
    · by_cases hw : 16 ≤ wt
      · refine (mTickL_any tk B g ov pv wt w h1 h2 (row_sl h3 prE_len) hg.2.2.1 hg.2.2.2.2.2.2.1 (row_tk (l := g.prs) h3 h1 (by decide)) ⟨hw1, by omega⟩ hw).mono ?_
        rintro e x ⟨e1, e2, e3⟩
        rw [hg.1] at e2
        exact .fin hd e1 (tm_fin h e3 e2 nil_pr (by simp) (fun _ => rfl) (n + 1))
      · refine (mTickR_any tk B g ov pv wt w h1 h2 (row_sl h3 prE_len) hg.2.2.1 hg.2.2.2.2.2.2.1 (row_tk (l := g.prs) h3 h1 (by decide)) ⟨hw1, by omega⟩ hw).mono ?_
        rintro e x ⟨e1, e2, e3⟩
        have hBt := blk_neT h2 h1 (by decide)
        obtain ⟨S', k1, k2⟩ := tm_wait h hd e3 hw1 (by omega) (.inr (.inr ⟨g, B, ov, pv, e2, blk_mv h2 (e3.block _ h2.lt hBt), row_sameL h3 fun i hi => e3.block i (h3.lt i hi).2 (fun e => own_ne_blk h3 h1 (by decide) (by (have e : i = tk := e); rw [← e]; exact hi)), h4, h5, hg⟩))
        exact ⟨r, true, S', e1, k1, fun _ => rfl, k2⟩
def rqR (r : RpD) : Int := if r.dn = true then 7 else 0
theorem tmDone (w : World) (h : TkM S w tk n r) : Calls Try.prog 9 #[pt tk 0] w fun e x => ∃ (u : Value) (S' : Nat → Prop), e = .returned (.tuple #[.agg #[.int .i64 (rqR r), .int .i64 r.er, .int .u64 r.at_, .int .i64 r.pn, u], .bool r.dn]) ∧ TkM S' x tk n r ∧ x.ownsRow w.heap.size 57 2 u r.prs.length (r.prs.flatMap prE) ∧ (∀ i, (Value.ownBlock u) = some i → ¬ S' i) ∧ Grew S S' w x := by
  cases hd : r.dn with
  | true =>
    obtain ⟨B, ty, wt, u, h1, h2, h3⟩ := h.2.2.2.2 hd
    refine (mFDone_any tk B ty 7 r.er r.at_ r.pn u r.prs wt w h1 (row_sl h2 prE_len) h.2.2.1.2.2).mono ?_
    rintro e x ⟨u2, e1, e2, e3⟩
    refine ⟨u2, S, by unfold rqR; rw [if_pos hd]; exact e1, h.below e3, e2, fun i hi hS => ?_, tm_grew e3 h.1⟩
    have := (e2.lt i hi).1; have := h.1 i hS; omega
  | false =>
    obtain ⟨wt, hw1, hw2, hl⟩ := h.2.2.2.1 hd
    have h0 : r = rp0 := h.2.2.1.1 hd
    have hfin : ∀ (e : Ending) (x : World), e = .returned (.tuple #[.agg #[.int .i64 0, .int .i64 0, .int .u64 0, .int .i64 0, .slice none 0 0], .bool false]) → Below w.heap.size w x → ∃ (u : Value) (S' : Nat → Prop), e = .returned (.tuple #[.agg #[.int .i64 (rqR r), .int .i64 r.er, .int .u64 r.at_, .int .i64 r.pn, u], .bool false]) ∧ TkM S' x tk n r ∧ x.ownsRow w.heap.size 57 2 u r.prs.length (r.prs.flatMap prE) ∧ (∀ i, (Value.ownBlock u) = some i → ¬ S' i) ∧ Grew S S' w x := by
      intro e x e1 e2
      have k := h.below e2
      subst h0
      exact ⟨.slice none 0 0, S, e1, k, nil_pr, fun i hi => by simp [Value.ownBlock] at hi, tm_grew e2 h.1⟩
    rcases hl with ⟨qa, ⟨B, ov, h1, h2, h3, h4, h5, h6⟩, hK⟩ | ⟨qa, ⟨B, ov, h1, h2, h3, h4, h5, h6⟩, hK⟩ | ⟨g, B, ov, pv, h1, h2, h3, h4, h5, hg⟩
    · exact (mDW_any tk B qa ov wt w h1 h2 (row_sl h3 opE_len) h6.1).mono fun e x ⟨e1, e2⟩ => hfin e x e1 e2
    · exact (mDP_any tk B qa ov wt w h1 h2 (row_sl h3 opE_len) h6.1).mono fun e x ⟨e1, e2⟩ => hfin e x e1 e2
    · exact (mDR_any tk B g ov pv wt w h1 h2 (row_sl h3 prE_len) hg.2.2.1 hg.2.2.2.2.2.2.1).mono fun e x ⟨e1, e2⟩ => hfin e x e1 e2
/-- What is sent may be sent. -/
def sentOk (r : RpD) (to : Int) (d : MsgD) : Prop := (r.dn = true → to = -1) ∧ (r.dn = false → (0 ≤ to ∧ to ≤ 4) ∧ chkMg d = 0) ∧ MsgR d ∧ d.cms = [] ∧ d.en = [] ∧ d.st = [] ∧ d.pr = [] ∧ d.bl.length ≤ 100
theorem msgR_0 {d : MsgD} (h1 : d.cms = []) (h2 : d.st = []) (h3 : d.cep = 0) (h4 : d.cfl = 0) (h5 : 0 ≤ d.at_ ∧ d.at_ < 18446744073709551616) (h6 : d.la = 0) : MsgR d :=
  ⟨by rw [h1]; simp, by rw [h3, h4, h6]; exact ⟨by omega, by omega, h5, by omega⟩, by rw [h2]; simp⟩
def NextP (S : Nat → Prop) (w : World) (tk n : Nat) (r : RpD) (e : Ending) (x : World) : Prop := ∃ (to : Int) (d : MsgD) (bv : Value) (S' : Nat → Prop), e = .returned (.tuple #[.int .i64 to, .agg #[.int .i64 d.k, .int .i64 d.ep, .int .i64 d.rq, .int .i64 d.sr, .bool d.fg, .int .u64 d.at_, .int .u64 d.la, .int .i64 d.n, .int .i64 d.m, .int .i64 d.p, .int .i64 d.e, .string d.key, .string d.to_, .int .i64 d.cep, .slice none 0 0, .int .u64 d.cfl, .int .i64 d.bc, .int .i64 d.br, bv, .slice none 0 0, .slice none 0 0, .slice none 0 0]]) ∧ TkM S' x tk n r ∧ sentOk r to d ∧ x.ownsRow w.heap.size 59 3 bv d.bl.length (d.bl.flatMap opE) ∧ (∀ i, (Value.ownBlock bv) = some i → ¬ S' i) ∧ Grew S S' w x
theorem nil_op : x.ownsRow w.heap.size 59 3 (.slice none 0 0) ([] : List OpT).length (([] : List OpT).flatMap opE) := World.ownsRow_nil _ _ _ _
theorem NextP.nil {e : Ending} (h : TkM S w tk n r) (hb : Below w.heap.size w x) (to : Int) (d : MsgD) (hbl : d.bl = []) (h1 : e = .returned (.tuple #[.int .i64 to, .agg #[.int .i64 d.k, .int .i64 d.ep, .int .i64 d.rq, .int .i64 d.sr, .bool d.fg, .int .u64 d.at_, .int .u64 d.la, .int .i64 d.n, .int .i64 d.m, .int .i64 d.p, .int .i64 d.e, .string d.key, .string d.to_, .int .i64 d.cep, .slice none 0 0, .int .u64 d.cfl, .int .i64 d.bc, .int .i64 d.br, .slice none 0 0, .slice none 0 0, .slice none 0 0, .slice none 0 0]])) (h2 : sentOk r to d) : NextP S w tk n r e x :=
  ⟨to, d, .slice none 0 0, S, h1, h.below hb, h2, by rw [hbl]; exact nil_op, fun i hi => by simp [Value.ownBlock] at hi, tm_grew hb h.1⟩
theorem sent_live {to : Int} {d : MsgD} (hd : r.dn = false) (ht : 0 ≤ to ∧ to ≤ 4) (hc : chkMg d = 0) (hR : MsgR d) (h1 : d.cms = []) (h2 : d.en = []) (h3 : d.st = []) (h4 : d.pr = []) (h5 : d.bl.length ≤ 100) : sentOk r to d := ⟨fun e => (by rw [hd] at e; cases e), fun _ => ⟨ht, hc⟩, hR, h1, h2, h3, h4, h5⟩
theorem tmNext (w : World) (h : TkM S w tk n r) : Calls Try.prog 13 #[pt tk 0, .int .i64 3, .int .i64 2] w (NextP S w tk n r) := by
  cases hd : r.dn with
  | true =>
    obtain ⟨B, ty, wt, u, h1, h2, h3⟩ := h.2.2.2.2 hd
    refine (mFNext_any tk B ty 7 r.er r.at_ r.pn u r.prs wt w h1 (row_sl h2 prE_len) h.2.2.1.2.2).mono ?_
    rintro e x ⟨e1, e2⟩
    exact .nil h e2 (-1) ⟨0, 0, 0, 0, false, 0, 0, 0, 0, 0, 0, ⟨#[]⟩, ⟨#[]⟩, 0, [], 0, 0, 0, [], [], [], []⟩ rfl e1 ⟨fun _ => rfl, (fun e => by rw [hd] at e; cases e), msgR_0 rfl rfl rfl rfl (by dsimp only; omega) rfl, rfl, rfl, rfl, rfl, by simp⟩
  | false =>
    obtain ⟨wt, hw1, hw2, hl⟩ := h.2.2.2.1 hd
    rcases hl with ⟨qa, ⟨B, ov, h1, h2, h3, h4, h5, h6, h7, h8, h9, h10⟩, hK⟩ | ⟨qa, ⟨B, ov, h1, h2, h3, h4, h5, h6, h7, h8, h9, h10⟩, hK⟩ | ⟨g, B, ov, pv, h1, h2, h3, h4, h5, hg⟩
    · by_cases hK0 : qa.K = 0
      · refine (mNW0_any tk B qa ov wt w h1 h2 (row_sl h3 opE_len) h6 hK0).mono ?_
        rintro e x ⟨ys, u, e1, e2, e3, e4, e5⟩
        have hcb : chkB qa.c qa.rq ys = 0 := of_decide_eq_true ((okq0 hK0 e3).2 h8)
        refine ⟨2, ⟨5, 3, 0, 0, false, 0, 0, 0, 0, 0, 0, ⟨#[]⟩, ⟨#[]⟩, 0, [], 0, qa.c, qa.rq, ys, [], [], []⟩, u, S, e1, h.below e5, sent_live hd (by omega) ?_ (msgR_0 rfl rfl rfl rfl (by dsimp only; omega) rfl) rfl rfl rfl rfl e4, e2, fun i hi hS => ?_, tm_grew e5 h.1⟩
        · simp [chkMg, ptL, chkF, cP, chkP, numL, numP, hcb]
        · have := (e2.lt i hi).1; have := h.1 i hS; omega
      · have hK3 : qa.K = 3 := by omega
        refine (mNW3_any tk B qa ov wt w h1 h2 (row_sl h3 opE_len) h6 hK3).mono ?_
        rintro e x ⟨e1, e2⟩
        have hcb : chkB qa.c qa.rq [] = 0 := by unfold chkB chkL; rw [if_neg (by omega), if_neg (by omega)]; simp
        exact .nil h e2 2 ⟨5, 3, 0, 0, false, 0, 0, 0, 0, 0, 0, ⟨#[]⟩, ⟨#[]⟩, 0, [], 0, qa.c, qa.rq, [], [], [], []⟩ rfl e1 (sent_live hd (by omega) (by simp [chkMg, ptL, chkF, cP, chkP, numL, numP, hcb]) (msgR_0 rfl rfl rfl rfl (by dsimp only; omega) rfl) rfl rfl rfl rfl (by simp))
    · by_cases hK5 : qa.K = 5
      · refine (mNP5_any tk B qa ov wt w h1 h2 (row_sl h3 opE_len) h6 hK5).mono ?_
        rintro e x ⟨e1, e2⟩
        have hn := (okq5 (.inl hK5)).1 h8
        exact .nil h e2 4 ⟨12, 0, qa.rq, 0, false, 0, 0, qa.n, 0, 0, 0, ⟨#[]⟩, ⟨#[]⟩, 0, [], 0, 0, 0, [], [], [], []⟩ rfl e1 (sent_live hd (by omega) (by simp [chkMg, ptL, chkF, cP, chkP, numL, numP, h7]; omega) (msgR_0 rfl rfl rfl rfl (by dsimp only; omega) rfl) rfl rfl rfl rfl (by simp))
      · by_cases hK6 : qa.K = 6
        · refine (mNP6_any tk B qa ov wt w h1 h2 (row_sl h3 opE_len) h6 hK6).mono ?_
          rintro e x ⟨e1, e2⟩
          have hn := (okq5 (.inr hK6)).1 h8
          exact .nil h e2 4 ⟨13, 0, qa.rq, 0, false, 0, 0, qa.n, 0, 0, 0, ⟨#[]⟩, ⟨#[]⟩, 0, [], 0, 0, 0, [], [], [], []⟩ rfl e1 (sent_live hd (by omega) (by simp [chkMg, ptL, chkF, cP, chkP, numL, numP, h7]; omega) (msgR_0 rfl rfl rfl rfl (by dsimp only; omega) rfl) rfl rfl rfl rfl (by simp))
        · refine (mNP4_any tk B qa ov wt w h1 h2 (row_sl h3 opE_len) h6 ((okq4 (by omega)).1 h8)).mono ?_
          rintro e x ⟨e1, e2⟩
          exact .nil h e2 4 ⟨11, 0, qa.rq, 0, false, qa.at0, 0, 0, 0, 0, 0, ⟨#[]⟩, ⟨#[]⟩, 0, [], 0, 0, 0, [], [], [], []⟩ rfl e1 (sent_live hd (by omega) (by simp [chkMg, ptL, chkF, cP, chkP, numL, numP, h7]) (msgR_0 rfl rfl rfl rfl h10 rfl) rfl rfl rfl rfl (by simp))
    · obtain ⟨g1, g2, g3, g4, g5, g6, g7, g8⟩ := hg
      by_cases hK : g.K = 2
      · refine (mNR2_any tk B g ov pv wt w h1 h2 (row_sl h3 prE_len) g3 g7 hK).mono ?_
        rintro e x ⟨e1, e2⟩
        rw [if_pos hK] at g5
        have hn := mnI_p 2 (g.n - (g.prs.length : Int))
        have hn2 := g7 hK
        exact .nil h e2 g.nd ⟨9, 0, g.rq, 0, false, g.tm, 0, mnI 2 (g.n - (g.prs.length : Int)), 0, 0, 0, g.key, g.to_, 0, [], 0, 0, 0, [], [], [], []⟩ rfl e1 (sent_live hd (by omega) (by simp [chkMg, ptL, chkF, cP, chkP, numL, numP, g1]; omega) (msgR_0 rfl rfl rfl rfl g6 rfl) rfl rfl rfl rfl (by simp))
      · refine (mNR1_any tk B g ov pv wt w h1 h2 (row_sl h3 prE_len) g3 g7 hK).mono ?_
        rintro e x ⟨e1, e2⟩
        exact .nil h e2 g.nd ⟨8, 0, g.rq, 0, false, g.tm, 0, 0, 0, 0, 0, g.key, ⟨#[]⟩, 0, [], 0, 0, 0, [], [], [], []⟩ rfl e1 (sent_live hd (by omega) (by simp [chkMg, ptL, chkF, cP, chkP, numL, numP, g1]; omega) (msgR_0 rfl rfl rfl rfl g6 rfl) rfl rfl rfl rfl (by simp))
theorem tmNew (w : World) (qa : AkD) (ov : Value) (hc : 0 ≤ qa.c ∧ qa.c ≤ 2) (h7 : qa.rq = 7) (ho : SliceOf opE 3 w ov qa.ops) (hol : qa.ops.length ≤ 100) (hat : 0 ≤ qa.at0 ∧ qa.at0 < 18446744073709551616) (hok : okQ qa) :
    Calls Try.prog 8 #[.int .i64 qa.c, .int .i64 qa.rq, .agg #[.int .i64 qa.K, .int .i64 qa.nd, .string qa.k0, .string qa.to_, .int .u64 qa.at0, .int .i64 qa.n, ov]] w fun e x => ∃ (tk : Nat) (S' : Nat → Prop), e = .returned (.tuple #[pt tk 0, .int .i64 0]) ∧ TkM S' x tk 0 rp0 ∧ (∀ q, S' q → w.heap.size ≤ q) ∧ Below w.heap.size w x := by
  have hlv : ∀ (tp tb : TypeId) (x : World) (tk nb : Nat) (u : Value), x.ownsRow w.heap.size 59 3 u qa.ops.length (qa.ops.flatMap opE) → Blk x tk 67 #[.iface tp (pt nb 0), .int .i64 qa.rq, .int .i64 0, .bool false, .int .i64 0, .int .i64 0, .int .u64 0, .int .i64 0, .slice none 0 0] → Blk x nb tb #[.int .i64 qa.c, .int .i64 qa.rq, .int .i64 qa.K, .int .i64 qa.nd, .string qa.k0, .string qa.to_, .int .u64 qa.at0, .int .i64 qa.n, u] → LvA tp tb (fun k => k = tk ∨ k = nb ∨ u.ownBlock = some k) x tk 0 qa := fun tp tb x tk nb u r1 r2 r3 => ⟨nb, u, r2, r3, row_lows r1 (Nat.zero_le _), .inr (.inl rfl), fun k hk => .inr (.inr hk), hol, h7, hok, hc, hat⟩
  have hS : ∀ (x : World) (tk nb : Nat) (u : Value) (T1 T2 : TypeId) (c1 c2 : Array Value), x.ownsRow w.heap.size 59 3 u qa.ops.length (qa.ops.flatMap opE) → Blk x tk T1 c1 → Blk x nb T2 c2 → w.heap.size ≤ tk → w.heap.size ≤ nb → (∀ q, (fun k => k = tk ∨ k = nb ∨ u.ownBlock = some k) q → q < x.heap.size) ∧ (∀ q, (fun k => k = tk ∨ k = nb ∨ u.ownBlock = some k) q → w.heap.size ≤ q) := by
    intro x tk nb u T1 T2 c1 c2 r1 r2 r3 r4 r5
    refine ⟨fun q hq => ?_, fun q hq => ?_⟩ <;> rcases hq with rfl | rfl | hq
    · exact r2.lt
    · exact r3.lt
    · exact (r1.lt q hq).2
    · exact r4
    · exact r5
    · exact (r1.lt q hq).1
  have hrp : RpOk rp0 := ⟨fun _ => rfl, fun _ => rfl, by show 0 ≤ 64; omega⟩
  by_cases hW : qa.K = 0 ∨ qa.K = 3
  · refine (mNewW_any qa ov w hc (by omega) ho hol hok hW).mono ?_
    rintro e x ⟨tk, nb, u, e1, e2, e3, e4, e5, e6, e7, e8⟩
    have hs := hS x tk nb u _ _ _ _ e2 e3 e4 e5 e6
    exact ⟨tk, _, e1, ⟨hs.1, .inl rfl, hrp, fun _ => ⟨0, by omega, by omega, .inl ⟨qa, hlv _ _ x tk nb u e2 e3 e4, hW⟩⟩, fun e => by cases e⟩, hs.2, e8⟩
  · by_cases hR : qa.K = 1 ∨ qa.K = 2
    · refine (mNewR_any qa ov w hc (by omega) ho hol hok hR).mono ?_
      rintro e x ⟨tk, nb, u, e1, e2, e3, e4, e5, e6, e7, e8⟩
      have hs := hS x tk nb u _ _ _ _ e2 e3 e4 e5 e6
      have hg : GOk ⟨qa.c, qa.rq, qa.K, qa.nd, qa.k0, qa.to_, qa.at0, qa.n, qa.at0, qa.k0, []⟩ := by
        rcases hR with hK | hK
        · have hk := (okq1 (.inl hK)).1 hok
          have hks : qa.k0.size ≤ 8 := by
            have := hk.2; unfold keyC at this; split at this
            · omega
            · omega
          exact ⟨h7, hk.1, by show 0 ≤ 32; omega, hks, by dsimp only; rw [if_neg (by omega)]; exact Nat.le_refl _, hat, fun e => by (have e : qa.K = 2 := e); omega, fun _ => rfl⟩
        · have hk := (okq2 hK).1 hok
          exact ⟨h7, hk.1, by show 0 ≤ 32; omega, hk.2.1, by dsimp only; rw [if_pos hK]; exact hk.2.2.1, hat, fun e => ⟨by dsimp only; omega, by dsimp only; omega, by show 0 < qa.n.toNat; omega⟩, fun e => absurd hK e⟩
      exact ⟨tk, _, e1, ⟨hs.1, .inl rfl, hrp, fun _ => ⟨0, by omega, by omega, .inr (.inr ⟨_, nb, u, .slice none 0 0, e3, e4, World.ownsRow_nil _ _ _ _, .inr (.inl rfl), fun k hk => by simp [Value.ownBlock] at hk, hg⟩)⟩, fun e => by cases e⟩, hs.2, e8⟩
    · refine (mNewP_any qa ov w hc (by omega) ho hol hok (by omega)).mono ?_
      rintro e x ⟨tk, nb, u, e1, e2, e3, e4, e5, e6, e7, e8⟩
      have hs := hS x tk nb u _ _ _ _ e2 e3 e4 e5 e6
      exact ⟨tk, _, e1, ⟨hs.1, .inl rfl, hrp, fun _ => ⟨0, by omega, by omega, .inr (.inl ⟨qa, hlv _ _ x tk nb u e2 e3 e4, by omega⟩)⟩, fun e => by cases e⟩, hs.2, e8⟩
end
end Go.Proofs.Ytaoibbakflacoaa

/- The document's own messages: what is wrong with a part. Conditions: none. -/
namespace Go.Proofs.Ytaoibbakflacoaa
open Go.RowKit Go.PlainAid
set_option linter.unusedVariables false


/-- The document's letters. -/
def plet (c : Int) : Int := if c = 114 then 113 else if c = 69 then 76 else c
theorem pl_114 {c : Int} (h : c = 114) : plet c = 113 := by unfold plet; rw [if_pos h]
theorem pl_69 {c : Int} (h : c = 69) : plet c = 76 := by unfold plet; rw [if_neg (by omega), if_pos h]
theorem pl_o {c : Int} (h : ¬ c = 114) (h1 : ¬ c = 69) : plet c = c := by unfold plet; rw [if_neg h, if_neg h1]
def dlet (c : UInt8) : UInt8 := if c = 113 then 114 else if c = 76 then 69 else c
def rL (k : Int) : List UInt8 := if 1 ≤ k ∧ k ≤ 15 then (ptL k).map dlet else [63]
def rstr (k : Int) : ByteArray := ⟨(rL k).toArray⟩
theorem rstr_len (k : Int) : (rstr k).size = (rL k).length := by simp [rstr, ByteArray.size]
theorem rL_len {k : Int} (h : 1 ≤ k ∧ k ≤ 15) : (rL k).length = (ptL k).length := by unfold rL; rw [if_pos h]; simp
theorem u8_ne {c e : UInt8} (h : c ≠ e) : ((c.toNat : Nat) : Int) ≠ ((e.toNat : Nat) : Int) := fun q => h (UInt8.toNat.inj (by omega))
theorem dlet_back (c : UInt8) (h1 : c ≠ 114) (h2 : c ≠ 69) : plet ((dlet c).toNat : Int) = ((c.toNat : Nat) : Int) := by
  unfold dlet
  split
  · rename_i h; subst h; rfl
  split
  · rename_i h; subst h; rfl
  · exact pl_o (c := ((c.toNat : Nat) : Int)) (u8_ne (e := 114) h1) (u8_ne (e := 69) h2)
theorem ptL_no (k : Int) : (ptL k).all (fun c => decide (c ≠ 114) && decide (c ≠ 69)) = true := by
  unfold ptL
  repeat' split
  all_goals rfl
theorem plet_dlet {k : Int} {c : UInt8} (h : c ∈ ptL k) : plet ((dlet c).toNat : Int) = ((c.toNat : Nat) : Int) := by
  have := List.all_eq_true.1 (ptL_no k) c h
  simp only [Bool.and_eq_true, decide_eq_true_eq] at this
  exact dlet_back c this.1 this.2
theorem ptL_small (k : Int) : (ptL k).length ≤ 7 := by
  unfold ptL
  repeat' split
  all_goals decide
theorem rstr_small (k : Int) : (rstr k).size ≤ 7 := by
  rw [rstr_len]; unfold rL
  split
  · rw [List.length_map]; exact ptL_small k
  · decide
theorem dlet_no (c : UInt8) : (dlet c).toNat ≠ 113 ∧ (dlet c).toNat ≠ 76 := by
  unfold dlet
  split
  · decide
  split
  · decide
  · rename_i h1 h2; exact ⟨fun e => h1 (UInt8.toNat.inj e), fun e => h2 (UInt8.toNat.inj e)⟩
theorem byteAt_rstr {k : Int} {i : Nat} (hk : 1 ≤ k ∧ k ≤ 15) (h : i < (rstr k).size) : ∃ c, (ptL k)[i]? = some c ∧ plet (byteAt (rstr k) i) = ((c.toNat : Nat) : Int) ∧ byteAt (rstr k) i ≠ 113 ∧ byteAt (rstr k) i ≠ 76 := by
  have h' : i < (ptL k).length := by rw [rstr_len, rL_len hk] at h; exact h
  have e : byteAt (rstr k) i = ((dlet (ptL k)[i]).toNat : Int) := by
    unfold byteAt rstr rL
    rw [if_pos hk]; simp [h']
  refine ⟨(ptL k)[i], List.getElem?_eq_getElem h', ?_, ?_⟩
  · rw [e]; exact plet_dlet (List.getElem_mem h')
  · have := dlet_no (ptL k)[i]; rw [e]; omega
theorem rstr_q {k : Int} (h : 1 ≤ k ∧ k ≤ 15) : ¬ (rstr k).toList = (⟨#[63]⟩ : ByteArray).toList := by
  rcases (show k = 1 ∨ k = 2 ∨ k = 3 ∨ k = 4 ∨ k = 5 ∨ k = 6 ∨ k = 7 ∨ k = 8 ∨ k = 9 ∨ k = 10 ∨ k = 11 ∨ k = 12 ∨ k = 13 ∨ k = 14 ∨ k = 15 by omega) with e | e | e | e | e | e | e | e | e | e | e | e | e | e | e <;> subst e <;> decide +kernel
theorem rstr_n {k : Int} (h : ¬ (1 ≤ k ∧ k ≤ 15)) : rstr k = (⟨#[63]⟩ : ByteArray) := by unfold rstr rL; rw [if_neg h]
theorem cS_all {l : List Int} : chkF chkSt l = 0 := by
  induction l with
  | nil => rfl
  | cons x r ih => unfold chkF; rw [if_neg (by simp [chkSt])]; exact ih

set_option maxRecDepth 100000 in
theorem rmParts_any (k : Int) (w : World)  :
    Calls Try.prog 25 #[.int .i64 k] w fun e w' => e = .returned (.string (rstr k)) ∧ Below w.heap.size w w' := by
 have hB0 := Below.refl w.heap.size w;refine co_enter (n := 31) Try.func25 rfl rfl rfl [(0, .int .i64 k)] rfl (fun a s => ?_);refine q2 ?_;refine pk0 (v := .string (⟨#[]⟩)) s rfl fun _ s => q6 ?_;refine pk0 (v := .int .i64 k) s rfl fun _ s => q1 <| wp_block <| q2 ?_;refine pk0 (v := .bool (k == 1)) s rfl fun _ s => ?_;refine pk0 (v := .bool (k == 1)) s rfl fun _ s => q1 ?_;cases hc5 : (k == 1)
 ·
  rw [hc5] at s;have hp6 : ¬ (k = 1) := by first | simpa using hc5 | simpa [and_assoc] using hc5
  refine co_false s rfl <| q2 ?_;refine pk0 (v := .bool (k == 2)) s rfl fun _ s => ?_;refine pk0 (v := .bool (k == 2)) s rfl fun _ s => q1 ?_;cases hc9 : (k == 2)
  ·
   rw [hc9] at s;have hp10 : ¬ (k = 2) := by first | simpa using hc9 | simpa [and_assoc] using hc9
   refine co_false s rfl <| q2 ?_;refine pk0 (v := .bool (k == 3)) s rfl fun _ s => ?_;refine pk0 (v := .bool (k == 3)) s rfl fun _ s => q1 ?_;cases hc13 : (k == 3)
   ·
    rw [hc13] at s;have hp14 : ¬ (k = 3) := by first | simpa using hc13 | simpa [and_assoc] using hc13
    refine co_false s rfl <| q2 ?_;refine pk0 (v := .bool (k == 4)) s rfl fun _ s => ?_;refine pk0 (v := .bool (k == 4)) s rfl fun _ s => q1 ?_;cases hc17 : (k == 4)
    ·
     rw [hc17] at s;have hp18 : ¬ (k = 4) := by first | simpa using hc17 | simpa [and_assoc] using hc17
     refine co_false s rfl <| q2 ?_;refine pk0 (v := .bool (k == 5)) s rfl fun _ s => ?_;refine pk0 (v := .bool (k == 5)) s rfl fun _ s => q1 ?_;cases hc21 : (k == 5)
     ·
      rw [hc21] at s;have hp22 : ¬ (k = 5) := by first | simpa using hc21 | simpa [and_assoc] using hc21
      refine co_false s rfl <| q9 ?_;refine pk0 (v := .bool (k == 6)) s rfl fun _ s => ?_;refine pk0 (v := .bool (k == 6)) s rfl fun _ s => q1 ?_;cases hc25 : (k == 6)
      ·
       rw [hc25] at s;have hp26 : ¬ (k = 6) := by first | simpa using hc25 | simpa [and_assoc] using hc25
       refine co_false s rfl <| co_reg ?_;refine pk0 (v := .bool (k == 11)) s rfl fun _ s => ?_;refine pk0 (v := .bool (k == 11)) s rfl fun _ s => q1 ?_;cases hc29 : (k == 11)
       ·
        rw [hc29] at s;have hp30 : ¬ (k = 11) := by first | simpa using hc29 | simpa [and_assoc] using hc29
        refine co_false s rfl <| q2 ?_;refine pk0 (v := .bool (k == 7)) s rfl fun _ s => ?_;refine pk0 (v := .bool (k == 7)) s rfl fun _ s => q1 ?_;cases hc33 : (k == 7)
        ·
         rw [hc33] at s;have hp34 : ¬ (k = 7) := by first | simpa using hc33 | simpa [and_assoc] using hc33
         refine co_false s rfl <| q2 ?_;refine pk0 (v := .bool (k == 8)) s rfl fun _ s => ?_;refine pk0 (v := .bool (k == 8)) s rfl fun _ s => q1 ?_;cases hc37 : (k == 8)
         ·
          rw [hc37] at s;have hp38 : ¬ (k = 8) := by first | simpa using hc37 | simpa [and_assoc] using hc37
          refine co_false s rfl <| q2 ?_;refine pk0 (v := .bool (k == 9)) s rfl fun _ s => ?_;refine pk0 (v := .bool (k == 9)) s rfl fun _ s => q1 ?_;cases hc41 : (k == 9)
          ·
           rw [hc41] at s;have hp42 : ¬ (k = 9) := by first | simpa using hc41 | simpa [and_assoc] using hc41
           refine co_false s rfl <| q2 ?_;refine pk0 (v := .bool (k == 10)) s rfl fun _ s => ?_;refine pk0 (v := .bool (k == 10)) s rfl fun _ s => q1 ?_;cases hc45 : (k == 10)
           ·
            rw [hc45] at s;have hp46 : ¬ (k = 10) := by first | simpa using hc45 | simpa [and_assoc] using hc45
            refine co_false s rfl <| q9 ?_;refine pk0 (v := .bool (k == 12)) s rfl fun _ s => ?_;refine pk0 (v := .bool (k == 12)) s rfl fun _ s => q1 ?_;cases hc49 : (k == 12)
            ·
             rw [hc49] at s;have hp50 : ¬ (k = 12) := by first | simpa using hc49 | simpa [and_assoc] using hc49
             refine co_false s rfl <| q2 ?_;refine pk0 (v := .bool (k == 13)) s rfl fun _ s => ?_;refine pk0 (v := .bool (k == 13)) s rfl fun _ s => q1 ?_;cases hc53 : (k == 13)
             ·
              rw [hc53] at s;have hp54 : ¬ (k = 13) := by first | simpa using hc53 | simpa [and_assoc] using hc53
              refine co_false s rfl <| co_reg ?_;refine pk0 (v := .bool (k == 14)) s rfl fun _ s => ?_;refine pk0 (v := .bool (k == 14)) s rfl fun _ s => q1 ?_;cases hc57 : (k == 14)
              ·
               rw [hc57] at s;have hp58 : ¬ (k = 14) := by first | simpa using hc57 | simpa [and_assoc] using hc57
               refine co_false s rfl <| q2 ?_;refine pk0 (v := .bool (k == 15)) s rfl fun _ s => ?_;refine pk0 (v := .bool (k == 15)) s rfl fun _ s => q1 ?_;cases hc61 : (k == 15)
               ·
                rw [hc61] at s;have hp62 : ¬ (k = 15) := by first | simpa using hc61 | simpa [and_assoc] using hc61
                refine co_false s rfl <| wp_skip <| co_blockN <| co_then <| q2 ?_;refine pk0 (v := .string (⟨#[63]⟩)) s rfl fun _ s => q4 ?_;refine co_ret1 s rfl rfl ?_;exact ⟨by rw [rstr_n (by omega)], hB0⟩
               rw [hc61] at s;have hp64 : k = 15 := by first | simpa using hc61 | simpa [and_assoc] using hc61
               refine co_true s rfl <| q2 ?_;refine pk0 (v := .string (⟨#[]⟩)) s rfl fun _ s => q4 <| qr ?_;refine co_ret1 s rfl rfl ?_;exact ⟨by rw [show k = 15 by omega]; rfl, hB0⟩
              rw [hc57] at s;have hp66 : k = 14 := by first | simpa using hc57 | simpa [and_assoc] using hc57
              refine co_true s rfl <| q2 ?_;refine pk0 (v := .string (⟨#[114, 110]⟩)) s rfl fun _ s => q4 <| qr ?_;refine co_ret1 s rfl rfl ?_;exact ⟨by rw [show k = 14 by omega]; rfl, hB0⟩
             rw [hc53] at s;have hp68 : k = 13 := by first | simpa using hc53 | simpa [and_assoc] using hc53
             refine co_true s rfl <| q0 ?_;refine co_true s rfl <| q2 ?_;refine pk0 (v := .string (⟨#[114, 110]⟩)) s rfl fun _ s => q4 <| qr ?_;refine co_ret1 s rfl rfl ?_;exact ⟨by rw [show k = 13 by omega]; rfl, hB0⟩
            rw [hc49] at s;have hp70 : k = 12 := by first | simpa using hc49 | simpa [and_assoc] using hc49
            refine co_true s rfl <| q0 ?_;refine co_true s rfl <| q2 ?_;refine pk0 (v := .string (⟨#[114, 110]⟩)) s rfl fun _ s => q4 <| qr ?_;refine co_ret1 s rfl rfl ?_;exact ⟨by rw [show k = 12 by omega]; rfl, hB0⟩
           rw [hc45] at s;have hp72 : k = 10 := by first | simpa using hc45 | simpa [and_assoc] using hc45
           refine co_true s rfl <| q2 ?_;refine pk0 (v := .string (⟨#[114, 107, 97, 102, 82]⟩)) s rfl fun _ s => q4 <| qr ?_;refine co_ret1 s rfl rfl ?_;exact ⟨by rw [show k = 10 by omega]; rfl, hB0⟩
          rw [hc41] at s;have hp74 : k = 9 := by first | simpa using hc41 | simpa [and_assoc] using hc41
          refine co_true s rfl <| q2 ?_;refine pk0 (v := .string (⟨#[114, 107, 116, 97, 110]⟩)) s rfl fun _ s => q4 <| qr ?_;refine co_ret1 s rfl rfl ?_;exact ⟨by rw [show k = 9 by omega]; rfl, hB0⟩
         rw [hc37] at s;have hp76 : k = 8 := by first | simpa using hc37 | simpa [and_assoc] using hc37
         refine co_true s rfl <| q2 ?_;refine pk0 (v := .string (⟨#[114, 107, 97]⟩)) s rfl fun _ s => q4 <| qr ?_;refine co_ret1 s rfl rfl ?_;exact ⟨by rw [show k = 8 by omega]; rfl, hB0⟩
        rw [hc33] at s;have hp78 : k = 7 := by first | simpa using hc33 | simpa [and_assoc] using hc33
        refine co_true s rfl <| q2 ?_;refine pk0 (v := .string (⟨#[114, 120, 101, 110]⟩)) s rfl fun _ s => q4 <| qr ?_;refine co_ret1 s rfl rfl ?_;exact ⟨by rw [show k = 7 by omega]; rfl, hB0⟩
       rw [hc29] at s;have hp80 : k = 11 := by first | simpa using hc29 | simpa [and_assoc] using hc29
       refine co_true s rfl <| q2 ?_;refine pk0 (v := .string (⟨#[114, 97]⟩)) s rfl fun _ s => q4 <| qr ?_;refine co_ret1 s rfl rfl ?_;exact ⟨by rw [show k = 11 by omega]; rfl, hB0⟩
      rw [hc25] at s;have hp82 : k = 6 := by first | simpa using hc25 | simpa [and_assoc] using hc25
      refine co_true s rfl <| q0 ?_;refine co_true s rfl <| q2 ?_;refine pk0 (v := .string (⟨#[114, 97]⟩)) s rfl fun _ s => q4 <| qr ?_;refine co_ret1 s rfl rfl ?_;exact ⟨by rw [show k = 6 by omega]; rfl, hB0⟩
     rw [hc21] at s;have hp84 : k = 5 := by first | simpa using hc21 | simpa [and_assoc] using hc21
     refine co_true s rfl <| q2 ?_;refine pk0 (v := .string (⟨#[101, 66]⟩)) s rfl fun _ s => q4 <| qr ?_;refine co_ret1 s rfl rfl ?_;exact ⟨by rw [show k = 5 by omega]; rfl, hB0⟩
    rw [hc17] at s;have hp86 : k = 4 := by first | simpa using hc17 | simpa [and_assoc] using hc17
    refine co_true s rfl <| q2 ?_;refine pk0 (v := .string (⟨#[101, 110, 109, 112, 83]⟩)) s rfl fun _ s => q4 <| qr ?_;refine co_ret1 s rfl rfl ?_;exact ⟨by rw [show k = 4 by omega]; rfl, hB0⟩
   rw [hc13] at s;have hp88 : k = 3 := by first | simpa using hc13 | simpa [and_assoc] using hc13
   refine co_true s rfl <| q2 ?_;refine pk0 (v := .string (⟨#[101, 110, 109, 112, 114, 97, 69]⟩)) s rfl fun _ s => q4 <| qr ?_;refine co_ret1 s rfl rfl ?_;exact ⟨by rw [show k = 3 by omega]; rfl, hB0⟩
  rw [hc9] at s;have hp90 : k = 2 := by first | simpa using hc9 | simpa [and_assoc] using hc9
  refine co_true s rfl <| q2 ?_;refine pk0 (v := .string (⟨#[101, 115, 102, 97, 108]⟩)) s rfl fun _ s => q4 <| qr ?_;refine co_ret1 s rfl rfl ?_;exact ⟨by rw [show k = 2 by omega]; rfl, hB0⟩
 rw [hc5] at s;have hp92 : k = 1 := by first | simpa using hc5 | simpa [and_assoc] using hc5
 refine co_true s rfl <| q2 ?_;refine pk0 (v := .string (⟨#[67, 97]⟩)) s rfl fun _ s => q4 <| qr ?_;refine co_ret1 s rfl rfl ?_;exact ⟨by rw [show k = 1 by omega]; rfl, hB0⟩
set_option maxRecDepth 100000 in
theorem rmNumber_any (d : MsgD) (mv : Value) (bv : Value) (ev : Value) (sv : Value) (pv : Value) (c : Int) (w : World) (hm : SliceOf memE 2 w mv d.cms) (hb : SliceOf opE 3 w bv d.bl) (he : SliceOf entE 4 w ev d.en) (ht : SliceOf (intE .u64) 1 w sv d.st) (hp : SliceOf prE 2 w pv d.pr) (hnl : c = 101 ∨ c = 115 ∨ c = 114 ∨ c = 110 ∨ c = 109 ∨ c = 112) :
    Calls Try.prog 34 #[.agg #[.int .i64 d.k, .int .i64 d.ep, .int .i64 d.rq, .int .i64 d.sr, .bool d.fg, .int .u64 d.at_, .int .u64 d.la, .int .i64 d.n, .int .i64 d.m, .int .i64 d.p, .int .i64 d.e, .string d.key, .string d.to_, .int .i64 d.cep, mv, .int .u64 d.cfl, .int .i64 d.bc, .int .i64 d.br, bv, ev, sv, pv], .int .u8 c] w fun e w' => e = .returned (.int .i64 (numP d (plet c))) ∧ Below w.heap.size w w' := by
 have hpl : (c = 114 → plet c = 113) ∧ (c = 69 → plet c = 76) ∧ (c ≠ 114 ∧ c ≠ 69 → plet c = c) := ⟨pl_114, pl_69, fun h => pl_o h.1 h.2⟩;have hB0 := Below.refl w.heap.size w;have hl_hm := sl_len hm;have hl_hb := sl_len hb;have hl_he := sl_len he;have hl_ht := sl_len ht;have hl_hp := sl_len hp;refine co_enter (n := 28) Try.func34 rfl rfl rfl [(0, .agg #[.int .i64 d.k, .int .i64 d.ep, .int .i64 d.rq, .int .i64 d.sr, .bool d.fg, .int .u64 d.at_, .int .u64 d.la, .int .i64 d.n, .int .i64 d.m, .int .i64 d.p, .int .i64 d.e, .string d.key, .string d.to_, .int .i64 d.cep, mv, .int .u64 d.cfl, .int .i64 d.bc, .int .i64 d.br, bv, ev, sv, pv]), (1, .int .u8 c)] rfl (fun a s => ?_);refine q2 ?_;refine pw s rfl (op_new (v := fun N => pt N 0) (T := 46) (cs := #[.int .i64 d.k, .int .i64 d.ep, .int .i64 d.rq, .int .i64 d.sr, .bool d.fg, .int .u64 d.at_, .int .u64 d.la, .int .i64 d.n, .int .i64 d.m, .int .i64 d.p, .int .i64 d.e, .string d.key, .string d.to_, .int .i64 d.cep, mv, .int .u64 d.cfl, .int .i64 d.bc, .int .i64 d.br, bv, ev, sv, pv]) (by kernel_rfl) (by kernel_rfl) (by kernel_rfl)) ?_;rintro _ w2 a1 ⟨N3, rfl, hN6, hz7, hk5, hg4⟩ s;have hz8 := hg4.size
 try dsimp only at s
 refine pk0 (v := .int .i64 0) s rfl fun _ s => q6 ?_;refine pk0 (v := .int .u8 c) s rfl fun _ s => q1 <| wp_block <| q2 ?_;refine pk0 (v := .bool (c == 101)) s rfl fun _ s => ?_;refine pk0 (v := .bool (c == 101)) s rfl fun _ s => q1 ?_;have hB14 := hb_new hB0 hg4;cases hc13 : (c == 101)
 ·
  rw [hc13] at s;have hp15 : ¬ (c = 101) := by first | simpa using hc13 | simpa [and_assoc] using hc13
  refine co_false s rfl <| q2 ?_;refine pk0 (v := .bool (c == 115)) s rfl fun _ s => ?_;refine pk0 (v := .bool (c == 115)) s rfl fun _ s => q1 ?_;cases hc18 : (c == 115)
  ·
   rw [hc18] at s;have hp19 : ¬ (c = 115) := by first | simpa using hc18 | simpa [and_assoc] using hc18
   refine co_false s rfl <| q2 ?_;refine pk0 (v := .bool (c == 114)) s rfl fun _ s => ?_;refine pk0 (v := .bool (c == 114)) s rfl fun _ s => q1 ?_;cases hc22 : (c == 114)
   ·
    rw [hc22] at s;have hp23 : ¬ (c = 114) := by first | simpa using hc22 | simpa [and_assoc] using hc22
    refine co_false s rfl <| q2 ?_;refine pk0 (v := .bool (c == 110)) s rfl fun _ s => ?_;refine pk0 (v := .bool (c == 110)) s rfl fun _ s => q1 ?_;cases hc26 : (c == 110)
    ·
     rw [hc26] at s;have hp27 : ¬ (c = 110) := by first | simpa using hc26 | simpa [and_assoc] using hc26
     refine co_false s rfl <| q2 ?_;refine pk0 (v := .bool (c == 109)) s rfl fun _ s => ?_;refine pk0 (v := .bool (c == 109)) s rfl fun _ s => q1 ?_;cases hc30 : (c == 109)
     ·
      rw [hc30] at s;have hp31 : ¬ (c = 109) := by first | simpa using hc30 | simpa [and_assoc] using hc30
      refine co_false s rfl <| wp_skip <| co_blockN <| co_then <| q2 ?_;refine pk0 (v := pt N3 9) s rfl fun _ s => ?_;refine pk (v := .int .i64 d.p) s rfl (rn_load1 rfl rfl Try.isAgg3 (hk5.cell rfl)) fun _ s => ?_;refine pk0 (v := .int .i64 d.p) s rfl fun _ s => q4 ?_;refine co_ret1 s rfl rfl ?_;exact ⟨ret_int (np_6 (by omega)), hB14⟩
     rw [hc30] at s;have hp35 : c = 109 := by first | simpa using hc30 | simpa [and_assoc] using hc30
     refine co_true s rfl <| q2 ?_;refine pk0 (v := pt N3 8) s rfl fun _ s => ?_;refine pk (v := .int .i64 d.m) s rfl (rn_load1 rfl rfl Try.isAgg3 (hk5.cell rfl)) fun _ s => ?_;refine pk0 (v := .int .i64 d.m) s rfl fun _ s => q4 <| qr ?_;refine co_ret1 s rfl rfl ?_;exact ⟨ret_int (np_5 (by omega)), hB14⟩
    rw [hc26] at s;have hp39 : c = 110 := by first | simpa using hc26 | simpa [and_assoc] using hc26
    refine co_true s rfl <| q2 ?_;refine pk0 (v := pt N3 7) s rfl fun _ s => ?_;refine pk (v := .int .i64 d.n) s rfl (rn_load1 rfl rfl Try.isAgg3 (hk5.cell rfl)) fun _ s => ?_;refine pk0 (v := .int .i64 d.n) s rfl fun _ s => q4 <| qr ?_;refine co_ret1 s rfl rfl ?_;exact ⟨ret_int (np_4 (by omega)), hB14⟩
   rw [hc22] at s;have hp43 : c = 114 := by first | simpa using hc22 | simpa [and_assoc] using hc22
   refine co_true s rfl <| q2 ?_;refine pk0 (v := pt N3 2) s rfl fun _ s => ?_;refine pk (v := .int .i64 d.rq) s rfl (rn_load1 rfl rfl Try.isAgg3 (hk5.cell rfl)) fun _ s => ?_;refine pk0 (v := .int .i64 d.rq) s rfl fun _ s => q4 <| qr ?_;refine co_ret1 s rfl rfl ?_;exact ⟨ret_int (np_3 (by omega)), hB14⟩
  rw [hc18] at s;have hp47 : c = 115 := by first | simpa using hc18 | simpa [and_assoc] using hc18
  refine co_true s rfl <| q2 ?_;refine pk0 (v := pt N3 3) s rfl fun _ s => ?_;refine pk (v := .int .i64 d.sr) s rfl (rn_load1 rfl rfl Try.isAgg3 (hk5.cell rfl)) fun _ s => ?_;refine pk0 (v := .int .i64 d.sr) s rfl fun _ s => q4 <| qr ?_;refine co_ret1 s rfl rfl ?_;exact ⟨ret_int (np_2 (by omega)), hB14⟩
 rw [hc13] at s;have hp51 : c = 101 := by first | simpa using hc13 | simpa [and_assoc] using hc13
 refine co_true s rfl <| q2 ?_;refine pk0 (v := pt N3 1) s rfl fun _ s => ?_;refine pk (v := .int .i64 d.ep) s rfl (rn_load1 rfl rfl Try.isAgg3 (hk5.cell rfl)) fun _ s => ?_;refine pk0 (v := .int .i64 d.ep) s rfl fun _ s => q4 <| qr ?_;refine co_ret1 s rfl rfl ?_;exact ⟨ret_int (np_1 (by omega)), hB14⟩
set_option maxRecDepth 100000 in
theorem rmPairs_any (v : Value) (l : List PrT) (w : World) (hs : SliceOf prE 2 w v l) :
    Calls Try.prog 38 #[v] w fun e w' => e = .returned (.int .i64 (chkLs 32 chkPair l)) ∧ Below w.heap.size w w' := by
 have hB0 := Below.refl w.heap.size w;have hl_hs := sl_len hs;refine co_enter (n := 27) Try.func38 rfl rfl rfl [(0, v)] rfl (fun a s => ?_);refine q2 ?_;refine pk0 (v := .int .i64 0) s rfl fun _ s => q6 ?_;refine pk0 (v := v) s rfl fun _ s => ?_;refine pk (v := .int .i64 (l.length : Int)) s rfl (rn_len rfl rfl Try.underlying33 hs) fun _ s => ?_;refine pk0 (v := .bool (decide ((l.length : Int) > 32))) s rfl fun _ s => q1 ?_;cases hc5 : (decide ((l.length : Int) > 32))
 ·
  rw [hc5] at s;have hp6 : ¬ ((l.length : Int) > 32) := of_decide_eq_false hc5;refine co_false s rfl <| q8 ?_;refine pk0 (v := .int .i64 0) s rfl fun _ s => q1 <| wp_block ?_;have s : Slots 27 [(0, v), (2, .int .i64 0), (3, .int .i64 0)] _ := s.sub ⟨rfl, rfl, rfl, trivial⟩;refine co_loop (fun mm a x => ∃ (i : Nat), Slots 27 [(0, v), (2, .int .i64 0), (3, .int .i64 (i : Int))] a ∧ mm = l.length - i ∧ (i ≤ l.length) ∧ (chkF chkPair (l.drop i) = chkF chkPair l) ∧ Below w.heap.size w x) (l.length - 0) ?_ ?_
  · exact ⟨0, s.sub ⟨rfl, rfl, (slot_eq rfl (congrArg (Value.int .i64) (by first | rfl | omega))), trivial⟩, rfl, by omega, by first | rfl | exact hL', hB0⟩
  · rintro k9 a10 w11 ⟨i, s, rfl, hi12, hi13, hB14⟩
    have hz15 := hB14.size;have hL : chkF chkPair (l.drop i) = chkF chkPair l := by assumption
    refine q9 ?_;refine pk0 (v := .int .i64 (i : Int)) s rfl fun _ s => ?_;refine pk0 (v := v) s rfl fun _ s => ?_;refine pk (v := .int .i64 (l.length : Int)) s rfl (rn_len rfl rfl Try.underlying33 (hs.below hB14)) fun _ s => ?_;refine pk0 (v := .bool (decide ((i : Int) < (l.length : Int)))) s rfl fun _ s => q1 ?_;cases hc20 : (decide ((i : Int) < (l.length : Int)))
    ·
     rw [hc20] at s;have hp21 : ¬ ((i : Int) < (l.length : Int)) := of_decide_eq_false hc20;refine co_false s rfl <| wp_exit <| co_thenX <| co_thenX <| qx <| q2 ?_;refine pk0 (v := .int .i64 0) s rfl fun _ s => q4 ?_;refine co_ret1 s rfl rfl ?_;exact ⟨ret_int (by unfold chkLs; rw [if_neg (by omega)]; exact cF_end (i := i) hL (by omega)), hB14⟩
    rw [hc20] at s;have hp23 : (i : Int) < (l.length : Int) := of_decide_eq_true hc20;refine co_true s rfl <| q0 <| co_seq <| wp_block <| q9 ?_;refine pk0 (v := v) s rfl fun _ s => ?_;refine pk0 (v := .int .i64 (i : Int)) s rfl fun _ s => ?_;obtain ⟨y26, hy26⟩ : ∃ z, l[i]? = some z := ⟨_, List.getElem?_eq_getElem (by first | omega | (simp; done) | (simp; omega))⟩;refine pk (v := pt (blkOf v) (offOf v + i * 2)) s rfl (rn_index rfl rfl rfl Try.underlying33 Try.sizeOf57 (hs.below hB14) (by omega) (by first | omega | (simp; done) | (simp; omega))) fun _ s => ?_;refine pk0 (v := pt (blkOf v) (offOf v + i * 2)) s rfl fun _ s => ?_;refine pk (v := .string y26.1) s rfl (rn_load1 rfl rfl Try.isAgg9 ((sl_at (hs.below hB14) hy26) 0 _ rfl)) fun _ s => ?_;refine pw s rfl (op_call (args := #[.string y26.1]) (R := fun res xw => res = .int .i64 (keyC y26.1) ∧ Below w11.heap.size w11 xw) rfl rfl rfl (by kernel_rfl) (by kernel_rfl) (Try.call15 _ _) (rKey_any y26.1 w11 ) (by rintro e x ⟨rfl, hb32⟩; exact ⟨_, rfl, ⟨rfl, hb32⟩⟩)) ?_;rintro _ w31 a30 ⟨rfl, hb32⟩ s;have hz33 := hb32.size;refine pk0 (v := .bool (keyC y26.1 != 0)) s rfl fun _ s => q1 ?_;have hB36 := hb_call hB14 hb32;cases hc35 : (keyC y26.1 != 0)
    ·
     rw [hc35] at s;have hp37 : ¬ (keyC y26.1 ≠ 0) := by first | simpa using hc35 | simpa [and_assoc] using hc35
     refine co_false s rfl <| q7 ?_;refine pk0 (v := v) s rfl fun _ s => ?_;refine pk0 (v := .int .i64 (i : Int)) s rfl fun _ s => ?_;refine pk (v := pt (blkOf v) (offOf v + i * 2)) s rfl (rn_index rfl rfl rfl Try.underlying33 Try.sizeOf57 (hs.below hB36) (by omega) (by first | omega | (simp; done) | (simp; omega))) fun _ s => ?_;refine pk0 (v := pt (blkOf v) (offOf v + i * 2 + 1)) s rfl fun _ s => ?_;refine pk (v := .string y26.2) s rfl (rn_load1 rfl rfl Try.isAgg9 ((sl_at (hs.below hB36) hy26) 1 _ rfl)) fun _ s => ?_;refine pk (v := .int .i64 (y26.2.size : Int)) s rfl (rn_lenStr rfl rfl Try.underlying9) fun _ s => ?_;refine pk0 (v := .bool (decide ((y26.2.size : Int) > 8))) s rfl fun _ s => q1 ?_;cases hc45 : (decide ((y26.2.size : Int) > 8))
     ·
      rw [hc45] at s;have hp46 : ¬ ((y26.2.size : Int) > 8) := of_decide_eq_false hc45;refine co_false s rfl <| wp_skip <| co_blockN <| co_then <| co_reg ?_;refine pk0 (v := .int .i64 (i : Int)) s rfl fun _ s => ?_;refine pk (v := .int .i64 ((i + 1 : Nat) : Int)) s rfl (rn_arith' rfl rfl rfl rfl rfl rfl (IntWalk.i64_in _ (by omega)) (by omega)) fun _ s => ?_;refine pk0 (v := .int .i64 ((i + 1 : Nat) : Int)) s rfl fun _ s => q1 ?_;refine ⟨(l.length - (i + 1)), by omega, ?_⟩;have hbd : 0 = chkPair y26 := by unfold chkPair keyC at *; repeat' split; all_goals omega
      have hL' := cF_step (f := chkPair) hL hy26 hbd.symm;exact ⟨i + 1, s.sub ⟨rfl, rfl, rfl, trivial⟩, rfl, by omega, by first | rfl | exact hL', hB36⟩
     rw [hc45] at s;have hp50 : (y26.2.size : Int) > 8 := of_decide_eq_true hc45;refine co_true s rfl <| q2 ?_;refine pk0 (v := .int .i64 3) s rfl fun _ s => q4 <| qr <| co_thenR <| qr ?_;refine co_ret1 s rfl rfl ?_;have hbd : 3 = chkPair y26 := by unfold chkPair keyC at *; repeat' split; all_goals omega
     exact ⟨ret_int (by unfold chkLs; rw [if_neg (by omega), hbd]; exact cF_bad (f := chkPair) (i := i) hL hy26 (by omega)), hB36⟩
    rw [hc35] at s;have hp52 : keyC y26.1 ≠ 0 := by first | simpa using hc35 | simpa [and_assoc] using hc35
    refine co_true s rfl <| q2 ?_;refine pk0 (v := .int .i64 10) s rfl fun _ s => q5 <| qr <| co_thenR <| qr ?_;refine co_ret1 s rfl rfl ?_;have hbd : 10 = chkPair y26 := by unfold chkPair keyC at *; repeat' split; all_goals omega
    exact ⟨ret_int (by unfold chkLs; rw [if_neg (by omega), hbd]; exact cF_bad (f := chkPair) (i := i) hL hy26 (by omega)), hB36⟩
 rw [hc5] at s;have hp54 : (l.length : Int) > 32 := of_decide_eq_true hc5;refine co_true s rfl <| q2 ?_;refine pk0 (v := .int .i64 6) s rfl fun _ s => q5 ?_;refine co_ret1 s rfl rfl ?_;exact ⟨ret_int (by unfold chkLs; rw [if_pos (by omega)]), hB0⟩
set_option maxRecDepth 100000 in
theorem rmEntries_any (v : Value) (l : List EntT) (w : World) (hs : SliceOf entE 4 w v l) (hok : ∀ z ∈ l, EntOk w z) :
    Calls Try.prog 37 #[v] w fun e w' => e = .returned (.int .i64 (chkLs 4 chkEn l)) ∧ Below w.heap.size w w' := by
 have hB0 := Below.refl w.heap.size w;have hl_hs := sl_len hs;refine co_enter (n := 22) Try.func37 rfl rfl rfl [(0, v)] rfl (fun a s => ?_);refine q2 ?_;refine pk0 (v := .int .i64 0) s rfl fun _ s => q6 ?_;refine pk0 (v := v) s rfl fun _ s => ?_;refine pk (v := .int .i64 (l.length : Int)) s rfl (rn_len rfl rfl Try.underlying43 hs) fun _ s => ?_;refine pk0 (v := .bool (decide ((l.length : Int) > 4))) s rfl fun _ s => q1 ?_;cases hc5 : (decide ((l.length : Int) > 4))
 ·
  rw [hc5] at s;have hp6 : ¬ ((l.length : Int) > 4) := of_decide_eq_false hc5;refine co_false s rfl <| q8 ?_;refine pk0 (v := .int .i64 0) s rfl fun _ s => q1 <| wp_block ?_;have s : Slots 22 [(0, v), (2, .int .i64 0), (3, .int .i64 0)] _ := s.sub ⟨rfl, rfl, rfl, trivial⟩;refine co_loop (fun mm a x => ∃ (i : Nat), Slots 22 [(0, v), (2, .int .i64 0), (3, .int .i64 (i : Int))] a ∧ mm = l.length - i ∧ (i ≤ l.length) ∧ (chkF chkEn (l.drop i) = chkF chkEn l) ∧ Below w.heap.size w x) (l.length - 0) ?_ ?_
  · exact ⟨0, s.sub ⟨rfl, rfl, (slot_eq rfl (congrArg (Value.int .i64) (by first | rfl | omega))), trivial⟩, rfl, by omega, by first | rfl | exact hL', hB0⟩
  · rintro k9 a10 w11 ⟨i, s, rfl, hi12, hi13, hB14⟩
    have hz15 := hB14.size;have hL : chkF chkEn (l.drop i) = chkF chkEn l := by assumption
    refine q9 ?_;refine pk0 (v := .int .i64 (i : Int)) s rfl fun _ s => ?_;refine pk0 (v := v) s rfl fun _ s => ?_;refine pk (v := .int .i64 (l.length : Int)) s rfl (rn_len rfl rfl Try.underlying43 (hs.below hB14)) fun _ s => ?_;refine pk0 (v := .bool (decide ((i : Int) < (l.length : Int)))) s rfl fun _ s => q1 ?_;cases hc20 : (decide ((i : Int) < (l.length : Int)))
    ·
     rw [hc20] at s;have hp21 : ¬ ((i : Int) < (l.length : Int)) := of_decide_eq_false hc20;refine co_false s rfl <| wp_exit <| co_thenX <| co_thenX <| qx <| q2 ?_;refine pk0 (v := .int .i64 0) s rfl fun _ s => q4 ?_;refine co_ret1 s rfl rfl ?_;exact ⟨ret_int (by unfold chkLs; rw [if_neg (by omega)]; exact cF_end (i := i) hL (by omega)), hB14⟩
    rw [hc20] at s;have hp23 : (i : Int) < (l.length : Int) := of_decide_eq_true hc20;refine co_true s rfl <| q0 <| co_seq <| wp_block <| q2 ?_;refine pk0 (v := v) s rfl fun _ s => ?_;refine pk0 (v := .int .i64 (i : Int)) s rfl fun _ s => ?_;obtain ⟨y26, hy26⟩ : ∃ z, l[i]? = some z := ⟨_, List.getElem?_eq_getElem (by first | omega | (simp; done) | (simp; omega))⟩;have oky26 := hok _ (List.mem_of_getElem? hy26);have k27 : 0 ≤ y26.ts := oky26.ts0;have k28 : y26.ts < 18446744073709551616 := oky26.ts1;refine pk (v := pt (blkOf v) (offOf v + i * 4)) s rfl (rn_index rfl rfl rfl Try.underlying43 Try.sizeOf108 (hs.below hB14) (by omega) (by first | omega | (simp; done) | (simp; omega))) fun _ s => ?_;refine pk (v := .agg #[.int .i64 y26.client, .int .i64 y26.req, y26.ops, .int .u64 y26.ts]) s rfl (rn_loadN rfl rfl Try.underlying108 rfl (by kernel_rfl) (sl_at (hs.below hB14) hy26)) fun _ s => ?_;refine pw s rfl (op_call (args := #[.agg #[.int .i64 y26.client, .int .i64 y26.req, y26.ops, .int .u64 y26.ts]]) (R := fun res xw => res = .int .i64 (chkB y26.client y26.req y26.opl) ∧ Below w11.heap.size w11 xw) rfl rfl rfl (by kernel_rfl) (by kernel_rfl) (Try.call42 _ _) (ritemCheck_any y26.client y26.req y26.ops y26.opl y26.ts w11 (oky26.ops.below hB14)) (by rintro e x ⟨rfl, hb33⟩; exact ⟨_, rfl, ⟨rfl, hb33⟩⟩)) ?_;rintro _ w32 a31 ⟨rfl, hb33⟩ s;have hz34 := hb33.size;refine pk0 (v := .int .i64 (chkB y26.client y26.req y26.opl)) s rfl fun _ s => q3 ?_;refine pk0 (v := .int .i64 (chkB y26.client y26.req y26.opl)) s rfl fun _ s => ?_;refine pk0 (v := .bool (chkB y26.client y26.req y26.opl != 0)) s rfl fun _ s => q1 ?_;have hB39 := hb_call hB14 hb33;cases hc38 : (chkB y26.client y26.req y26.opl != 0)
    ·
     rw [hc38] at s;have hp40 : ¬ (chkB y26.client y26.req y26.opl ≠ 0) := by first | simpa using hc38 | simpa [and_assoc] using hc38
     refine co_false s rfl <| wp_skip <| co_blockN <| co_then <| co_reg ?_;refine pk0 (v := .int .i64 (i : Int)) s rfl fun _ s => ?_;refine pk (v := .int .i64 ((i + 1 : Nat) : Int)) s rfl (rn_arith' rfl rfl rfl rfl rfl rfl (IntWalk.i64_in _ (by omega)) (by omega)) fun _ s => ?_;refine pk0 (v := .int .i64 ((i + 1 : Nat) : Int)) s rfl fun _ s => q1 ?_;refine ⟨(l.length - (i + 1)), by omega, ?_⟩;have hbd : 0 = chkEn y26 := by unfold chkEn; omega
     have hL' := cF_step (f := chkEn) hL hy26 hbd.symm;exact ⟨i + 1, s.sub ⟨rfl, rfl, rfl, trivial⟩, rfl, by omega, by first | rfl | exact hL', hB39⟩
    rw [hc38] at s;have hp44 : chkB y26.client y26.req y26.opl ≠ 0 := by first | simpa using hc38 | simpa [and_assoc] using hc38
    refine co_true s rfl <| q2 ?_;refine pk0 (v := .int .i64 (chkB y26.client y26.req y26.opl)) s rfl fun _ s => ?_;refine pk0 (v := .int .i64 (chkB y26.client y26.req y26.opl)) s rfl fun _ s => q4 <| qr <| co_thenR <| qr ?_;refine co_ret1 s rfl rfl ?_;have hbd : chkB y26.client y26.req y26.opl = chkEn y26 := by unfold chkEn; omega
    exact ⟨ret_int (by unfold chkLs; rw [if_neg (by omega), hbd]; exact cF_bad (f := chkEn) (i := i) hL hy26 (by omega)), hB39⟩
 rw [hc5] at s;have hp47 : (l.length : Int) > 4 := of_decide_eq_true hc5;refine co_true s rfl <| q2 ?_;refine pk0 (v := .int .i64 6) s rfl fun _ s => q5 ?_;refine co_ret1 s rfl rfl ?_;exact ⟨ret_int (by unfold chkLs; rw [if_pos (by omega)]), hB0⟩
set_option maxRecDepth 100000 in
theorem rmWrong_any (d : MsgD) (mv : Value) (bv : Value) (ev : Value) (sv : Value) (pv : Value) (c : Int) (w : World) (hm : SliceOf memE 2 w mv d.cms) (hb : SliceOf opE 3 w bv d.bl) (he : SliceOf entE 4 w ev d.en) (ht : SliceOf (intE .u64) 1 w sv d.st) (hp : SliceOf prE 2 w pv d.pr) (hok : ∀ z ∈ d.en, EntOk w z) (hR : MsgR d) (hc : c ≠ 113 ∧ c ≠ 76) :
    Calls Try.prog 26 #[.agg #[.int .i64 d.k, .int .i64 d.ep, .int .i64 d.rq, .int .i64 d.sr, .bool d.fg, .int .u64 d.at_, .int .u64 d.la, .int .i64 d.n, .int .i64 d.m, .int .i64 d.p, .int .i64 d.e, .string d.key, .string d.to_, .int .i64 d.cep, mv, .int .u64 d.cfl, .int .i64 d.bc, .int .i64 d.br, bv, ev, sv, pv], .int .u8 c] w fun e w' => e = .returned (.int .i64 (chkP d (plet c))) ∧ Below w.heap.size w w' := by
 have hrng := hR.rng;have hpl : (c = 114 → plet c = 113) ∧ (c = 69 → plet c = 76) ∧ (c ≠ 114 ∧ c ≠ 69 → plet c = c) := ⟨pl_114, pl_69, fun h => pl_o h.1 h.2⟩;have hB0 := Below.refl w.heap.size w;have hl_hm := sl_len hm;have hl_hb := sl_len hb;have hl_he := sl_len he;have hl_ht := sl_len ht;have hl_hp := sl_len hp;refine co_enter (n := 71) Try.func26 rfl rfl rfl [(0, .agg #[.int .i64 d.k, .int .i64 d.ep, .int .i64 d.rq, .int .i64 d.sr, .bool d.fg, .int .u64 d.at_, .int .u64 d.la, .int .i64 d.n, .int .i64 d.m, .int .i64 d.p, .int .i64 d.e, .string d.key, .string d.to_, .int .i64 d.cep, mv, .int .u64 d.cfl, .int .i64 d.bc, .int .i64 d.br, bv, ev, sv, pv]), (1, .int .u8 c)] rfl (fun a s => ?_);refine q2 ?_;refine pw s rfl (op_new (v := fun N => pt N 0) (T := 46) (cs := #[.int .i64 d.k, .int .i64 d.ep, .int .i64 d.rq, .int .i64 d.sr, .bool d.fg, .int .u64 d.at_, .int .u64 d.la, .int .i64 d.n, .int .i64 d.m, .int .i64 d.p, .int .i64 d.e, .string d.key, .string d.to_, .int .i64 d.cep, mv, .int .u64 d.cfl, .int .i64 d.bc, .int .i64 d.br, bv, ev, sv, pv]) (by kernel_rfl) (by kernel_rfl) (by kernel_rfl)) ?_;rintro _ w2 a1 ⟨N3, rfl, hN6, hz7, hk5, hg4⟩ s;have hz8 := hg4.size
 try dsimp only at s
 refine pk0 (v := .int .i64 0) s rfl fun _ s => q6 ?_;refine pk0 (v := .int .u8 c) s rfl fun _ s => q1 <| wp_block <| q9 ?_;refine pk0 (v := .bool (c == 101)) s rfl fun _ s => ?_;refine pk0 (v := .bool (c == 101)) s rfl fun _ s => q1 ?_;have hB14 := hb_new hB0 hg4;cases hc13 : (c == 101)
 ·
  rw [hc13] at s;have hp15 : ¬ (c = 101) := by first | simpa using hc13 | simpa [and_assoc] using hc13
  refine co_false s rfl <| q2 ?_;refine pk0 (v := .bool (c == 115)) s rfl fun _ s => ?_;refine pk0 (v := .bool (c == 115)) s rfl fun _ s => q1 ?_;cases hc18 : (c == 115)
  ·
   rw [hc18] at s;have hp19 : ¬ (c = 115) := by first | simpa using hc18 | simpa [and_assoc] using hc18
   refine co_false s rfl <| q2 ?_;refine pk0 (v := .bool (c == 114)) s rfl fun _ s => ?_;refine pk0 (v := .bool (c == 114)) s rfl fun _ s => q1 ?_;cases hc22 : (c == 114)
   ·
    rw [hc22] at s;have hp23 : ¬ (c = 114) := by first | simpa using hc22 | simpa [and_assoc] using hc22
    refine co_false s rfl <| q2 ?_;refine pk0 (v := .bool (c == 110)) s rfl fun _ s => ?_;refine pk0 (v := .bool (c == 110)) s rfl fun _ s => q1 ?_;cases hc26 : (c == 110)
    ·
     rw [hc26] at s;have hp27 : ¬ (c = 110) := by first | simpa using hc26 | simpa [and_assoc] using hc26
     refine co_false s rfl <| q2 ?_;refine pk0 (v := .bool (c == 109)) s rfl fun _ s => ?_;refine pk0 (v := .bool (c == 109)) s rfl fun _ s => q1 ?_;cases hc30 : (c == 109)
     ·
      rw [hc30] at s;have hp31 : ¬ (c = 109) := by first | simpa using hc30 | simpa [and_assoc] using hc30
      refine co_false s rfl <| co_reg ?_;refine pk0 (v := .bool (c == 112)) s rfl fun _ s => ?_;refine pk0 (v := .bool (c == 112)) s rfl fun _ s => q1 ?_;cases hc34 : (c == 112)
      ·
       rw [hc34] at s;have hp35 : ¬ (c = 112) := by first | simpa using hc34 | simpa [and_assoc] using hc34
       refine co_false s rfl <| q2 ?_;refine pk0 (v := .bool (c == 120)) s rfl fun _ s => ?_;refine pk0 (v := .bool (c == 120)) s rfl fun _ s => q1 ?_;cases hc38 : (c == 120)
       ·
        rw [hc38] at s;have hp39 : ¬ (c = 120) := by first | simpa using hc38 | simpa [and_assoc] using hc38
        refine co_false s rfl <| q2 ?_;refine pk0 (v := .bool (c == 107)) s rfl fun _ s => ?_;refine pk0 (v := .bool (c == 107)) s rfl fun _ s => q1 ?_;cases hc42 : (c == 107)
        ·
         rw [hc42] at s;have hp43 : ¬ (c = 107) := by first | simpa using hc42 | simpa [and_assoc] using hc42
         refine co_false s rfl <| q2 ?_;refine pk0 (v := .bool (c == 116)) s rfl fun _ s => ?_;refine pk0 (v := .bool (c == 116)) s rfl fun _ s => q1 ?_;cases hc46 : (c == 116)
         ·
          rw [hc46] at s;have hp47 : ¬ (c = 116) := by first | simpa using hc46 | simpa [and_assoc] using hc46
          refine co_false s rfl <| q2 ?_;refine pk0 (v := .bool (c == 67)) s rfl fun _ s => ?_;refine pk0 (v := .bool (c == 67)) s rfl fun _ s => q1 ?_;cases hc50 : (c == 67)
          ·
           rw [hc50] at s;have hp51 : ¬ (c = 67) := by first | simpa using hc50 | simpa [and_assoc] using hc50
           refine co_false s rfl <| q2 ?_;refine pk0 (v := .bool (c == 66)) s rfl fun _ s => ?_;refine pk0 (v := .bool (c == 66)) s rfl fun _ s => q1 ?_;cases hc54 : (c == 66)
           ·
            rw [hc54] at s;have hp55 : ¬ (c = 66) := by first | simpa using hc54 | simpa [and_assoc] using hc54
            refine co_false s rfl <| q2 ?_;refine pk0 (v := .bool (c == 69)) s rfl fun _ s => ?_;refine pk0 (v := .bool (c == 69)) s rfl fun _ s => q1 ?_;cases hc58 : (c == 69)
            ·
             rw [hc58] at s;have hp59 : ¬ (c = 69) := by first | simpa using hc58 | simpa [and_assoc] using hc58
             refine co_false s rfl <| q2 ?_;refine pk0 (v := .bool (c == 83)) s rfl fun _ s => ?_;refine pk0 (v := .bool (c == 83)) s rfl fun _ s => q1 ?_;cases hc62 : (c == 83)
             ·
              rw [hc62] at s;have hp63 : ¬ (c = 83) := by first | simpa using hc62 | simpa [and_assoc] using hc62
              refine co_false s rfl <| q2 ?_;refine pk0 (v := .bool (c == 82)) s rfl fun _ s => ?_;refine pk0 (v := .bool (c == 82)) s rfl fun _ s => q1 ?_;cases hc66 : (c == 82)
              ·
               rw [hc66] at s;have hp67 : ¬ (c = 82) := by first | simpa using hc66 | simpa [and_assoc] using hc66
               refine co_false s rfl <| wp_skip <| co_blockN <| co_then <| q2 ?_;refine pk0 (v := .int .i64 0) s rfl fun _ s => q4 ?_;refine co_ret1 s rfl rfl ?_;exact ⟨ret_int (by rw [cp_0 (by omega)]), hB14⟩
              rw [hc66] at s;have hp69 : c = 82 := by first | simpa using hc66 | simpa [and_assoc] using hc66
              refine co_true s rfl <| q2 ?_;refine pk0 (v := pt N3 21) s rfl fun _ s => ?_;refine pk (v := pv) s rfl (rn_load1 rfl rfl Try.isAgg33 (hk5.cell rfl)) fun _ s => ?_;refine pw s rfl (op_call (args := #[pv]) (R := fun res xw => res = .int .i64 (chkLs 32 chkPair d.pr) ∧ Below w2.heap.size w2 xw) rfl rfl rfl (by kernel_rfl) (by kernel_rfl) (Try.call38 _ _) (rmPairs_any pv d.pr w2 (hp.below hB14)) (by rintro e x ⟨rfl, hb74⟩; exact ⟨_, rfl, ⟨rfl, hb74⟩⟩)) ?_;rintro _ w73 a72 ⟨rfl, hb74⟩ s;have hz75 := hb74.size;refine pk0 (v := .int .i64 (chkLs 32 chkPair d.pr)) s rfl fun _ s => q4 <| qr ?_;refine co_ret1 s rfl rfl ?_;have hB77 := hb_call hB14 hb74;exact ⟨ret_int (by rw [cp_R (by omega)]), hB77⟩
             rw [hc62] at s;have hp78 : c = 83 := by first | simpa using hc62 | simpa [and_assoc] using hc62
             refine co_true s rfl <| q2 ?_;refine pk0 (v := pt N3 20) s rfl fun _ s => ?_;refine pk (v := sv) s rfl (rn_load1 rfl rfl Try.isAgg44 (hk5.cell rfl)) fun _ s => ?_;refine pk (v := .int .i64 (d.st.length : Int)) s rfl (rn_len rfl rfl Try.underlying44 (ht.below hB14)) fun _ s => ?_;refine pk0 (v := .bool (decide ((d.st.length : Int) > 8))) s rfl fun _ s => q1 ?_;cases hc83 : (decide ((d.st.length : Int) > 8))
             ·
              rw [hc83] at s;have hp84 : ¬ ((d.st.length : Int) > 8) := of_decide_eq_false hc83;refine co_false s rfl <| wp_skip <| co_blockN <| co_then <| q2 ?_;refine pk0 (v := .int .i64 0) s rfl fun _ s => q4 ?_;refine co_ret1 s rfl rfl ?_;exact ⟨ret_int (by rw [cp_S (by omega)]; unfold chkLs; first | rw [if_pos (by omega)] | rw [if_neg (by omega), cS_all]), hB14⟩
             rw [hc83] at s;have hp86 : (d.st.length : Int) > 8 := of_decide_eq_true hc83;refine co_true s rfl <| q2 ?_;refine pk0 (v := .int .i64 6) s rfl fun _ s => q4 <| qr ?_;refine co_ret1 s rfl rfl ?_;exact ⟨ret_int (by rw [cp_S (by omega)]; unfold chkLs; first | rw [if_pos (by omega)] | rw [if_neg (by omega), cS_all]), hB14⟩
            rw [hc58] at s;have hp88 : c = 69 := by first | simpa using hc58 | simpa [and_assoc] using hc58
            refine co_true s rfl <| q2 ?_;refine pk0 (v := pt N3 19) s rfl fun _ s => ?_;refine pk (v := ev) s rfl (rn_load1 rfl rfl Try.isAgg43 (hk5.cell rfl)) fun _ s => ?_;refine pw s rfl (op_call (args := #[ev]) (R := fun res xw => res = .int .i64 (chkLs 4 chkEn d.en) ∧ Below w2.heap.size w2 xw) rfl rfl rfl (by kernel_rfl) (by kernel_rfl) (Try.call37 _ _) (rmEntries_any ev d.en w2 (he.below hB14) (fun z hz => (hok z hz).below hB14)) (by rintro e x ⟨rfl, hb93⟩; exact ⟨_, rfl, ⟨rfl, hb93⟩⟩)) ?_;rintro _ w92 a91 ⟨rfl, hb93⟩ s;have hz94 := hb93.size;refine pk0 (v := .int .i64 (chkLs 4 chkEn d.en)) s rfl fun _ s => q4 <| qr ?_;refine co_ret1 s rfl rfl ?_;have hB96 := hb_call hB14 hb93;exact ⟨ret_int (by rw [cp_L (by omega)]), hB96⟩
           rw [hc54] at s;have hp97 : c = 66 := by first | simpa using hc54 | simpa [and_assoc] using hc54
           refine co_true s rfl <| q2 ?_;refine pk0 (v := pt N3 16) s rfl fun _ s => ?_;refine pk (v := .agg #[.int .i64 d.bc, .int .i64 d.br, bv]) s rfl (rn_loadN rfl rfl Try.underlying42 rfl (by kernel_rfl) (blk_part hk5 16 (by rfl))) fun _ s => ?_;refine pw s rfl (op_call (args := #[.agg #[.int .i64 d.bc, .int .i64 d.br, bv]]) (R := fun res xw => res = .int .i64 (chkB d.bc d.br d.bl) ∧ Below w2.heap.size w2 xw) rfl rfl rfl (by kernel_rfl) (by kernel_rfl) (Try.call36 _ _) (ropsCheck_any d.bc d.br bv d.bl w2 (hb.below hB14)) (by rintro e x ⟨rfl, hb102⟩; exact ⟨_, rfl, ⟨rfl, hb102⟩⟩)) ?_;rintro _ w101 a100 ⟨rfl, hb102⟩ s;have hz103 := hb102.size;refine pk0 (v := .int .i64 (chkB d.bc d.br d.bl)) s rfl fun _ s => q4 <| qr ?_;refine co_ret1 s rfl rfl ?_;have hB105 := hb_call hB14 hb102;exact ⟨ret_int (by rw [cp_B (by omega)]), hB105⟩
          rw [hc50] at s;have hp106 : c = 67 := by first | simpa using hc50 | simpa [and_assoc] using hc50
          refine co_true s rfl <| q2 ?_;refine pk0 (v := pt N3 13) s rfl fun _ s => ?_;refine pk (v := .agg #[.int .i64 d.cep, mv, .int .u64 d.cfl]) s rfl (rn_loadN rfl rfl Try.underlying40 rfl (by kernel_rfl) (blk_part hk5 13 (by rfl))) fun _ s => ?_;refine pw s rfl (op_call (args := #[.agg #[.int .i64 d.cep, mv, .int .u64 d.cfl]]) (R := fun res xw => res = .int .i64 (chkC d.cep d.cms) ∧ Below w2.heap.size w2 xw) rfl rfl rfl (by kernel_rfl) (by kernel_rfl) (Try.call35 _ _) (wrcheck_any d.cep mv d.cms d.cfl w2 (hm.below hB14) hR.mem (by omega) (by omega)) (by rintro e x ⟨rfl, hb111⟩; exact ⟨_, rfl, ⟨rfl, hb111⟩⟩)) ?_;rintro _ w110 a109 ⟨rfl, hb111⟩ s;have hz112 := hb111.size;refine pk0 (v := .int .i64 (chkC d.cep d.cms)) s rfl fun _ s => q4 <| qr ?_;refine co_ret1 s rfl rfl ?_;have hB114 := hb_call hB14 hb111;exact ⟨ret_int (by rw [cp_C (by omega)]), hB114⟩
         rw [hc46] at s;have hp115 : c = 116 := by first | simpa using hc46 | simpa [and_assoc] using hc46
         refine co_true s rfl <| q2 ?_;refine pk0 (v := pt N3 12) s rfl fun _ s => ?_;refine pk (v := .string d.to_) s rfl (rn_load1 rfl rfl Try.isAgg9 (hk5.cell rfl)) fun _ s => ?_;refine pk (v := .int .i64 (d.to_.size : Int)) s rfl (rn_lenStr rfl rfl Try.underlying9) fun _ s => ?_;refine pk0 (v := .bool (decide ((d.to_.size : Int) > 8))) s rfl fun _ s => q1 ?_;cases hc120 : (decide ((d.to_.size : Int) > 8))
         ·
          rw [hc120] at s;have hp121 : ¬ ((d.to_.size : Int) > 8) := of_decide_eq_false hc120;refine co_false s rfl <| wp_skip <| co_blockN <| co_then <| q2 ?_;refine pk0 (v := .int .i64 0) s rfl fun _ s => q4 ?_;refine co_ret1 s rfl rfl ?_;exact ⟨ret_int (by rw [cp_t (by omega)]; first | rw [if_pos (by omega)] | rw [if_neg (by omega)]), hB14⟩
         rw [hc120] at s;have hp123 : (d.to_.size : Int) > 8 := of_decide_eq_true hc120;refine co_true s rfl <| q2 ?_;refine pk0 (v := .int .i64 3) s rfl fun _ s => q4 <| qr ?_;refine co_ret1 s rfl rfl ?_;exact ⟨ret_int (by rw [cp_t (by omega)]; first | rw [if_pos (by omega)] | rw [if_neg (by omega)]), hB14⟩
        rw [hc42] at s;have hp125 : c = 107 := by first | simpa using hc42 | simpa [and_assoc] using hc42
        refine co_true s rfl <| q2 ?_;refine pk0 (v := pt N3 11) s rfl fun _ s => ?_;refine pk (v := .string d.key) s rfl (rn_load1 rfl rfl Try.isAgg9 (hk5.cell rfl)) fun _ s => ?_;refine pk (v := .int .i64 (d.key.size : Int)) s rfl (rn_lenStr rfl rfl Try.underlying9) fun _ s => ?_;refine pk0 (v := .bool (decide ((d.key.size : Int) > 8))) s rfl fun _ s => q1 ?_;cases hc130 : (decide ((d.key.size : Int) > 8))
        ·
         rw [hc130] at s;have hp131 : ¬ ((d.key.size : Int) > 8) := of_decide_eq_false hc130;refine co_false s rfl <| wp_skip <| co_blockN <| co_then <| q2 ?_;refine pk0 (v := .int .i64 0) s rfl fun _ s => q4 ?_;refine co_ret1 s rfl rfl ?_;exact ⟨ret_int (by rw [cp_k (by omega)]; first | rw [if_pos (by omega)] | rw [if_neg (by omega)]), hB14⟩
        rw [hc130] at s;have hp133 : (d.key.size : Int) > 8 := of_decide_eq_true hc130;refine co_true s rfl <| q2 ?_;refine pk0 (v := .int .i64 3) s rfl fun _ s => q4 <| qr ?_;refine co_ret1 s rfl rfl ?_;exact ⟨ret_int (by rw [cp_k (by omega)]; first | rw [if_pos (by omega)] | rw [if_neg (by omega)]), hB14⟩
       rw [hc38] at s;have hp135 : c = 120 := by first | simpa using hc38 | simpa [and_assoc] using hc38
       refine co_true s rfl <| q2 ?_;refine pk0 (v := pt N3 10) s rfl fun _ s => ?_;refine pk (v := .int .i64 d.e) s rfl (rn_load1 rfl rfl Try.isAgg30 (hk5.cell rfl)) fun _ s => ?_;refine pk0 (v := .bool (decide (d.e < 0))) s rfl fun _ s => ?_;refine pk0 (v := .bool (decide (d.e < 0))) s rfl fun _ s => ?_;cases hc140 : (decide (d.e < 0))
       ·
        rw [hc140] at s;have hp141 : ¬ (d.e < 0) := of_decide_eq_false hc140;refine pk0 (v := pt N3 10) s rfl fun _ s => ?_;refine pk (v := .int .i64 d.e) s rfl (rn_load1 rfl rfl Try.isAgg30 (hk5.cell rfl)) fun _ s => ?_;refine pk0 (v := .bool (decide (d.e > 21))) s rfl fun _ s => ?_;refine pk0 (v := .bool (decide (d.e > 21))) s rfl fun _ s => q1 ?_;cases hc146 : (decide (d.e > 21))
        ·
         rw [hc146] at s;have hp147 : ¬ (d.e > 21) := of_decide_eq_false hc146;refine co_false s rfl <| wp_skip <| co_blockN <| co_then <| q2 ?_;refine pk0 (v := .int .i64 0) s rfl fun _ s => q4 ?_;refine co_ret1 s rfl rfl ?_;exact ⟨ret_int (by rw [cp_x (by omega)]; first | rw [if_pos (by omega)] | rw [if_neg (by omega)]), hB14⟩
        rw [hc146] at s;have hp149 : d.e > 21 := of_decide_eq_true hc146;refine co_true s rfl <| q2 ?_;refine pk0 (v := .int .i64 1) s rfl fun _ s => q4 <| qr ?_;refine co_ret1 s rfl rfl ?_;exact ⟨ret_int (by rw [cp_x (by omega)]; first | rw [if_pos (by omega)] | rw [if_neg (by omega)]), hB14⟩
       rw [hc140] at s;have hp151 : d.e < 0 := of_decide_eq_true hc140;refine psk s rfl fun _ s => ?_;refine psk s rfl fun _ s => ?_;refine psk s rfl fun _ s => ?_;refine pk0 (v := .bool true) s rfl fun _ s => q1 ?_;refine co_true s rfl <| q2 ?_;refine pk0 (v := .int .i64 1) s rfl fun _ s => q4 <| qr ?_;refine co_ret1 s rfl rfl ?_;exact ⟨ret_int (by rw [cp_x (by omega)]; first | rw [if_pos (by omega)] | rw [if_neg (by omega)]), hB14⟩
      rw [hc34] at s;have hp157 : c = 112 := by first | simpa using hc34 | simpa [and_assoc] using hc34
      refine co_true s rfl <| q2 ?_;refine pk (v := .agg #[.int .i64 d.k, .int .i64 d.ep, .int .i64 d.rq, .int .i64 d.sr, .bool d.fg, .int .u64 d.at_, .int .u64 d.la, .int .i64 d.n, .int .i64 d.m, .int .i64 d.p, .int .i64 d.e, .string d.key, .string d.to_, .int .i64 d.cep, mv, .int .u64 d.cfl, .int .i64 d.bc, .int .i64 d.br, bv, ev, sv, pv]) s rfl (rn_loadN rfl rfl Try.underlying46 rfl (by kernel_rfl) hk5.all) fun _ s => ?_;refine pk0 (v := .int .u8 c) s rfl fun _ s => ?_;refine pw s rfl (op_call (args := #[.agg #[.int .i64 d.k, .int .i64 d.ep, .int .i64 d.rq, .int .i64 d.sr, .bool d.fg, .int .u64 d.at_, .int .u64 d.la, .int .i64 d.n, .int .i64 d.m, .int .i64 d.p, .int .i64 d.e, .string d.key, .string d.to_, .int .i64 d.cep, mv, .int .u64 d.cfl, .int .i64 d.bc, .int .i64 d.br, bv, ev, sv, pv], .int .u8 c]) (R := fun res xw => res = .int .i64 (numP d (plet c)) ∧ Below w2.heap.size w2 xw) rfl rfl rfl (by kernel_rfl) (by kernel_rfl) (Try.call34 _ _) (rmNumber_any d mv bv ev sv pv c w2 (hm.below hB14) (hb.below hB14) (he.below hB14) (ht.below hB14) (hp.below hB14) (by omega)) (by rintro e x ⟨rfl, hb162⟩; exact ⟨_, rfl, ⟨rfl, hb162⟩⟩)) ?_;rintro _ w161 a160 ⟨rfl, hb162⟩ s;have hz163 := hb162.size;refine pk0 (v := .int .i64 (numP d (plet c))) s rfl fun _ s => q3 ?_;refine pk0 (v := .int .i64 (numP d (plet c))) s rfl fun _ s => ?_;refine pk0 (v := .bool (decide (numP d (plet c) < 0))) s rfl fun _ s => ?_;refine pk0 (v := .bool (decide (numP d (plet c) < 0))) s rfl fun _ s => ?_;have hB169 := hb_call hB14 hb162;cases hc168 : (decide (numP d (plet c) < 0))
      ·
       rw [hc168] at s;have hp170 : ¬ (numP d (plet c) < 0) := of_decide_eq_false hc168;refine pk0 (v := .int .i64 (numP d (plet c))) s rfl fun _ s => ?_;refine pk0 (v := .bool (decide (numP d (plet c) > 1073741824))) s rfl fun _ s => ?_;refine pk0 (v := .bool (decide (numP d (plet c) > 1073741824))) s rfl fun _ s => q1 ?_;cases hc174 : (decide (numP d (plet c) > 1073741824))
       ·
        rw [hc174] at s;have hp175 : ¬ (numP d (plet c) > 1073741824) := of_decide_eq_false hc174;refine co_false s rfl <| wp_skip <| co_blockN <| co_then <| q2 ?_;refine pk0 (v := .int .i64 0) s rfl fun _ s => q4 ?_;refine co_ret1 s rfl rfl ?_;exact ⟨ret_int (by rw [cp_n (by omega)]; first | rw [if_pos (by omega)] | rw [if_neg (by omega)]), hB169⟩
       rw [hc174] at s;have hp177 : numP d (plet c) > 1073741824 := of_decide_eq_true hc174;refine co_true s rfl <| q2 ?_;refine pk0 (v := .int .i64 5) s rfl fun _ s => q4 <| qr ?_;refine co_ret1 s rfl rfl ?_;exact ⟨ret_int (by rw [cp_n (by omega)]; first | rw [if_pos (by omega)] | rw [if_neg (by omega)]), hB169⟩
      rw [hc168] at s;have hp179 : numP d (plet c) < 0 := of_decide_eq_true hc168;refine psk s rfl fun _ s => ?_;refine psk s rfl fun _ s => ?_;refine pk0 (v := .bool true) s rfl fun _ s => q1 ?_;refine co_true s rfl <| q2 ?_;refine pk0 (v := .int .i64 5) s rfl fun _ s => q4 <| qr ?_;refine co_ret1 s rfl rfl ?_;exact ⟨ret_int (by rw [cp_n (by omega)]; first | rw [if_pos (by omega)] | rw [if_neg (by omega)]), hB169⟩
     rw [hc30] at s;have hp184 : c = 109 := by first | simpa using hc30 | simpa [and_assoc] using hc30
     refine co_true s rfl <| q0 ?_;refine co_true s rfl <| q2 ?_;refine pk (v := .agg #[.int .i64 d.k, .int .i64 d.ep, .int .i64 d.rq, .int .i64 d.sr, .bool d.fg, .int .u64 d.at_, .int .u64 d.la, .int .i64 d.n, .int .i64 d.m, .int .i64 d.p, .int .i64 d.e, .string d.key, .string d.to_, .int .i64 d.cep, mv, .int .u64 d.cfl, .int .i64 d.bc, .int .i64 d.br, bv, ev, sv, pv]) s rfl (rn_loadN rfl rfl Try.underlying46 rfl (by kernel_rfl) hk5.all) fun _ s => ?_;refine pk0 (v := .int .u8 c) s rfl fun _ s => ?_;refine pw s rfl (op_call (args := #[.agg #[.int .i64 d.k, .int .i64 d.ep, .int .i64 d.rq, .int .i64 d.sr, .bool d.fg, .int .u64 d.at_, .int .u64 d.la, .int .i64 d.n, .int .i64 d.m, .int .i64 d.p, .int .i64 d.e, .string d.key, .string d.to_, .int .i64 d.cep, mv, .int .u64 d.cfl, .int .i64 d.bc, .int .i64 d.br, bv, ev, sv, pv], .int .u8 c]) (R := fun res xw => res = .int .i64 (numP d (plet c)) ∧ Below w2.heap.size w2 xw) rfl rfl rfl (by kernel_rfl) (by kernel_rfl) (Try.call34 _ _) (rmNumber_any d mv bv ev sv pv c w2 (hm.below hB14) (hb.below hB14) (he.below hB14) (ht.below hB14) (hp.below hB14) (by omega)) (by rintro e x ⟨rfl, hb189⟩; exact ⟨_, rfl, ⟨rfl, hb189⟩⟩)) ?_;rintro _ w188 a187 ⟨rfl, hb189⟩ s;have hz190 := hb189.size;refine pk0 (v := .int .i64 (numP d (plet c))) s rfl fun _ s => q3 ?_;refine pk0 (v := .int .i64 (numP d (plet c))) s rfl fun _ s => ?_;refine pk0 (v := .bool (decide (numP d (plet c) < 0))) s rfl fun _ s => ?_;refine pk0 (v := .bool (decide (numP d (plet c) < 0))) s rfl fun _ s => ?_;have hB196 := hb_call hB14 hb189;cases hc195 : (decide (numP d (plet c) < 0))
     ·
      rw [hc195] at s;have hp197 : ¬ (numP d (plet c) < 0) := of_decide_eq_false hc195;refine pk0 (v := .int .i64 (numP d (plet c))) s rfl fun _ s => ?_;refine pk0 (v := .bool (decide (numP d (plet c) > 1073741824))) s rfl fun _ s => ?_;refine pk0 (v := .bool (decide (numP d (plet c) > 1073741824))) s rfl fun _ s => q1 ?_;cases hc201 : (decide (numP d (plet c) > 1073741824))
      ·
       rw [hc201] at s;have hp202 : ¬ (numP d (plet c) > 1073741824) := of_decide_eq_false hc201;refine co_false s rfl <| wp_skip <| co_blockN <| co_then <| q2 ?_;refine pk0 (v := .int .i64 0) s rfl fun _ s => q4 ?_;refine co_ret1 s rfl rfl ?_;exact ⟨ret_int (by rw [cp_n (by omega)]; first | rw [if_pos (by omega)] | rw [if_neg (by omega)]), hB196⟩
      rw [hc201] at s;have hp204 : numP d (plet c) > 1073741824 := of_decide_eq_true hc201;refine co_true s rfl <| q2 ?_;refine pk0 (v := .int .i64 5) s rfl fun _ s => q4 <| qr ?_;refine co_ret1 s rfl rfl ?_;exact ⟨ret_int (by rw [cp_n (by omega)]; first | rw [if_pos (by omega)] | rw [if_neg (by omega)]), hB196⟩
     rw [hc195] at s;have hp206 : numP d (plet c) < 0 := of_decide_eq_true hc195;refine psk s rfl fun _ s => ?_;refine psk s rfl fun _ s => ?_;refine pk0 (v := .bool true) s rfl fun _ s => q1 ?_;refine co_true s rfl <| q2 ?_;refine pk0 (v := .int .i64 5) s rfl fun _ s => q4 <| qr ?_;refine co_ret1 s rfl rfl ?_;exact ⟨ret_int (by rw [cp_n (by omega)]; first | rw [if_pos (by omega)] | rw [if_neg (by omega)]), hB196⟩
    rw [hc26] at s;have hp211 : c = 110 := by first | simpa using hc26 | simpa [and_assoc] using hc26
    refine co_true s rfl <| q0 ?_;refine co_true s rfl <| q2 ?_;refine pk (v := .agg #[.int .i64 d.k, .int .i64 d.ep, .int .i64 d.rq, .int .i64 d.sr, .bool d.fg, .int .u64 d.at_, .int .u64 d.la, .int .i64 d.n, .int .i64 d.m, .int .i64 d.p, .int .i64 d.e, .string d.key, .string d.to_, .int .i64 d.cep, mv, .int .u64 d.cfl, .int .i64 d.bc, .int .i64 d.br, bv, ev, sv, pv]) s rfl (rn_loadN rfl rfl Try.underlying46 rfl (by kernel_rfl) hk5.all) fun _ s => ?_;refine pk0 (v := .int .u8 c) s rfl fun _ s => ?_;refine pw s rfl (op_call (args := #[.agg #[.int .i64 d.k, .int .i64 d.ep, .int .i64 d.rq, .int .i64 d.sr, .bool d.fg, .int .u64 d.at_, .int .u64 d.la, .int .i64 d.n, .int .i64 d.m, .int .i64 d.p, .int .i64 d.e, .string d.key, .string d.to_, .int .i64 d.cep, mv, .int .u64 d.cfl, .int .i64 d.bc, .int .i64 d.br, bv, ev, sv, pv], .int .u8 c]) (R := fun res xw => res = .int .i64 (numP d (plet c)) ∧ Below w2.heap.size w2 xw) rfl rfl rfl (by kernel_rfl) (by kernel_rfl) (Try.call34 _ _) (rmNumber_any d mv bv ev sv pv c w2 (hm.below hB14) (hb.below hB14) (he.below hB14) (ht.below hB14) (hp.below hB14) (by omega)) (by rintro e x ⟨rfl, hb216⟩; exact ⟨_, rfl, ⟨rfl, hb216⟩⟩)) ?_;rintro _ w215 a214 ⟨rfl, hb216⟩ s;have hz217 := hb216.size;refine pk0 (v := .int .i64 (numP d (plet c))) s rfl fun _ s => q3 ?_;refine pk0 (v := .int .i64 (numP d (plet c))) s rfl fun _ s => ?_;refine pk0 (v := .bool (decide (numP d (plet c) < 0))) s rfl fun _ s => ?_;refine pk0 (v := .bool (decide (numP d (plet c) < 0))) s rfl fun _ s => ?_;have hB223 := hb_call hB14 hb216;cases hc222 : (decide (numP d (plet c) < 0))
    ·
     rw [hc222] at s;have hp224 : ¬ (numP d (plet c) < 0) := of_decide_eq_false hc222;refine pk0 (v := .int .i64 (numP d (plet c))) s rfl fun _ s => ?_;refine pk0 (v := .bool (decide (numP d (plet c) > 1073741824))) s rfl fun _ s => ?_;refine pk0 (v := .bool (decide (numP d (plet c) > 1073741824))) s rfl fun _ s => q1 ?_;cases hc228 : (decide (numP d (plet c) > 1073741824))
     ·
      rw [hc228] at s;have hp229 : ¬ (numP d (plet c) > 1073741824) := of_decide_eq_false hc228;refine co_false s rfl <| wp_skip <| co_blockN <| co_then <| q2 ?_;refine pk0 (v := .int .i64 0) s rfl fun _ s => q4 ?_;refine co_ret1 s rfl rfl ?_;exact ⟨ret_int (by rw [cp_n (by omega)]; first | rw [if_pos (by omega)] | rw [if_neg (by omega)]), hB223⟩
     rw [hc228] at s;have hp231 : numP d (plet c) > 1073741824 := of_decide_eq_true hc228;refine co_true s rfl <| q2 ?_;refine pk0 (v := .int .i64 5) s rfl fun _ s => q4 <| qr ?_;refine co_ret1 s rfl rfl ?_;exact ⟨ret_int (by rw [cp_n (by omega)]; first | rw [if_pos (by omega)] | rw [if_neg (by omega)]), hB223⟩
    rw [hc222] at s;have hp233 : numP d (plet c) < 0 := of_decide_eq_true hc222;refine psk s rfl fun _ s => ?_;refine psk s rfl fun _ s => ?_;refine pk0 (v := .bool true) s rfl fun _ s => q1 ?_;refine co_true s rfl <| q2 ?_;refine pk0 (v := .int .i64 5) s rfl fun _ s => q4 <| qr ?_;refine co_ret1 s rfl rfl ?_;exact ⟨ret_int (by rw [cp_n (by omega)]; first | rw [if_pos (by omega)] | rw [if_neg (by omega)]), hB223⟩
   rw [hc22] at s;have hp238 : c = 114 := by first | simpa using hc22 | simpa [and_assoc] using hc22
   refine co_true s rfl <| q0 ?_;refine co_true s rfl <| q2 ?_;refine pk (v := .agg #[.int .i64 d.k, .int .i64 d.ep, .int .i64 d.rq, .int .i64 d.sr, .bool d.fg, .int .u64 d.at_, .int .u64 d.la, .int .i64 d.n, .int .i64 d.m, .int .i64 d.p, .int .i64 d.e, .string d.key, .string d.to_, .int .i64 d.cep, mv, .int .u64 d.cfl, .int .i64 d.bc, .int .i64 d.br, bv, ev, sv, pv]) s rfl (rn_loadN rfl rfl Try.underlying46 rfl (by kernel_rfl) hk5.all) fun _ s => ?_;refine pk0 (v := .int .u8 c) s rfl fun _ s => ?_;refine pw s rfl (op_call (args := #[.agg #[.int .i64 d.k, .int .i64 d.ep, .int .i64 d.rq, .int .i64 d.sr, .bool d.fg, .int .u64 d.at_, .int .u64 d.la, .int .i64 d.n, .int .i64 d.m, .int .i64 d.p, .int .i64 d.e, .string d.key, .string d.to_, .int .i64 d.cep, mv, .int .u64 d.cfl, .int .i64 d.bc, .int .i64 d.br, bv, ev, sv, pv], .int .u8 c]) (R := fun res xw => res = .int .i64 (numP d (plet c)) ∧ Below w2.heap.size w2 xw) rfl rfl rfl (by kernel_rfl) (by kernel_rfl) (Try.call34 _ _) (rmNumber_any d mv bv ev sv pv c w2 (hm.below hB14) (hb.below hB14) (he.below hB14) (ht.below hB14) (hp.below hB14) (by omega)) (by rintro e x ⟨rfl, hb243⟩; exact ⟨_, rfl, ⟨rfl, hb243⟩⟩)) ?_;rintro _ w242 a241 ⟨rfl, hb243⟩ s;have hz244 := hb243.size;refine pk0 (v := .int .i64 (numP d (plet c))) s rfl fun _ s => q3 ?_;refine pk0 (v := .int .i64 (numP d (plet c))) s rfl fun _ s => ?_;refine pk0 (v := .bool (decide (numP d (plet c) < 0))) s rfl fun _ s => ?_;refine pk0 (v := .bool (decide (numP d (plet c) < 0))) s rfl fun _ s => ?_;have hB250 := hb_call hB14 hb243;cases hc249 : (decide (numP d (plet c) < 0))
   ·
    rw [hc249] at s;have hp251 : ¬ (numP d (plet c) < 0) := of_decide_eq_false hc249;refine pk0 (v := .int .i64 (numP d (plet c))) s rfl fun _ s => ?_;refine pk0 (v := .bool (decide (numP d (plet c) > 1073741824))) s rfl fun _ s => ?_;refine pk0 (v := .bool (decide (numP d (plet c) > 1073741824))) s rfl fun _ s => q1 ?_;cases hc255 : (decide (numP d (plet c) > 1073741824))
    ·
     rw [hc255] at s;have hp256 : ¬ (numP d (plet c) > 1073741824) := of_decide_eq_false hc255;refine co_false s rfl <| wp_skip <| co_blockN <| co_then <| q2 ?_;refine pk0 (v := .int .i64 0) s rfl fun _ s => q4 ?_;refine co_ret1 s rfl rfl ?_;exact ⟨ret_int (by rw [cp_n (by omega)]; first | rw [if_pos (by omega)] | rw [if_neg (by omega)]), hB250⟩
    rw [hc255] at s;have hp258 : numP d (plet c) > 1073741824 := of_decide_eq_true hc255;refine co_true s rfl <| q2 ?_;refine pk0 (v := .int .i64 5) s rfl fun _ s => q4 <| qr ?_;refine co_ret1 s rfl rfl ?_;exact ⟨ret_int (by rw [cp_n (by omega)]; first | rw [if_pos (by omega)] | rw [if_neg (by omega)]), hB250⟩
   rw [hc249] at s;have hp260 : numP d (plet c) < 0 := of_decide_eq_true hc249;refine psk s rfl fun _ s => ?_;refine psk s rfl fun _ s => ?_;refine pk0 (v := .bool true) s rfl fun _ s => q1 ?_;refine co_true s rfl <| q2 ?_;refine pk0 (v := .int .i64 5) s rfl fun _ s => q4 <| qr ?_;refine co_ret1 s rfl rfl ?_;exact ⟨ret_int (by rw [cp_n (by omega)]; first | rw [if_pos (by omega)] | rw [if_neg (by omega)]), hB250⟩
  rw [hc18] at s;have hp265 : c = 115 := by first | simpa using hc18 | simpa [and_assoc] using hc18
  refine co_true s rfl <| q0 ?_;refine co_true s rfl <| q2 ?_;refine pk (v := .agg #[.int .i64 d.k, .int .i64 d.ep, .int .i64 d.rq, .int .i64 d.sr, .bool d.fg, .int .u64 d.at_, .int .u64 d.la, .int .i64 d.n, .int .i64 d.m, .int .i64 d.p, .int .i64 d.e, .string d.key, .string d.to_, .int .i64 d.cep, mv, .int .u64 d.cfl, .int .i64 d.bc, .int .i64 d.br, bv, ev, sv, pv]) s rfl (rn_loadN rfl rfl Try.underlying46 rfl (by kernel_rfl) hk5.all) fun _ s => ?_;refine pk0 (v := .int .u8 c) s rfl fun _ s => ?_;refine pw s rfl (op_call (args := #[.agg #[.int .i64 d.k, .int .i64 d.ep, .int .i64 d.rq, .int .i64 d.sr, .bool d.fg, .int .u64 d.at_, .int .u64 d.la, .int .i64 d.n, .int .i64 d.m, .int .i64 d.p, .int .i64 d.e, .string d.key, .string d.to_, .int .i64 d.cep, mv, .int .u64 d.cfl, .int .i64 d.bc, .int .i64 d.br, bv, ev, sv, pv], .int .u8 c]) (R := fun res xw => res = .int .i64 (numP d (plet c)) ∧ Below w2.heap.size w2 xw) rfl rfl rfl (by kernel_rfl) (by kernel_rfl) (Try.call34 _ _) (rmNumber_any d mv bv ev sv pv c w2 (hm.below hB14) (hb.below hB14) (he.below hB14) (ht.below hB14) (hp.below hB14) (by omega)) (by rintro e x ⟨rfl, hb270⟩; exact ⟨_, rfl, ⟨rfl, hb270⟩⟩)) ?_;rintro _ w269 a268 ⟨rfl, hb270⟩ s;have hz271 := hb270.size;refine pk0 (v := .int .i64 (numP d (plet c))) s rfl fun _ s => q3 ?_;refine pk0 (v := .int .i64 (numP d (plet c))) s rfl fun _ s => ?_;refine pk0 (v := .bool (decide (numP d (plet c) < 0))) s rfl fun _ s => ?_;refine pk0 (v := .bool (decide (numP d (plet c) < 0))) s rfl fun _ s => ?_;have hB277 := hb_call hB14 hb270;cases hc276 : (decide (numP d (plet c) < 0))
  ·
   rw [hc276] at s;have hp278 : ¬ (numP d (plet c) < 0) := of_decide_eq_false hc276;refine pk0 (v := .int .i64 (numP d (plet c))) s rfl fun _ s => ?_;refine pk0 (v := .bool (decide (numP d (plet c) > 1073741824))) s rfl fun _ s => ?_;refine pk0 (v := .bool (decide (numP d (plet c) > 1073741824))) s rfl fun _ s => q1 ?_;cases hc282 : (decide (numP d (plet c) > 1073741824))
   ·
    rw [hc282] at s;have hp283 : ¬ (numP d (plet c) > 1073741824) := of_decide_eq_false hc282;refine co_false s rfl <| wp_skip <| co_blockN <| co_then <| q2 ?_;refine pk0 (v := .int .i64 0) s rfl fun _ s => q4 ?_;refine co_ret1 s rfl rfl ?_;exact ⟨ret_int (by rw [cp_n (by omega)]; first | rw [if_pos (by omega)] | rw [if_neg (by omega)]), hB277⟩
   rw [hc282] at s;have hp285 : numP d (plet c) > 1073741824 := of_decide_eq_true hc282;refine co_true s rfl <| q2 ?_;refine pk0 (v := .int .i64 5) s rfl fun _ s => q4 <| qr ?_;refine co_ret1 s rfl rfl ?_;exact ⟨ret_int (by rw [cp_n (by omega)]; first | rw [if_pos (by omega)] | rw [if_neg (by omega)]), hB277⟩
  rw [hc276] at s;have hp287 : numP d (plet c) < 0 := of_decide_eq_true hc276;refine psk s rfl fun _ s => ?_;refine psk s rfl fun _ s => ?_;refine pk0 (v := .bool true) s rfl fun _ s => q1 ?_;refine co_true s rfl <| q2 ?_;refine pk0 (v := .int .i64 5) s rfl fun _ s => q4 <| qr ?_;refine co_ret1 s rfl rfl ?_;exact ⟨ret_int (by rw [cp_n (by omega)]; first | rw [if_pos (by omega)] | rw [if_neg (by omega)]), hB277⟩
 rw [hc13] at s;have hp292 : c = 101 := by first | simpa using hc13 | simpa [and_assoc] using hc13
 refine co_true s rfl <| q0 ?_;refine co_true s rfl <| q2 ?_;refine pk (v := .agg #[.int .i64 d.k, .int .i64 d.ep, .int .i64 d.rq, .int .i64 d.sr, .bool d.fg, .int .u64 d.at_, .int .u64 d.la, .int .i64 d.n, .int .i64 d.m, .int .i64 d.p, .int .i64 d.e, .string d.key, .string d.to_, .int .i64 d.cep, mv, .int .u64 d.cfl, .int .i64 d.bc, .int .i64 d.br, bv, ev, sv, pv]) s rfl (rn_loadN rfl rfl Try.underlying46 rfl (by kernel_rfl) hk5.all) fun _ s => ?_;refine pk0 (v := .int .u8 c) s rfl fun _ s => ?_;refine pw s rfl (op_call (args := #[.agg #[.int .i64 d.k, .int .i64 d.ep, .int .i64 d.rq, .int .i64 d.sr, .bool d.fg, .int .u64 d.at_, .int .u64 d.la, .int .i64 d.n, .int .i64 d.m, .int .i64 d.p, .int .i64 d.e, .string d.key, .string d.to_, .int .i64 d.cep, mv, .int .u64 d.cfl, .int .i64 d.bc, .int .i64 d.br, bv, ev, sv, pv], .int .u8 c]) (R := fun res xw => res = .int .i64 (numP d (plet c)) ∧ Below w2.heap.size w2 xw) rfl rfl rfl (by kernel_rfl) (by kernel_rfl) (Try.call34 _ _) (rmNumber_any d mv bv ev sv pv c w2 (hm.below hB14) (hb.below hB14) (he.below hB14) (ht.below hB14) (hp.below hB14) (by omega)) (by rintro e x ⟨rfl, hb297⟩; exact ⟨_, rfl, ⟨rfl, hb297⟩⟩)) ?_;rintro _ w296 a295 ⟨rfl, hb297⟩ s;have hz298 := hb297.size;refine pk0 (v := .int .i64 (numP d (plet c))) s rfl fun _ s => q3 ?_;refine pk0 (v := .int .i64 (numP d (plet c))) s rfl fun _ s => ?_;refine pk0 (v := .bool (decide (numP d (plet c) < 0))) s rfl fun _ s => ?_;refine pk0 (v := .bool (decide (numP d (plet c) < 0))) s rfl fun _ s => ?_;have hB304 := hb_call hB14 hb297;cases hc303 : (decide (numP d (plet c) < 0))
 ·
  rw [hc303] at s;have hp305 : ¬ (numP d (plet c) < 0) := of_decide_eq_false hc303;refine pk0 (v := .int .i64 (numP d (plet c))) s rfl fun _ s => ?_;refine pk0 (v := .bool (decide (numP d (plet c) > 1073741824))) s rfl fun _ s => ?_;refine pk0 (v := .bool (decide (numP d (plet c) > 1073741824))) s rfl fun _ s => q1 ?_;cases hc309 : (decide (numP d (plet c) > 1073741824))
  ·
   rw [hc309] at s;have hp310 : ¬ (numP d (plet c) > 1073741824) := of_decide_eq_false hc309;refine co_false s rfl <| wp_skip <| co_blockN <| co_then <| q2 ?_;refine pk0 (v := .int .i64 0) s rfl fun _ s => q4 ?_;refine co_ret1 s rfl rfl ?_;exact ⟨ret_int (by rw [cp_n (by omega)]; first | rw [if_pos (by omega)] | rw [if_neg (by omega)]), hB304⟩
  rw [hc309] at s;have hp312 : numP d (plet c) > 1073741824 := of_decide_eq_true hc309;refine co_true s rfl <| q2 ?_;refine pk0 (v := .int .i64 5) s rfl fun _ s => q4 <| qr ?_;refine co_ret1 s rfl rfl ?_;exact ⟨ret_int (by rw [cp_n (by omega)]; first | rw [if_pos (by omega)] | rw [if_neg (by omega)]), hB304⟩
 rw [hc303] at s;have hp314 : numP d (plet c) < 0 := of_decide_eq_true hc303;refine psk s rfl fun _ s => ?_;refine psk s rfl fun _ s => ?_;refine pk0 (v := .bool true) s rfl fun _ s => q1 ?_;refine co_true s rfl <| q2 ?_;refine pk0 (v := .int .i64 5) s rfl fun _ s => q4 <| qr ?_;refine co_ret1 s rfl rfl ?_;exact ⟨ret_int (by rw [cp_n (by omega)]; first | rw [if_pos (by omega)] | rw [if_neg (by omega)]), hB304⟩
end Go.Proofs.Ytaoibbakflacoaa

/- The document's own messages: Check. Conditions: none. -/
namespace Go.Proofs.Ytaoibbakflacoaa
open Go.RowKit Go.PlainAid
set_option linter.unusedVariables false

set_option maxRecDepth 100000 in
theorem rmCheck_any (d : MsgD) (mv : Value) (bv : Value) (ev : Value) (sv : Value) (pv : Value) (w : World) (hm : SliceOf memE 2 w mv d.cms) (hb : SliceOf opE 3 w bv d.bl) (he : SliceOf entE 4 w ev d.en) (ht : SliceOf (intE .u64) 1 w sv d.st) (hp : SliceOf prE 2 w pv d.pr) (hok : ∀ z ∈ d.en, EntOk w z) (hR : MsgR d) :
    Calls Try.prog 14 #[.agg #[.int .i64 d.k, .int .i64 d.ep, .int .i64 d.rq, .int .i64 d.sr, .bool d.fg, .int .u64 d.at_, .int .u64 d.la, .int .i64 d.n, .int .i64 d.m, .int .i64 d.p, .int .i64 d.e, .string d.key, .string d.to_, .int .i64 d.cep, mv, .int .u64 d.cfl, .int .i64 d.bc, .int .i64 d.br, bv, ev, sv, pv]] w fun e w' => e = .returned (.int .i64 (chkMg d)) ∧ Below w.heap.size w w' := by
 have hrng := hR.rng;have hrl := rstr_small d.k;have hB0 := Below.refl w.heap.size w;have hl_hm := sl_len hm;have hl_hb := sl_len hb;have hl_he := sl_len he;have hl_ht := sl_len ht;have hl_hp := sl_len hp
 by_cases hkk : 1 ≤ d.k ∧ d.k ≤ 15
 · skip
   refine co_enter (n := 25) Try.func14 rfl rfl rfl [(0, .agg #[.int .i64 d.k, .int .i64 d.ep, .int .i64 d.rq, .int .i64 d.sr, .bool d.fg, .int .u64 d.at_, .int .u64 d.la, .int .i64 d.n, .int .i64 d.m, .int .i64 d.p, .int .i64 d.e, .string d.key, .string d.to_, .int .i64 d.cep, mv, .int .u64 d.cfl, .int .i64 d.bc, .int .i64 d.br, bv, ev, sv, pv])] rfl (fun a s => ?_);refine q2 ?_;refine pw s rfl (op_new (v := fun N => pt N 0) (T := 46) (cs := #[.int .i64 d.k, .int .i64 d.ep, .int .i64 d.rq, .int .i64 d.sr, .bool d.fg, .int .u64 d.at_, .int .u64 d.la, .int .i64 d.n, .int .i64 d.m, .int .i64 d.p, .int .i64 d.e, .string d.key, .string d.to_, .int .i64 d.cep, mv, .int .u64 d.cfl, .int .i64 d.bc, .int .i64 d.br, bv, ev, sv, pv]) (by kernel_rfl) (by kernel_rfl) (by kernel_rfl)) ?_;rintro _ w2 a1 ⟨N3, rfl, hN6, hz7, hk5, hg4⟩ s;have hz8 := hg4.size
   try dsimp only at s
   refine pk0 (v := .int .i64 0) s rfl fun _ s => q3 ?_;refine pk0 (v := pt N3 0) s rfl fun _ s => ?_;refine pk (v := .int .i64 d.k) s rfl (rn_load1 rfl rfl Try.isAgg3 (hk5.cell rfl)) fun _ s => ?_;refine pw s rfl (op_call (args := #[.int .i64 d.k]) (R := fun res xw => res = .string (rstr d.k) ∧ Below w2.heap.size w2 xw) rfl rfl rfl (by kernel_rfl) (by kernel_rfl) (Try.call25 _ _) (rmParts_any d.k w2 ) (by rintro e x ⟨rfl, hb14⟩; exact ⟨_, rfl, ⟨rfl, hb14⟩⟩)) ?_;rintro _ w13 a12 ⟨rfl, hb14⟩ s;have hz15 := hb14.size;refine pk0 (v := .string (rstr d.k)) s rfl fun _ s => q6 ?_;refine pk0 (v := .string (rstr d.k)) s rfl fun _ s => ?_;refine pk0 (v := .bool ((rstr d.k : ByteArray).toList == (⟨#[63]⟩ : ByteArray).toList)) s rfl fun _ s => q1 ?_;have hc19 : ((rstr d.k : ByteArray).toList == (⟨#[63]⟩ : ByteArray).toList) = false := by rw [beq_eq_false_iff_ne]; exact rstr_q hkk
   rw [hc19] at s;refine co_false s rfl <| q8 ?_;refine pk0 (v := .int .i64 0) s rfl fun _ s => q1 <| wp_block ?_;have s : Slots 25 [(1, pt N3 0), (2, .int .i64 0), (3, .string (rstr d.k)), (4, .int .i64 0)] _ := s.sub ⟨rfl, rfl, rfl, rfl, trivial⟩;refine co_loop (fun mm a x => ∃ (i : Nat), Slots 25 [(1, pt N3 0), (2, .int .i64 0), (3, .string (rstr d.k)), (4, .int .i64 (i : Int))] a ∧ mm = (rstr d.k).size - i ∧ (i ≤ (rstr d.k).size) ∧ (chkF (cP d) ((ptL d.k).drop i) = chkF (cP d) (ptL d.k)) ∧ Below w.heap.size w x ∧ Blk x N3 46 #[.int .i64 d.k, .int .i64 d.ep, .int .i64 d.rq, .int .i64 d.sr, .bool d.fg, .int .u64 d.at_, .int .u64 d.la, .int .i64 d.n, .int .i64 d.m, .int .i64 d.p, .int .i64 d.e, .string d.key, .string d.to_, .int .i64 d.cep, mv, .int .u64 d.cfl, .int .i64 d.bc, .int .i64 d.br, bv, ev, sv, pv]) ((rstr d.k).size - 0) ?_ ?_;have hB22 := hb_new hB0 hg4;have hB23 := hb_call hB22 hb14;have hk24 := hk5.below hb14
   · exact ⟨0, s.sub ⟨rfl, rfl, rfl, (slot_eq rfl (congrArg (Value.int .i64) (by first | rfl | omega))), trivial⟩, rfl, by omega, by first | rfl | exact hL', hB23, hk24⟩
   · rintro k25 a26 w27 ⟨i, s, rfl, hi28, hi29, hB30, hk31⟩
     have hz32 := hB30.size;have hl33 := hk31.lt;have hL : chkF (cP d) ((ptL d.k).drop i) = chkF (cP d) (ptL d.k) := by assumption
     refine q9 ?_;refine pk0 (v := .int .i64 (i : Int)) s rfl fun _ s => ?_;refine pk0 (v := .string (rstr d.k)) s rfl fun _ s => ?_;refine pk (v := .int .i64 (((rstr d.k : ByteArray).size : Nat) : Int)) s rfl (rn_lenStr rfl rfl Try.underlying9) fun _ s => ?_;refine pk0 (v := .bool (decide ((i : Int) < (((rstr d.k : ByteArray).size : Nat) : Int)))) s rfl fun _ s => q1 ?_;cases hc38 : (decide ((i : Int) < (((rstr d.k : ByteArray).size : Nat) : Int)))
     ·
      rw [hc38] at s;have hp39 : ¬ ((i : Int) < (((rstr d.k : ByteArray).size : Nat) : Int)) := of_decide_eq_false hc38;refine co_false s rfl <| wp_exit <| co_thenX <| co_thenX <| qx <| q2 ?_;refine pk0 (v := .int .i64 0) s rfl fun _ s => q4 ?_;refine co_ret1 s rfl rfl ?_;have hpl := rstr_len d.k;have hpl2 := rL_len (k := d.k) (by omega);exact ⟨ret_int (by unfold chkMg; rw [if_pos (by omega)]; exact cF_end (i := i) hL (by omega)), hB30⟩
     ·
      rw [hc38] at s;have hp41 : (i : Int) < (((rstr d.k : ByteArray).size : Nat) : Int) := of_decide_eq_true hc38;refine co_true s rfl <| q0 <| co_seq <| wp_block <| co_seq ?_;refine dr_gen (fun x => Below w.heap.size w x ∧ Blk x N3 46 #[.int .i64 d.k, .int .i64 d.ep, .int .i64 d.rq, .int .i64 d.sr, .bool d.fg, .int .u64 d.at_, .int .u64 d.la, .int .i64 d.n, .int .i64 d.m, .int .i64 d.p, .int .i64 d.e, .string d.key, .string d.to_, .int .i64 d.cep, mv, .int .u64 d.cfl, .int .i64 d.bc, .int .i64 d.br, bv, ev, sv, pv]) (by kernel_rfl) (fun w42 hg43 => ?_) (fun w42 hg43 => ?_)
      ·
       have hz44 := hg43.size;have hB45 := hb_new hB30 hg43;have hk46 := hk31.kept hg43 (by simp);exact ⟨hB45, hk46⟩
      have hz47 := hg43.size;have hB48 := hb_new hB30 hg43;have hk49 := hk31.kept hg43 (by simp);refine dk 0 (v := .agg #[.int .i64 d.k, .int .i64 d.ep, .int .i64 d.rq, .int .i64 d.sr, .bool d.fg, .int .u64 d.at_, .int .u64 d.la, .int .i64 d.n, .int .i64 d.m, .int .i64 d.p, .int .i64 d.e, .string d.key, .string d.to_, .int .i64 d.cep, mv, .int .u64 d.cfl, .int .i64 d.bc, .int .i64 d.br, bv, ev, sv, pv]) s rfl rfl ⟨hB48, hk49⟩ (fun x hx => (rn_loadN rfl rfl Try.underlying46 rfl (by kernel_rfl) hx.2.all)) fun _ s => ?_;refine dk0 1 (v := .string (rstr d.k)) s rfl rfl ⟨hB48, hk49⟩ fun _ s => ?_;refine dk0 2 (v := .int .i64 (i : Int)) s rfl rfl ⟨hB48, hk49⟩ fun _ s => ?_;refine dk 3 (v := .int .u8 (byteAt (rstr d.k) i)) s rfl rfl ⟨hB48, hk49⟩ (fun x hx => (rn_indexStr rfl rfl rfl Try.underlying9 (by omega) (by omega))) fun _ s => ?_;have hcn := byteAt_rstr (k := d.k) (i := i) (by omega) (by omega);refine d1 4 s rfl rfl (op_call (args := #[.agg #[.int .i64 d.k, .int .i64 d.ep, .int .i64 d.rq, .int .i64 d.sr, .bool d.fg, .int .u64 d.at_, .int .u64 d.la, .int .i64 d.n, .int .i64 d.m, .int .i64 d.p, .int .i64 d.e, .string d.key, .string d.to_, .int .i64 d.cep, mv, .int .u64 d.cfl, .int .i64 d.bc, .int .i64 d.br, bv, ev, sv, pv], .int .u8 (byteAt (rstr d.k) i)]) (R := fun res xw => res = .int .i64 (chkP d (plet (byteAt (rstr d.k) i))) ∧ Below w42.heap.size w42 xw) rfl rfl rfl (by kernel_rfl) (by kernel_rfl) (Try.call26 _ _) (rmWrong_any d mv bv ev sv pv (byteAt (rstr d.k) i) w42 (hm.below hB48) (hb.below hB48) (he.below hB48) (ht.below hB48) (hp.below hB48) (fun z hz => (hok z hz).below hB48) hR (by obtain ⟨_, _, _, h⟩ := hcn; exact h)) (by rintro e x ⟨rfl, hb56⟩; exact ⟨_, rfl, ⟨rfl, hb56⟩⟩)) ?_ ?_
      ·
       rintro _ w55 ⟨rfl, hb56⟩;have hz57 := hb56.size;have hB58 := hb_call hB48 hb56;have hk59 := hk49.below hb56;exact ⟨hB58, hk59⟩
      rintro _ w55 a54 ⟨rfl, hb56⟩ s;have hz57 := hb56.size;have hB58 := hb_call hB48 hb56;have hk59 := hk49.below hb56;refine dk0 5 (v := .int .i64 (chkP d (plet (byteAt (rstr d.k) i)))) s rfl rfl ⟨hB58, hk59⟩ fun _ s => ?_;refine dr_done (by kernel_rfl) ?_;refine co_then <| q2 ?_;refine pk0 (v := .int .i64 (chkP d (plet (byteAt (rstr d.k) i)))) s rfl fun _ s => ?_;refine pk0 (v := .bool (chkP d (plet (byteAt (rstr d.k) i)) != 0)) s rfl fun _ s => q1 ?_;cases hc63 : (chkP d (plet (byteAt (rstr d.k) i)) != 0)
      ·
       rw [hc63] at s;have hp64 : ¬ (chkP d (plet (byteAt (rstr d.k) i)) ≠ 0) := by first | simpa using hc63 | simpa [and_assoc] using hc63
       refine co_false s rfl <| wp_skip <| co_blockN <| co_then <| co_reg ?_;refine pk0 (v := .int .i64 (i : Int)) s rfl fun _ s => ?_;refine pk (v := .int .i64 ((i + 1 : Nat) : Int)) s rfl (rn_arith' rfl rfl rfl rfl rfl rfl (IntWalk.i64_in _ (by omega)) (by omega)) fun _ s => ?_;refine pk0 (v := .int .i64 ((i + 1 : Nat) : Int)) s rfl fun _ s => q1 ?_;refine ⟨((rstr d.k).size - (i + 1)), by omega, ?_⟩;obtain ⟨c, hc, hcb, _⟩ := byteAt_rstr (k := d.k) (i := i) (by omega) (by omega);have hL' := cF_step (f := cP d) hL hc (by show chkP d _ = 0; rw [← hcb]; omega);exact ⟨i + 1, s.sub ⟨rfl, rfl, rfl, rfl, trivial⟩, rfl, by omega, by first | rfl | exact hL', hB58, hk59⟩
      rw [hc63] at s;have hp68 : chkP d (plet (byteAt (rstr d.k) i)) ≠ 0 := by first | simpa using hc63 | simpa [and_assoc] using hc63
      refine co_true s rfl <| q2 ?_;refine pk0 (v := .int .i64 (chkP d (plet (byteAt (rstr d.k) i)))) s rfl fun _ s => ?_;refine pk0 (v := .int .i64 (chkP d (plet (byteAt (rstr d.k) i)))) s rfl fun _ s => q4 <| qr <| co_thenR <| qr ?_;refine co_ret1 s rfl rfl ?_;obtain ⟨c, hc, hcb, _⟩ := hcn;exact ⟨ret_int (by unfold chkMg; rw [if_pos (by omega), hcb]; exact cF_bad (f := cP d) (i := i) hL hc (by show chkP d _ ≠ 0; rw [← hcb]; omega)), hB58⟩
 · skip
   refine co_enter (n := 25) Try.func14 rfl rfl rfl [(0, .agg #[.int .i64 d.k, .int .i64 d.ep, .int .i64 d.rq, .int .i64 d.sr, .bool d.fg, .int .u64 d.at_, .int .u64 d.la, .int .i64 d.n, .int .i64 d.m, .int .i64 d.p, .int .i64 d.e, .string d.key, .string d.to_, .int .i64 d.cep, mv, .int .u64 d.cfl, .int .i64 d.bc, .int .i64 d.br, bv, ev, sv, pv])] rfl (fun a s => ?_);refine q2 ?_;refine pw s rfl (op_new (v := fun N => pt N 0) (T := 46) (cs := #[.int .i64 d.k, .int .i64 d.ep, .int .i64 d.rq, .int .i64 d.sr, .bool d.fg, .int .u64 d.at_, .int .u64 d.la, .int .i64 d.n, .int .i64 d.m, .int .i64 d.p, .int .i64 d.e, .string d.key, .string d.to_, .int .i64 d.cep, mv, .int .u64 d.cfl, .int .i64 d.bc, .int .i64 d.br, bv, ev, sv, pv]) (by kernel_rfl) (by kernel_rfl) (by kernel_rfl)) ?_;rintro _ w72 a71 ⟨N73, rfl, hN76, hz77, hk75, hg74⟩ s;have hz78 := hg74.size
   try dsimp only at s
   refine pk0 (v := .int .i64 0) s rfl fun _ s => q3 ?_;refine pk0 (v := pt N73 0) s rfl fun _ s => ?_;refine pk (v := .int .i64 d.k) s rfl (rn_load1 rfl rfl Try.isAgg3 (hk75.cell rfl)) fun _ s => ?_;refine pw s rfl (op_call (args := #[.int .i64 d.k]) (R := fun res xw => res = .string (rstr d.k) ∧ Below w72.heap.size w72 xw) rfl rfl rfl (by kernel_rfl) (by kernel_rfl) (Try.call25 _ _) (rmParts_any d.k w72 ) (by rintro e x ⟨rfl, hb84⟩; exact ⟨_, rfl, ⟨rfl, hb84⟩⟩)) ?_;rintro _ w83 a82 ⟨rfl, hb84⟩ s;have hz85 := hb84.size;refine pk0 (v := .string (rstr d.k)) s rfl fun _ s => q6 ?_;refine pk0 (v := .string (rstr d.k)) s rfl fun _ s => ?_;refine pk0 (v := .bool ((rstr d.k : ByteArray).toList == (⟨#[63]⟩ : ByteArray).toList)) s rfl fun _ s => q1 ?_;have hc89 : ((rstr d.k : ByteArray).toList == (⟨#[63]⟩ : ByteArray).toList) = true := by rw [rstr_n hkk]; simp
   rw [hc89] at s;refine co_true s rfl <| q2 ?_;refine pk0 (v := .int .i64 11) s rfl fun _ s => q5 ?_;refine co_ret1 s rfl rfl ?_;have hB91 := hb_new hB0 hg74;have hB92 := hb_call hB91 hb84;exact ⟨ret_int (by unfold chkMg; rw [if_neg (by omega)]), hB92⟩
end Go.Proofs.Ytaoibbakflacoaa

/- catenalaw34: few, the same reply. Conditions: none. -/
namespace Go.Proofs.Ytaoibbakflacoaa
open Go.RowKit Go.PlainAid
set_option linter.unusedVariables false
set_option linter.unusedSimpArgs false

theorem eq_pair (a b d e : ByteArray) (w : World) : (binOp .eql 57 (.agg #[.string a, .string b]) (.agg #[.string d, .string e])).run Try.prog w = .ok (.bool (a.toList == d.toList && b.toList == e.toList)) w := by
  have u := Try.underlying9
  have hS : Try.prog.underlying 57 = some (.struct (Try.prog.fieldsOf 57)) := by kernel_rfl
  have hp : Try.prog.stoodInHeld 57 = false := by kernel_rfl
  have hf : (Try.prog.fieldsOf 57).toList.map (fun f => (f.offset, f.type)) = [(0, 9), (1, 9)] := by kernel_rfl
  rw [run_eql_struct, show (10000 : Nat) = 9999 + 1 from rfl, run_equalIn_agg w 9999 57 _ _ hS hp]
  simp only [Program.fieldsOf, Try.underlying57]
  go_simp
  by_cases h1 : a.toList = d.toList <;> by_cases h2 : b.toList = e.toList <;> simp [h1, h2]

/-- What is known of an act that comes. -/
structure AActM (w : World) (a : AActT) : Prop extends AActS w a where
  hps : ∀ z ∈ a.x.d.pr, (fun z : PrT => z.1.size ≤ 9223372036854775807) z
  hat : 0 ≤ a.x.d.at_ ∧ a.x.d.at_ < 18446744073709551616
theorem AActM.of {w : World} {a : AActT} (h : MsgOk w a.x) : AActM w a := ⟨.of h, h.hps, h.hR.rng.2.2.1⟩
theorem AActS.below {w x : World} {a : AActT} (h : AActS w a) (hb : Below w.heap.size w x) : AActS x a := ⟨h.hm.below hb, h.hb.below hb, h.he.below hb, h.ht.below hb, h.hp.below hb⟩
theorem tmNew7 (w : World) (qa : AkD) (ov : Value) (cc : Int) (hcc : qa.c = cc) (hc : 0 ≤ cc ∧ cc ≤ 2) (h7 : qa.rq = 7) (ho : SliceOf opE 3 w ov qa.ops) (hol : qa.ops.length ≤ 100) (hat : 0 ≤ qa.at0 ∧ qa.at0 < 18446744073709551616) (hok : okQ qa) :
    Calls Try.prog 8 #[.int .i64 cc, .int .i64 7, .agg #[.int .i64 qa.K, .int .i64 qa.nd, .string qa.k0, .string qa.to_, .int .u64 qa.at0, .int .i64 qa.n, ov]] w fun e x => ∃ (tk : Nat) (S' : Nat → Prop), e = .returned (.tuple #[pt tk 0, .int .i64 0]) ∧ TkM S' x tk 0 rp0 ∧ (∀ q, S' q → w.heap.size ≤ q) ∧ Below w.heap.size w x := by
  subst hcc; have := tmNew w qa ov hc h7 ho hol hat hok; rw [h7] at this; exact this
theorem tmNew0 (w : World) (qa : AkD) (ov : Value) (cc : Int) (hcc : qa.c = cc) (hc : 0 ≤ cc ∧ cc ≤ 2) (h7 : qa.rq = 7) (ho : SliceOf opE 3 w ov qa.ops) (hol : qa.ops.length ≤ 100) (hok : ¬ okQ qa) :
    Calls Try.prog 8 #[.int .i64 cc, .int .i64 7, .agg #[.int .i64 qa.K, .int .i64 qa.nd, .string qa.k0, .string qa.to_, .int .u64 qa.at0, .int .i64 qa.n, ov]] w fun e x => e = .returned (.tuple #[.pointer none, .int .i64 1]) ∧ Below w.heap.size w x := by
  subst hcc; have := mNewE_any qa ov w hc (by omega) ho hol hok; rw [h7] at this; exact this

set_option maxRecDepth 100000 in
theorem samePrM_any (u : Value) (v : Value) (l : List PrT) (w : World) (hu : SliceOf prE 2 w u l) (hv : SliceOf prE 2 w v l) :
    Calls Try.prog 18 #[u, v] w fun e w' => e = .returned (.bool true) ∧ Below w.heap.size w w' := by
 have hB0 := Below.refl w.heap.size w;have hl_hu := sl_len hu;have hl_hv := sl_len hv;refine co_enter (n := 32) Try.func18 rfl rfl rfl [(0, u), (1, v)] rfl (fun a s => ?_);refine q2 ?_;refine pk0 (v := .bool false) s rfl fun _ s => q6 ?_;refine pk0 (v := u) s rfl fun _ s => ?_;refine pk (v := .int .i64 (l.length : Int)) s rfl (rn_len rfl rfl Try.underlying33 hu) fun _ s => ?_;refine pk0 (v := v) s rfl fun _ s => ?_;refine pk (v := .int .i64 (l.length : Int)) s rfl (rn_len rfl rfl Try.underlying33 hv) fun _ s => ?_;refine pk0 (v := .bool ((l.length : Int) != (l.length : Int))) s rfl fun _ s => q1 ?_;have hc7 : ((l.length : Int) != (l.length : Int)) = false := by first | (simp; done) | (simp; omega) | exact beq_false_of_ne (by omega) | exact beq_iff_eq.2 (by omega)
 rw [hc7] at s;refine co_false s rfl <| q8 ?_;refine pk0 (v := .int .i64 0) s rfl fun _ s => q1 <| wp_block ?_;have s : Slots 32 [(0, u), (1, v), (5, .int .i64 0)] _ := s.sub ⟨rfl, rfl, rfl, trivial⟩;refine co_loop (fun mm a x => ∃ (i : Nat), Slots 32 [(0, u), (1, v), (5, .int .i64 (i : Int))] a ∧ mm = l.length - i ∧ (i ≤ l.length) ∧ Below w.heap.size w x) (l.length - 0) ?_ ?_
 · exact ⟨0, s.sub ⟨rfl, rfl, (slot_eq rfl (congrArg (Value.int .i64) (by first | rfl | omega))), trivial⟩, rfl, by omega, hB0⟩
 · rintro k10 a11 w12 ⟨i, s, rfl, hi13, hB14⟩
   have hz15 := hB14.size;refine q9 ?_;refine pk0 (v := .int .i64 (i : Int)) s rfl fun _ s => ?_;refine pk0 (v := u) s rfl fun _ s => ?_;refine pk (v := .int .i64 (l.length : Int)) s rfl (rn_len rfl rfl Try.underlying33 (hu.below hB14)) fun _ s => ?_;refine pk0 (v := .bool (decide ((i : Int) < (l.length : Int)))) s rfl fun _ s => ?_;refine pk0 (v := .bool (decide ((i : Int) < (l.length : Int)))) s rfl fun _ s => ?_;cases hc21 : (decide ((i : Int) < (l.length : Int)))
   ·
    rw [hc21] at s;have hp22 : ¬ ((i : Int) < (l.length : Int)) := of_decide_eq_false hc21;refine psk s rfl fun _ s => ?_;refine psk s rfl fun _ s => ?_;refine psk s rfl fun _ s => ?_;refine psk s rfl fun _ s => ?_;refine pk0 (v := .bool false) s rfl fun _ s => q1 ?_;refine co_false s rfl <| wp_exit <| co_thenX <| co_thenX <| qx <| q2 ?_;refine pk0 (v := .bool true) s rfl fun _ s => q4 ?_;refine co_ret1 s rfl rfl ?_;exact ⟨rfl, hB14⟩
   rw [hc21] at s;have hp29 : (i : Int) < (l.length : Int) := of_decide_eq_true hc21;refine pk0 (v := .int .i64 (i : Int)) s rfl fun _ s => ?_;refine pk0 (v := v) s rfl fun _ s => ?_;refine pk (v := .int .i64 (l.length : Int)) s rfl (rn_len rfl rfl Try.underlying33 (hv.below hB14)) fun _ s => ?_;refine pk0 (v := .bool (decide ((i : Int) < (l.length : Int)))) s rfl fun _ s => ?_;refine pk0 (v := .bool (decide ((i : Int) < (l.length : Int)))) s rfl fun _ s => q1 ?_;have hc35 : (decide ((i : Int) < (l.length : Int))) = true := decide_eq_true (by omega);rw [hc35] at s;refine co_true s rfl <| q0 <| co_seq <| wp_block <| co_seq ?_;refine dr_eq (by kernel_rfl) (fun w36 hg37 => ?_);have hz38 := hg37.size;refine dk0 0 (v := u) s rfl rfl rfl fun _ s => ?_;refine dk0 1 (v := .int .i64 (i : Int)) s rfl rfl rfl fun _ s => ?_;have hB42 := hb_new hB14 hg37;obtain ⟨y41, hy41⟩ : ∃ z, l[i]? = some z := ⟨_, List.getElem?_eq_getElem (by first | omega | (simp; done) | (simp; omega))⟩;refine dk 2 (v := pt (blkOf u) (offOf u + i * 2)) s rfl rfl rfl (fun x hx => by subst hx; exact (rn_index rfl rfl rfl Try.underlying33 Try.sizeOf57 (hu.below hB42) (by omega) (by first | omega | (simp; done) | (simp; omega)))) fun _ s => ?_;refine dk 3 (v := .agg #[.string y41.1, .string y41.2]) s rfl rfl rfl (fun x hx => by subst hx; exact (rn_loadN rfl rfl Try.underlying57 rfl (by kernel_rfl) (sl_at (hu.below hB42) hy41))) fun _ s => ?_;refine dk0 4 (v := v) s rfl rfl rfl fun _ s => ?_;refine dk0 5 (v := .int .i64 (i : Int)) s rfl rfl rfl fun _ s => ?_;refine dk 6 (v := pt (blkOf v) (offOf v + i * 2)) s rfl rfl rfl (fun x hx => by subst hx; exact (rn_index rfl rfl rfl Try.underlying33 Try.sizeOf57 (hv.below hB42) (by omega) (by first | omega | (simp; done) | (simp; omega)))) fun _ s => ?_;refine dk 7 (v := .agg #[.string y41.1, .string y41.2]) s rfl rfl rfl (fun x hx => by subst hx; exact (rn_loadN rfl rfl Try.underlying57 rfl (by kernel_rfl) (sl_at (hv.below hB42) hy41))) fun _ s => ?_;refine dk 8 (v := .bool (!(y41.1.toList == y41.1.toList && y41.2.toList == y41.2.toList))) s rfl rfl rfl (fun x hx => by subst hx; exact (rn_neS rfl rfl rfl Try.eqGuardType57 (eq_pair _ _ _ _ _))) fun _ s => ?_;refine dr_done (by kernel_rfl) ?_;refine co_then ?_;have hc50 : (!(y41.1.toList == y41.1.toList && y41.2.toList == y41.2.toList)) = false := by simp
   rw [hc50] at s;refine co_false s rfl <| wp_skip <| co_blockN <| co_then <| co_reg ?_;refine pk0 (v := .int .i64 (i : Int)) s rfl fun _ s => ?_;refine pk (v := .int .i64 ((i + 1 : Nat) : Int)) s rfl (rn_arith' rfl rfl rfl rfl rfl rfl (IntWalk.i64_in _ (by omega)) (by omega)) fun _ s => ?_;refine pk0 (v := .int .i64 ((i + 1 : Nat) : Int)) s rfl fun _ s => q1 ?_;refine ⟨(l.length - (i + 1)), by omega, ?_⟩;exact ⟨i + 1, s.sub ⟨rfl, rfl, rfl, trivial⟩, rfl, by omega, hB42⟩
set_option maxRecDepth 100000 in
theorem few34_any (qa : AkD) (ov : Value) (v : Value) (l : List AActT) (w : World) (ho : SliceOf opE 3 w ov qa.ops) (hs : SliceOf aactE 25 w v l) (hok : ∀ z ∈ l, AActS w z) :
    Calls Try.prog 6 #[.agg #[.int .i64 qa.K, .int .i64 qa.nd, .string qa.k0, .string qa.to_, .int .u64 qa.at0, .int .i64 qa.n, ov], v] w fun e w' => ∃ (b : Bool), e = .returned (.bool b) ∧ (b = true → qa.ops.length ≤ 20) ∧ Below w.heap.size w w' := by
 have hB0 := Below.refl w.heap.size w;have hl_ho := sl_len ho;have hl_hs := sl_len hs;refine co_enter (n := 68) Try.func6 rfl rfl rfl [(0, .agg #[.int .i64 qa.K, .int .i64 qa.nd, .string qa.k0, .string qa.to_, .int .u64 qa.at0, .int .i64 qa.n, ov]), (1, v)] rfl (fun a s => ?_);refine q2 ?_;refine pw s rfl (op_new (v := fun N => pt N 0) (T := 25) (cs := #[.int .i64 qa.K, .int .i64 qa.nd, .string qa.k0, .string qa.to_, .int .u64 qa.at0, .int .i64 qa.n, ov]) (by kernel_rfl) (by kernel_rfl) (by kernel_rfl)) ?_;rintro _ w2 a1 ⟨N3, rfl, hN6, hz7, hk5, hg4⟩ s;have hz8 := hg4.size
 try dsimp only at s
 refine pk0 (v := .bool false) s rfl fun _ s => q6 ?_;refine pk0 (v := pt N3 6) s rfl fun _ s => ?_;refine pk (v := ov) s rfl (rn_load1 rfl rfl Try.isAgg23 (hk5.cell rfl)) fun _ s => ?_;have hB12 := hb_new hB0 hg4;refine pk (v := .int .i64 (qa.ops.length : Int)) s rfl (rn_len rfl rfl Try.underlying23 (ho.below hB12)) fun _ s => ?_;refine pk0 (v := .bool (decide ((qa.ops.length : Int) > 20))) s rfl fun _ s => ?_;refine pk0 (v := .bool (decide ((qa.ops.length : Int) > 20))) s rfl fun _ s => ?_;cases hc16 : (decide ((qa.ops.length : Int) > 20))
 ·
  rw [hc16] at s;have hp17 : ¬ ((qa.ops.length : Int) > 20) := of_decide_eq_false hc16;refine pk0 (v := pt N3 2) s rfl fun _ s => ?_;refine pk (v := .string qa.k0) s rfl (rn_load1 rfl rfl Try.isAgg9 (hk5.cell rfl)) fun _ s => ?_;refine pk (v := .int .i64 (qa.k0.size : Int)) s rfl (rn_lenStr rfl rfl Try.underlying9) fun _ s => ?_;refine pk0 (v := .bool (decide ((qa.k0.size : Int) > 100))) s rfl fun _ s => ?_;refine pk0 (v := .bool (decide ((qa.k0.size : Int) > 100))) s rfl fun _ s => ?_;refine pk0 (v := .bool (decide ((qa.k0.size : Int) > 100))) s rfl fun _ s => ?_;cases hc24 : (decide ((qa.k0.size : Int) > 100))
  ·
   rw [hc24] at s;have hp25 : ¬ ((qa.k0.size : Int) > 100) := of_decide_eq_false hc24;refine pk0 (v := pt N3 3) s rfl fun _ s => ?_;refine pk (v := .string qa.to_) s rfl (rn_load1 rfl rfl Try.isAgg9 (hk5.cell rfl)) fun _ s => ?_;refine pk (v := .int .i64 (qa.to_.size : Int)) s rfl (rn_lenStr rfl rfl Try.underlying9) fun _ s => ?_;refine pk0 (v := .bool (decide ((qa.to_.size : Int) > 100))) s rfl fun _ s => ?_;refine pk0 (v := .bool (decide ((qa.to_.size : Int) > 100))) s rfl fun _ s => q1 ?_;cases hc31 : (decide ((qa.to_.size : Int) > 100))
   ·
    rw [hc31] at s;have hp32 : ¬ ((qa.to_.size : Int) > 100) := of_decide_eq_false hc31;refine co_false s rfl <| q8 ?_;refine pk0 (v := .int .i64 0) s rfl fun _ s => q1 <| wp_block ?_;have s : Slots 68 [(1, v), (5, .int .i64 0)] _ := s.sub ⟨rfl, rfl, trivial⟩;refine co_loop (fun mm a x => ∃ (i : Nat), Slots 68 [(1, v), (5, .int .i64 (i : Int))] a ∧ mm = l.length - i ∧ (i ≤ l.length) ∧ (qa.ops.length ≤ 20) ∧ Below w.heap.size w x) (l.length - 0) ?_ ?_
    · exact ⟨0, s.sub ⟨rfl, (slot_eq rfl (congrArg (Value.int .i64) (by first | rfl | omega))), trivial⟩, rfl, by omega, by omega, hB12⟩
    · rintro k35 a36 w37 ⟨i, s, rfl, hi38, hi39, hB40⟩
      have hz41 := hB40.size;refine q9 ?_;refine pk0 (v := .int .i64 (i : Int)) s rfl fun _ s => ?_;refine pk0 (v := v) s rfl fun _ s => ?_;refine pk (v := .int .i64 (l.length : Int)) s rfl (rn_len rfl rfl Try.underlying26 (hs.below hB40)) fun _ s => ?_;refine pk0 (v := .bool (decide ((i : Int) < (l.length : Int)))) s rfl fun _ s => ?_;refine pk0 (v := .bool (decide ((i : Int) < (l.length : Int)))) s rfl fun _ s => ?_;cases hc47 : (decide ((i : Int) < (l.length : Int)))
      ·
       rw [hc47] at s;have hp48 : ¬ ((i : Int) < (l.length : Int)) := of_decide_eq_false hc47;refine psk s rfl fun _ s => ?_;refine psk s rfl fun _ s => ?_;refine pk0 (v := .bool false) s rfl fun _ s => q1 ?_;refine co_false s rfl <| wp_exit <| co_thenX <| co_thenX <| qx <| q2 ?_;refine pk0 (v := .bool true) s rfl fun _ s => q4 ?_;refine co_ret1 s rfl rfl ?_;exact ⟨_, rfl, (by first | (intro; omega) | (intro e; cases e)), hB40⟩
      rw [hc47] at s;have hp53 : (i : Int) < (l.length : Int) := of_decide_eq_true hc47;refine pk0 (v := .int .i64 (i : Int)) s rfl fun _ s => ?_;refine pk0 (v := .bool (decide ((i : Int) < 60))) s rfl fun _ s => ?_;refine pk0 (v := .bool (decide ((i : Int) < 60))) s rfl fun _ s => q1 ?_;cases hc57 : (decide ((i : Int) < 60))
      ·
       rw [hc57] at s;have hp58 : ¬ ((i : Int) < 60) := of_decide_eq_false hc57;refine co_false s rfl <| wp_exit <| co_thenX <| co_thenX <| qx <| q2 ?_;refine pk0 (v := .bool true) s rfl fun _ s => q4 ?_;refine co_ret1 s rfl rfl ?_;exact ⟨_, rfl, (by first | (intro; omega) | (intro e; cases e)), hB40⟩
      rw [hc57] at s;have hp60 : (i : Int) < 60 := of_decide_eq_true hc57;refine co_true s rfl <| q0 <| co_seq <| wp_block <| q2 ?_;refine pk0 (v := v) s rfl fun _ s => ?_;refine pk0 (v := .int .i64 (i : Int)) s rfl fun _ s => ?_;obtain ⟨y63, hy63⟩ : ∃ z, l[i]? = some z := ⟨_, List.getElem?_eq_getElem (by first | omega | (simp; done) | (simp; omega))⟩;have oky63 := hok _ (List.mem_of_getElem? hy63);refine pk (v := pt (blkOf v) (offOf v + i * 25)) s rfl (rn_index rfl rfl rfl Try.underlying26 Try.sizeOf48 (hs.below hB40) (by omega) (by first | omega | (simp; done) | (simp; omega))) fun _ s => ?_;refine pk0 (v := pt (blkOf v) (offOf v + i * 25 + 3)) s rfl fun _ s => ?_;refine pk (v := .agg #[.int .i64 y63.x.d.k, .int .i64 y63.x.d.ep, .int .i64 y63.x.d.rq, .int .i64 y63.x.d.sr, .bool y63.x.d.fg, .int .u64 y63.x.d.at_, .int .u64 y63.x.d.la, .int .i64 y63.x.d.n, .int .i64 y63.x.d.m, .int .i64 y63.x.d.p, .int .i64 y63.x.d.e, .string y63.x.d.key, .string y63.x.d.to_, .int .i64 y63.x.d.cep, y63.x.mv, .int .u64 y63.x.d.cfl, .int .i64 y63.x.d.bc, .int .i64 y63.x.d.br, y63.x.bv, y63.x.ev, y63.x.sv, y63.x.pv]) s rfl (rn_loadN rfl rfl Try.underlying46 rfl (by kernel_rfl) (range_part (sl_at (hs.below hB40) hy63) 3 _ (by rfl))) fun _ s => ?_;refine pw s rfl (op_new (v := fun N => pt N 0) (T := 46) (cs := #[.int .i64 0, .int .i64 0, .int .i64 0, .int .i64 0, .bool false, .int .u64 0, .int .u64 0, .int .i64 0, .int .i64 0, .int .i64 0, .int .i64 0, .string (⟨#[]⟩), .string (⟨#[]⟩), .int .i64 0, .slice none 0 0, .int .u64 0, .int .i64 0, .int .i64 0, .slice none 0 0, .slice none 0 0, .slice none 0 0, .slice none 0 0]) (by kernel_rfl) (by kernel_rfl) (by kernel_rfl)) ?_;rintro _ w68 a67 ⟨N69, rfl, hN72, hz73, hk71, hg70⟩ s;have hz74 := hg70.size
      try dsimp only at s
      have hB80 := hb_new hB40 hg70;refine pwD s rfl (op_storeN rfl rfl rfl (all_cons rfl (all_cons rfl (all_cons rfl (all_cons rfl (all_cons rfl (all_cons rfl (all_cons rfl (all_cons rfl (all_cons rfl (all_cons rfl (all_cons rfl (all_cons rfl (all_cons rfl (all_cons rfl (all_cons (sl_one (oky63.hm.below hB80)) (all_cons rfl (all_cons rfl (all_cons rfl (all_cons (sl_one (oky63.hb.below hB80)) (all_cons (sl_one (oky63.he.below hB80)) (all_cons (sl_one (oky63.ht.below hB80)) (all_cons (sl_one (oky63.hp.below hB80)) all_nil)))))))))))))))))))))) (by kernel_rfl) hk71 rfl) ?_;rintro _ w76 a75 ⟨hk77, hz78, hg79⟩ s;have hk77' : Blk w76 N69 46 #[.int .i64 y63.x.d.k, .int .i64 y63.x.d.ep, .int .i64 y63.x.d.rq, .int .i64 y63.x.d.sr, .bool y63.x.d.fg, .int .u64 y63.x.d.at_, .int .u64 y63.x.d.la, .int .i64 y63.x.d.n, .int .i64 y63.x.d.m, .int .i64 y63.x.d.p, .int .i64 y63.x.d.e, .string y63.x.d.key, .string y63.x.d.to_, .int .i64 y63.x.d.cep, y63.x.mv, .int .u64 y63.x.d.cfl, .int .i64 y63.x.d.bc, .int .i64 y63.x.d.br, y63.x.bv, y63.x.ev, y63.x.sv, y63.x.pv] := hk77;have hz81 := hg79.size;refine q3 ?_;refine pk0 (v := pt N69 13) s rfl fun _ s => ?_;refine pk0 (v := pt N69 14) s rfl fun _ s => ?_;refine pk (v := y63.x.mv) s rfl (rn_load1 rfl rfl Try.isAgg38 (hk77'.cell rfl)) fun _ s => ?_;have hB85 := hb_at hB80 hg79 (by omega);refine pk (v := .int .i64 (y63.x.d.cms.length : Int)) s rfl (rn_len rfl rfl Try.underlying38 (oky63.hm.below hB85)) fun _ s => ?_;refine pk0 (v := .bool (decide ((y63.x.d.cms.length : Int) > 20))) s rfl fun _ s => ?_;refine pk0 (v := .bool (decide ((y63.x.d.cms.length : Int) > 20))) s rfl fun _ s => ?_;cases hc89 : (decide ((y63.x.d.cms.length : Int) > 20))
      ·
       rw [hc89] at s;have hp90 : ¬ ((y63.x.d.cms.length : Int) > 20) := of_decide_eq_false hc89;refine pk0 (v := pt N69 16) s rfl fun _ s => ?_;refine pk0 (v := pt N69 18) s rfl fun _ s => ?_;refine pk (v := y63.x.bv) s rfl (rn_load1 rfl rfl Try.isAgg23 (hk77'.cell rfl)) fun _ s => ?_;refine pk (v := .int .i64 (y63.x.d.bl.length : Int)) s rfl (rn_len rfl rfl Try.underlying23 (oky63.hb.below hB85)) fun _ s => ?_;refine pk0 (v := .bool (decide ((y63.x.d.bl.length : Int) > 20))) s rfl fun _ s => ?_;refine pk0 (v := .bool (decide ((y63.x.d.bl.length : Int) > 20))) s rfl fun _ s => ?_;refine pk0 (v := .bool (decide ((y63.x.d.bl.length : Int) > 20))) s rfl fun _ s => ?_;cases hc98 : (decide ((y63.x.d.bl.length : Int) > 20))
       ·
        rw [hc98] at s;have hp99 : ¬ ((y63.x.d.bl.length : Int) > 20) := of_decide_eq_false hc98;refine pk0 (v := pt N69 19) s rfl fun _ s => ?_;refine pk (v := y63.x.ev) s rfl (rn_load1 rfl rfl Try.isAgg43 (hk77'.cell rfl)) fun _ s => ?_;refine pk (v := .int .i64 (y63.x.d.en.length : Int)) s rfl (rn_len rfl rfl Try.underlying43 (oky63.he.below hB85)) fun _ s => ?_;refine pk0 (v := .bool (decide ((y63.x.d.en.length : Int) > 20))) s rfl fun _ s => ?_;refine pk0 (v := .bool (decide ((y63.x.d.en.length : Int) > 20))) s rfl fun _ s => ?_;refine pk0 (v := .bool (decide ((y63.x.d.en.length : Int) > 20))) s rfl fun _ s => ?_;cases hc106 : (decide ((y63.x.d.en.length : Int) > 20))
        ·
         rw [hc106] at s;have hp107 : ¬ ((y63.x.d.en.length : Int) > 20) := of_decide_eq_false hc106;refine pk0 (v := pt N69 20) s rfl fun _ s => ?_;refine pk (v := y63.x.sv) s rfl (rn_load1 rfl rfl Try.isAgg44 (hk77'.cell rfl)) fun _ s => ?_;refine pk (v := .int .i64 (y63.x.d.st.length : Int)) s rfl (rn_len rfl rfl Try.underlying44 (oky63.ht.below hB85)) fun _ s => ?_;refine pk0 (v := .bool (decide ((y63.x.d.st.length : Int) > 20))) s rfl fun _ s => ?_;refine pk0 (v := .bool (decide ((y63.x.d.st.length : Int) > 20))) s rfl fun _ s => ?_;refine pk0 (v := .bool (decide ((y63.x.d.st.length : Int) > 20))) s rfl fun _ s => ?_;cases hc114 : (decide ((y63.x.d.st.length : Int) > 20))
         ·
          rw [hc114] at s;have hp115 : ¬ ((y63.x.d.st.length : Int) > 20) := of_decide_eq_false hc114;refine pk0 (v := pt N69 21) s rfl fun _ s => ?_;refine pk (v := y63.x.pv) s rfl (rn_load1 rfl rfl Try.isAgg33 (hk77'.cell rfl)) fun _ s => ?_;refine pk (v := .int .i64 (y63.x.d.pr.length : Int)) s rfl (rn_len rfl rfl Try.underlying33 (oky63.hp.below hB85)) fun _ s => ?_;refine pk0 (v := .bool (decide ((y63.x.d.pr.length : Int) > 40))) s rfl fun _ s => ?_;refine pk0 (v := .bool (decide ((y63.x.d.pr.length : Int) > 40))) s rfl fun _ s => q1 ?_;cases hc121 : (decide ((y63.x.d.pr.length : Int) > 40))
          ·
           rw [hc121] at s;have hp122 : ¬ ((y63.x.d.pr.length : Int) > 40) := of_decide_eq_false hc121;refine co_false s rfl <| wp_skip <| co_blockN <| co_then <| co_reg ?_;refine pk0 (v := .int .i64 (i : Int)) s rfl fun _ s => ?_;refine pk (v := .int .i64 ((i + 1 : Nat) : Int)) s rfl (rn_arith' rfl rfl rfl rfl rfl rfl (IntWalk.i64_in _ (by omega)) (by omega)) fun _ s => ?_;refine pk0 (v := .int .i64 ((i + 1 : Nat) : Int)) s rfl fun _ s => q1 ?_;refine ⟨(l.length - (i + 1)), by omega, ?_⟩;exact ⟨i + 1, s.sub ⟨rfl, rfl, trivial⟩, rfl, by omega, by omega, hB85⟩
          rw [hc121] at s;have hp126 : (y63.x.d.pr.length : Int) > 40 := of_decide_eq_true hc121;refine co_true s rfl <| q2 ?_;refine pk0 (v := .bool false) s rfl fun _ s => q4 <| qr <| co_thenR <| qr ?_;refine co_ret1 s rfl rfl ?_;exact ⟨_, rfl, (by first | (intro; omega) | (intro e; cases e)), hB85⟩
         rw [hc114] at s;have hp128 : (y63.x.d.st.length : Int) > 20 := of_decide_eq_true hc114;refine psk s rfl fun _ s => ?_;refine psk s rfl fun _ s => ?_;refine psk s rfl fun _ s => ?_;refine psk s rfl fun _ s => ?_;refine pk0 (v := .bool true) s rfl fun _ s => q1 ?_;refine co_true s rfl <| q2 ?_;refine pk0 (v := .bool false) s rfl fun _ s => q4 <| qr <| co_thenR <| qr ?_;refine co_ret1 s rfl rfl ?_;exact ⟨_, rfl, (by first | (intro; omega) | (intro e; cases e)), hB85⟩
        rw [hc106] at s;have hp135 : (y63.x.d.en.length : Int) > 20 := of_decide_eq_true hc106;refine psk s rfl fun _ s => ?_;refine psk s rfl fun _ s => ?_;refine psk s rfl fun _ s => ?_;refine psk s rfl fun _ s => ?_;refine pk0 (v := .bool true) s rfl fun _ s => ?_;refine pk0 (v := .bool true) s rfl fun _ s => ?_;refine psk s rfl fun _ s => ?_;refine psk s rfl fun _ s => ?_;refine psk s rfl fun _ s => ?_;refine psk s rfl fun _ s => ?_;refine pk0 (v := .bool true) s rfl fun _ s => q1 ?_;refine co_true s rfl <| q2 ?_;refine pk0 (v := .bool false) s rfl fun _ s => q4 <| qr <| co_thenR <| qr ?_;refine co_ret1 s rfl rfl ?_;exact ⟨_, rfl, (by first | (intro; omega) | (intro e; cases e)), hB85⟩
       rw [hc98] at s;have hp148 : (y63.x.d.bl.length : Int) > 20 := of_decide_eq_true hc98;refine psk s rfl fun _ s => ?_;refine psk s rfl fun _ s => ?_;refine psk s rfl fun _ s => ?_;refine psk s rfl fun _ s => ?_;refine pk0 (v := .bool true) s rfl fun _ s => ?_;refine pk0 (v := .bool true) s rfl fun _ s => ?_;refine psk s rfl fun _ s => ?_;refine psk s rfl fun _ s => ?_;refine psk s rfl fun _ s => ?_;refine psk s rfl fun _ s => ?_;refine pk0 (v := .bool true) s rfl fun _ s => ?_;refine pk0 (v := .bool true) s rfl fun _ s => ?_;refine psk s rfl fun _ s => ?_;refine psk s rfl fun _ s => ?_;refine psk s rfl fun _ s => ?_;refine psk s rfl fun _ s => ?_;refine pk0 (v := .bool true) s rfl fun _ s => q1 ?_;refine co_true s rfl <| q2 ?_;refine pk0 (v := .bool false) s rfl fun _ s => q4 <| qr <| co_thenR <| qr ?_;refine co_ret1 s rfl rfl ?_;exact ⟨_, rfl, (by first | (intro; omega) | (intro e; cases e)), hB85⟩
      rw [hc89] at s;have hp167 : (y63.x.d.cms.length : Int) > 20 := of_decide_eq_true hc89;refine psk s rfl fun _ s => ?_;refine psk s rfl fun _ s => ?_;refine psk s rfl fun _ s => ?_;refine psk s rfl fun _ s => ?_;refine psk s rfl fun _ s => ?_;refine pk0 (v := .bool true) s rfl fun _ s => ?_;refine pk0 (v := .bool true) s rfl fun _ s => ?_;refine psk s rfl fun _ s => ?_;refine psk s rfl fun _ s => ?_;refine psk s rfl fun _ s => ?_;refine psk s rfl fun _ s => ?_;refine pk0 (v := .bool true) s rfl fun _ s => ?_;refine pk0 (v := .bool true) s rfl fun _ s => ?_;refine psk s rfl fun _ s => ?_;refine psk s rfl fun _ s => ?_;refine psk s rfl fun _ s => ?_;refine psk s rfl fun _ s => ?_;refine pk0 (v := .bool true) s rfl fun _ s => ?_;refine pk0 (v := .bool true) s rfl fun _ s => ?_;refine psk s rfl fun _ s => ?_;refine psk s rfl fun _ s => ?_;refine psk s rfl fun _ s => ?_;refine psk s rfl fun _ s => ?_;refine pk0 (v := .bool true) s rfl fun _ s => q1 ?_;refine co_true s rfl <| q2 ?_;refine pk0 (v := .bool false) s rfl fun _ s => q4 <| qr <| co_thenR <| qr ?_;refine co_ret1 s rfl rfl ?_;exact ⟨_, rfl, (by first | (intro; omega) | (intro e; cases e)), hB85⟩
   rw [hc31] at s;have hp193 : (qa.to_.size : Int) > 100 := of_decide_eq_true hc31;refine co_true s rfl <| q2 ?_;refine pk0 (v := .bool false) s rfl fun _ s => q5 ?_;refine co_ret1 s rfl rfl ?_;exact ⟨_, rfl, (by first | (intro; omega) | (intro e; cases e)), hB12⟩
  rw [hc24] at s;have hp195 : (qa.k0.size : Int) > 100 := of_decide_eq_true hc24;refine psk s rfl fun _ s => ?_;refine psk s rfl fun _ s => ?_;refine psk s rfl fun _ s => ?_;refine psk s rfl fun _ s => ?_;refine pk0 (v := .bool true) s rfl fun _ s => q1 ?_;refine co_true s rfl <| q2 ?_;refine pk0 (v := .bool false) s rfl fun _ s => q5 ?_;refine co_ret1 s rfl rfl ?_;exact ⟨_, rfl, (by first | (intro; omega) | (intro e; cases e)), hB12⟩
 rw [hc16] at s;have hp202 : (qa.ops.length : Int) > 20 := of_decide_eq_true hc16;refine psk s rfl fun _ s => ?_;refine psk s rfl fun _ s => ?_;refine psk s rfl fun _ s => ?_;refine psk s rfl fun _ s => ?_;refine pk0 (v := .bool true) s rfl fun _ s => ?_;refine pk0 (v := .bool true) s rfl fun _ s => ?_;refine psk s rfl fun _ s => ?_;refine psk s rfl fun _ s => ?_;refine psk s rfl fun _ s => ?_;refine psk s rfl fun _ s => ?_;refine pk0 (v := .bool true) s rfl fun _ s => q1 ?_;refine co_true s rfl <| q2 ?_;refine pk0 (v := .bool false) s rfl fun _ s => q5 ?_;refine co_ret1 s rfl rfl ?_;exact ⟨_, rfl, (by first | (intro; omega) | (intro e; cases e)), hB12⟩
set_option maxRecDepth 100000 in
theorem sameReply34_any (r1 : Int) (r2 : Int) (r3 : Int) (r4 : Int) (u : Value) (v : Value) (l : List PrT) (w : World) (hu : SliceOf prE 2 w u l) (hv : SliceOf prE 2 w v l) :
    Calls Try.prog 12 #[.agg #[.int .i64 r1, .int .i64 r2, .int .u64 r3, .int .i64 r4, u], .agg #[.int .i64 r1, .int .i64 r2, .int .u64 r3, .int .i64 r4, v]] w fun e w' => e = .returned (.bool true) ∧ Below w.heap.size w w' := by
 have hB0 := Below.refl w.heap.size w;have hl_hu := sl_len hu;have hl_hv := sl_len hv;refine co_enter (n := 38) Try.func12 rfl rfl rfl [(0, .agg #[.int .i64 r1, .int .i64 r2, .int .u64 r3, .int .i64 r4, u]), (1, .agg #[.int .i64 r1, .int .i64 r2, .int .u64 r3, .int .i64 r4, v])] rfl (fun a s => ?_);refine q2 ?_;refine pw s rfl (op_new (v := fun N => pt N 0) (T := 35) (cs := #[.int .i64 r1, .int .i64 r2, .int .u64 r3, .int .i64 r4, u]) (by kernel_rfl) (by kernel_rfl) (by kernel_rfl)) ?_;rintro _ w2 a1 ⟨N3, rfl, hN6, hz7, hk5, hg4⟩ s;have hz8 := hg4.size
 try dsimp only at s
 refine pw s rfl (op_new (v := fun N => pt N 0) (T := 35) (cs := #[.int .i64 r1, .int .i64 r2, .int .u64 r3, .int .i64 r4, v]) (by kernel_rfl) (by kernel_rfl) (by kernel_rfl)) ?_;rintro _ w10 a9 ⟨N11, rfl, hN14, hz15, hk13, hg12⟩ s;have hz16 := hg12.size
 try dsimp only at s
 refine pk0 (v := .bool false) s rfl fun _ s => q3 ?_;refine pk0 (v := pt N3 0) s rfl fun _ s => ?_;have hk19 := hk5.kept hg12 (by simp);refine pk (v := .int .i64 r1) s rfl (rn_load1 rfl rfl Try.isAgg3 (hk19.cell rfl)) fun _ s => ?_;refine pk0 (v := pt N11 0) s rfl fun _ s => ?_;refine pk (v := .int .i64 r1) s rfl (rn_load1 rfl rfl Try.isAgg3 (hk13.cell rfl)) fun _ s => ?_;refine pk0 (v := .bool (r1 == r1)) s rfl fun _ s => ?_;refine pk0 (v := .bool (r1 == r1)) s rfl fun _ s => ?_;have hc25 : (r1 == r1) = true := by first | (simp; done) | (simp; omega) | exact beq_false_of_ne (by omega) | exact beq_iff_eq.2 (by omega)
 rw [hc25] at s;refine pk0 (v := pt N3 1) s rfl fun _ s => ?_;refine pk (v := .int .i64 r2) s rfl (rn_load1 rfl rfl Try.isAgg30 (hk19.cell rfl)) fun _ s => ?_;refine pk0 (v := pt N11 1) s rfl fun _ s => ?_;refine pk (v := .int .i64 r2) s rfl (rn_load1 rfl rfl Try.isAgg30 (hk13.cell rfl)) fun _ s => ?_;refine pk0 (v := .bool (r2 == r2)) s rfl fun _ s => ?_;refine pk0 (v := .bool (r2 == r2)) s rfl fun _ s => ?_;refine pk0 (v := .bool (r2 == r2)) s rfl fun _ s => ?_;have hc33 : (r2 == r2) = true := by first | (simp; done) | (simp; omega) | exact beq_false_of_ne (by omega) | exact beq_iff_eq.2 (by omega)
 rw [hc33] at s;refine pk0 (v := pt N3 2) s rfl fun _ s => ?_;refine pk (v := .int .u64 r3) s rfl (rn_load1 rfl rfl Try.isAgg22 (hk19.cell rfl)) fun _ s => ?_;refine pk0 (v := pt N11 2) s rfl fun _ s => ?_;refine pk (v := .int .u64 r3) s rfl (rn_load1 rfl rfl Try.isAgg22 (hk13.cell rfl)) fun _ s => ?_;refine pk0 (v := .bool (r3 == r3)) s rfl fun _ s => ?_;refine pk0 (v := .bool (r3 == r3)) s rfl fun _ s => ?_;refine pk0 (v := .bool (r3 == r3)) s rfl fun _ s => ?_;have hc41 : (r3 == r3) = true := by first | (simp; done) | (simp; omega) | exact beq_false_of_ne (by omega) | exact beq_iff_eq.2 (by omega)
 rw [hc41] at s;refine pk0 (v := pt N3 3) s rfl fun _ s => ?_;refine pk (v := .int .i64 r4) s rfl (rn_load1 rfl rfl Try.isAgg3 (hk19.cell rfl)) fun _ s => ?_;refine pk0 (v := pt N11 3) s rfl fun _ s => ?_;refine pk (v := .int .i64 r4) s rfl (rn_load1 rfl rfl Try.isAgg3 (hk13.cell rfl)) fun _ s => ?_;refine pk0 (v := .bool (r4 == r4)) s rfl fun _ s => ?_;refine pk0 (v := .bool (r4 == r4)) s rfl fun _ s => ?_;refine pk0 (v := .bool (r4 == r4)) s rfl fun _ s => ?_;have hc49 : (r4 == r4) = true := by first | (simp; done) | (simp; omega) | exact beq_false_of_ne (by omega) | exact beq_iff_eq.2 (by omega)
 rw [hc49] at s;refine pk0 (v := pt N3 4) s rfl fun _ s => ?_;refine pk (v := u) s rfl (rn_load1 rfl rfl Try.isAgg33 (hk19.cell rfl)) fun _ s => ?_;refine pk0 (v := pt N11 4) s rfl fun _ s => ?_;refine pk (v := v) s rfl (rn_load1 rfl rfl Try.isAgg33 (hk13.cell rfl)) fun _ s => ?_;have hB56 := hb_new hB0 hg4;have hB57 := hb_new hB56 hg12;refine pw s rfl (op_call (args := #[u, v]) (R := fun res xw => res = .bool true ∧ Below w10.heap.size w10 xw) rfl rfl rfl (by kernel_rfl) (by kernel_rfl) (Try.call18 _ _) (samePrM_any u v l w10 (hu.below hB57) (hv.below hB57)) (by rintro e x ⟨rfl, h⟩; exact ⟨_, rfl, rfl, h⟩)) ?_;rintro _ w55 a54 ⟨rfl, hb58⟩ s;have hz59 := hb58.size;refine pk0 (v := .bool true) s rfl fun _ s => ?_;refine pk0 (v := .bool true) s rfl fun _ s => q4 ?_;refine co_ret1 s rfl rfl ?_;have hB62 := hb_call hB57 hb58;exact ⟨rfl, hB62⟩

theorem sameReplyQ (r rb : RpD) (h : rb = r) (u v : Value) (w : World) (hu : SliceOf prE 2 w u rb.prs) (hv : SliceOf prE 2 w v r.prs) :
    Calls Try.prog 12 #[.agg #[.int .i64 (rqR rb), .int .i64 rb.er, .int .u64 rb.at_, .int .i64 rb.pn, u], .agg #[.int .i64 (rqR r), .int .i64 r.er, .int .u64 r.at_, .int .i64 r.pn, v]] w fun e w' => e = .returned (.bool true) ∧ Below w.heap.size w w' := by
  subst h; exact sameReply34_any _ _ _ _ u v _ w hu hv

end Go.Proofs.Ytaoibbakflacoaa

/- catenalaw34: AsksMay, an ask that may not be. Conditions: none. -/
namespace Go.Proofs.Ytaoibbakflacoaa
open Go.RowKit Go.PlainAid
set_option linter.unusedVariables false
set_option linter.unusedSimpArgs false

set_option maxRecDepth 100000 in
set_option maxHeartbeats 12800000 in
theorem asksMayE (qa : AkD) (ov : Value) (v : Value) (l : List AActT) (c : Nat) (md : Nat) (w : World) (ho : SliceOf opE 3 w ov qa.ops) (hs : SliceOf aactE 25 w v l) (hok : ∀ z ∈ l, AActM w z) (hmd : (md : Int) = (c : Int) % 3) (hm2 : md ≤ 2) (hqc : qa.c = (md : Int)) (hq7 : qa.rq = 7) (hat : 0 ≤ qa.at0 ∧ qa.at0 < 18446744073709551616) (hcc : c ≤ 255) (hok2 : ¬ okQ qa) :
    Calls Try.prog 3 #[.int .u8 (c : Int), .agg #[.int .i64 qa.K, .int .i64 qa.nd, .string qa.k0, .string qa.to_, .int .u64 qa.at0, .int .i64 qa.n, ov], v] w fun e w' => e = .returned (.bool true) ∧ Below w.heap.size w w' := by
 have hB0 := Below.refl w.heap.size w;have hl_ho := sl_len ho;have hl_hs := sl_len hs;refine co_enter (n := 140) Try.func3 rfl rfl rfl [(0, .int .u8 (c : Int)), (1, .agg #[.int .i64 qa.K, .int .i64 qa.nd, .string qa.k0, .string qa.to_, .int .u64 qa.at0, .int .i64 qa.n, ov]), (2, v)] rfl (fun a s => ?_);refine q2 ?_;refine pw s rfl (op_new (v := fun N => pt N 0) (T := 25) (cs := #[.int .i64 qa.K, .int .i64 qa.nd, .string qa.k0, .string qa.to_, .int .u64 qa.at0, .int .i64 qa.n, ov]) (by kernel_rfl) (by kernel_rfl) (by kernel_rfl)) ?_;rintro _ w2 a1 ⟨N3, rfl, hN6, hz7, hk5, hg4⟩ s;have hz8 := hg4.size
 try dsimp only at s
 refine pk0 (v := .bool false) s rfl fun _ s => q6 ?_;refine pk (v := .agg #[.int .i64 qa.K, .int .i64 qa.nd, .string qa.k0, .string qa.to_, .int .u64 qa.at0, .int .i64 qa.n, ov]) s rfl (rn_loadN rfl rfl Try.underlying25 rfl (by kernel_rfl) hk5.all) fun _ s => ?_;refine pk0 (v := v) s rfl fun _ s => ?_;have hB14 := hb_new hB0 hg4;refine pw s rfl (op_call (args := #[.agg #[.int .i64 qa.K, .int .i64 qa.nd, .string qa.k0, .string qa.to_, .int .u64 qa.at0, .int .i64 qa.n, ov], v]) (R := fun res xw => ∃ b : Bool, res = .bool b ∧ (b = true → qa.ops.length ≤ 20) ∧ Below w2.heap.size w2 xw) rfl rfl rfl (by kernel_rfl) (by kernel_rfl) (Try.call6 _ _) (few34_any qa ov v l w2 (ho.below hB14) (hs.below hB14) (fun z hz => (hok z hz).toAActS.below hB14)) (by rintro e x ⟨b, rfl, h⟩; exact ⟨_, rfl, b, rfl, h⟩)) ?_;rintro _ w13 a12 ⟨b15, rfl, hq16, hb17⟩ s;have hz18 := hb17.size;have hB20 := hb_call hB14 hb17;cases hc19 : (b15)
 ·
  rw [hc19] at s;refine pk0 (v := .bool true) s rfl fun _ s => q1 ?_;refine co_true s rfl <| q2 ?_;refine pw s rfl (op_call (args := #[]) (R := fun res xw => res = .bool true ∧ Below w13.heap.size w13 xw) rfl rfl rfl (by kernel_rfl) (by kernel_rfl) (Try.call7 _ _) (awake34  w13 ) (by rintro e x ⟨rfl, hb24⟩; exact ⟨_, rfl, ⟨rfl, hb24⟩⟩)) ?_;rintro _ w23 a22 ⟨rfl, hb24⟩ s;have hz25 := hb24.size;refine pk0 (v := .bool true) s rfl fun _ s => q5 ?_;refine co_ret1 s rfl rfl ?_;have hB27 := hb_call hB20 hb24;exact ⟨rfl, hB27⟩
 rw [hc19] at s;refine pk0 (v := .bool false) s rfl fun _ s => q1 ?_;refine co_false s rfl <| q7 ?_;refine pk0 (v := .int .u8 (c : Int)) s rfl fun _ s => ?_;refine pk (v := .int .i64 (c : Int)) s rfl (rn_conv rfl rfl Try.underlying5 Try.underlying3 (IntWalk.i64_in _ (by omega))) fun _ s => ?_;refine pk (v := .int .i64 (md : Int)) s rfl (by rw [hmd]; exact rn_rem rfl rfl rfl (by omega) (by omega)) fun _ s => ?_;have hk32 := hk5.below hb17;refine pk (v := .agg #[.int .i64 qa.K, .int .i64 qa.nd, .string qa.k0, .string qa.to_, .int .u64 qa.at0, .int .i64 qa.n, ov]) s rfl (rn_loadN rfl rfl Try.underlying25 rfl (by kernel_rfl) hk32.all) fun _ s => ?_;have hlq : qa.ops.length ≤ 100 := Nat.le_trans (hq16 (by assumption)) (by omega);refine pw s rfl (op_call (args := #[.int .i64 (md : Int), .int .i64 7, .agg #[.int .i64 qa.K, .int .i64 qa.nd, .string qa.k0, .string qa.to_, .int .u64 qa.at0, .int .i64 qa.n, ov]]) (R := fun res xw => res = .tuple #[.pointer none, .int .i64 1] ∧ Below w13.heap.size w13 xw) rfl rfl rfl (by kernel_rfl) (by kernel_rfl) (Try.call8 _ _) (tmNew0 w13 qa ov (md : Int) hqc (by omega) hq7 (ho.below hB20) hlq (hok2)) (by rintro e x ⟨rfl, h⟩; exact ⟨_, rfl, rfl, h⟩)) ?_;rintro _ w35 a34 ⟨rfl, hb36⟩ s;have hz37 := hb36.size;refine pk0 (v := .tuple #[.pointer none, .int .i64 1]) s rfl fun _ s => ?_;refine pk0 (v := .pointer none) s rfl fun _ s => ?_;refine pk0 (v := .int .i64 1) s rfl fun _ s => ?_;refine pk0 (v := .pointer none) s rfl fun _ s => ?_;refine pk0 (v := .int .i64 1) s rfl fun _ s => q6 ?_;refine pk0 (v := .int .i64 1) s rfl fun _ s => ?_;refine pk0 (v := .bool ((1 : Int) != 0)) s rfl fun _ s => q1 ?_;have hc45 : ((1 : Int) != 0) = true := by first | (simp; done) | (simp; omega) | exact beq_false_of_ne (by omega) | exact beq_iff_eq.2 (by omega)
 rw [hc45] at s;refine co_true s rfl <| q2 ?_;refine pk0 (v := .pointer none) s rfl fun _ s => ?_;refine pk0 (v := .bool true) s rfl fun _ s => ?_;refine pk0 (v := .bool true) s rfl fun _ s => ?_;refine pw s rfl (op_call (args := #[]) (R := fun res xw => res = .bool true ∧ Below w35.heap.size w35 xw) rfl rfl rfl (by kernel_rfl) (by kernel_rfl) (Try.call7 _ _) (awake34  w35 ) (by rintro e x ⟨rfl, hb51⟩; exact ⟨_, rfl, ⟨rfl, hb51⟩⟩)) ?_;rintro _ w50 a49 ⟨rfl, hb51⟩ s;have hz52 := hb51.size;refine pk0 (v := .bool true) s rfl fun _ s => ?_;refine pk0 (v := .bool true) s rfl fun _ s => q5 ?_;refine co_ret1 s rfl rfl ?_;have hB55 := hb_call hB20 hb36;have hB56 := hb_call hB55 hb51;exact ⟨rfl, hB56⟩
end Go.Proofs.Ytaoibbakflacoaa
