/- Package disk: its parts; Write. Conditions: texts of less than 10^9 bytes. -/
import Derived.Test.YtcnahhobppnbbaaPexU
import Derived.Test.YtcnahhobppnbbaaSortI
namespace Go.Proofs.Ytcnahhobppnbbaa
open Go.RowKit Go.PlainAid
set_option linter.unusedVariables false


abbrev FileM := List UInt8 × Int × Bool
/-- A file: where its bytes lie; the bytes, how many are safe, whether it stays. -/
abbrev FileG := Value × FileM
abbrev PcT := Int × Int
def fileV (f : FileG) : Value := .agg #[f.1, .int .i64 f.2.2.1, .bool f.2.2.2]
def fz : FileG := (.slice none 0 0, [], 0, false)
def mz : FileM := ([], 0, false)
def pieceE (p : PcT) : List Value := [.int .i64 p.1, .int .i64 p.2]
theorem pieceE_len (p : PcT) : (pieceE p).length = 2 := rfl
theorem pieceE_one (p : PcT) : ∀ u ∈ pieceE p, u.oneCell' = true := by intro u hu; simp [pieceE] at hu; rcases hu with rfl | rfl <;> rfl
theorem intE_len (k : IntKind) (y : Int) : (intE k y).length = 1 := rfl
theorem intE_one (k : IntKind) (y : Int) : ∀ u ∈ intE k y, u.oneCell' = true := by intro u hu; simp [intE] at hu; subst hu; rfl
theorem zone_pieceE : ∀ u ∈ (Value.agg #[.int .i64 0, .int .i64 0]).cells.toList, u.oneCell' = true := by intro u hu; simp [Value.cells] at hu; subst hu; rfl
theorem zeros_piece : ∀ k : Nat, (Builtin.zeroCells (Value.agg #[.int .i64 0, .int .i64 0]).cells k).toList = (List.replicate k ((0, 0) : PcT)).flatMap pieceE := by
  intro k
  induction k with
  | zero => simp [Builtin.zeroCells]
  | succ k ih =>
    rw [List.replicate_succ', List.flatMap_append, ← ih]
    simp only [Builtin.zeroCells, Value.cells, Array.toList_map, Array.toList_range]
    show List.map _ (List.range ((k + 1) * 2)) = List.map _ (List.range (k * 2)) ++ _
    rw [show (k + 1) * 2 = k * 2 + 1 + 1 by omega, List.range_succ, List.range_succ, List.map_append, List.map_append, List.append_assoc]
    congr 1
    simp [pieceE, Nat.mul_mod_left, show (k * 2 + 1) % 2 = 1 by omega]
theorem zrow_pieceE {x : World} {base : Nat} {T : TypeId} {v : Value} {l : List PcT} (h : x.ownsRow base T 2 v l.length (Builtin.zeroCells (Value.agg #[.int .i64 0, .int .i64 0]).cells l.length).toList) : x.ownsRow base T 2 v (l.map fun _ => ((0, 0) : PcT)).length ((l.map fun _ => ((0, 0) : PcT)).flatMap pieceE) := by
  rw [zeros_piece] at h; rw [List.length_map, List.map_const']; exact h
theorem filez (w : World) : (zeroValue 122).run Try.prog w = .ok (fileV fz) w := by kernel_rfl
structure DkS where
  fm : Int → Option FileM
  ps : List PcT
  ser : Int
  boots : Int
def u8T : TypeId := 5
/-- The rows of the files' bytes: each file's own, in S or made since a world of n blocks. -/
def Fam (S : Nat → Prop) (n : Nat) (w : World) (g : Int → Option FileG) : Prop :=
  (∀ k f, g k = some f → w.ownsRow 0 5 1 f.1 f.2.1.length (f.2.1.flatMap u8E) ∧ InS S n f.1) ∧ ∀ k k' f f' b, g k = some f → g k' = some f' → f.1.ownBlock = some b → f'.1.ownBlock = some b → k = k'
section
variable {S : Nat → Prop} {n : Nat} {w x : World} {g : Int → Option FileG} {a : Int} {f : FileG} {u : Value}
theorem Fam.at (h : Fam S n w g) (hf : (g a).getD fz = f) : w.ownsRow 0 5 1 f.1 f.2.1.length (f.2.1.flatMap u8E) ∧ InS S n f.1 := by
  cases hg : g a with
  | none => rw [hg] at hf; subst hf; exact ⟨World.ownsRow_nil _ _ _ _, InS.nil⟩
  | some f' => rw [hg] at hf; cases hf; exact h.1 a _ hg
theorem Fam.new (h : Fam S n w g) (hg : w.grownBy x none) : Fam S n x g := ⟨fun k f hf => ⟨row_kept_new (h.1 k f hf).1 hg, (h.1 k f hf).2⟩, h.2⟩
theorem Fam.blk {N : Nat} {T : TypeId} {cs : Array Value} (h : Fam S n w g) (hb : Blk w N T cs) (hT : 5 ≠ T) (hg : w.grownBy x (some N)) : Fam S n x g :=
  ⟨fun k f hf => ⟨row_kept_at (h.1 k f hf).1 hg (own_neT (h.1 k f hf).1 hb hT), (h.1 k f hf).2⟩, h.2⟩
theorem Fam.map {V : Type} {enc : V → Value} {B c : Nat} {g2 : Int → Option V} (h : Fam S n w g) (hm : MapO intK enc w B g2 c) (hg : w.grownBy x (some B)) : Fam S n x g :=
  ⟨fun k f hf => ⟨row_kept_at (h.1 k f hf).1 hg (hm.row (h.1 k f hf).1), (h.1 k f hf).2⟩, h.2⟩
theorem Fam.iter {V : Type} {enc : V → Value} {r B : Nat} {lt : List (Int × V)} (h : Fam S n w g) (hm : IterO intK enc w r B lt) (hg : w.grownBy x (some r)) : Fam S n x g :=
  ⟨fun k f hf => ⟨row_kept_at (h.1 k f hf).1 hg (hm.row (h.1 k f hf).1).2, (h.1 k f hf).2⟩, h.2⟩
theorem Fam.row {B sz q : Nat} {e : TypeId} {v : Value} {xs : List Value} (h : Fam S n w g) (hr : w.ownsRow B e sz v q xs) (hT : 5 ≠ e) (hg : w.grownBy x v.ownBlock) : Fam S n x g :=
  ⟨fun k f hf => ⟨row_kept_row (h.1 k f hf).1 hr hg hT, (h.1 k f hf).2⟩, h.2⟩
/-- One file's bytes were appended to. -/
theorem Fam.app (h : Fam S n w g) (hf : (g a).getD fz = f) {l : List UInt8} {sf : Int} {b0 : Bool} (hw : Went w f.1 u) (hr : x.ownsRow 0 5 1 u l.length (l.flatMap u8E)) (hg : w.grownBy x f.1.ownBlock) (hn : n ≤ w.heap.size) :
    Fam S n x (fun b => if b = a then some (u, l, sf, b0) else g b) := by
  have hF := h.at hf
  have hap : ∀ k f2, k ≠ a → g k = some f2 → ∀ b, f2.1.ownBlock = some b → u.ownBlock ≠ some b := by
    intro k f2 hk hf2 b hb hu
    rcases hw with e | e
    · rw [e] at hu
      cases hga : g a with
      | none => rw [hga] at hf; subst hf; simp [fz, Value.ownBlock] at hu
      | some f' => rw [hga] at hf; cases hf; exact hk (h.2 _ _ _ _ _ hf2 hga hb hu)
    · have h1 := e b hu
      have h2 := ((h.1 k f2 hf2).1.lt b hb).2
      omega
  refine ⟨fun k f2 hk => ?_, fun k k' f2 f3 b h2 h3 hb2 hb3 => ?_⟩
  · replace hk : (if k = a then some (u, l, sf, b0) else g k) = some f2 := hk
    by_cases e : k = a
    · rw [if_pos e] at hk; cases hk; exact ⟨hr, hF.2.went hw hn⟩
    · rw [if_neg e] at hk
      refine ⟨(h.1 k f2 hk).1.kept hg ?_, (h.1 k f2 hk).2⟩
      cases hb : f2.1.ownBlock with
      | none => exact .inl rfl
      | some b =>
        refine .inr (fun e2 => ?_)
        cases hga : g a with
        | none => rw [hga] at hf; subst hf; simp [fz, Value.ownBlock] at e2
        | some f' => rw [hga] at hf; cases hf; exact e (h.2 _ _ _ _ _ hk hga hb e2.symm)
  · replace h2 : (if k = a then some (u, l, sf, b0) else g k) = some f2 := h2
    replace h3 : (if k' = a then some (u, l, sf, b0) else g k') = some f3 := h3
    by_cases e : k = a
    · by_cases e' : k' = a
      · rw [e, e']
      · rw [if_pos e] at h2; rw [if_neg e'] at h3; cases h2
        exact absurd hb2 (hap k' f3 e' h3 b hb3)
    · by_cases e' : k' = a
      · rw [if_neg e] at h2; rw [if_pos e'] at h3; cases h3
        exact absurd hb3 (hap k f2 e h2 b hb2)
      · rw [if_neg e] at h2; rw [if_neg e'] at h3; exact h.2 _ _ _ _ _ h2 h3 hb2 hb3
/-- One file's slice stays or is cut; what else is told of it is told anew. -/
theorem Fam.put (h : Fam S n w g) (hf : (g a).getD fz = f) {l : List UInt8} {sf : Int} {b0 : Bool} (hr : w.ownsRow 0 5 1 u l.length (l.flatMap u8E)) (hu : u.ownBlock = f.1.ownBlock) :
    Fam S n w (fun b => if b = a then some (u, l, sf, b0) else g b) := by
  have hF := h.at hf
  refine ⟨fun k f2 hk => ?_, fun k k' f2 f3 b h2 h3 hb2 hb3 => ?_⟩
  · replace hk : (if k = a then some (u, l, sf, b0) else g k) = some f2 := hk
    by_cases e : k = a
    · rw [if_pos e] at hk; cases hk; exact ⟨hr, fun i hi => hF.2 i (hu ▸ hi)⟩
    · rw [if_neg e] at hk; exact h.1 k f2 hk
  · have key : ∀ k f4, (if k = a then some (u, l, sf, b0) else g k) = some f4 → f4.1.ownBlock = some b → ∃ f5, g k = some f5 ∧ f5.1.ownBlock = some b := by
      intro k f4 h4 hb4
      by_cases e : k = a
      · rw [if_pos e] at h4; cases h4
        rw [hu] at hb4
        subst e
        cases hga : g k with
        | none => rw [hga] at hf; subst hf; simp [fz, Value.ownBlock] at hb4
        | some f' => rw [hga] at hf; cases hf; exact ⟨_, rfl, hb4⟩
      · rw [if_neg e] at h4; exact ⟨_, h4, hb4⟩
    obtain ⟨f5, h5, hb5⟩ := key k f2 h2 hb2
    obtain ⟨f6, h6, hb6⟩ := key k' f3 h3 hb3
    exact h.2 _ _ _ _ _ h5 h6 hb5 hb6
theorem Fam.del (h : Fam S n w g) (a : Int) : Fam S n w (fun b => if b = a then none else g b) := by
  have key : ∀ k f, (if k = a then none else g k) = some f → g k = some f := by
    intro k f h; by_cases e : k = a
    · rw [if_pos e] at h; cases h
    · rwa [if_neg e] at h
  exact ⟨fun k f hk => h.1 k f (key k f hk), fun k k' f f' b h1 h2 => h.2 k k' f f' b (key _ _ h1) (key _ _ h2)⟩
theorem Fam.none : Fam S n w (fun _ => Option.none) := ⟨fun k f h => (by cases h), fun k k' f f' b h => (by cases h)⟩
theorem blk_ne_map {V : Type} {enc : V → Value} {N B c : Nat} {T : TypeId} {cs : Array Value} {g2 : Int → Option V} (hb : Blk w N T cs) (hm : MapO intK enc w B g2 c) : N ≠ B := by
  intro e; subst e
  obtain ⟨l, ⟨es, cl, h1, _⟩, _⟩ := hm
  have := hb.symm.trans h1
  cases this
end
/-- A disk that was made, with all its parts. -/
structure DkP (S : Nat → Prop) (n : Nat) (w : World) (d M : Nat) (pv : Value) (g : Int → Option FileG) (c : Nat) (s : DkS) : Prop where
  blk : Blk w d 47 #[.bool true, .map (some M), pv, .int .i64 s.ser, .int .i64 s.boots]
  map : MapO intK fileV w M g c
  row : w.ownsRow 0 124 2 pv s.ps.length (s.ps.flatMap pieceE)
  fam : Fam S n w g
  sd : S d ∨ n ≤ d
  sM : S M ∨ n ≤ M
  sp : InS S n pv
  rel : ∀ k, (g k).map (·.2) = s.fm k
def getF (fm : Int → Option FileM) (a : Int) : FileM := (fm a).getD mz
theorem getF_eq {g : Int → Option FileG} {fm : Int → Option FileM} (h : ∀ k, (g k).map (·.2) = fm k) {a : Int} {f : FileG} (hf : (g a).getD fz = f) : f.2 = getF fm a := by
  unfold getF; rw [← h a, ← hf]; cases g a <;> rfl
def putF (fm : Int → Option FileM) (a : Int) (m : FileM) : Int → Option FileM := fun b => if b = a then some m else fm b
theorem putF_eq {g : Int → Option FileG} {fm : Int → Option FileM} (h : ∀ k, (g k).map (·.2) = fm k) {a : Int} {f : FileG} : ∀ k, ((fun b => if b = a then some f else g b) k).map (·.2) = putF fm a f.2 k := by
  intro k; unfold putF; by_cases e : k = a <;> simp [e, h]
def wrE (n : Int) : Int := if n < 1 ∨ 1073741824 < n then 1 else 0
def wrS (s : DkS) (n : Int) (t : ByteArray) : DkS := if wrE n = 0 then ⟨putF s.fm n ((getF s.fm n).1 ++ t.data.toList, (getF s.fm n).2), s.ps ++ [(n, (t.size : Int))], s.ser, s.boots⟩ else s
theorem wrS_ok {s : DkS} {n : Int} {t : ByteArray} (h : ¬ (n < 1 ∨ 1073741824 < n)) : wrE n = 0 ∧ wrS s n t = ⟨putF s.fm n ((getF s.fm n).1 ++ t.data.toList, (getF s.fm n).2), s.ps ++ [(n, (t.size : Int))], s.ser, s.boots⟩ := by
  have e : wrE n = 0 := by unfold wrE; rw [if_neg h]
  exact ⟨e, by unfold wrS; rw [if_pos e]⟩
theorem wrS_no {s : DkS} {n : Int} {t : ByteArray} (h : n < 1 ∨ 1073741824 < n) : wrE n = 1 ∧ wrS s n t = s := by
  have e : wrE n = 1 := by unfold wrE; rw [if_pos h]
  exact ⟨e, by unfold wrS; rw [if_neg (by omega)]⟩

set_option maxRecDepth 100000 in
theorem dzero_any (d : Nat) (M : Nat) (pv : Value) (ser : Int) (boots : Int) (w : World) (hD : Blk w d 47 #[.bool true, .map (some M), pv, .int .i64 ser, .int .i64 boots]) :
    Calls Try.prog 80 #[pt d 0] w fun e w' => e = .returned (.bool false) ∧ w = w' := by
 have hB0 := Below.refl w.heap.size w
 have hl_hD := hD.lt
 refine co_enter (n := 12) Try.func80 rfl rfl rfl [(0, pt d 0)] rfl (fun a h0 => ?_)
 refine co_seq ?_
 refine co_reg ?_
 refine pk0 (v := .bool false) h0 rfl fun a1 h1 => ?_; clear h0
 refine pl_nil ?_
 refine co_then ?_
 refine co_seq ?_
 refine co_reg ?_
 refine pk0 (v := pt d 0) h1 rfl fun a2 h2 => ?_; clear h1
 refine pk0 (v := .bool false) h2 rfl fun a3 h3 => ?_; clear h2
 refine pk0 (v := .bool false) h3 rfl fun a4 h4 => ?_; clear h3
 refine pk0 (v := pt d 0) h4 rfl fun a5 h5 => ?_; clear h4
 refine pk0 (v := pt d 0) h5 rfl fun a6 h6 => ?_; clear h5
 refine pk0 (v := pt d 0) h6 rfl fun a7 h7 => ?_; clear h6
 refine pk (v := .bool true) h7 rfl (rn_load1 rfl rfl Try.isAgg4 (hD.cell rfl)) fun a8 h8 => ?_; clear h7
 refine pk0 (v := .bool false) h8 rfl fun a9 h9 => ?_; clear h8
 refine pk0 (v := .bool false) h9 rfl fun a10 h10 => ?_; clear h9
 refine pk0 (v := .bool false) h10 rfl fun a11 h11 => ?_; clear h10
 refine pl_nil ?_
 refine co_then ?_
 refine wp_ret ?_
 refine co_ret1 h11 rfl rfl ?_
 exact ⟨rfl, rfl⟩
set_option maxRecDepth 100000 in
theorem dWrite_any (w0 : World) (S : Nat → Prop) (d : Nat) (M : Nat) (pv : Value) (g : Int → Option FileG) (c : Nat) (s : DkS) (number : Int) (t : ByteArray) (w : World) (hbw : But S w0 w) (hO : DkP S w0.heap.size w d M pv g c s) (hsz : (getF s.fm number).1.length + t.size ≤ 1000000000) (hpl : s.ps.length ≤ 100000) :
    Calls Try.prog 21 #[pt d 0, .int .i64 number, .string t] w fun e w' => ∃ (pv' : Value) (g' : Int → Option FileG) (c' : Nat), e = .returned (.int .i64 (wrE number)) ∧ DkP S w0.heap.size w' d M pv' g' c' (wrS s number t) ∧ c' ≤ c + 1 ∧ But (S) w0 w' := by
 have hB0 := hbw
 have hz0 := hbw.size
 have hz0 := hbw.size
 have hl1 := hO.blk.lt
 have hl2 := hO.map.lt
 have hne3 := blk_ne_map hO.blk hO.map
 have hl4 := sl_len (row_sl hO.row pieceE_len)
 refine co_enter (n := 46) Try.func21 rfl rfl rfl [(0, pt d 0), (1, .int .i64 number), (2, .string t)] rfl (fun a h0 => ?_)
 refine co_seq ?_
 refine co_reg ?_
 refine pk0 (v := .int .i64 0) h0 rfl fun a5 h5 => ?_; clear h0
 refine pl_nil ?_
 refine co_then ?_
 refine co_seq ?_
 refine co_seq ?_
 refine co_reg ?_
 refine pk0 (v := pt d 0) h5 rfl fun a6 h6 => ?_; clear h5
 refine pw h6 rfl (op_call (args := #[pt d 0]) (R := fun res xw => res = .bool false ∧ w = xw) rfl rfl rfl (by kernel_rfl) (by kernel_rfl) (Try.call80 _ _) (dzero_any d M pv s.ser s.boots w hO.blk) (by rintro e x ⟨rfl, rfl⟩; exact ⟨_, rfl, ⟨rfl, rfl⟩⟩)) ?_; clear h6
 rintro _ _ a7 ⟨rfl, rfl⟩ h7
 refine pl_nil ?_
 refine co_then ?_
 refine co_false h7 rfl ?_
 refine wp_skip ?_
 refine co_then ?_
 refine co_seq ?_
 refine co_seq ?_
 refine co_reg ?_
 refine pk0 (v := .int .i64 number) h7 rfl fun a10 h10 => ?_; clear h7
 refine pk0 (v := .bool (decide (number < 1))) h10 rfl fun a11 h11 => ?_; clear h10
 refine pk0 (v := .bool (decide (number < 1))) h11 rfl fun a12 h12 => ?_; clear h11
 cases hc13 : (decide (number < 1))
 ·
  rw [hc13] at h12
  have hp14 : ¬ (number < 1) := of_decide_eq_false hc13
  clear hc13
  refine pk0 (v := .int .i64 number) h12 rfl fun a15 h15 => ?_; clear h12
  refine pk0 (v := .bool (decide (number > 1073741824))) h15 rfl fun a16 h16 => ?_; clear h15
  refine pk0 (v := .bool (decide (number > 1073741824))) h16 rfl fun a17 h17 => ?_; clear h16
  refine pl_nil ?_
  refine co_then ?_
  cases hc18 : (decide (number > 1073741824))
  ·
   rw [hc18] at h17
   have hp19 : ¬ (number > 1073741824) := of_decide_eq_false hc18
   clear hc18
   refine co_false h17 rfl ?_
   refine wp_skip ?_
   refine co_then ?_
   refine co_seq ?_
   refine co_reg ?_
   refine pk0 (v := pt d 0) h17 rfl fun a20 h20 => ?_; clear h17
   refine pk0 (v := pt d 0) h20 rfl fun a21 h21 => ?_; clear h20
   refine pk0 (v := pt d 1) h21 rfl fun a22 h22 => ?_; clear h21
   refine pk (v := .map (some M)) h22 rfl (rn_load1 rfl rfl Try.isAgg44 (hO.blk.cell rfl)) fun a23 h23 => ?_; clear h22
   refine pk0 (v := .int .i64 number) h23 rfl fun a24 h24 => ?_; clear h23
   obtain ⟨f25, hf26⟩ : ∃ z, (g number).getD fz = z := ⟨_, rfl⟩
   have hA27 := hO.fam.at hf26
   have hl28 := sl_len (row_sl hA27.1 u8E_len)
   have hgf29 := getF_eq hO.rel hf26
   have hgl30 : f25.2.1.length = (getF s.fm number).1.length := by rw [hgf29]
   have hgs31 : f25.2.2.1 = (getF s.fm number).2.1 := by rw [hgf29]
   refine pk (v := .agg #[f25.1, .int .i64 f25.2.2.1, .bool f25.2.2.2]) h24 rfl (rn_lookO (a := number) (f := f25) (intKL Try.underlying3) rfl rfl rfl Try.underlying44 filez hO.map hf26) fun a32 h32 => ?_; clear h24
   refine pw h32 rfl (op_new (v := fun N => pt N 0) (T := 122) (cs := #[.slice none 0 0, .int .i64 0, .bool false]) (by kernel_rfl) (by kernel_rfl) (by kernel_rfl)) ?_; clear h32
   rintro _ w34 a33 ⟨N35, rfl, hN38, hz39, hk37, hg36⟩ h33
   have ha40 := row_fresh hO.row hN38
   have hu41 := row_under hO.row hN38
   have ha42 := row_fresh hA27.1 hN38
   have hu43 := row_under hA27.1 hN38
   have hz44 := hg36.size
   try dsimp only at h33
   have hr50 := row_kept_new hA27.1 hg36
   refine pwD h33 rfl (op_storeN rfl rfl rfl (all_cons (row_one hr50) (all_cons rfl (all_cons rfl all_nil))) (by kernel_rfl) hk37 rfl) ?_; clear h33
   rintro _ w46 a45 ⟨hk47, hz48, hg49⟩ h45
   have hk47' : Blk w46 N35 122 #[f25.1, .int .i64 f25.2.2.1, .bool f25.2.2.2] := hk47; clear hk47
   have hz51 := hg49.size
   refine pl_nil ?_
   refine co_then ?_
   refine co_seq ?_
   refine co_reg ?_
   refine pk0 (v := pt N35 0) h45 rfl fun a52 h52 => ?_; clear h45
   refine pk (v := f25.1) h52 rfl (rn_load1 rfl rfl Try.isAgg120 (hk47'.cell rfl)) fun a53 h53 => ?_; clear h52
   refine pk0 (v := .string t) h53 rfl fun a54 h54 => ?_; clear h53
   have hr61 := row_kept_at hr50 hg49 (ha42)
   refine pw h54 rfl (op_appendStrF rfl 0 5 Try.underlying120 Try.underlying9 (by kernel_rfl) rfl hr61 rfl (by omega) (by omega)) ?_; clear h54
   rintro v57 w56 a55 ⟨hr58, hwt60, hg59⟩ h55
   have hF62 := hO.fam.new hg36
   have hF63 := hF62.blk hk37 (by decide) hg49
   have hz64 := hg59.size
   have hF65 := Fam.app (sf := f25.2.2.1) (b0 := f25.2.2.2) hF63 hf26 hwt60 hr58 hg59 (by omega)
   refine pk0 (v := pt N35 0) h55 rfl fun a66 h66 => ?_; clear h55
   have hk72 := hk47'.kept hg59 (ha42)
   refine pwD h66 rfl (op_store1 rfl rfl rfl (row_one hr58) Try.sizeOf120 hk72 rfl) ?_; clear h66
   rintro _ w68 a67 ⟨hk69, hz70, hg71⟩ h67
   have hk69' : Blk w68 N35 122 #[v57, .int .i64 f25.2.2.1, .bool f25.2.2.2] := hk69; clear hk69
   have hz73 := hg71.size
   refine pl_nil ?_
   refine co_then ?_
   refine co_seq ?_
   refine dr_gen (fun x => But (S) w0 x ∧ Blk x d 47 #[.bool true, .map (some M), pv, .int .i64 s.ser, .int .i64 s.boots] ∧ Blk x N35 122 #[v57, .int .i64 f25.2.2.1, .bool f25.2.2.2]) (by kernel_rfl) (fun w74 hg75 => ?_) (fun w74 hg75 => ?_)
   ·
    have hz76 := hg75.size
    have hB77 := fbU_new hB0 hg36
    have hB78 := fbU_at hB77 hg49 (fun hlt => absurd hlt (by omega))
    have hB79 := fbU_row hB78 hA27.2 hg59
    have hB80 := fbU_at hB79 hg71 (fun hlt => absurd hlt (by omega))
    have hB81 := fbU_new hB80 hg75
    have hk82 := hO.blk.kept hg36 (by simp)
    have hk83 := hk82.kept hg49 (by simp; omega)
    have hk84 := hk83.kept hg59 (own_neT hr61 hk83 (by decide))
    have hk85 := hk84.kept hg71 (by simp; omega)
    have hk86 := hk85.kept hg75 (by simp)
    have hk87 := hk69'.kept hg75 (by simp)
    exact ⟨hB81, hk86, hk87⟩
   have hz88 := hg75.size
   have hB89 := fbU_new hB0 hg36
   have hB90 := fbU_at hB89 hg49 (fun hlt => absurd hlt (by omega))
   have hB91 := fbU_row hB90 hA27.2 hg59
   have hB92 := fbU_at hB91 hg71 (fun hlt => absurd hlt (by omega))
   have hB93 := fbU_new hB92 hg75
   have hk94 := hO.blk.kept hg36 (by simp)
   have hk95 := hk94.kept hg49 (by simp; omega)
   have hk96 := hk95.kept hg59 (own_neT hr61 hk95 (by decide))
   have hk97 := hk96.kept hg71 (by simp; omega)
   have hk98 := hk97.kept hg75 (by simp)
   have hk99 := hk69'.kept hg75 (by simp)
   refine dk0 0 (v := pt d 0) h67 rfl rfl ⟨hB93, hk98, hk99⟩ fun a100 h100 => ?_; clear h67
   refine dk0 1 (v := pt d 0) h100 rfl rfl ⟨hB93, hk98, hk99⟩ fun a101 h101 => ?_; clear h100
   refine dk0 2 (v := pt d 1) h101 rfl rfl ⟨hB93, hk98, hk99⟩ fun a102 h102 => ?_; clear h101
   refine dk 3 (v := .map (some M)) h102 rfl rfl ⟨hB93, hk98, hk99⟩ (fun x hx => (rn_load1 rfl rfl Try.isAgg44 (hx.2.1.cell rfl))) fun a103 h103 => ?_; clear h102
   refine dk0 4 (v := .int .i64 number) h103 rfl rfl ⟨hB93, hk98, hk99⟩ fun a104 h104 => ?_; clear h103
   refine dk 5 (v := .agg #[v57, .int .i64 f25.2.2.1, .bool f25.2.2.2]) h104 rfl rfl ⟨hB93, hk98, hk99⟩ (fun x hx => (rn_loadN rfl rfl Try.underlying122 rfl (by kernel_rfl) hx.2.2.all)) fun a105 h105 => ?_; clear h104
   have hM111 := hO.map.kept hg36 (by simp)
   have hM112 := hM111.kept hg49 (by simp; omega)
   have hM113 := hM112.kept hg59 (hM112.row hr61)
   have hM114 := hM113.kept hg71 (by simp; omega)
   have hM115 := hM114.kept hg75 (by simp)
   refine d1D 6 h105 rfl rfl (op_updateO (a := number) (v := (v57, f25.2.1 ++ t.data.toList, f25.2.2.1, f25.2.2.2)) (intKL Try.underlying3) rfl rfl rfl rfl Try.underlying44 hM115) ?_ ?_; clear h105
   ·
    rintro _ w107 ⟨hm108, hz109, hg110⟩
    have hz117 := hg110.size
    have hl118 := hm108.lt
    have hB119 := fbU_at hB93 hg110 (fun hlt => by rcases hO.sM with hq | hq; exact hq; omega)
    have hk120 := hk98.kept hg110 (by simp; omega)
    have hk121 := hk99.kept hg110 (by simp; omega)
    exact ⟨hB119, hk120, hk121⟩
   rintro _ w107 a106 ⟨hm108, hz109, hg110⟩ h106
   have hz117 := hg110.size
   have hl118 := hm108.lt
   refine dr_done (by kernel_rfl) ?_
   refine co_then ?_
   refine co_seq ?_
   refine co_reg ?_
   refine pk0 (v := pt d 0) h106 rfl fun a119 h119 => ?_; clear h106
   refine pk0 (v := pt d 0) h119 rfl fun a120 h120 => ?_; clear h119
   refine pk0 (v := pt d 0) h120 rfl fun a121 h121 => ?_; clear h120
   refine pk0 (v := pt d 2) h121 rfl fun a122 h122 => ?_; clear h121
   have hk123 := hk98.kept hg110 (by simp; omega)
   refine pk (v := pv) h122 rfl (rn_load1 rfl rfl Try.isAgg45 (hk123.cell rfl)) fun a124 h124 => ?_; clear h122
   refine pk0 (v := .int .i64 number) h124 rfl fun a125 h125 => ?_; clear h124
   refine pk0 (v := .string t) h125 rfl fun a126 h126 => ?_; clear h125
   refine pk (v := .int .i64 ((t.size : Nat) : Int)) h126 rfl (rn_lenStr rfl rfl Try.underlying9) fun a127 h127 => ?_; clear h126
   refine pk0 (v := .agg #[.int .i64 number, .int .i64 ((t.size : Nat) : Int)]) h127 rfl fun a128 h128 => ?_; clear h127
   refine pw h128 rfl (op_new (v := fun N => .slice (some ⟨N, 0, none⟩) 1 1) (T := 124) (cs := #[.int .i64 number, .int .i64 ((t.size : Nat) : Int)]) (by kernel_rfl) (by kernel_rfl) (by kernel_rfl)) ?_; clear h128
   rintro _ w130 a129 ⟨N131, rfl, hN134, hz135, hk133, hg132⟩ h129
   have hr137 := row_kept_new hO.row hg36
   have hr138 := row_kept_at hr137 hg49 (ha40)
   have hr139 := row_kept_row hr138 hr61 hg59 (by decide)
   have hr140 := row_kept_at hr139 hg71 (ha40)
   have hr141 := row_kept_new hr140 hg75
   have hr142 := row_kept_at hr141 hg110 (hM115.row hr141)
   have ha136 := row_fresh hr142 hN134
   have hu143 := row_under hr142 hN134
   have hr145 := row_kept_at hr58 hg71 (own_neT hr58 hk72 (by decide))
   have hr146 := row_kept_new hr145 hg75
   have hr147 := row_kept_at hr146 hg110 (hM115.row hr146)
   have ha144 := row_fresh hr147 hN134
   have hu148 := row_under hr147 hN134
   have hz149 := hg132.size
   try dsimp only at h129
   have hr156 := row_kept_new hr142 hg132
   refine pw h129 rfl (op_appendF rfl 0 124 (z := .agg #[.int .i64 0, .int .i64 0]) (size := 2) (bytes := 16) Try.underlying45 (by kernel_rfl) rfl rfl rfl hr156 rfl hk133 rfl (by kernel_rfl) (by first | omega | (simp only [List.length_nil, List.length_append, List.length_cons, List.length_take, List.length_drop]; omega)) (by first | omega | (simp only [List.length_nil, List.length_append, List.length_cons, List.length_take, List.length_drop]; omega)) (by omega)) ?_; clear h129
   rintro v152 w151 a150 ⟨hr153, hwt155, hg154⟩ h150
   have hr153' : w151.ownsRow 0 124 2 v152 ((s.ps ++ [(number, ((t.size : Nat) : Int))]).length) ((s.ps ++ [(number, ((t.size : Nat) : Int))]).flatMap pieceE) := row_push (y := (number, ((t.size : Nat) : Int))) hr153 rfl rfl; clear hr153
   have hz157 := hg154.size
   refine pk0 (v := pt d 0) h150 rfl fun a158 h158 => ?_; clear h150
   refine pk0 (v := pt d 2) h158 rfl fun a159 h159 => ?_; clear h158
   have hk165 := hk123.kept hg132 (by simp)
   have hk166 := hk165.kept hg154 (own_neT hr156 hk165 (by decide))
   refine pwD h159 rfl (op_store1 rfl rfl rfl (row_one hr153') Try.sizeOf45 hk166 rfl) ?_; clear h159
   rintro _ w161 a160 ⟨hk162, hz163, hg164⟩ h160
   have hk162' : Blk w161 d 47 #[.bool true, .map (some M), v152, .int .i64 s.ser, .int .i64 s.boots] := hk162; clear hk162
   have hz167 := hg164.size
   refine pl_nil ?_
   refine co_then ?_
   refine co_seq ?_
   refine co_reg ?_
   refine pk0 (v := .int .i64 0) h160 rfl fun a168 h168 => ?_; clear h160
   refine pl_nil ?_
   refine co_then ?_
   refine wp_ret ?_
   refine co_ret1 h168 rfl rfl ?_
   have hM169 := hm108.kept hg132 (by simp)
   have hM170 := hM169.kept hg154 (hM169.row hr156)
   have hM171 := hM170.kept hg164 (by simp; omega)
   have hr172 := row_kept_at hr153' hg164 (own_neT hr153' hk166 (by decide))
   have hF173 := hF65.blk hk72 (by decide) hg71
   have hF174 := hF173.new hg75
   have hF175 := hF174.map hM115 hg110
   have hF176 := hF175.new hg132
   have hF177 := hF176.row hr156 (by decide) hg154
   have hF178 := hF177.blk hk166 (by decide) hg164
   have hB179 := fbU_at hB93 hg110 (fun hlt => by rcases hO.sM with hq | hq; exact hq; omega)
   have hB180 := fbU_new hB179 hg132
   have hB181 := fbU_row hB180 hO.sp hg154
   have hB182 := fbU_at hB181 hg164 (fun hlt => by rcases hO.sd with hq | hq; exact hq; omega)
   have hW := wrS_ok (s := s) (t := t) (show ¬ (number < 1 ∨ 1073741824 < number) by omega)
   have hgf := getF_eq hO.rel hf26
   exact ⟨v152, _, _, by rw [hW.1], by rw [hW.2]; exact ⟨hk162', hM171, hr172, hF178, hO.sd, hO.sM, (hO.sp.went hwt155 (by omega)), by rw [← hgf]; exact putF_eq hO.rel⟩, by omega, hB182⟩
  ·
   rw [hc18] at h17
   have hp183 : number > 1073741824 := of_decide_eq_true hc18
   clear hc18
   refine co_true h17 rfl ?_
   refine co_seq ?_
   refine co_reg ?_
   refine pk0 (v := .int .i64 1) h17 rfl fun a184 h184 => ?_; clear h17
   refine pl_nil ?_
   refine co_then ?_
   refine wp_ret ?_
   refine co_thenR ?_
   refine co_ret1 h184 rfl rfl ?_
   have hW := wrS_no (s := s) (t := t) (show number < 1 ∨ 1073741824 < number by omega)
   exact ⟨pv, g, c, by rw [hW.1], by rw [hW.2]; exact ⟨hO.blk, hO.map, hO.row, hO.fam, hO.sd, hO.sM, hO.sp, hO.rel⟩, by omega, hB0⟩
 ·
  rw [hc13] at h12
  have hp185 : number < 1 := of_decide_eq_true hc13
  clear hc13
  refine psk h12 rfl fun a186 h186 => ?_; clear h12
  refine psk h186 rfl fun a187 h187 => ?_; clear h186
  refine pk0 (v := .bool true) h187 rfl fun a188 h188 => ?_; clear h187
  refine pl_nil ?_
  refine co_then ?_
  refine co_true h188 rfl ?_
  refine co_seq ?_
  refine co_reg ?_
  refine pk0 (v := .int .i64 1) h188 rfl fun a189 h189 => ?_; clear h188
  refine pl_nil ?_
  refine co_then ?_
  refine wp_ret ?_
  refine co_thenR ?_
  refine co_ret1 h189 rfl rfl ?_
  have hW := wrS_no (s := s) (t := t) (show number < 1 ∨ 1073741824 < number by omega)
  exact ⟨pv, g, c, by rw [hW.1], by rw [hW.2]; exact ⟨hO.blk, hO.map, hO.row, hO.fam, hO.sd, hO.sM, hO.sp, hO.rel⟩, by omega, hB0⟩
end Go.Proofs.Ytcnahhobppnbbaa
