/- The document's own ops: Set, Norm, Over. Conditions: at most 1000 pairs and operations. -/
import Derived.Test.YtfjhlckklgeokaaRlgO
import Derived.Test.YtfjhlckklgeokaaKeyT
import Derived.Test.YtfjhlckklgeokaaPexV
namespace Go.Proofs.Ytfjhlckklgeokaa
open Go.RowKit Go.PlainAid
set_option linter.unusedVariables false

open Go.Sort Go.Shelf Go.Lib

abbrev ValT := ByteArray × ByteArray
def valE (v : ValT) : List Value := [.string v.1, .string v.2]
theorem valE_len (v : ValT) : (valE v).length = 2 := rfl
theorem valE_one (v : ValT) : ∀ u ∈ valE v, u.oneCell' = true := by intro u hu; simp [valE] at hu; rcases hu with rfl | rfl <;> rfl
abbrev kB (s : ByteArray) : List UInt8 := s.data.toList
def lastF (g : ByteArray → Option OpT) (o : OpT) : ByteArray → Option OpT := fun b => if b = o.1 then some o else g b
/-- The last operation of each key. -/
def lastG (l : List OpT) : ByteArray → Option OpT := l.foldl lastF (fun _ => none)
theorem lastG_snoc (l : List OpT) (o : OpT) : lastG (l ++ [o]) = lastF (lastG l) o := by unfold lastG; rw [List.foldl_append]; rfl
theorem lastG_at {l : List OpT} {i : Nat} {y : OpT} (h : l[i]? = some y) : (fun b => if b = y.1 then some (y.1, y.2.1, y.2.2) else lastG (l.take i) b) = lastG (l.take (i + 1)) := by rw [takeO_at h, lastG_snoc]; rfl
theorem snoc_ind {α : Type} {C : List α → Prop} (h0 : C []) (h1 : ∀ l a, C l → C (l ++ [a])) (l : List α) : C l := by
  have : ∀ r : List α, C r.reverse := fun r => by
    induction r with
    | nil => exact h0
    | cons a r ih => rw [List.reverse_cons]; exact h1 _ _ ih
  rw [← List.reverse_reverse l]; exact this _
theorem lastG_key (l : List OpT) : ∀ k v, lastG l k = some v → v.1 = k := by
  refine snoc_ind (C := fun l => ∀ k v, lastG l k = some v → v.1 = k) (fun k v h => by cases h) (fun l o ih k v h => ?_) l
  rw [lastG_snoc] at h
  unfold lastF at h
  by_cases e : k = o.1
  · rw [if_pos e] at h; cases h; exact e.symm
  · rw [if_neg e] at h; exact ih k v h
def pairF (g : ByteArray → Option ValT) (o : ValT) : ByteArray → Option ValT := fun b => if b = o.1 then some o else g b
def pairG (l : List ValT) : ByteArray → Option ValT := l.foldl pairF (fun _ => none)
theorem pairG_snoc (l : List ValT) (o : ValT) : pairG (l ++ [o]) = pairF (pairG l) o := by unfold pairG; rw [List.foldl_append]; rfl
theorem pairG_at {l : List ValT} {i : Nat} {y : ValT} (h : l[i]? = some y) : (fun b => if b = y.1 then some (y.1, y.2) else pairG (l.take i) b) = pairG (l.take (i + 1)) := by rw [takeO_at h, pairG_snoc]; rfl
def ovF (g : ByteArray → Option ValT) (o : OpT) : ByteArray → Option ValT := fun b => if b = o.1 then (if o.2.2 = true then none else some (o.1, o.2.1)) else g b
/-- What the pairs are behind the operations. -/
def ovG (l : List ValT) (m : List OpT) : ByteArray → Option ValT := m.foldl ovF (pairG l)
theorem ovG_snoc (l : List ValT) (m : List OpT) (o : OpT) : ovG l (m ++ [o]) = ovF (ovG l m) o := by unfold ovG; rw [List.foldl_append]; rfl
theorem ovG_del {l : List ValT} {m : List OpT} {i : Nat} {y : OpT} (h : m[i]? = some y) (hd : y.2.2 = true) : (fun b => if b = y.1 then none else ovG l (m.take i) b) = ovG l (m.take (i + 1)) := by
  rw [takeO_at h, ovG_snoc]; unfold ovF; rw [if_pos hd]
theorem ovG_put {l : List ValT} {m : List OpT} {i : Nat} {y : OpT} (h : m[i]? = some y) (hd : y.2.2 = false) : (fun b => if b = y.1 then some (y.1, y.2.1) else ovG l (m.take i) b) = ovG l (m.take (i + 1)) := by
  rw [takeO_at h, ovG_snoc]; unfold ovF; rw [if_neg (by simp [hd])]
theorem pairG_key (l : List ValT) : ∀ k v, pairG l k = some v → v.1 = k := by
  refine snoc_ind (C := fun l => ∀ k v, pairG l k = some v → v.1 = k) (fun k v h => by cases h) (fun l o ih k v h => ?_) l
  rw [pairG_snoc] at h
  unfold pairF at h
  by_cases e : k = o.1
  · rw [if_pos e] at h; cases h; exact e.symm
  · rw [if_neg e] at h; exact ih k v h
theorem ovG_key (l : List ValT) (m : List OpT) : ∀ k v, ovG l m k = some v → v.1 = k := by
  refine snoc_ind (C := fun m => ∀ k v, ovG l m k = some v → v.1 = k) (pairG_key l) (fun m o ih k v h => ?_) m
  rw [ovG_snoc] at h
  unfold ovF at h
  by_cases e : k = o.1
  · rw [if_pos e] at h
    by_cases d : o.2.2 = true
    · rw [if_pos d] at h; cases h
    · rw [if_neg d] at h; cases h; exact e.symm
  · rw [if_neg e] at h; exact ih k v h
/-- ys rises by its keys and holds just what g has. -/
def SetG {V : Type} (key : V → ByteArray) (g : ByteArray → Option V) (ys : List V) : Prop := ys.Pairwise (fun a b => kB (key a) < kB (key b)) ∧ ∀ y, y ∈ ys ↔ ∃ k, g k = some y
theorem SetG.uniq {V : Type} {key : V → ByteArray} {g : ByteArray → Option V} : ∀ {a b : List V}, SetG key g a → SetG key g b → a = b := by
  intro a b ha hb
  have hab : ∀ y, y ∈ a ↔ y ∈ b := fun y => (ha.2 y).trans (hb.2 y).symm
  have key2 : ∀ (a b : List V), a.Pairwise (fun x y => kB (key x) < kB (key y)) → b.Pairwise (fun x y => kB (key x) < kB (key y)) → (∀ y, y ∈ a ↔ y ∈ b) → a = b := by
    intro a
    induction a with
    | nil =>
      intro b _ _ h
      cases b with
      | nil => rfl
      | cons y b => exact absurd ((h y).2 (by simp)) (by simp)
    | cons x a ih =>
      intro b h1 h2 h
      cases b with
      | nil => exact absurd ((h x).1 (by simp)) (by simp)
      | cons y b =>
        rw [List.pairwise_cons] at h1 h2
        have hxy : x = y := by
          rcases List.mem_cons.1 ((h x).1 (by simp)) with e | hx
          · exact e
          · rcases List.mem_cons.1 ((h y).2 (by simp)) with e | hy
            · exact e.symm
            · exact absurd (List.lt_trans (h1.1 y hy) (h2.1 x hx)) (List.lt_irrefl _)
        subst hxy
        rw [ih b h1.2 h2.2 (fun z => ?_)]
        have hz := h z
        simp only [List.mem_cons] at hz
        constructor
        · intro hm
          rcases hz.1 (.inr hm) with e | k
          · subst e; exact absurd (h1.1 z hm) (List.lt_irrefl _)
          · exact k
        · intro hm
          rcases hz.2 (.inr hm) with e | k
          · subst e; exact absurd (h2.1 z hm) (List.lt_irrefl _)
          · exact k
  exact key2 a b ha.1 hb.1 hab
theorem strE_lenP (y : ByteArray) : (strE y).length = 1 := rfl
theorem strE_one1 (y : ByteArray) : ∀ u ∈ strE y, u.oneCell' = true := by intro u hu; simp [strE] at hu; subst hu; rfl
theorem rkeysSet_any (v : Value) (l : List ByteArray) (w : World) (hs : SliceOf strE 1 w v l) (hl : l.length ≤ 1000) :
    Calls Try.prog 51 #[v] w fun e w' => ∃ (ys : List ByteArray) (u : Value), e = .returned (u) ∧ w'.ownsRow w.heap.size 9 1 u ys.length (ys.flatMap strE) ∧ SetOf ys l ∧ ys.length ≤ l.length ∧ Below w.heap.size w w' :=
  (rset_any v l w hs hl).mono (by rintro e x ⟨u, ys, rfl, ⟨h1, h2⟩, h3, h4⟩; exact ⟨ys, u, rfl, h3, h1, h2, h4⟩)
def zOp : OpT := (⟨#[]⟩, ⟨#[]⟩, false)
/-- The last operation with a key. -/
def lastD (l : List OpT) (k : ByteArray) : OpT := (lastG l k).getD zOp
theorem toList_inj {a b : ByteArray} (h : a.toList = b.toList) : a = b := by
  rw [Go.ByteArray.toList_eq, Go.ByteArray.toList_eq] at h
  exact kb_inj h
theorem lastD_yes {l : List OpT} {i : Nat} {z : OpT} {k : ByteArray} (h : l[i]? = some z) (hk : (z.1.toList == k.toList) = true) : lastD (l.take (i + 1)) k = z := by
  have e : z.1 = k := toList_inj (by simpa using hk)
  unfold lastD; rw [takeO_at h, lastG_snoc]; unfold lastF; rw [if_pos e.symm]; rfl
theorem lastD_no {l : List OpT} {i : Nat} {z : OpT} {k : ByteArray} (h : l[i]? = some z) (hk : (z.1.toList == k.toList) = false) : lastD (l.take (i + 1)) k = lastD (l.take i) k := by
  have e : ¬ k = z.1 := fun e => by subst e; simp at hk
  unfold lastD; rw [takeO_at h, lastG_snoc]; unfold lastF; rw [if_neg e]
theorem blk_zOp {w : World} {N : Nat} {T : TypeId} (l : List OpT) (k : ByteArray) (h : Blk w N T #[.string ⟨#[]⟩, .string ⟨#[]⟩, .bool false]) : Blk w N T #[.string (lastD (l.take 0) k).1, .string (lastD (l.take 0) k).2.1, .bool (lastD (l.take 0) k).2.2] := h
theorem lastG_mem (l : List OpT) : ∀ k, (∃ v, lastG l k = some v) ↔ k ∈ l.map (·.1) := by
  refine snoc_ind (C := fun l => ∀ k, (∃ v, lastG l k = some v) ↔ k ∈ l.map (·.1)) (fun k => by simp [lastG]) (fun l o ih k => ?_) l
  rw [lastG_snoc, List.map_append, List.mem_append]
  unfold lastF
  by_cases e : k = o.1
  · subst e; simp
  · rw [if_neg e, ih k]; simp [e]
theorem SetOf.mem {ys m : List ByteArray} (h : SetOf ys m) (x : ByteArray) : x ∈ ys ↔ x ∈ m := by
  have := h.2 (kb x)
  constructor
  · intro hx
    obtain ⟨y, hy, e⟩ := List.mem_map.1 (this.1 (List.mem_map_of_mem hx))
    rwa [← kb_inj e]
  · intro hx
    obtain ⟨y, hy, e⟩ := List.mem_map.1 (this.2 (List.mem_map_of_mem hx))
    rwa [← kb_inj e]
theorem norm_set {l : List OpT} {ys : List ByteArray} (h : SetOf ys (l.map (·.1))) : SetG (fun y : OpT => y.1) (lastG l) (ys.map (lastD l)) := by
  have hk : ∀ y ∈ ys, lastG l y = some (lastD l y) ∧ (lastD l y).1 = y := fun y hy => by
    obtain ⟨v, hv⟩ := (lastG_mem l y).2 ((h.mem y).1 hy)
    unfold lastD; rw [hv]; exact ⟨rfl, lastG_key l y v hv⟩
  refine ⟨?_, fun y => ?_⟩
  · have hp : ys.Pairwise fun a b => kB a < kB b := List.pairwise_map.1 h.1
    rw [List.pairwise_map]
    exact hp.imp_of_mem (fun {a b} ha hb hab => by show kB (lastD l a).1 < kB (lastD l b).1; rw [(hk a ha).2, (hk b hb).2]; exact hab)
  · rw [List.mem_map]
    constructor
    · rintro ⟨k, hk1, rfl⟩; exact ⟨k, (hk k hk1).1⟩
    · rintro ⟨k, hv⟩
      have hm : k ∈ ys := (h.mem k).2 ((lastG_mem l k).1 ⟨y, hv⟩)
      exact ⟨k, hm, by unfold lastD; rw [hv]; rfl⟩
theorem map_snoc {α β : Type} {f : α → β} {l : List α} {i : Nat} {y : α} (h : l[i]? = some y) : (l.take i).map f ++ [f y] = (l.take (i + 1)).map f := by rw [takeO_at h]; simp

set_option maxRecDepth 100000 in
theorem ropsNorm_any (v : Value) (l : List OpT) (w : World) (hs : SliceOf opE 3 w v l) (hlen : l.length ≤ 1000) :
    Calls Try.prog 39 #[v] w fun e w' => ∃ (ys : List OpT) (u : Value), e = .returned (u) ∧ w'.ownsRow w.heap.size 60 3 u ys.length (ys.flatMap opE) ∧ SetG (fun y : OpT => y.1) (lastG l) ys ∧ ys.length ≤ l.length ∧ Below w.heap.size w w' := by
 have hB0 := Below.refl w.heap.size w
 have hl_hs := sl_len hs
 refine co_enter (n := 57) Try.func39 rfl rfl rfl [(0, v)] rfl (fun a h0 => ?_)
 refine co_seq ?_
 refine co_reg ?_
 refine pk0 (v := .slice none 0 0) h0 rfl fun a1 h1 => ?_; clear h0
 refine pl_nil ?_
 refine co_then ?_
 refine co_seq ?_
 refine co_reg ?_
 refine pk0 (v := .slice none 0 0) h1 rfl fun a2 h2 => ?_; clear h1
 refine pl_nil ?_
 refine co_then ?_
 refine co_seq ?_
 refine co_seq ?_
 refine co_reg ?_
 refine pk0 (v := .int .i64 0) h2 rfl fun a3 h3 => ?_; clear h2
 refine pl_nil ?_
 refine co_then ?_
 refine wp_block ?_
 have h4 : Slots 57 [(0, v), (3, .slice none 0 0), (4, .int .i64 0)] _ := h3.sub ⟨rfl, rfl, rfl, trivial⟩; clear h3
 refine co_loop (fun mm a x => ∃ (i : Nat) (u : Value), Slots 57 [(0, v), (3, u), (4, .int .i64 ((i : Nat) : Int))] a ∧ mm = l.length - i ∧ (i ≤ l.length) ∧ x.ownsRow w.heap.size 9 1 u ((l.take i).map (·.1)).length (((l.take i).map (·.1)).flatMap strE) ∧ Below w.heap.size w x) (l.length - 0) ?_ ?_
 · exact ⟨0, (.slice none 0 0), h4.sub ⟨rfl, rfl, (slot_eq rfl (congrArg (Value.int .i64) (by first | rfl | omega))), trivial⟩, rfl, by omega, (row_nilL _ _ _ _ _), hB0⟩
 · rintro k5 a6 w7 ⟨i, u, h6, rfl, hi8, hf9, hB10⟩
   have hz11 := hB10.size
   have hst : (l.take i).length ≤ i := List.length_take_le _ _; have hst2 : ((l.take i).map (·.1)).length ≤ i := by rw [List.length_map]; exact hst
   refine co_seq ?_
   refine co_seq ?_
   refine co_reg ?_
   refine pk0 (v := .int .i64 ((i : Nat) : Int)) h6 rfl fun a12 h12 => ?_; clear h6
   refine pk0 (v := v) h12 rfl fun a13 h13 => ?_; clear h12
   refine pk (v := .int .i64 ((l.length : Nat) : Int)) h13 rfl (rn_len rfl rfl Try.underlying32 (hs.below hB10)) fun a14 h14 => ?_; clear h13
   refine pk0 (v := .bool (decide (((i : Nat) : Int) < ((l.length : Nat) : Int)))) h14 rfl fun a15 h15 => ?_; clear h14
   refine pl_nil ?_
   refine co_then ?_
   cases hc16 : (decide (((i : Nat) : Int) < ((l.length : Nat) : Int)))
   ·
    rw [hc16] at h15
    have hp17 : ¬ (((i : Nat) : Int) < ((l.length : Nat) : Int)) := of_decide_eq_false hc16
    clear hc16
    refine co_false h15 rfl ?_
    refine wp_exit ?_
    refine co_thenX ?_
    refine co_thenX ?_
    refine co_blockX ?_
    refine co_then ?_
    refine co_seq ?_
    refine co_reg ?_
    refine pk0 (v := u) h15 rfl fun a18 h18 => ?_; clear h15
    refine pw h18 rfl (op_call (args := #[u]) (R := fun res xw => ∃ ys : List ByteArray, ∃ u : Value, res = u ∧ xw.ownsRow w7.heap.size 9 1 u ys.length (ys.flatMap strE) ∧ SetOf ys ((l.take i).map (·.1)) ∧ ys.length ≤ ((l.take i).map (·.1)).length ∧ Below w7.heap.size w7 xw) rfl rfl rfl (by kernel_rfl) (by kernel_rfl) (Try.call51 _ _) (rkeysSet_any u ((l.take i).map (·.1)) w7 (row_sl hf9 strE_lenP) (by rw [List.length_map, List.length_take]; omega)) (by rintro e x ⟨ys, u, rfl, hq23, hq24, hq25, hb26⟩; exact ⟨_, rfl, ⟨ys, u, rfl, hq23, hq24, hq25, hb26⟩⟩)) ?_; clear h18
    rintro u22 w20 a19 ⟨ys21, _, rfl, hq23, hq24, hq25, hb26⟩ h19
    have hz27 := hb26.size
    have hl28 := sl_len (row_sl hq23 strE_lenP)
    refine pk0 (v := u22) h19 rfl fun a29 h29 => ?_; clear h19
    refine pl_nil ?_
    refine co_then ?_
    refine co_seq ?_
    refine co_reg ?_
    refine pk0 (v := .slice none 0 0) h29 rfl fun a30 h30 => ?_; clear h29
    refine pl_nil ?_
    refine co_then ?_
    refine co_seq ?_
    refine co_seq ?_
    refine co_reg ?_
    refine pk0 (v := .int .i64 0) h30 rfl fun a31 h31 => ?_; clear h30
    refine pl_nil ?_
    refine co_then ?_
    refine wp_block ?_
    have hall : l.take i = l := List.take_of_length_le (by omega)
    have hset : SetOf ys21 (l.map (·.1)) := by have := hq24; rwa [hall] at this
    have hysl : ys21.length ≤ l.length := by have h := (by assumption : ys21.length ≤ ((l.take i).map (·.1)).length); rw [List.length_map, hall] at h; exact h
    have h32 : Slots 57 [(0, v), (3, u22), (5, .slice none 0 0), (6, .int .i64 0)] _ := h31.sub ⟨rfl, rfl, rfl, rfl, trivial⟩; clear h31
    refine co_loop (fun mm a x => ∃ (j : Nat) (u2 : Value), Slots 57 [(0, v), (3, u22), (5, u2), (6, .int .i64 ((j : Nat) : Int))] a ∧ mm = ys21.length - j ∧ (j ≤ ys21.length) ∧ x.ownsRow w7.heap.size 9 1 u22 ys21.length (ys21.flatMap strE) ∧ x.ownsRow w.heap.size 60 3 u2 ((ys21.take j).map (lastD l)).length (((ys21.take j).map (lastD l)).flatMap opE) ∧ Below w.heap.size w x) (ys21.length - 0) ?_ ?_
    have hB33 := hb_call hB10 hb26
    · exact ⟨0, (.slice none 0 0), h32.sub ⟨rfl, rfl, rfl, (slot_eq rfl (congrArg (Value.int .i64) (by first | rfl | omega))), trivial⟩, rfl, by omega, hq23, (row_nilL _ _ _ _ _), hB33⟩
    · rintro k34 a35 w36 ⟨j, u2, h35, rfl, hi37, hf38, hf39, hB40⟩
      have hz41 := hB40.size
      have hst3 : ((ys21.take j).map (lastD l)).length ≤ j := by rw [List.length_map]; exact List.length_take_le _ _
      refine co_seq ?_
      refine co_seq ?_
      refine co_reg ?_
      refine pk0 (v := .int .i64 ((j : Nat) : Int)) h35 rfl fun a42 h42 => ?_; clear h35
      refine pk0 (v := u22) h42 rfl fun a43 h43 => ?_; clear h42
      refine pk (v := .int .i64 ((ys21.length : Nat) : Int)) h43 rfl (rn_lenOwn rfl rfl Try.underlying75 hf38) fun a44 h44 => ?_; clear h43
      refine pk0 (v := .bool (decide (((j : Nat) : Int) < ((ys21.length : Nat) : Int)))) h44 rfl fun a45 h45 => ?_; clear h44
      refine pl_nil ?_
      refine co_then ?_
      cases hc46 : (decide (((j : Nat) : Int) < ((ys21.length : Nat) : Int)))
      ·
       rw [hc46] at h45
       have hp47 : ¬ (((j : Nat) : Int) < ((ys21.length : Nat) : Int)) := of_decide_eq_false hc46
       clear hc46
       refine co_false h45 rfl ?_
       refine wp_exit ?_
       refine co_thenX ?_
       refine co_thenX ?_
       refine co_blockX ?_
       refine co_then ?_
       refine co_seq ?_
       refine co_reg ?_
       refine pk0 (v := u2) h45 rfl fun a48 h48 => ?_; clear h45
       refine pk0 (v := u2) h48 rfl fun a49 h49 => ?_; clear h48
       refine pl_nil ?_
       refine co_then ?_
       refine wp_ret ?_
       refine co_ret1 h49 rfl rfl ?_
       have hallj : ys21.take j = ys21 := List.take_of_length_le (by omega)
       exact ⟨_, _, rfl, (row_eq (row_lows hf39 (by omega)) (by rw [hallj])), norm_set hset, by rw [List.length_map]; omega, hB40⟩
      ·
       rw [hc46] at h45
       have hp50 : ((j : Nat) : Int) < ((ys21.length : Nat) : Int) := of_decide_eq_true hc46
       clear hc46
       refine co_true h45 rfl ?_
       refine wp_skip ?_
       refine co_then ?_
       refine co_seq ?_
       refine wp_block ?_
       refine co_seq ?_
       refine co_reg ?_
       refine pk0 (v := .agg #[.string (⟨#[]⟩), .string (⟨#[]⟩), .bool false]) h45 rfl fun a51 h51 => ?_; clear h45
       refine pw h51 rfl (op_new (v := fun N => pt N 0) (T := 60) (cs := #[.string (⟨#[]⟩), .string (⟨#[]⟩), .bool false]) (by kernel_rfl) (by kernel_rfl) (by kernel_rfl)) ?_; clear h51
       rintro _ w53 a52 ⟨N54, rfl, hN57, hz58, hk56, hg55⟩ h52
       have ha59 := row_fresh hf38 hN57
       have ha60 := row_fresh hf39 hN57
       have hz61 := hg55.size
       try dsimp only at h52
       refine pwD h52 rfl (op_storeN rfl rfl rfl (by kernel_rfl) (by kernel_rfl) hk56 rfl) ?_; clear h52
       rintro _ w63 a62 ⟨hk64, hz65, hg66⟩ h62
       have hk64' : Blk w63 N54 60 #[.string (⟨#[]⟩), .string (⟨#[]⟩), .bool false] := hk64; clear hk64
       have hz67 := hg66.size
       refine pl_nil ?_
       refine co_then ?_
       refine co_seq ?_
       refine co_seq ?_
       refine co_reg ?_
       refine pk0 (v := .int .i64 0) h62 rfl fun a68 h68 => ?_; clear h62
       refine pl_nil ?_
       refine co_then ?_
       refine wp_block ?_
       obtain ⟨y69, hy69⟩ : ∃ z, ys21[j]? = some z := ⟨_, List.getElem?_eq_getElem (by omega)⟩
       have h70 : Slots 57 [(0, v), (3, u22), (5, u2), (6, .int .i64 ((j : Nat) : Int)), (7, pt N54 0), (8, .int .i64 0)] _ := h68.sub ⟨rfl, rfl, rfl, rfl, rfl, rfl, trivial⟩; clear h68
       refine co_loop (fun mm a x => ∃ (k : Nat), Slots 57 [(0, v), (3, u22), (5, u2), (6, .int .i64 ((j : Nat) : Int)), (7, pt N54 0), (8, .int .i64 ((k : Nat) : Int))] a ∧ mm = l.length - k ∧ (k ≤ l.length) ∧ Blk x N54 60 #[.string ((lastD (l.take k) y69).1), .string ((lastD (l.take k) y69).2.1), .bool ((lastD (l.take k) y69).2.2)] ∧ x.ownsRow w7.heap.size 9 1 u22 ys21.length (ys21.flatMap strE) ∧ x.ownsRow w.heap.size 60 3 u2 (((ys21.take j).map (lastD l)).length) (((ys21.take j).map (lastD l)).flatMap opE) ∧ Below w.heap.size w x) (l.length - 0) ?_ ?_
       have hr71 := row_kept_new hf38 hg55
       have hr72 := row_kept_at hr71 hg66 (ha59)
       have hr73 := row_kept_new hf39 hg55
       have hr74 := row_kept_at hr73 hg66 (ha60)
       have hB75 := hb_new hB40 hg55
       have hB76 := hb_at hB75 hg66 (by omega)
       · exact ⟨0, h70.sub ⟨rfl, rfl, rfl, rfl, rfl, (slot_eq rfl (congrArg (Value.int .i64) (by first | rfl | omega))), trivial⟩, rfl, by omega, (blk_zOp l y69 hk64'), hr72, hr74, hB76⟩
       · rintro k77 a78 w79 ⟨k, h78, rfl, hi80, hf81, hf82, hf83, hB84⟩
         have hz85 := hB84.size
         have hl86 := hf81.lt
         refine co_seq ?_
         refine co_seq ?_
         refine co_reg ?_
         refine pk0 (v := .int .i64 ((k : Nat) : Int)) h78 rfl fun a87 h87 => ?_; clear h78
         refine pk0 (v := v) h87 rfl fun a88 h88 => ?_; clear h87
         refine pk (v := .int .i64 ((l.length : Nat) : Int)) h88 rfl (rn_len rfl rfl Try.underlying32 (hs.below hB84)) fun a89 h89 => ?_; clear h88
         refine pk0 (v := .bool (decide (((k : Nat) : Int) < ((l.length : Nat) : Int)))) h89 rfl fun a90 h90 => ?_; clear h89
         refine pl_nil ?_
         refine co_then ?_
         cases hc91 : (decide (((k : Nat) : Int) < ((l.length : Nat) : Int)))
         ·
          rw [hc91] at h90
          have hp92 : ¬ (((k : Nat) : Int) < ((l.length : Nat) : Int)) := of_decide_eq_false hc91
          clear hc91
          refine co_false h90 rfl ?_
          refine wp_exit ?_
          refine co_thenX ?_
          refine co_thenX ?_
          refine co_blockX ?_
          refine co_then ?_
          refine co_reg ?_
          refine pk0 (v := u2) h90 rfl fun a93 h93 => ?_; clear h90
          refine pk (v := .agg #[.string ((lastD (l.take k) y69).1), .string ((lastD (l.take k) y69).2.1), .bool ((lastD (l.take k) y69).2.2)]) h93 rfl (rn_loadN rfl rfl Try.underlying60 rfl (by kernel_rfl) hf81.all) fun a94 h94 => ?_; clear h93
          refine pw h94 rfl (op_new (v := fun N => .slice (some ⟨N, 0, none⟩) 1 1) (T := 60) (cs := #[.string ((lastD (l.take k) y69).1), .string ((lastD (l.take k) y69).2.1), .bool ((lastD (l.take k) y69).2.2)]) (by kernel_rfl) (by kernel_rfl) (by kernel_rfl)) ?_; clear h94
          rintro _ w96 a95 ⟨N97, rfl, hN100, hz101, hk99, hg98⟩ h95
          have ha102 := row_fresh hf82 hN100
          have ha103 := row_fresh hf83 hN100
          have hz104 := hg98.size
          try dsimp only at h95
          have hr110 := row_kept_new hf83 hg98
          refine pw h95 rfl (op_append rfl w.heap.size 60 (z := .agg #[.string (⟨#[]⟩), .string (⟨#[]⟩), .bool false]) (size := 3) (bytes := 40) Try.underlying32 (by kernel_rfl) rfl rfl rfl hr110 rfl hk99 rfl (by kernel_rfl) (by first | omega | (simp only [List.length_nil, List.length_append, List.length_cons, List.length_take, List.length_drop]; omega)) (by first | omega | (simp only [List.length_nil, List.length_append, List.length_cons, List.length_take, List.length_drop]; omega)) (by omega)) ?_; clear h95
          rintro v107 w106 a105 ⟨hr108, hg109⟩ h105
          have hr108' : w106.ownsRow w.heap.size 60 3 v107 (((ys21.take j).map (lastD l) ++ [((lastD (l.take k) y69).1, (lastD (l.take k) y69).2.1, ((lastD (l.take k) y69).2.2))]).length) (((ys21.take j).map (lastD l) ++ [((lastD (l.take k) y69).1, (lastD (l.take k) y69).2.1, ((lastD (l.take k) y69).2.2))]).flatMap opE) := row_push (y := ((lastD (l.take k) y69).1, (lastD (l.take k) y69).2.1, ((lastD (l.take k) y69).2.2))) hr108 rfl rfl; clear hr108
          have hz111 := hg109.size
          refine pk0 (v := v107) h105 rfl fun a112 h112 => ?_; clear h105
          refine pl_nil ?_
          refine co_blockN ?_
          refine co_then ?_
          refine co_reg ?_
          refine pk0 (v := .int .i64 ((j : Nat) : Int)) h112 rfl fun a113 h113 => ?_; clear h112
          refine pk (v := .int .i64 ((j + 1 : Nat) : Int)) h113 rfl (rn_arith' rfl rfl rfl rfl rfl rfl (IntWalk.i64_in _ (by omega)) (by omega)) fun a114 h114 => ?_; clear h113
          refine pk0 (v := .int .i64 ((j + 1 : Nat) : Int)) h114 rfl fun a115 h115 => ?_; clear h114
          refine pl_nil ?_
          refine co_then ?_
          refine ⟨(ys21.length - (j + 1)), by omega, ?_⟩
          have hr116 := row_kept_new hf82 hg98
          have hr117 := row_kept_row hr116 hr110 hg109 (by decide)
          have hB118 := hb_new hB84 hg98
          have hB119 := hb_row hB118 hr110 (by omega) hg109
          exact ⟨j + 1, v107, h115.sub ⟨rfl, rfl, rfl, rfl, trivial⟩, rfl, by omega, hr117, (row_eq hr108' (by first | rfl | (rw [List.take_of_length_le (show l.length ≤ k by omega)]; exact map_snoc hy69))), hB119⟩
         ·
          rw [hc91] at h90
          have hp120 : ((k : Nat) : Int) < ((l.length : Nat) : Int) := of_decide_eq_true hc91
          clear hc91
          refine co_true h90 rfl ?_
          refine wp_skip ?_
          refine co_then ?_
          refine co_seq ?_
          refine wp_block ?_
          refine co_seq ?_
          refine dr_eq (by kernel_rfl) (fun w121 hg122 => ?_)
          have hz123 := hg122.size
          refine dk0 0 (v := v) h90 rfl rfl rfl fun a124 h124 => ?_; clear h90
          refine dk0 1 (v := .int .i64 ((k : Nat) : Int)) h124 rfl rfl rfl fun a125 h125 => ?_; clear h124
          have hB127 := hb_new hB84 hg122
          obtain ⟨y126, hy126⟩ : ∃ z, l[k]? = some z := ⟨_, List.getElem?_eq_getElem (by first | omega | (simp; done) | (simp; omega))⟩
          refine dk 2 (v := pt (blkOf v) (offOf v + k * 3)) h125 rfl rfl rfl (fun x hx => by subst hx; exact (rn_index rfl rfl rfl Try.underlying32 Try.sizeOf60 (hs.below hB127) (by omega) (by first | omega | (simp; done) | (simp; omega)))) fun a128 h128 => ?_; clear h125
          refine dk0 3 (v := pt (blkOf v) (offOf v + k * 3)) h128 rfl rfl rfl fun a129 h129 => ?_; clear h128
          refine dk 4 (v := .string y126.1) h129 rfl rfl rfl (fun x hx => by subst hx; exact (rn_load1 rfl rfl Try.isAgg9 ((sl_at (hs.below hB127) hy126) 0 _ rfl))) fun a130 h130 => ?_; clear h129
          refine dk0 5 (v := u22) h130 rfl rfl rfl fun a131 h131 => ?_; clear h130
          refine dk0 6 (v := .int .i64 ((j : Nat) : Int)) h131 rfl rfl rfl fun a132 h132 => ?_; clear h131
          have hr133 := row_kept_new hf82 hg122
          refine dk 7 (v := pt (blkOf u22) (offOf u22 + j * 1)) h132 rfl rfl rfl (fun x hx => by subst hx; exact (rn_index rfl rfl rfl Try.underlying75 Try.sizeOf9 (row_sl hr133 strE_lenP) (by omega) (by first | omega | (simp; done) | (simp; omega)))) fun a134 h134 => ?_; clear h132
          refine dk 8 (v := .string y69) h134 rfl rfl rfl (fun x hx => by subst hx; exact (rn_load1 rfl rfl Try.isAgg9 ((sl_at (row_sl hr133 strE_lenP) hy69) 0 _ rfl))) fun a135 h135 => ?_; clear h134
          refine dk0 9 (v := .bool (y126.1.toList == y69.toList)) h135 rfl rfl rfl fun a136 h136 => ?_; clear h135
          refine dr_done (by kernel_rfl) ?_
          refine co_then ?_
          cases hc137 : (y126.1.toList == y69.toList)
          ·
           rw [hc137] at h136
           refine co_false h136 rfl ?_
           refine wp_skip ?_
           refine co_blockN ?_
           refine co_then ?_
           refine co_reg ?_
           refine pk0 (v := .int .i64 ((k : Nat) : Int)) h136 rfl fun a138 h138 => ?_; clear h136
           refine pk (v := .int .i64 ((k + 1 : Nat) : Int)) h138 rfl (rn_arith' rfl rfl rfl rfl rfl rfl (IntWalk.i64_in _ (by omega)) (by omega)) fun a139 h139 => ?_; clear h138
           refine pk0 (v := .int .i64 ((k + 1 : Nat) : Int)) h139 rfl fun a140 h140 => ?_; clear h139
           refine pl_nil ?_
           refine co_then ?_
           refine ⟨(l.length - (k + 1)), by omega, ?_⟩
           have hk141 := hf81.kept hg122 (by simp)
           have hr142 := row_kept_new hf83 hg122
           exact ⟨k + 1, h140.sub ⟨rfl, rfl, rfl, rfl, rfl, rfl, trivial⟩, rfl, by omega, (by first | (rw [lastD_yes hy126 (by assumption)]; exact hk141) | (rw [lastD_no hy126 (by assumption)]; exact hk141)), hr133, hr142, hB127⟩
          ·
           rw [hc137] at h136
           refine co_true h136 rfl ?_
           refine co_reg ?_
           refine pk0 (v := v) h136 rfl fun a143 h143 => ?_; clear h136
           refine pk0 (v := .int .i64 ((k : Nat) : Int)) h143 rfl fun a144 h144 => ?_; clear h143
           refine pk (v := pt (blkOf v) (offOf v + k * 3)) h144 rfl (rn_index rfl rfl rfl Try.underlying32 Try.sizeOf60 (hs.below hB127) (by omega) (by first | omega | (simp; done) | (simp; omega))) fun a145 h145 => ?_; clear h144
           refine pk (v := .agg #[.string y126.1, .string y126.2.1, .bool y126.2.2]) h145 rfl (rn_loadN rfl rfl Try.underlying60 rfl (by kernel_rfl) (sl_at (hs.below hB127) hy126)) fun a146 h146 => ?_; clear h145
           have hk152 := hf81.kept hg122 (by simp)
           refine pwD h146 rfl (op_storeN rfl rfl rfl (by kernel_rfl) (by kernel_rfl) hk152 rfl) ?_; clear h146
           rintro _ w148 a147 ⟨hk149, hz150, hg151⟩ h147
           have hk149' : Blk w148 N54 60 #[.string y126.1, .string y126.2.1, .bool y126.2.2] := hk149; clear hk149
           have hz153 := hg151.size
           refine pl_nil ?_
           refine co_blockN ?_
           refine co_then ?_
           refine co_reg ?_
           refine pk0 (v := .int .i64 ((k : Nat) : Int)) h147 rfl fun a154 h154 => ?_; clear h147
           refine pk (v := .int .i64 ((k + 1 : Nat) : Int)) h154 rfl (rn_arith' rfl rfl rfl rfl rfl rfl (IntWalk.i64_in _ (by omega)) (by omega)) fun a155 h155 => ?_; clear h154
           refine pk0 (v := .int .i64 ((k + 1 : Nat) : Int)) h155 rfl fun a156 h156 => ?_; clear h155
           refine pl_nil ?_
           refine co_then ?_
           refine ⟨(l.length - (k + 1)), by omega, ?_⟩
           have hr157 := row_kept_at hr133 hg151 (ha59)
           have hr158 := row_kept_new hf83 hg122
           have hr159 := row_kept_at hr158 hg151 (ha60)
           have hB160 := hb_at hB127 hg151 (by omega)
           exact ⟨k + 1, h156.sub ⟨rfl, rfl, rfl, rfl, rfl, rfl, trivial⟩, rfl, by omega, (by first | (rw [lastD_yes hy126 (by assumption)]; exact hk149') | (rw [lastD_no hy126 (by assumption)]; exact hk149')), hr157, hr159, hB160⟩
   ·
    rw [hc16] at h15
    have hp161 : ((i : Nat) : Int) < ((l.length : Nat) : Int) := of_decide_eq_true hc16
    clear hc16
    refine co_true h15 rfl ?_
    refine wp_skip ?_
    refine co_then ?_
    refine co_seq ?_
    refine wp_block ?_
    refine co_reg ?_
    refine pk0 (v := u) h15 rfl fun a162 h162 => ?_; clear h15
    refine pk0 (v := v) h162 rfl fun a163 h163 => ?_; clear h162
    refine pk0 (v := .int .i64 ((i : Nat) : Int)) h163 rfl fun a164 h164 => ?_; clear h163
    obtain ⟨y165, hy165⟩ : ∃ z, l[i]? = some z := ⟨_, List.getElem?_eq_getElem (by first | omega | (simp; done) | (simp; omega))⟩
    refine pk (v := pt (blkOf v) (offOf v + i * 3)) h164 rfl (rn_index rfl rfl rfl Try.underlying32 Try.sizeOf60 (hs.below hB10) (by omega) (by first | omega | (simp; done) | (simp; omega))) fun a166 h166 => ?_; clear h164
    refine pk0 (v := pt (blkOf v) (offOf v + i * 3)) h166 rfl fun a167 h167 => ?_; clear h166
    refine pk (v := .string y165.1) h167 rfl (rn_load1 rfl rfl Try.isAgg9 ((sl_at (hs.below hB10) hy165) 0 _ rfl)) fun a168 h168 => ?_; clear h167
    refine pw h168 rfl (op_new (v := fun N => .slice (some ⟨N, 0, none⟩) 1 1) (T := 9) (cs := #[.string y165.1]) (by kernel_rfl) (by kernel_rfl) (by kernel_rfl)) ?_; clear h168
    rintro _ w170 a169 ⟨N171, rfl, hN174, hz175, hk173, hg172⟩ h169
    have ha176 := row_fresh hf9 hN174
    have hz177 := hg172.size
    try dsimp only at h169
    have hr183 := row_kept_new hf9 hg172
    refine pw h169 rfl (op_append rfl w.heap.size 9 (z := .string (⟨#[]⟩)) (size := 1) (bytes := 16) Try.underlying75 (by kernel_rfl) rfl rfl rfl hr183 rfl hk173 rfl (by kernel_rfl) (by first | omega | (simp only [List.length_nil, List.length_append, List.length_cons, List.length_take, List.length_drop]; omega)) (by first | omega | (simp only [List.length_nil, List.length_append, List.length_cons, List.length_take, List.length_drop]; omega)) (by omega)) ?_; clear h169
    rintro v180 w179 a178 ⟨hr181, hg182⟩ h178
    have hr181' : w179.ownsRow w.heap.size 9 1 v180 (((l.take i).map (·.1) ++ [y165.1]).length) (((l.take i).map (·.1) ++ [y165.1]).flatMap strE) := row_push (y := y165.1) hr181 rfl rfl; clear hr181
    have hz184 := hg182.size
    refine pk0 (v := v180) h178 rfl fun a185 h185 => ?_; clear h178
    refine pl_nil ?_
    refine co_blockN ?_
    refine co_then ?_
    refine co_reg ?_
    refine pk0 (v := .int .i64 ((i : Nat) : Int)) h185 rfl fun a186 h186 => ?_; clear h185
    refine pk (v := .int .i64 ((i + 1 : Nat) : Int)) h186 rfl (rn_arith' rfl rfl rfl rfl rfl rfl (IntWalk.i64_in _ (by omega)) (by omega)) fun a187 h187 => ?_; clear h186
    refine pk0 (v := .int .i64 ((i + 1 : Nat) : Int)) h187 rfl fun a188 h188 => ?_; clear h187
    refine pl_nil ?_
    refine co_then ?_
    refine ⟨(l.length - (i + 1)), by omega, ?_⟩
    have hB189 := hb_new hB10 hg172
    have hB190 := hb_row hB189 hr183 (by omega) hg182
    exact ⟨i + 1, v180, h188.sub ⟨rfl, rfl, rfl, trivial⟩, rfl, by omega, (row_eq hr181' (by first | rfl | exact map_snoc (by assumption))), hB190⟩
def asOp (p : ValT) : OpT := (p.1, p.2, false)
def asPair (o : OpT) : ValT := (o.1, o.2.1)
theorem lastG_append (a b : List OpT) : lastG (a ++ b) = b.foldl lastF (lastG a) := by unfold lastG; rw [List.foldl_append]
theorem pair_last (l : List ValT) : ∀ k, lastG (l.map asOp) k = (pairG l k).map asOp := by
  refine snoc_ind (C := fun l => ∀ k, lastG (l.map asOp) k = (pairG l k).map asOp) (fun k => rfl) (fun l p ih k => ?_) l
  rw [List.map_append, List.map_cons, List.map_nil, lastG_snoc, pairG_snoc]
  unfold lastF pairF
  by_cases e : k = p.1
  · rw [if_pos (show k = (asOp p).1 from e), if_pos e]; rfl
  · rw [if_neg (show ¬ k = (asOp p).1 from e), if_neg e, ih k]
/-- What the pairs and the operations come to, told by the last operation of each key. -/
def gone (o : Option OpT) : Option ValT := match o with | none => none | some o => if o.2.2 = true then none else some (asPair o)
theorem ov_last (l : List ValT) (m : List OpT) : ∀ k, ovG l m k = gone (lastG (l.map asOp ++ m) k) := by
  refine snoc_ind (C := fun m => ∀ k, ovG l m k = gone (lastG (l.map asOp ++ m) k)) (fun k => ?_) (fun m o ih k => ?_) m
  · rw [List.append_nil, pair_last]
    show pairG l k = _
    cases h : pairG l k with
    | none => rfl
    | some p => rfl
  · rw [ovG_snoc, ← List.append_assoc, lastG_snoc]
    unfold ovF lastF
    by_cases e : k = o.1
    · rw [if_pos e, if_pos e]; rfl
    · rw [if_neg e, if_neg e, ih k]
def kept (ys : List OpT) : List ValT := (ys.filter fun o => !o.2.2).map asPair
theorem kept_yes {ys : List OpT} {i : Nat} {y : OpT} (h : ys[i]? = some y) (hd : y.2.2 = false) : kept (ys.take i) ++ [(y.1, y.2.1)] = kept (ys.take (i + 1)) := by rw [takeO_at h]; simp [kept, hd, asPair]
theorem kept_no {ys : List OpT} {i : Nat} {y : OpT} (h : ys[i]? = some y) (hd : y.2.2 = true) : kept (ys.take i) = kept (ys.take (i + 1)) := by rw [takeO_at h]; simp [kept, hd]
theorem kept_len (ys : List OpT) : (kept ys).length ≤ ys.length := by unfold kept; rw [List.length_map]; exact List.length_filter_le _ _
theorem over_set {l : List ValT} {m : List OpT} {ys : List OpT} (h : SetG (fun y : OpT => y.1) (lastG (l.map asOp ++ m)) ys) : SetG (fun y : ValT => y.1) (ovG l m) (kept ys) := by
  refine ⟨?_, fun y => ?_⟩
  · unfold kept
    rw [List.pairwise_map]
    exact (h.1.sublist List.filter_sublist).imp (fun {a b} hab => hab)
  · unfold kept
    rw [List.mem_map]
    constructor
    · rintro ⟨o, ho, rfl⟩
      rw [List.mem_filter] at ho
      obtain ⟨k, hk⟩ := (h.2 o).1 ho.1
      refine ⟨k, ?_⟩
      have hd : o.2.2 = false := by simpa using ho.2
      rw [ov_last, hk]; simp [gone, hd]
    · rintro ⟨k, hk⟩
      rw [ov_last] at hk
      cases hl : lastG (l.map asOp ++ m) k with
      | none => rw [hl] at hk; cases hk
      | some o =>
        rw [hl] at hk
        unfold gone at hk
        by_cases hd : o.2.2 = true
        · simp only [hd, if_true] at hk; cases hk
        · simp only [hd] at hk
          refine ⟨o, List.mem_filter.2 ⟨(h.2 o).2 ⟨k, hl⟩, by simpa using hd⟩, ?_⟩
          simpa using hk
set_option maxRecDepth 100000 in
theorem ropsOver_any (v : Value) (l : List ValT) (v2 : Value) (m : List OpT) (w : World) (hs : SliceOf valE 2 w v l) (hs2 : SliceOf opE 3 w v2 m) (hlen : l.length + m.length ≤ 1000) :
    Calls Try.prog 23 #[v, v2] w fun e w' => ∃ (ys : List ValT) (u : Value), e = .returned (u) ∧ w'.ownsRow w.heap.size 51 2 u ys.length (ys.flatMap valE) ∧ SetG (fun y : ValT => y.1) (ovG l m) ys ∧ ys.length ≤ l.length + m.length ∧ Below w.heap.size w w' := by
 have hB0 := Below.refl w.heap.size w
 have hl_hs := sl_len hs
 have hl_hs2 := sl_len hs2
 refine co_enter (n := 61) Try.func23 rfl rfl rfl [(0, v), (1, v2)] rfl (fun a h0 => ?_)
 refine co_seq ?_
 refine co_reg ?_
 refine pk0 (v := .slice none 0 0) h0 rfl fun a1 h1 => ?_; clear h0
 refine pl_nil ?_
 refine co_then ?_
 refine co_seq ?_
 refine co_reg ?_
 refine pk0 (v := .slice none 0 0) h1 rfl fun a2 h2 => ?_; clear h1
 refine pl_nil ?_
 refine co_then ?_
 refine co_seq ?_
 refine co_seq ?_
 refine co_reg ?_
 refine pk0 (v := .int .i64 0) h2 rfl fun a3 h3 => ?_; clear h2
 refine pl_nil ?_
 refine co_then ?_
 refine wp_block ?_
 have h4 : Slots 61 [(0, v), (1, v2), (5, .slice none 0 0), (6, .int .i64 0)] _ := h3.sub ⟨rfl, rfl, rfl, rfl, trivial⟩; clear h3
 refine co_loop (fun mm a x => ∃ (i : Nat) (u : Value), Slots 61 [(0, v), (1, v2), (5, u), (6, .int .i64 ((i : Nat) : Int))] a ∧ mm = l.length - i ∧ (i ≤ l.length) ∧ x.ownsRow w.heap.size 60 3 u ((l.take i).map asOp).length (((l.take i).map asOp).flatMap opE) ∧ Below w.heap.size w x) (l.length - 0) ?_ ?_
 · exact ⟨0, (.slice none 0 0), h4.sub ⟨rfl, rfl, rfl, (slot_eq rfl (congrArg (Value.int .i64) (by first | rfl | omega))), trivial⟩, rfl, by omega, (row_nilL _ _ _ _ _), hB0⟩
 · rintro k5 a6 w7 ⟨i, u, h6, rfl, hi8, hf9, hB10⟩
   have hz11 := hB10.size
   have hst : ((l.take i).map asOp).length ≤ i := by rw [List.length_map]; exact List.length_take_le _ _
   refine co_seq ?_
   refine co_seq ?_
   refine co_reg ?_
   refine pk0 (v := .int .i64 ((i : Nat) : Int)) h6 rfl fun a12 h12 => ?_; clear h6
   refine pk0 (v := v) h12 rfl fun a13 h13 => ?_; clear h12
   refine pk (v := .int .i64 ((l.length : Nat) : Int)) h13 rfl (rn_len rfl rfl Try.underlying44 (hs.below hB10)) fun a14 h14 => ?_; clear h13
   refine pk0 (v := .bool (decide (((i : Nat) : Int) < ((l.length : Nat) : Int)))) h14 rfl fun a15 h15 => ?_; clear h14
   refine pl_nil ?_
   refine co_then ?_
   cases hc16 : (decide (((i : Nat) : Int) < ((l.length : Nat) : Int)))
   ·
    rw [hc16] at h15
    have hp17 : ¬ (((i : Nat) : Int) < ((l.length : Nat) : Int)) := of_decide_eq_false hc16
    clear hc16
    refine co_false h15 rfl ?_
    refine wp_exit ?_
    refine co_thenX ?_
    refine co_thenX ?_
    refine co_blockX ?_
    refine co_then ?_
    refine co_seq ?_
    refine co_reg ?_
    refine pk0 (v := u) h15 rfl fun a18 h18 => ?_; clear h15
    refine pk0 (v := v2) h18 rfl fun a19 h19 => ?_; clear h18
    refine pw h19 rfl (op_appendSrc rfl w.heap.size 60 (z := .agg #[.string (⟨#[]⟩), .string (⟨#[]⟩), .bool false]) (size := 3) (bytes := 40) Try.underlying32 (by kernel_rfl) rfl rfl rfl hf9 rfl (hs2.below hB10) (fun y _ => ⟨opE_len y, opE_one y⟩) (by first | omega | (simp only [List.length_nil, List.length_append, List.length_cons, List.length_take, List.length_drop]; omega)) (by first | omega | (simp only [List.length_nil, List.length_append, List.length_cons, List.length_take, List.length_drop]; omega)) (by omega)) ?_; clear h19
    rintro v22 w21 a20 ⟨hr23, hg24⟩ h20
    have hr23' : w21.ownsRow w.heap.size 60 3 v22 (((l.take i).map asOp ++ m).length) (((l.take i).map asOp ++ m).flatMap opE) := row_app hr23; clear hr23
    have hz25 := hg24.size
    refine pk0 (v := v22) h20 rfl fun a26 h26 => ?_; clear h20
    refine pl_nil ?_
    refine co_then ?_
    refine co_seq ?_
    refine co_reg ?_
    refine pk0 (v := v22) h26 rfl fun a27 h27 => ?_; clear h26
    refine pw h27 rfl (op_call (args := #[v22]) (R := fun res xw => ∃ ys : List OpT, ∃ u : Value, res = u ∧ xw.ownsRow w21.heap.size 60 3 u ys.length (ys.flatMap opE) ∧ SetG (fun y : OpT => y.1) (lastG ((l.take i).map asOp ++ m)) ys ∧ ys.length ≤ ((l.take i).map asOp ++ m).length ∧ Below w21.heap.size w21 xw) rfl rfl rfl (by kernel_rfl) (by kernel_rfl) (Try.call39 _ _) (ropsNorm_any v22 ((l.take i).map asOp ++ m) w21 (row_sl hr23' opE_len) (by simp only [List.length_append, List.length_map, List.length_take]; omega)) (by rintro e x ⟨ys, u, rfl, hq32, hq33, hq34, hb35⟩; exact ⟨_, rfl, ⟨ys, u, rfl, hq32, hq33, hq34, hb35⟩⟩)) ?_; clear h27
    rintro u31 w29 a28 ⟨ys30, _, rfl, hq32, hq33, hq34, hb35⟩ h28
    have hz36 := hb35.size
    have hl37 := sl_len (row_sl hq32 opE_len)
    refine pk0 (v := u31) h28 rfl fun a38 h38 => ?_; clear h28
    refine pl_nil ?_
    refine co_then ?_
    refine co_seq ?_
    refine co_reg ?_
    refine pk0 (v := .slice none 0 0) h38 rfl fun a39 h39 => ?_; clear h38
    refine pl_nil ?_
    refine co_then ?_
    refine co_seq ?_
    refine co_seq ?_
    refine co_reg ?_
    refine pk0 (v := .int .i64 0) h39 rfl fun a40 h40 => ?_; clear h39
    refine pl_nil ?_
    refine co_then ?_
    refine wp_block ?_
    have hall : l.take i = l := List.take_of_length_le (by omega)
    have hset : SetG (fun y : OpT => y.1) (lastG (l.map asOp ++ m)) ys30 := by have := hq33; rwa [hall] at this
    have hysl : ys30.length ≤ l.length + m.length := by have h := (by assumption : ys30.length ≤ ((l.take i).map asOp ++ m).length); rw [List.length_append, List.length_map, hall] at h; exact h
    have h41 : Slots 61 [(5, u31), (7, .slice none 0 0), (8, .int .i64 0)] _ := h40.sub ⟨rfl, rfl, rfl, trivial⟩; clear h40
    refine co_loop (fun mm a x => ∃ (j : Nat) (u2 : Value), Slots 61 [(5, u31), (7, u2), (8, .int .i64 ((j : Nat) : Int))] a ∧ mm = ys30.length - j ∧ (j ≤ ys30.length) ∧ x.ownsRow w21.heap.size 60 3 u31 ys30.length (ys30.flatMap opE) ∧ x.ownsRow w.heap.size 51 2 u2 (kept (ys30.take j)).length ((kept (ys30.take j)).flatMap valE) ∧ Below w.heap.size w x) (ys30.length - 0) ?_ ?_
    have hB42 := hb_row hB10 hf9 (by omega) hg24
    have hB43 := hb_call hB42 hb35
    · exact ⟨0, (.slice none 0 0), h41.sub ⟨rfl, rfl, (slot_eq rfl (congrArg (Value.int .i64) (by first | rfl | omega))), trivial⟩, rfl, by omega, hq32, (row_nilL _ _ _ _ _), hB43⟩
    · rintro k44 a45 w46 ⟨j, u2, h45, rfl, hi47, hf48, hf49, hB50⟩
      have hz51 := hB50.size
      have hst3 : (kept (ys30.take j)).length ≤ j := Nat.le_trans (kept_len _) (List.length_take_le _ _)
      refine co_seq ?_
      refine co_seq ?_
      refine co_reg ?_
      refine pk0 (v := .int .i64 ((j : Nat) : Int)) h45 rfl fun a52 h52 => ?_; clear h45
      refine pk0 (v := u31) h52 rfl fun a53 h53 => ?_; clear h52
      refine pk (v := .int .i64 ((ys30.length : Nat) : Int)) h53 rfl (rn_lenOwn rfl rfl Try.underlying32 hf48) fun a54 h54 => ?_; clear h53
      refine pk0 (v := .bool (decide (((j : Nat) : Int) < ((ys30.length : Nat) : Int)))) h54 rfl fun a55 h55 => ?_; clear h54
      refine pl_nil ?_
      refine co_then ?_
      cases hc56 : (decide (((j : Nat) : Int) < ((ys30.length : Nat) : Int)))
      ·
       rw [hc56] at h55
       have hp57 : ¬ (((j : Nat) : Int) < ((ys30.length : Nat) : Int)) := of_decide_eq_false hc56
       clear hc56
       refine co_false h55 rfl ?_
       refine wp_exit ?_
       refine co_thenX ?_
       refine co_thenX ?_
       refine co_blockX ?_
       refine co_then ?_
       refine co_seq ?_
       refine co_reg ?_
       refine pk0 (v := u2) h55 rfl fun a58 h58 => ?_; clear h55
       refine pk0 (v := u2) h58 rfl fun a59 h59 => ?_; clear h58
       refine pl_nil ?_
       refine co_then ?_
       refine wp_ret ?_
       refine co_ret1 h59 rfl rfl ?_
       have hallj : ys30.take j = ys30 := List.take_of_length_le (by omega)
       exact ⟨_, _, rfl, (row_eq (row_lows hf49 (by omega)) (by rw [hallj])), over_set hset, by have := kept_len ys30; omega, hB50⟩
      ·
       rw [hc56] at h55
       have hp60 : ((j : Nat) : Int) < ((ys30.length : Nat) : Int) := of_decide_eq_true hc56
       clear hc56
       refine co_true h55 rfl ?_
       refine wp_skip ?_
       refine co_then ?_
       refine co_seq ?_
       refine wp_block ?_
       refine co_seq ?_
       refine co_reg ?_
       refine pk0 (v := u31) h55 rfl fun a61 h61 => ?_; clear h55
       refine pk0 (v := .int .i64 ((j : Nat) : Int)) h61 rfl fun a62 h62 => ?_; clear h61
       obtain ⟨y63, hy63⟩ : ∃ z, ys30[j]? = some z := ⟨_, List.getElem?_eq_getElem (by first | omega | (simp; done) | (simp; omega))⟩
       refine pk (v := pt (blkOf u31) (offOf u31 + j * 3)) h62 rfl (rn_index rfl rfl rfl Try.underlying32 Try.sizeOf60 (row_sl hf48 opE_len) (by omega) (by first | omega | (simp; done) | (simp; omega))) fun a64 h64 => ?_; clear h62
       refine pk0 (v := pt (blkOf u31) (offOf u31 + j * 3 + 2)) h64 rfl fun a65 h65 => ?_; clear h64
       refine pk (v := .bool y63.2.2) h65 rfl (rn_load1 rfl rfl Try.isAgg4 ((sl_at (row_sl hf48 opE_len) hy63) 2 _ rfl)) fun a66 h66 => ?_; clear h65
       cases hc67 : (y63.2.2)
       ·
        rw [hc67] at h66
        refine pk0 (v := .bool true) h66 rfl fun a68 h68 => ?_; clear h66
        refine pl_nil ?_
        refine co_then ?_
        refine co_true h68 rfl ?_
        refine dr_gen (fun x => Below w.heap.size w x ∧ x.ownsRow w21.heap.size 60 3 u31 ys30.length (ys30.flatMap opE)) (by kernel_rfl) (fun w69 hg70 => ?_) (fun w69 hg70 => ?_)
        ·
         have hz71 := hg70.size
         have hB72 := hb_new hB50 hg70
         have hr73 := row_kept_new hf48 hg70
         exact ⟨hB72, hr73⟩
        have hz74 := hg70.size
        have hB75 := hb_new hB50 hg70
        have hr76 := row_kept_new hf48 hg70
        refine dk0 0 (v := u2) h68 rfl rfl ⟨hB75, hr76⟩ fun a77 h77 => ?_; clear h68
        refine dk0 1 (v := u31) h77 rfl rfl ⟨hB75, hr76⟩ fun a78 h78 => ?_; clear h77
        refine dk0 2 (v := .int .i64 ((j : Nat) : Int)) h78 rfl rfl ⟨hB75, hr76⟩ fun a79 h79 => ?_; clear h78
        refine dk 3 (v := pt (blkOf u31) (offOf u31 + j * 3)) h79 rfl rfl ⟨hB75, hr76⟩ (fun x hx => (rn_index rfl rfl rfl Try.underlying32 Try.sizeOf60 (row_sl hx.2 opE_len) (by omega) (by first | omega | (simp; done) | (simp; omega)))) fun a80 h80 => ?_; clear h79
        refine dk0 4 (v := pt (blkOf u31) (offOf u31 + j * 3)) h80 rfl rfl ⟨hB75, hr76⟩ fun a81 h81 => ?_; clear h80
        refine dk 5 (v := .string y63.1) h81 rfl rfl ⟨hB75, hr76⟩ (fun x hx => (rn_load1 rfl rfl Try.isAgg9 ((sl_at (row_sl hx.2 opE_len) hy63) 0 _ rfl))) fun a82 h82 => ?_; clear h81
        refine dk0 6 (v := u31) h82 rfl rfl ⟨hB75, hr76⟩ fun a83 h83 => ?_; clear h82
        refine dk0 7 (v := .int .i64 ((j : Nat) : Int)) h83 rfl rfl ⟨hB75, hr76⟩ fun a84 h84 => ?_; clear h83
        refine dk 8 (v := pt (blkOf u31) (offOf u31 + j * 3)) h84 rfl rfl ⟨hB75, hr76⟩ (fun x hx => (rn_index rfl rfl rfl Try.underlying32 Try.sizeOf60 (row_sl hx.2 opE_len) (by omega) (by first | omega | (simp; done) | (simp; omega)))) fun a85 h85 => ?_; clear h84
        refine dk0 9 (v := pt (blkOf u31) (offOf u31 + j * 3 + 1)) h85 rfl rfl ⟨hB75, hr76⟩ fun a86 h86 => ?_; clear h85
        refine dk 10 (v := .string y63.2.1) h86 rfl rfl ⟨hB75, hr76⟩ (fun x hx => (rn_load1 rfl rfl Try.isAgg9 ((sl_at (row_sl hx.2 opE_len) hy63) 1 _ rfl))) fun a87 h87 => ?_; clear h86
        refine dk0 11 (v := .agg #[.string y63.1, .string y63.2.1]) h87 rfl rfl ⟨hB75, hr76⟩ fun a88 h88 => ?_; clear h87
        refine d1 12 h88 rfl rfl (op_new (v := fun N => .slice (some ⟨N, 0, none⟩) 1 1) (T := 51) (cs := #[.string y63.1, .string y63.2.1]) (by kernel_rfl) (by kernel_rfl) (by kernel_rfl)) ?_ ?_; clear h88
        ·
         rintro _ w90 ⟨N91, rfl, hN94, hz95, hk93, hg92⟩
         have ha96 := row_fresh hr76 hN94
         have hr98 := row_kept_new hf49 hg70
         have ha97 := row_fresh hr98 hN94
         have hz99 := hg92.size
         have hB100 := hb_new hB75 hg92
         have hr101 := row_kept_new hr76 hg92
         exact ⟨hB100, hr101⟩
        rintro _ w90 a89 ⟨N91, rfl, hN94, hz95, hk93, hg92⟩ h89
        have ha96 := row_fresh hr76 hN94
        have hr98 := row_kept_new hf49 hg70
        have ha97 := row_fresh hr98 hN94
        have hz99 := hg92.size
        try dsimp only at h89
        have hB100 := hb_new hB75 hg92
        have hr101 := row_kept_new hr76 hg92
        have hr107 := row_kept_new hr98 hg92
        refine d1 13 h89 rfl rfl (op_append rfl w.heap.size 51 (z := .agg #[.string (⟨#[]⟩), .string (⟨#[]⟩)]) (size := 2) (bytes := 32) Try.underlying44 (by kernel_rfl) rfl rfl rfl hr107 rfl hk93 rfl (by kernel_rfl) (by first | omega | (simp only [List.length_nil, List.length_append, List.length_cons, List.length_take, List.length_drop]; omega)) (by first | omega | (simp only [List.length_nil, List.length_append, List.length_cons, List.length_take, List.length_drop]; omega)) (by omega)) ?_ ?_; clear h89
        ·
         rintro v104 w103 ⟨hr105, hg106⟩
         have hr105' : w103.ownsRow w.heap.size 51 2 v104 ((kept (ys30.take j) ++ [(y63.1, y63.2.1)]).length) ((kept (ys30.take j) ++ [(y63.1, y63.2.1)]).flatMap valE) := row_push (y := (y63.1, y63.2.1)) hr105 rfl rfl; clear hr105
         have hz108 := hg106.size
         have hB109 := hb_row hB100 hr107 (by omega) hg106
         have hr110 := row_kept_row hr101 hr107 hg106 (by decide)
         exact ⟨hB109, hr110⟩
        rintro v104 w103 a102 ⟨hr105, hg106⟩ h102
        have hr105' : w103.ownsRow w.heap.size 51 2 v104 ((kept (ys30.take j) ++ [(y63.1, y63.2.1)]).length) ((kept (ys30.take j) ++ [(y63.1, y63.2.1)]).flatMap valE) := row_push (y := (y63.1, y63.2.1)) hr105 rfl rfl; clear hr105
        have hz108 := hg106.size
        have hB109 := hb_row hB100 hr107 (by omega) hg106
        have hr110 := row_kept_row hr101 hr107 hg106 (by decide)
        refine dk0 14 (v := v104) h102 rfl rfl ⟨hB109, hr110⟩ fun a111 h111 => ?_; clear h102
        refine dr_done (by kernel_rfl) ?_
        refine co_blockN ?_
        refine co_then ?_
        refine co_reg ?_
        refine pk0 (v := .int .i64 ((j : Nat) : Int)) h111 rfl fun a112 h112 => ?_; clear h111
        refine pk (v := .int .i64 ((j + 1 : Nat) : Int)) h112 rfl (rn_arith' rfl rfl rfl rfl rfl rfl (IntWalk.i64_in _ (by omega)) (by omega)) fun a113 h113 => ?_; clear h112
        refine pk0 (v := .int .i64 ((j + 1 : Nat) : Int)) h113 rfl fun a114 h114 => ?_; clear h113
        refine pl_nil ?_
        refine co_then ?_
        refine ⟨(ys30.length - (j + 1)), by omega, ?_⟩
        exact ⟨j + 1, v104, h114.sub ⟨rfl, rfl, rfl, trivial⟩, rfl, by omega, hr110, (row_eq hr105' (by first | rfl | exact kept_yes (by assumption) (by assumption) | exact kept_no (by assumption) (by assumption))), hB109⟩
       ·
        rw [hc67] at h66
        refine pk0 (v := .bool false) h66 rfl fun a115 h115 => ?_; clear h66
        refine pl_nil ?_
        refine co_then ?_
        refine co_false h115 rfl ?_
        refine wp_skip ?_
        refine co_blockN ?_
        refine co_then ?_
        refine co_reg ?_
        refine pk0 (v := .int .i64 ((j : Nat) : Int)) h115 rfl fun a116 h116 => ?_; clear h115
        refine pk (v := .int .i64 ((j + 1 : Nat) : Int)) h116 rfl (rn_arith' rfl rfl rfl rfl rfl rfl (IntWalk.i64_in _ (by omega)) (by omega)) fun a117 h117 => ?_; clear h116
        refine pk0 (v := .int .i64 ((j + 1 : Nat) : Int)) h117 rfl fun a118 h118 => ?_; clear h117
        refine pl_nil ?_
        refine co_then ?_
        refine ⟨(ys30.length - (j + 1)), by omega, ?_⟩
        exact ⟨j + 1, u2, h118.sub ⟨rfl, rfl, rfl, trivial⟩, rfl, by omega, hf48, (row_eq hf49 (by first | rfl | exact kept_yes (by assumption) (by assumption) | exact kept_no (by assumption) (by assumption))), hB50⟩
   ·
    rw [hc16] at h15
    have hp119 : ((i : Nat) : Int) < ((l.length : Nat) : Int) := of_decide_eq_true hc16
    clear hc16
    refine co_true h15 rfl ?_
    refine wp_skip ?_
    refine co_then ?_
    refine co_seq ?_
    refine wp_block ?_
    refine dr_gen (fun x => Below w.heap.size w x) (by kernel_rfl) (fun w120 hg121 => ?_) (fun w120 hg121 => ?_)
    ·
     have hz122 := hg121.size
     have hB123 := hb_new hB10 hg121
     exact hB123
    have hz124 := hg121.size
    have hB125 := hb_new hB10 hg121
    refine dk0 0 (v := u) h15 rfl rfl hB125 fun a126 h126 => ?_; clear h15
    refine dk0 1 (v := v) h126 rfl rfl hB125 fun a127 h127 => ?_; clear h126
    refine dk0 2 (v := .int .i64 ((i : Nat) : Int)) h127 rfl rfl hB125 fun a128 h128 => ?_; clear h127
    obtain ⟨y129, hy129⟩ : ∃ z, l[i]? = some z := ⟨_, List.getElem?_eq_getElem (by first | omega | (simp; done) | (simp; omega))⟩
    refine dk 3 (v := pt (blkOf v) (offOf v + i * 2)) h128 rfl rfl hB125 (fun x hx => (rn_index rfl rfl rfl Try.underlying44 Try.sizeOf51 (hs.below hx) (by omega) (by first | omega | (simp; done) | (simp; omega)))) fun a130 h130 => ?_; clear h128
    refine dk0 4 (v := pt (blkOf v) (offOf v + i * 2)) h130 rfl rfl hB125 fun a131 h131 => ?_; clear h130
    refine dk 5 (v := .string y129.1) h131 rfl rfl hB125 (fun x hx => (rn_load1 rfl rfl Try.isAgg9 ((sl_at (hs.below hx) hy129) 0 _ rfl))) fun a132 h132 => ?_; clear h131
    refine dk0 6 (v := v) h132 rfl rfl hB125 fun a133 h133 => ?_; clear h132
    refine dk0 7 (v := .int .i64 ((i : Nat) : Int)) h133 rfl rfl hB125 fun a134 h134 => ?_; clear h133
    refine dk 8 (v := pt (blkOf v) (offOf v + i * 2)) h134 rfl rfl hB125 (fun x hx => (rn_index rfl rfl rfl Try.underlying44 Try.sizeOf51 (hs.below hx) (by omega) (by first | omega | (simp; done) | (simp; omega)))) fun a135 h135 => ?_; clear h134
    refine dk0 9 (v := pt (blkOf v) (offOf v + i * 2 + 1)) h135 rfl rfl hB125 fun a136 h136 => ?_; clear h135
    refine dk 10 (v := .string y129.2) h136 rfl rfl hB125 (fun x hx => (rn_load1 rfl rfl Try.isAgg9 ((sl_at (hs.below hx) hy129) 1 _ rfl))) fun a137 h137 => ?_; clear h136
    refine dk0 11 (v := .agg #[.string y129.1, .string y129.2, .bool false]) h137 rfl rfl hB125 fun a138 h138 => ?_; clear h137
    refine d1 12 h138 rfl rfl (op_new (v := fun N => .slice (some ⟨N, 0, none⟩) 1 1) (T := 60) (cs := #[.string y129.1, .string y129.2, .bool false]) (by kernel_rfl) (by kernel_rfl) (by kernel_rfl)) ?_ ?_; clear h138
    ·
     rintro _ w140 ⟨N141, rfl, hN144, hz145, hk143, hg142⟩
     have hr147 := row_kept_new hf9 hg121
     have ha146 := row_fresh hr147 hN144
     have hz148 := hg142.size
     have hB149 := hb_new hB125 hg142
     exact hB149
    rintro _ w140 a139 ⟨N141, rfl, hN144, hz145, hk143, hg142⟩ h139
    have hr147 := row_kept_new hf9 hg121
    have ha146 := row_fresh hr147 hN144
    have hz148 := hg142.size
    try dsimp only at h139
    have hB149 := hb_new hB125 hg142
    have hr155 := row_kept_new hr147 hg142
    refine d1 13 h139 rfl rfl (op_append rfl w.heap.size 60 (z := .agg #[.string (⟨#[]⟩), .string (⟨#[]⟩), .bool false]) (size := 3) (bytes := 40) Try.underlying32 (by kernel_rfl) rfl rfl rfl hr155 rfl hk143 rfl (by kernel_rfl) (by first | omega | (simp only [List.length_nil, List.length_append, List.length_cons, List.length_take, List.length_drop]; omega)) (by first | omega | (simp only [List.length_nil, List.length_append, List.length_cons, List.length_take, List.length_drop]; omega)) (by omega)) ?_ ?_; clear h139
    ·
     rintro v152 w151 ⟨hr153, hg154⟩
     have hr153' : w151.ownsRow w.heap.size 60 3 v152 (((l.take i).map asOp ++ [(y129.1, y129.2, false)]).length) (((l.take i).map asOp ++ [(y129.1, y129.2, false)]).flatMap opE) := row_push (y := (y129.1, y129.2, false)) hr153 rfl rfl; clear hr153
     have hz156 := hg154.size
     have hB157 := hb_row hB149 hr155 (by omega) hg154
     exact hB157
    rintro v152 w151 a150 ⟨hr153, hg154⟩ h150
    have hr153' : w151.ownsRow w.heap.size 60 3 v152 (((l.take i).map asOp ++ [(y129.1, y129.2, false)]).length) (((l.take i).map asOp ++ [(y129.1, y129.2, false)]).flatMap opE) := row_push (y := (y129.1, y129.2, false)) hr153 rfl rfl; clear hr153
    have hz156 := hg154.size
    have hB157 := hb_row hB149 hr155 (by omega) hg154
    refine dk0 14 (v := v152) h150 rfl rfl hB157 fun a158 h158 => ?_; clear h150
    refine dr_done (by kernel_rfl) ?_
    refine co_blockN ?_
    refine co_then ?_
    refine co_reg ?_
    refine pk0 (v := .int .i64 ((i : Nat) : Int)) h158 rfl fun a159 h159 => ?_; clear h158
    refine pk (v := .int .i64 ((i + 1 : Nat) : Int)) h159 rfl (rn_arith' rfl rfl rfl rfl rfl rfl (IntWalk.i64_in _ (by omega)) (by omega)) fun a160 h160 => ?_; clear h159
    refine pk0 (v := .int .i64 ((i + 1 : Nat) : Int)) h160 rfl fun a161 h161 => ?_; clear h160
    refine pl_nil ?_
    refine co_then ?_
    refine ⟨(l.length - (i + 1)), by omega, ?_⟩
    exact ⟨i + 1, v152, h161.sub ⟨rfl, rfl, rfl, rfl, trivial⟩, rfl, by omega, (row_eq hr153' (by first | rfl | exact map_snoc (f := asOp) (by assumption))), hB157⟩
end Go.Proofs.Ytfjhlckklgeokaa
