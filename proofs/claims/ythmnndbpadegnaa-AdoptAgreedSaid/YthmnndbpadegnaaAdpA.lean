/- Package adopt: what comes of entries that are taken, in plain words. Conditions: none. -/
import Derived.Test.YthmnndbpadegnaaAdY
namespace Go.Proofs.Ythmnndbpadegnaa
open Go.RowKit Go.PlainAid
set_option linter.unusedVariables false

/-- The entry that is adopted at g. -/
def oneE (L : List EntT) (g : Nat) (e : EntT) : EntT := match L[g]? with
  | some h => if nmE h = nmE e then { h with ts := if e.ts ≠ 0 then e.ts else h.ts } else e
  | none => e
/-- Nothing new comes. -/
def skipB (L : List EntT) (g : Nat) (e : EntT) : Bool := match L[g]? with
  | some h => decide (nmE h = nmE e ∧ (e.ts = 0 ∨ e.ts = h.ts))
  | none => false
def errX (L : List EntT) (g : Nat) (x : EntT) : Int := setE L (g : Int) x.client x.req x.opl x.ts
def nset (L : List EntT) (g : Nat) (x : EntT) : List EntT := (setL L (g : Int) x.client x.req x.opl x.ts).map e0
/-- What is noted of a list from the place f on, g being good: places and entries; how many are good then; the log then. -/
def tkF : List EntT → Nat → Nat → List EntT → List (Nat × EntT) × Nat × List EntT
  | L, g, _, [] => ([], g, L)
  | L, g, f, e :: r =>
    if f < g then tkF L g (f + 1) r
    else if skipB L g e = true then tkF L (g + 1) (f + 1) r
    else if errX L g (oneE L g e) ≠ 0 then ([], g, L)
    else ((g, e0 (oneE L g e)) :: (tkF (nset L g (oneE L g e)) (g + 1) (f + 1) r).1, (tkF (nset L g (oneE L g e)) (g + 1) (f + 1) r).2)
/-- Notes laid upon a log. -/
def rpF : List EntT → List (Nat × EntT) → Option (List EntT)
  | L, [] => some L
  | L, (n, x) :: r => if errX L n x ≠ 0 then none else rpF (nset L n x) r
theorem rp_tk : ∀ (l L : List EntT) (g f : Nat), rpF L (tkF L g f l).1 = some (tkF L g f l).2.2
  | [], L, g, f => rfl
  | e :: r, L, g, f => by
    have ih := rp_tk r
    unfold tkF
    split
    · exact ih _ _ _
    · split
      · exact ih _ _ _
      · split
        · rfl
        · rename_i h
          show (if errX L g (e0 (oneE L g e)) ≠ 0 then none else rpF (nset L g (e0 (oneE L g e))) _) = _
          rw [if_neg (show ¬ errX L g (e0 (oneE L g e)) ≠ 0 from h)]
          exact ih _ _ _
/-- The first g of L are twins of the first g of O, with each timestamp that these have. -/
structure Agr (L O : List EntT) (g : Nat) : Prop where
  l : g ≤ L.length
  o : g ≤ O.length
  tw : ∀ (i : Nat) (a b : EntT), i < g → L[i]? = some a → O[i]? = some b → nmE a = nmE b ∧ (b.ts ≠ 0 → a.ts = b.ts)
section
variable {L O : List EntT} {g n k : Nat} {e x : EntT}
theorem Agr.zero : Agr L O 0 := ⟨Nat.zero_le _, Nat.zero_le _, fun i _ _ h => absurd h (by omega)⟩
theorem skip_at (h : skipB L g e = true) : ∃ a, L[g]? = some a ∧ nmE a = nmE e ∧ (e.ts = 0 ∨ e.ts = a.ts) := by
  unfold skipB at h
  split at h
  · rename_i a ha; exact ⟨a, ha, of_decide_eq_true h⟩
  · cases h
theorem skip_of {a : EntT} (ha : L[g]? = some a) (h1 : nmE a = nmE e) (h2 : e.ts ≠ 0 → a.ts = e.ts) : skipB L g e = true := by
  unfold skipB; rw [ha]
  refine decide_eq_true ⟨h1, ?_⟩
  by_cases h0 : e.ts = 0
  · exact .inl h0
  · exact .inr (h2 h0).symm
theorem Agr.skip (h : Agr L O g) (he : O[g]? = some e) (hs : skipB L g e = true) : Agr L O (g + 1) := by
  obtain ⟨a, ha, h1, h2⟩ := skip_at hs
  have l1 := (List.getElem?_eq_some_iff.1 ha).1
  have l2 := (List.getElem?_eq_some_iff.1 he).1
  refine ⟨by omega, by omega, fun i b c hi hb hc => ?_⟩
  by_cases e1 : i = g
  · subst e1
    rw [ha] at hb; rw [he] at hc; cases hb; cases hc
    exact ⟨h1, fun hn => by rcases h2 with h2 | h2; exact absurd h2 hn; exact h2.symm⟩
  · exact h.tw i b c (by omega) hb hc
/-- What is adopted at g: its name, its operations, its timestamp. -/
theorem one_cases (L : List EntT) (g : Nat) (e : EntT) : (∃ h, L[g]? = some h ∧ nmE h = nmE e ∧ oneE L g e = { h with ts := if e.ts ≠ 0 then e.ts else h.ts }) ∨ ((∀ h, L[g]? = some h → nmE h ≠ nmE e) ∧ oneE L g e = e) := by
  unfold oneE
  split
  · rename_i h hh
    split
    · rename_i hn; exact .inl ⟨h, hh, hn, rfl⟩
    · rename_i hn; exact .inr ⟨fun a ha => by rw [hh] at ha; cases ha; exact hn, rfl⟩
  · rename_i hh; exact .inr ⟨fun a ha => (by rw [hh] at ha; cases ha), rfl⟩
theorem one_nm (L : List EntT) (g : Nat) (e : EntT) : nmE (oneE L g e) = nmE e := by
  rcases one_cases L g e with ⟨h, h1, h2, h3⟩ | ⟨h1, h3⟩
  · rw [h3]; exact h2
  · rw [h3]
theorem uq_ne (hO : UqN O) {i j : Nat} {a b : EntT} (hi : i < j) (ha : O[i]? = some a) (hb : O[j]? = some b) : nmE a ≠ nmE b := by
  intro h
  have l2 := (List.getElem?_eq_some_iff.1 hb).1
  have h1 : (O.map nmE)[i]? = some (nmE a) := by rw [List.getElem?_map, ha]; rfl
  have h2 : (O.map nmE)[j]? = some (nmE b) := by rw [List.getElem?_map, hb]; rfl
  rw [h] at h1
  have := (List.getElem?_inj (by rw [List.length_map]; omega) hO).1 (h1.trans h2.symm)
  omega
/-- What is new is taken. -/
theorem take_ok (hL : RI L) (hO : RI O) (ho : O.length ≤ 100) (h : Agr L O g) (he : O[g]? = some e) (hs : ¬ skipB L g e = true) : errX L g (oneE L g e) = 0 := by
  have l2 := (List.getElem?_eq_some_iff.1 he).1
  have hg := h.l
  have hn := one_nm L g e
  have hnc : ((oneE L g e).client, (oneE L g e).req) = nmE e := hn
  unfold errX setE
  rw [if_neg (by omega)]
  have hc : chkB (oneE L g e).client (oneE L g e).req (oneE L g e).opl = 0 := by
    rcases one_cases L g e with ⟨a, h1, h2, h3⟩ | ⟨h1, h3⟩
    · rw [h3]; exact hL.chk a (List.mem_of_getElem? h1)
    · rw [h3]; exact hO.chk e (List.mem_of_getElem? he)
  rw [if_neg (by rw [hc]; simp), if_neg (by omega), Int.toNat_natCast]
  have hf : findN (L.take g) ((oneE L g e).client, (oneE L g e).req) = none := by
    rw [hnc, findN_none]
    intro z hz hzn
    obtain ⟨i, hi⟩ := List.getElem?_of_mem hz
    have hig : i < g := by have := (List.getElem?_eq_some_iff.1 hi).1; rw [List.length_take] at this; omega
    rw [List.getElem?_take_of_lt hig] at hi
    obtain ⟨b, hb⟩ : ∃ b, O[i]? = some b := ⟨_, List.getElem?_eq_getElem (by omega)⟩
    have := (h.tw i z b hig hi hb).1
    exact uq_ne hO.uq hig hb he (by rw [← this, hzn])
  rw [if_neg (by rw [hf]; simp)]
  have hb : badT (L.take g) (EntT.mk (oneE L g e).client (oneE L g e).req (.slice none 0 0) (oneE L g e).opl (oneE L g e).ts) = false := by
    by_cases hz : (oneE L g e).ts = 0
    · exact bad_ts hz
    · by_cases h0 : g = 0
      · subst h0; simp [badT]
      · obtain ⟨p, hp⟩ : ∃ p, L[g - 1]? = some p := ⟨_, List.getElem?_eq_getElem (by omega)⟩
        obtain ⟨q, hq⟩ : ∃ q, O[g - 1]? = some q := ⟨_, List.getElem?_eq_getElem (by omega)⟩
        rw [bad_at (j := g - 1) rfl (by omega) hp]
        refine decide_eq_false ?_
        rintro ⟨_, hbad⟩
        have hbad : p.ts = 0 ∨ (oneE L g e).ts ≤ p.ts := hbad
        have hets : e.ts ≠ 0 ∧ (oneE L g e).ts = e.ts := by
          rcases one_cases L g e with ⟨a, h1, h2, h3⟩ | ⟨h1, h3⟩
          · by_cases hz2 : e.ts = 0
            · exact absurd (skip_of h1 h2 fun q => absurd hz2 q) hs
            · refine ⟨hz2, ?_⟩; rw [h3]; show (if e.ts ≠ 0 then e.ts else a.ts) = e.ts; rw [if_pos hz2]
          · rw [h3] at hz ⊢; exact ⟨hz, rfl⟩
        have hu := hO.up (g - 1) e q (by rw [show g - 1 + 1 = g by omega]; exact he) hq hets.1
        have ht := (h.tw (g - 1) p q (by omega) hp hq).2 hu.1
        omega
  rw [if_neg (by rw [hb]; simp)]
theorem nset_at (hE : errX L g x = 0) : g ≤ L.length ∧ g < (nset L g x).length ∧ (nset L g x).length ≤ max L.length (g + 1) ∧ (nset L g x).take g = (L.take g).map e0 ∧ ∃ y, (nset L g x)[g]? = some y ∧ nmE y = nmE x ∧ y.ts = x.ts := by
  obtain ⟨k1, k2, k3, k4, k5, k6⟩ := setE_0 hE
  have hg : g ≤ L.length := by omega
  unfold nset
  by_cases h1 : (L[(g : Int).toNat]?).map nmE = some (x.client, x.req)
  · rw [setL_tw hE h1]
    rw [Int.toNat_natCast] at h1 ⊢
    obtain ⟨y0, hy0, hyn⟩ := Option.map_eq_some_iff.1 h1
    have hgl := (List.getElem?_eq_some_iff.1 hy0).1
    refine ⟨hg, by rw [List.length_map, restF_len]; exact hgl, by rw [List.length_map, restF_len]; omega, ?_, ?_⟩
    · rw [← List.map_take]
      congr 1
      by_cases hts : y0.ts = x.ts
      · rw [restF_same hy0 hts]
      · rw [← restF_ne (k := L.length) hy0 hts (Nat.le_refl _)]
        apply List.ext_getElem?
        intro j
        by_cases hj : j < g
        · rw [List.getElem?_take_of_lt hj, List.getElem?_take_of_lt hj]
          simp only [rsL, List.getElem?_mapIdx]
          cases L[j]? with
          | none => rfl
          | some z => simp only [Option.map_some]; rw [if_neg (by omega), if_neg (by omega)]
        · rw [List.getElem?_eq_none (by rw [List.length_take]; omega), List.getElem?_eq_none (by rw [List.length_take]; omega)]
    · by_cases hts : y0.ts = x.ts
      · rw [restF_same hy0 hts]
        exact ⟨e0 y0, by rw [List.getElem?_map, hy0]; rfl, hyn, hts⟩
      · rw [← restF_ne (k := L.length) hy0 hts (Nat.le_refl _)]
        refine ⟨e0 { y0 with ts := x.ts }, ?_, hyn, rfl⟩
        rw [List.getElem?_map]
        simp only [rsL, List.getElem?_mapIdx, hy0, Option.map_some, if_true]
  · rw [setL_nw hE h1]
    rw [Int.toNat_natCast]
    have hl : (L.take g).length = g := by rw [List.length_take]; omega
    refine ⟨hg, by rw [List.length_map, List.length_append, hl]; simp, by rw [List.length_map, List.length_append, hl]; simp; omega, ?_, ⟨EntT.mk x.client x.req (.slice none 0 0) x.opl x.ts, ?_, rfl, rfl⟩⟩
    · rw [← List.map_take, List.take_append_of_le_length (by omega), List.take_take, Nat.min_self]
    · rw [List.getElem?_map, List.getElem?_append_right (by omega), hl]; simp [e0]
theorem nset_ri (hL : RI L) : RI (nset L g x) := RI.e0 (A := setL L (g : Int) x.client x.req x.opl x.ts) (by unfold nset; rw [e0_e0]) hL.set
theorem Agr.set (h : Agr L O g) (he : O[g]? = some e) (hE : errX L g (oneE L g e) = 0) : Agr (nset L g (oneE L g e)) O (g + 1) := by
  obtain ⟨a1, a2, a3, a4, y, hy, y1, y2⟩ := nset_at hE
  have l2 := (List.getElem?_eq_some_iff.1 he).1
  refine ⟨by omega, by omega, fun i b c hi hb hc => ?_⟩
  by_cases e1 : i = g
  · subst e1
    rw [hy] at hb; rw [he] at hc; cases hb; cases hc
    refine ⟨by rw [y1, one_nm], fun hn => ?_⟩
    rw [y2]
    rcases one_cases L i e with ⟨a, h1, h2, h3⟩ | ⟨h1, h3⟩
    · rw [h3]; show (if e.ts ≠ 0 then e.ts else a.ts) = e.ts; rw [if_pos hn]
    · rw [h3]
  · have hig : i < g := by omega
    have hb' : ((L.take g).map e0)[i]? = some b := by rw [← a4, List.getElem?_take_of_lt hig]; exact hb
    rw [List.getElem?_map, List.getElem?_take_of_lt hig] at hb'
    obtain ⟨z, hz, rfl⟩ := Option.map_eq_some_iff.1 hb'
    exact h.tw i z c hig hz hc
/-- All of a piece that begins where the good ones end. -/
theorem tk_all (hO : RI O) (ho : O.length ≤ 100) : ∀ (l L : List EntT) (g : Nat), RI L → L.length ≤ 100 → Agr L O g → (∀ (i : Nat) (e : EntT), l[i]? = some e → O[g + i]? = some e) →
    (tkF L g g l).2.1 = g + l.length ∧ Agr (tkF L g g l).2.2 O (g + l.length) ∧ RI (tkF L g g l).2.2 ∧ (tkF L g g l).2.2.length ≤ 100
  | [], L, g, hL, hl, h, _ => ⟨rfl, h, hL, hl⟩
  | e :: r, L, g, hL, hl, h, hr => by
    have ih := tk_all hO ho r
    have he : O[g]? = some e := hr 0 e rfl
    have l2 := (List.getElem?_eq_some_iff.1 he).1
    have hr' : ∀ (i : Nat) (a : EntT), r[i]? = some a → O[g + 1 + i]? = some a := fun i a ha => by have := hr (i + 1) a (by simpa using ha); rw [show g + 1 + i = g + (i + 1) by omega]; exact this
    have hlen : g + (e :: r).length = g + 1 + r.length := by rw [List.length_cons]; omega
    rw [hlen]
    unfold tkF
    rw [if_neg (Nat.lt_irrefl g)]
    split
    · rename_i hs; exact ih L (g + 1) hL hl (h.skip he hs) hr'
    · rename_i hs
      have hE := take_ok hL hO ho h he hs
      rw [if_neg (by rw [hE]; simp)]
      have a := nset_at hE
      exact ih (nset L g (oneE L g e)) (g + 1) (nset_ri hL) (by omega) (h.set he hE) hr'
theorem skip_all : ∀ (l : List EntT) (g : Nat), Agr L O n → (∀ (i : Nat) (e : EntT), l[i]? = some e → O[g + i]? = some e) → g + l.length ≤ n → ∀ l2, tkF L g g (l ++ l2) = tkF L (g + l.length) (g + l.length) l2
  | [], g, h, _, _, l2 => rfl
  | e :: r, g, h, hr, hn, l2 => by
    have he : O[g]? = some e := hr 0 e rfl
    rw [List.length_cons] at hn
    have hl := h.l
    obtain ⟨a, ha⟩ : ∃ a, L[g]? = some a := ⟨_, List.getElem?_eq_getElem (by omega)⟩
    obtain ⟨t1, t2⟩ := h.tw g a e (by omega) ha he
    have ih := skip_all r (g + 1) h (fun i a ha => by have := hr (i + 1) a (by simpa using ha); rw [show g + 1 + i = g + (i + 1) by omega]; exact this) (by omega) l2
    have hlen : g + (e :: r).length = g + 1 + r.length := by rw [List.length_cons]; omega
    rw [hlen, List.cons_append]
    show (if g < g then _ else if skipB L g e = true then tkF L (g + 1) (g + 1) (r ++ l2) else _) = _
    rw [if_neg (Nat.lt_irrefl g), if_pos (skip_of ha t1 t2)]
    exact ih
theorem skip_end (h : Agr L O n) (l : List EntT) (g : Nat) (hr : ∀ (i : Nat) (e : EntT), l[i]? = some e → O[g + i]? = some e) (hn : g + l.length ≤ n) : tkF L g g l = ([], g + l.length, L) := by
  have := skip_all l g h hr hn []
  rw [List.append_nil] at this
  rw [this]; rfl
theorem below_all : ∀ (l : List EntT) (f : Nat), f + l.length ≤ g → tkF L g f l = ([], g, L)
  | [], f, _ => rfl
  | e :: r, f, h => by
    rw [List.length_cons] at h
    unfold tkF
    rw [if_pos (by omega)]
    exact below_all r (f + 1) (by omega)
/-- What stands ahead of g stays. -/
theorem tk_ge : ∀ (l L : List EntT) (g f : Nat), L.map e0 = L → g ≤ L.length → (∀ p ∈ (tkF L g f l).1, g ≤ p.1) ∧ (tkF L g f l).2.2.take g = L.take g ∧ g ≤ (tkF L g f l).2.2.length ∧ (tkF L g f l).2.2.map e0 = (tkF L g f l).2.2 ∧ g ≤ (tkF L g f l).2.1
  | [], L, g, f, hL, hg => ⟨fun p hp => (List.not_mem_nil hp).elim, rfl, hg, hL, Nat.le_refl _⟩
  | e :: r, L, g, f, hL, hg => by
    have ih := tk_ge r
    unfold tkF
    split
    · exact ih L g (f + 1) hL hg
    · split
      · rename_i hs
        obtain ⟨a, ha, _⟩ := skip_at hs
        have l1 := (List.getElem?_eq_some_iff.1 ha).1
        obtain ⟨i1, i2, i3, i4, i5⟩ := ih L (g + 1) (f + 1) hL (by omega)
        refine ⟨fun p hp => by have := i1 p hp; omega, ?_, by omega, i4, by omega⟩
        have := congrArg (List.take g) i2
        rwa [List.take_take, List.take_take, Nat.min_eq_left (by omega)] at this
      · split
        · exact ⟨fun p hp => (List.not_mem_nil hp).elim, rfl, hg, hL, Nat.le_refl _⟩
        · rename_i hE
          have hE : errX L g (oneE L g e) = 0 := by omega
          obtain ⟨a1, a2, a3, a4, -⟩ := nset_at hE
          obtain ⟨i1, i2, i3, i4, i5⟩ := ih (nset L g (oneE L g e)) (g + 1) (f + 1) (by unfold nset; rw [e0_e0]) (by omega)
          refine ⟨fun p hp => ?_, ?_, Nat.le_of_succ_le i3, i4, Nat.le_of_succ_le i5⟩
          · rcases List.mem_cons.1 hp with rfl | hp
            · exact Nat.le_refl _
            · have := i1 p hp; omega
          · have := congrArg (List.take g) i2
            rw [List.take_take, List.take_take, Nat.min_eq_left (by omega)] at this
            show List.take g (tkF (nset L g (oneE L g e)) (g + 1) (f + 1) r).2.2 = _
            rw [this, a4, List.map_take, hL]
end
end Go.Proofs.Ythmnndbpadegnaa
