/- MvccState: what Over comes to. Conditions: none. -/
import Derived.Test.YtfjhlckklgeokaaMvK
import Derived.Test.YtfjhlckklgeokaaOvA
namespace Go.Proofs.Ytfjhlckklgeokaa
open Go.RowKit Go.PlainAid
set_option linter.unusedVariables false
set_option linter.unusedSimpArgs false

section
variable {f g : Fv} {la ts t : Int} {l : List OpT} {n : Nat} {K K' : List ByteArray} {p : ByteArray → Bool} {F T : ByteArray}
theorem has_ne {x : ByteArray} (h : (atS (f x) t).2 = true) : f x ≠ [] := fun e => by rw [e] at h; cases h
theorem hits_same (hK : KOf K f) (hK' : KOf K' g) (h : ∀ x, atS (g x) t = atS (f x) t) : hits g t (K'.filter p) = hits f t (K.filter p) := by
  have e : (K'.filter p).filter (fun k => (atS (g k) t).2) = (K.filter p).filter (fun k => (atS (f k) t).2) :=
    up_ext (key := fun x => x) ((hK'.up.sublist List.filter_sublist).sublist List.filter_sublist) ((hK.up.sublist List.filter_sublist).sublist List.filter_sublist) fun x => by
      simp only [List.mem_filter]
      rw [h x]
      constructor
      · rintro ⟨⟨h1, h2⟩, h3⟩; exact ⟨⟨(hK.mem x).2 (has_ne h3), h2⟩, h3⟩
      · rintro ⟨⟨h1, h2⟩, h3⟩; exact ⟨⟨(hK'.mem x).2 (has_ne (t := t) (by rw [h x]; exact h3)), h2⟩, h3⟩
  unfold hits
  rw [e]
  exact List.map_congr_left fun x _ => by rw [h x]
theorem hits_sameF (hK : KOf (ksOf f) f) (hK' : KOf (ksOf g) g) (h : ∀ x, atS (g x) t = atS (f x) t) : hitsF g t F T = hitsF f t F T := hits_same hK hK' h
end


def eS : ByteArray := ⟨#[]⟩
/-- What a key is at a time, as a pair. -/
def gV (f : Fv) (t : Int) (k : ByteArray) : Option ValT := if (atS (f k) t).2 = true then some (k, (atS (f k) t).1) else none
section
variable {f : Fv} {la ts t : Int} {l : List OpT} {n : Nat} {F T : ByteArray}
theorem pairG_mem {l : List ValT} : l.Pairwise (fun a b => klt a.1 b.1 = true) → ∀ k y, pairG l k = some y ↔ y ∈ l ∧ y.1 = k := by
  refine snoc_ind (C := fun l => l.Pairwise (fun a b => klt a.1 b.1 = true) → ∀ k y, pairG l k = some y ↔ y ∈ l ∧ y.1 = k) (fun _ k y => by simp [pairG]) (fun l o ih hp k y => ?_) l
  obtain ⟨h1, -, h3⟩ := List.pairwise_append.1 hp
  rw [pairG_snoc]
  unfold pairF
  by_cases e : k = o.1
  · rw [if_pos e]
    constructor
    · intro h; cases h; exact ⟨by simp, e.symm⟩
    · rintro ⟨hy, hk⟩
      rcases List.mem_append.1 hy with hy | hy
      · have := h3 y hy o (by simp); rw [hk, e, klt_irr] at this; cases this
      · simp only [List.mem_singleton] at hy; rw [hy]
  · rw [if_neg e, ih h1 k y]
    constructor
    · rintro ⟨hy, hk⟩; exact ⟨by simp [hy], hk⟩
    · rintro ⟨hy, hk⟩
      rcases List.mem_append.1 hy with hy | hy
      · exact ⟨hy, hk⟩
      · simp only [List.mem_singleton] at hy; rw [hy] at hk; exact absurd hk.symm e
theorem hitsF_e : hitsF f t ⟨#[]⟩ ⟨#[]⟩ = hits f t (ksOf f) := by unfold hitsF; rw [inR_all]
theorem hits_mem (hK : KOf (ksOf f) f) {y : PairT} : y ∈ hits f t (ksOf f) ↔ gV f t y.1 = some y := by
  unfold hits gV
  rw [List.mem_map]
  constructor
  · rintro ⟨k, hk, rfl⟩
    have := (List.mem_filter.1 hk).2
    show (if (atS (f k) t).2 = true then some (k, (atS (f k) t).1) else none) = _
    rw [if_pos this]
  · intro h
    split at h
    · rename_i hh
      exact ⟨y.1, List.mem_filter.2 ⟨(hK.mem _).2 (has_ne hh), hh⟩, by injection h⟩
    · cases h
theorem hits_up (hK : KOf (ksOf f) f) : (hits f t (ksOf f)).Pairwise (fun a b => klt a.1 b.1 = true) := by
  unfold hits; rw [List.pairwise_map]; exact hK.up.sublist List.filter_sublist
theorem gV_key {k : ByteArray} {y : ValT} (h : gV f t k = some y) : y.1 = k := by unfold gV at h; split at h; (injection h with h; rw [← h]); cases h
theorem pairG_hits (hK : KOf (ksOf f) f) : pairG (hits f t (ksOf f)) = gV f t := by
  funext k
  refine Option.ext fun y => ?_
  rw [pairG_mem (hits_up hK), hits_mem hK]
  constructor
  · rintro ⟨h, rfl⟩; exact h
  · intro h; have := gV_key h; subst this; exact ⟨h, rfl⟩
theorem over_gV (hK : KOf (ksOf f) f) (ht : ts ≤ t) : ∀ k, ovG (hits f t (ksOf f)) l k = gV (putsF f ts l) t k := by
  refine snoc_ind (C := fun l => ∀ k, ovG (hits f t (ksOf f)) l k = gV (putsF f ts l) t k) (fun k => by show pairG _ k = _; rw [pairG_hits hK]; rfl) (fun l o ih k => ?_) l
  rw [ovG_snoc, putsF_snoc]
  unfold ovF
  by_cases e : k = o.1
  · subst e
    rw [if_pos rfl]
    unfold gV
    rw [upd_eq, at_later _ _ (show ((ts, o.2.1, o.2.2) : CellT).1 ≤ t from ht)]
    cases o.2.2 <;> simp
  · rw [if_neg e, ih k]; unfold gV; rw [upd_ne e]
theorem hits_over (hK : KOf (ksOf f) f) (hK' : KOf (ksOf (mvF f la ts l)) (mvF f la ts l)) (hE : mvE la ts l = 0) (ht : ts ≤ t) {ys : List ValT} (hs : SetG (fun y : ValT => y.1) (ovG (hitsF f t ⟨#[]⟩ ⟨#[]⟩) l) ys) : ys = hitsF (mvF f la ts l) t ⟨#[]⟩ ⟨#[]⟩ := by
  rw [hitsF_e] at hs ⊢
  have e1 : mvF f la ts l = putsF f ts l := by unfold mvF; rw [if_pos hE]
  refine SetG.uniq hs ⟨?_, fun y => ?_⟩
  · refine (hits_up hK').imp fun {a b} h => ?_
    rw [klt_data, bl_lt] at h
    exact of_decide_eq_true h
  · rw [hits_mem hK', e1]
    constructor
    · intro h; exact ⟨y.1, by rw [over_gV hK ht]; exact h⟩
    · rintro ⟨k, h⟩; rw [over_gV hK ht] at h; have := gV_key h; rw [this]; exact h
theorem hits_stay (hF : FOk f la n) (hK : KOf (ksOf f) f) (hK' : KOf (ksOf (mvF f la ts l)) (mvF f la ts l)) (hn : ¬ (mvE la ts l = 0 ∧ ts ≤ t)) : hitsF f t F T = hitsF (mvF f la ts l) t F T := by
  refine (hits_sameF hK hK' fun x => ?_).symm
  unfold mvF
  by_cases hE : mvE la ts l = 0
  · obtain ⟨h1, h2, h3⟩ := mv_good hE
    rw [if_pos hE]; exact puts_at (B := la) (n := n) (chkB_up h3) (by have : ¬ ts ≤ t := fun q => hn ⟨hE, q⟩; omega) x
  · rw [if_neg hE]
theorem hits_0 : hitsF (fun _ => []) t F T = [] := by unfold hitsF; rw [ks_0]; rfl
theorem scanM_no {H : List PairT} (h : H.length ≤ 1000) : scanM H 1000 = false := decide_eq_false (by simpa using h)
end
theorem mvOver {f : Fv} {la ts t : Int} (v v2 : Value) (l : List OpT) (w : World) (hK : KOf (ksOf f) f) (hK' : KOf (ksOf (mvF f la ts l)) (mvF f la ts l)) (hE : mvE la ts l = 0) (ht : ts ≤ t) (hs : SliceOf pairE 2 w v (hitsF f t ⟨#[]⟩ ⟨#[]⟩)) (hs2 : SliceOf opE 3 w v2 l) (hlen : (hitsF f t ⟨#[]⟩ ⟨#[]⟩).length + l.length ≤ 1000) :
    Calls Try.prog 23 #[v, v2] w fun e w' => ∃ (ao : Option Addr) (nn cap : Nat), e = .returned (.slice ao nn cap) ∧ w'.ownsRow w.heap.size 51 2 (.slice ao nn cap) (hitsF (mvF f la ts l) t ⟨#[]⟩ ⟨#[]⟩).length ((hitsF (mvF f la ts l) t ⟨#[]⟩ ⟨#[]⟩).flatMap pairE) ∧ Below w.heap.size w w' := by
  refine (ropsOver_any v (hitsF f t ⟨#[]⟩ ⟨#[]⟩) v2 l w hs hs2 hlen).mono ?_
  rintro e w' ⟨ys, u, rfl, hr, hset, -, hb⟩
  have := hits_over hK hK' hE ht hset
  subst this
  obtain ⟨ao, n, cap, rfl⟩ := own_sliceT hr
  exact ⟨ao, n, cap, rfl, hr, hb⟩

end Go.Proofs.Ytfjhlckklgeokaa
