/- Steps of a walk over known slots: rows and blocks of other types lie apart; three results, the first one a struct in a cell. Conditions: none. -/
import Derived.Test.YtfjhlckklgeokaaPexD
namespace Go.Proofs.Ytfjhlckklgeokaa
open Go.RowKit
section
variable {P : Program} {n : Nat} {m : List (Nat × Value)} {w x : World} {N : Nat} {T : TypeId} {cs : Array Value}
theorem own_neT {B sz k : Nat} {e : TypeId} {v : Value} {xs : List Value} (h : w.ownsRow B e sz v k xs) (hb : Blk w N T cs) (hT : e ≠ T) : v.ownBlock ≠ some N := fun e1 => by
  rcases h.2 with ⟨rfl, _⟩ | ⟨g, c, cur, rfl, hg, hh, _⟩
  · simp [Value.ownBlock] at e1
  · simp only [Value.ownBlock, Option.some.injEq] at e1
    subst e1
    have := hh.symm.trans hb
    simp only [Option.some.injEq, Obj.cells.injEq] at this
    exact hT this.2.1
theorem row_form {B sz k : Nat} {e : TypeId} {v : Value} {xs : List Value} (h : w.ownsRow B e sz v k xs) : ∃ a n c, v = .slice a n c := by
  rcases h.2 with ⟨rfl, _⟩ | ⟨g, c, cur, rfl, _⟩
  · exact ⟨_, _, _, rfl⟩
  · exact ⟨_, _, _, rfl⟩
theorem sl_form {α : Type} {enc : α → List Value} {sz : Nat} {v : Value} {l : List α} (h : SliceOf enc sz w v l) : ∃ a n c, v = .slice a n c := by
  obtain ⟨ao, cap, rfl, _⟩ := h; exact ⟨_, _, _, rfl⟩
theorem co_retC2 {Q : Exit → Act → World → Prop} {a : Act} {fn : Func} {E : Ending → World → Prop} {t u u' : Nat} {T' : TypeId} {y y' : Value} {d : TypeDesc} (hs : Slots n m a) (hr : fn.results = #[.cell t T', .tmp u, .tmp u']) (ht : m.lookup t = some (.pointer (some ⟨N, 0, none⟩))) (hu : m.lookup u = some y) (hu' : m.lookup u' = some y') (hb : Blk w N T cs)
    (hd : P.underlying T' = some d) (hrow : d.isRow = true) (hi : (P.info? T').map (·.size) = some cs.size) (h : E (.returned (.tuple #[.agg cs, y, y'])) w) : bodyPost P fn E .ret a w := by
  have h1 := hs.look t _ ht
  have h2 := hs.look u _ hu
  have h3 := hs.look u' _ hu'
  have hl := run_loadVar_mid w N 0 T' cs.toList d hb.all hd hrow (by simpa using hi)
  have hrun : (results fn a.tmps).run P w = .ok (.tuple #[.agg cs, y, y']) w := by
    have h1' : (a.tmps[t]?).getD undef = .pointer (some ⟨N, 0, none⟩) := by rw [← h1, Array.getD_eq_getD_getElem?]
    have h2' : (a.tmps[u]?).getD undef = y := by rw [← h2, Array.getD_eq_getD_getElem?]
    have h3' : (a.tmps[u']?).getD undef = y' := by rw [← h3, Array.getD_eq_getD_getElem?]
    simp [results, hr, h1', h2', h3', asAddr, hl, Sem.run_bind]
  exact bodyPost_ret hrun hs.defers h
end
end Go.Proofs.Ytfjhlckklgeokaa
