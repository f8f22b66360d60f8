/- Package adopt: a log with notes beside it, as an object; what a walk through Take keeps. Conditions: none. -/
import Derived.Test.YthmnndbpadegnaaAdpA
import Derived.Test.YthmnndbpadegnaaAdZ
namespace Go.Proofs.Ythmnndbpadegnaa
open Go.RowKit Go.PlainAid
set_option linter.unusedVariables false

/-- A note of an entry, at its place. -/
structure NtT where
  n : Int
  e : EntT
def ntE (z : NtT) : List Value := [.int .i64 2, .int .i64 z.n, .int .u64 0, .int .i64 0, .slice none 0 0, .int .u64 0, .slice none 0 0, .int .i64 z.e.client, .int .i64 z.e.req, z.e.ops, .int .u64 z.e.ts, .int .i64 0, .int .u64 0, .int .i64 0, .int .i64 0, .int .i64 0, .int .i64 0, .int .i64 0]
theorem ntE_len (z : NtT) : (ntE z).length = 18 := rfl
def ntP (z : NtT) : Nat × EntT := (z.n.toNat, e0 z.e)
def pN (z : Nat × EntT) : Int × EntT := ((z.1 : Int), z.2)
def ntQ (z : NtT) : Int × EntT := (z.n, e0 z.e)
/-- A log at b; beside it the entries of notes, in blocks of S that are none of the log's. -/
def TkO (S : Nat → Prop) (w : World) (b : Nat) (L : List EntT) (NS : List NtT) : Prop :=
  ∃ A, LObj A w b L ∧ (∀ q, A q → S q) ∧ (∀ q, S q → q < w.heap.size) ∧ ∀ z ∈ NS, EntK (fun _ => False) 0 w z.e ∧ ∀ i, z.e.ops.ownBlock = some i → S i ∧ ¬ A i
section
variable {S S' D : Nat → Prop} {w x : World} {b : Nat} {L : List EntT} {NS : List NtT} {e : EntT}
theorem EntK.keep {n : Nat} (h : EntK S n w e) (hk : ∀ i, e.ops.ownBlock = some i → x.heap[i]? = w.heap[i]?) : EntK S n x e := h.to (row_sameL h.row hk)
theorem TkO.ofS (h : TkO S w b L NS) : ∀ q, S q → q < w.heap.size := by obtain ⟨A, _, _, h, _⟩ := h; exact h
theorem TkO.keep (h : TkO S w b L NS) (hs : w.heap.size ≤ x.heap.size) (hk : ∀ q, S q → x.heap[q]? = w.heap[q]?) : TkO S x b L NS := by
  obtain ⟨A, h1, h2, h3, h4⟩ := h
  exact ⟨A, h1.keep hs (fun q hq => hk q (h2 q hq)), h2, fun q hq => Nat.lt_of_lt_of_le (h3 q hq) hs, fun z hz => ⟨(h4 z hz).1.keep (fun i hi => hk i ((h4 z hz).2 i hi).1), (h4 z hz).2⟩⟩
theorem TkO.gr {row : Option Nat} (h : TkO S w b L NS) (hg : w.grownBy x row) (hr : ∀ k, row = some k → ¬ S k) : TkO S x b L NS := h.keep hg.size fun q hq => hg.block q (h.ofS q hq) (fun e => hr q e.symm hq)
theorem TkO.but (h : TkO S w b L NS) (hb : But D w x) (hd : ∀ q, S q → D q → False) : TkO S x b L NS := h.keep hb.size fun q hq => hb.block q (h.ofS q hq) (fun hD => hd q hq hD)
theorem TkO.of (h : LObj S w b L) : TkO S w b L [] := ⟨S, h, fun _ h => h, fun q hq => LObj.ofS h q hq, fun z hz => (List.not_mem_nil hz).elim⟩
theorem TkO.got (h : TkO S w b L NS) : ∀ z ∈ NS, EntK (fun _ => False) 0 w z.e := by obtain ⟨A, _, _, _, h⟩ := h; exact fun z hz => (h z hz).1
theorem TkO.len (h : TkO S w b L NS) : L.length ≤ 100 := by obtain ⟨A, ⟨_, M, u, h⟩, _⟩ := h; exact h.len
/-- Another note, its operations in a row of their own. -/
theorem TkO.push {z : NtT} (h : TkO S w b L NS) (hz : EntK (fun _ => False) 0 w z.e) (ho : ∀ i, z.e.ops.ownBlock = some i → ¬ S i) : TkO (fun q => S q ∨ z.e.ops.ownBlock = some q) w b L (NS ++ [z]) := by
  obtain ⟨A, h1, h2, h3, h4⟩ := h
  refine ⟨A, h1, fun q hq => .inl (h2 q hq), fun q hq => ?_, fun y hy => ?_⟩
  · rcases hq with hq | hq
    · exact h3 q hq
    · exact (hz.row.lt q hq).2
  · rcases List.mem_append.1 hy with hy | hy
    · exact ⟨(h4 y hy).1, fun i hi => ⟨.inl ((h4 y hy).2 i hi).1, ((h4 y hy).2 i hi).2⟩⟩
    · simp at hy; subst hy
      exact ⟨hz, fun i hi => ⟨.inr hi, fun ha => ho i hi (h2 i ha)⟩⟩
theorem Grew.push {v : Value} (hS : ∀ q, S q → q < w.heap.size) (h : ∀ i, v.ownBlock = some i → w.heap.size ≤ i) : Grew S (fun q => S q ∨ v.ownBlock = some q) w w :=
  ⟨fun q hq => by rcases hq with hq | hq; exact .inl hq; exact .inr (h q hq), But.refl _ _⟩
theorem kkNew (w : World) : Calls Try.prog 21 #[] w fun e w' => ∃ N S, e = .returned (pt N 0) ∧ TkO S w' N [] [] ∧ (∀ q, S q → w.heap.size ≤ q) ∧ Below w.heap.size w w' :=
  (tNew w).mono fun e x ⟨N, S, h1, h2, h3, h4⟩ => ⟨N, S, h1, TkO.of h2, h3, h4⟩
theorem kkSet (w : World) (i c r : Int) (v : Value) (l : List OpT) (ts : Int) (h : TkO S w b L NS) (hs : SliceOf opE 3 w v l) (hvS : l ≠ [] → ∀ k, v.ownBlock = some k → ¬ S k) (hlen : l.length ≤ 20) (hts : 0 ≤ ts ∧ ts < 18446744073709551616) (hen : (∀ o ∈ l, opOk o) ∧ (Lit.int .i64 c).wf = true ∧ (Lit.int .i64 r).wf = true) :
    Calls Try.prog 39 #[pt b 0, .int .i64 i, .agg #[.int .i64 c, .int .i64 r, v, .int .u64 ts]] w fun e w' => ∃ (L' : List EntT) (S' : Nat → Prop), e = .returned (.int .i64 (setE L i c r l ts)) ∧ TkO S' w' b L' NS ∧ (SetR L i c r l ts L') ∧ Grew S S' w w' := by
  obtain ⟨A, h1, h2, h3, h4⟩ := h
  refine (tSet w i c r v l ts h1 hs (fun hn k hk ha => hvS hn k hk (h2 k ha)) hlen hts hen).mono fun e x ⟨L', A', k1, k2, k3, k4⟩ => ?_
  refine ⟨L', fun q => A' q ∨ S q, k1, ⟨A', k2, fun q hq => .inl hq, fun q hq => ?_, fun z hz => ⟨(h4 z hz).1.keep fun i hi => k4.but.block i (h3 i ((h4 z hz).2 i hi).1) ((h4 z hz).2 i hi).2, fun i hi => ⟨.inr ((h4 z hz).2 i hi).1, fun ha => ?_⟩⟩⟩, k3, ⟨fun q hq => ?_, k4.but.mono fun q _ hq => h2 q hq⟩⟩
  · rcases hq with hq | hq
    · exact LObj.ofS k2 q hq
    · exact Nat.lt_of_lt_of_le (h3 q hq) k4.but.size
  · rcases k4.sub i ha with q | q
    · exact ((h4 z hz).2 i hi).2 q
    · have := h3 i ((h4 z hz).2 i hi).1; omega
  · rcases hq with hq | hq
    · rcases k4.sub q hq with q1 | q1
      · exact .inl (h2 q q1)
      · exact .inr q1
    · exact .inl hq
theorem kkAt (w : World) (i : Int) (h : TkO S w b L NS) : Calls Try.prog 28 #[pt b 0, .int .i64 i] w fun e w' => ∃ (ev : Value) (S' : Nat → Prop), e = .returned (.tuple #[.agg #[.int .i64 (atE L i).client, .int .i64 (atE L i).req, ev, .int .u64 (atE L i).ts], .bool (atV L i)]) ∧ TkO S' w' b L NS ∧ (w'.ownsRow w.heap.size 127 3 ev (atE L i).opl.length ((atE L i).opl.flatMap opE)) ∧ (∀ q, S' q → q < w.heap.size) ∧ Grew S S' w w' := by
  obtain ⟨A, h1, h2, h3, h4⟩ := h
  refine (tAt w i h1).mono fun e x ⟨ev, A', k1, k2, k3, k4, k5⟩ => ?_
  have hA : ∀ q, A' q → A q := fun q hq => by
    rcases k5.sub q hq with q1 | q1
    · exact q1
    · have := k4 q hq; omega
  exact ⟨ev, S, k1, ⟨A', k3, fun q hq => h2 q (hA q hq), fun q hq => Nat.lt_of_lt_of_le (h3 q hq) k5.but.size, fun z hz => ⟨(h4 z hz).1.keep fun i hi => k5.but.block i (h3 i ((h4 z hz).2 i hi).1) ((h4 z hz).2 i hi).2, fun i hi => ⟨((h4 z hz).2 i hi).1, fun ha => ((h4 z hz).2 i hi).2 (hA i ha)⟩⟩⟩, k2, h3, ⟨fun q hq => .inl hq, k5.but.mono fun q _ hq => h2 q hq⟩⟩
end
/-- What adopted answers: a twin keeps its own operations, and a timestamp once given. -/
def adE (h e : EntT) : EntT := if nmE h = nmE e then { h with ts := if e.ts ≠ 0 then e.ts else h.ts } else e
theorem one_ad {L : List EntT} {g : Nat} {h e : EntT} (hh : L[g]? = some h) : oneE L g e = adE h e := by unfold oneE adE; rw [hh]
theorem one_none {L : List EntT} {g : Nat} {e : EntT} (hh : L.length ≤ g) : oneE L g e = e := by unfold oneE; rw [List.getElem?_eq_none hh]
theorem adE_skip {h e : EntT} (h1 : h.client = (adE h e).client ∧ h.req = (adE h e).req) (h2 : h.ts = (adE h e).ts) : nmE h = nmE e ∧ (e.ts ≠ 0 → h.ts = e.ts) := by
  have hn : nmE (adE h e) = nmE e := by unfold adE; split <;> first | assumption | rfl
  have h0 : nmE h = nmE e := by rw [← hn]; exact Prod.ext h1.1 h1.2
  refine ⟨h0, fun ht => ?_⟩
  unfold adE at h2
  rw [if_pos h0] at h2
  have h2 : h.ts = if e.ts ≠ 0 then e.ts else h.ts := h2
  rwa [if_pos ht] at h2
theorem adE_new {h e : EntT} (hs : ¬ ((h.client = (adE h e).client ∧ h.req = (adE h e).req) ∧ h.ts = (adE h e).ts)) : ¬ (nmE h = nmE e ∧ (e.ts = 0 ∨ e.ts = h.ts)) := by
  rintro ⟨h1, h2⟩
  refine hs ?_
  unfold adE
  rw [if_pos h1]
  refine ⟨⟨rfl, rfl⟩, ?_⟩
  show h.ts = if e.ts ≠ 0 then e.ts else h.ts
  rcases h2 with h2 | h2
  · rw [if_neg (by simp [h2])]
  · split
    · exact h2.symm
    · rfl
theorem setR_n {L L' : List EntT} {g : Nat} {x : EntT} (h : SetR L (g : Int) x.client x.req x.opl x.ts L') (h0 : errX L g x = 0) : L'.map e0 = nset L g x := setR_e0 h
theorem setE_e0' (L : List EntT) (g : Nat) (x : EntT) : errX (L.map e0) g x = errX L g x := setE_e0
theorem nset_e0 (L : List EntT) (g : Nat) (x : EntT) : nset (L.map e0) g x = nset L g x := setL_e0
/-- The walk has k entries behind it. -/
def TkI (M : List EntT) (g f : Nat) (l2 : List EntT) (NS : List NtT) (L : List EntT) (gg k : Nat) : Prop :=
  tkF M g f l2 = ((NS.map ntP) ++ (tkF (L.map e0) gg (f + k) (l2.drop k)).1, (tkF (L.map e0) gg (f + k) (l2.drop k)).2)
section
variable {M L L' : List EntT} {g f gg k : Nat} {l2 : List EntT} {NS : List NtT} {y : EntT}
theorem TkI.start (h : L.map e0 = M) : TkI M g f l2 [] L g 0 := by unfold TkI; rw [h]; rfl
theorem TkI.below (h : TkI M g f l2 NS L gg k) (hy : l2[k]? = some y) (hlt : f + k < gg) : TkI M g f l2 NS L gg (k + 1) := by
  unfold TkI at h ⊢
  rw [h, dropE hy]
  show (_ ++ (tkF (L.map e0) gg (f + k) (y :: l2.drop (k + 1))).1, _) = _
  have e : tkF (L.map e0) gg (f + k) (y :: l2.drop (k + 1)) = tkF (L.map e0) gg (f + (k + 1)) (l2.drop (k + 1)) := by
    show (if f + k < gg then _ else _) = _
    rw [if_pos hlt]; rfl
  rw [e]
theorem TkI.skip (h : TkI M g f l2 NS L gg k) (hy : l2[k]? = some y) (hlt : ¬ f + k < gg) (hs : skipB (L.map e0) gg y = true) : TkI M g f l2 NS L (gg + 1) (k + 1) := by
  unfold TkI at h ⊢
  rw [h, dropE hy]
  have e : tkF (L.map e0) gg (f + k) (y :: l2.drop (k + 1)) = tkF (L.map e0) (gg + 1) (f + (k + 1)) (l2.drop (k + 1)) := by
    show (if f + k < gg then _ else if skipB (L.map e0) gg y = true then _ else _) = _
    rw [if_neg hlt, if_pos hs]; rfl
  rw [e]
theorem TkI.stop (h : TkI M g f l2 NS L gg k) (hy : l2[k]? = some y) (hlt : ¬ f + k < gg) (hs : ¬ skipB (L.map e0) gg y = true) (hE : errX L gg (oneE (L.map e0) gg y) ≠ 0) : tkF M g f l2 = (NS.map ntP, gg, L.map e0) := by
  unfold TkI at h
  rw [h, dropE hy]
  have e : tkF (L.map e0) gg (f + k) (y :: l2.drop (k + 1)) = ([], gg, L.map e0) := by
    show (if f + k < gg then _ else if skipB (L.map e0) gg y = true then _ else if errX (L.map e0) gg (oneE (L.map e0) gg y) ≠ 0 then _ else _) = _
    rw [if_neg hlt, if_neg hs, if_pos (by rw [setE_e0']; exact hE)]
  rw [e, List.append_nil]
theorem TkI.set {z : NtT} (h : TkI M g f l2 NS L gg k) (hy : l2[k]? = some y) (hlt : ¬ f + k < gg) (hs : ¬ skipB (L.map e0) gg y = true) (hE : errX L gg (oneE (L.map e0) gg y) = 0) (hL : L'.map e0 = nset L gg (oneE (L.map e0) gg y)) (hz : ntP z = (gg, e0 (oneE (L.map e0) gg y))) : TkI M g f l2 (NS ++ [z]) L' (gg + 1) (k + 1) := by
  unfold TkI at h ⊢
  rw [h, dropE hy]
  have e : tkF (L.map e0) gg (f + k) (y :: l2.drop (k + 1)) = ((gg, e0 (oneE (L.map e0) gg y)) :: (tkF (L'.map e0) (gg + 1) (f + (k + 1)) (l2.drop (k + 1))).1, (tkF (L'.map e0) (gg + 1) (f + (k + 1)) (l2.drop (k + 1))).2) := by
    show (if f + k < gg then _ else if skipB (L.map e0) gg y = true then _ else if errX (L.map e0) gg (oneE (L.map e0) gg y) ≠ 0 then _ else _) = _
    rw [if_neg hlt, if_neg hs, if_neg (by rw [setE_e0', hE]; simp), nset_e0, hL]; rfl
  rw [e, List.map_append, List.append_assoc]
  show _ = (_ ++ ([ntP z] ++ _), _)
  rw [hz]; rfl
theorem TkI.fin (h : TkI M g f l2 NS L gg k) (hk : l2.length ≤ k) : tkF M g f l2 = (NS.map ntP, gg, L.map e0) := by
  unfold TkI at h
  rw [h, List.drop_eq_nil_of_le hk]
  show (NS.map ntP ++ [], _) = _
  rw [List.append_nil]; rfl
theorem skip_e0 {h y : EntT} (hh : L[gg]? = some h) (h1 : nmE h = nmE y) (h2 : y.ts ≠ 0 → h.ts = y.ts) : skipB (L.map e0) gg y = true := skip_of (a := e0 h) (by rw [List.getElem?_map, hh]; rfl) h1 h2
theorem noskip_e0 {h y : EntT} (hh : L[gg]? = some h) (hs : ¬ (nmE h = nmE y ∧ (y.ts = 0 ∨ y.ts = h.ts))) : ¬ skipB (L.map e0) gg y = true := fun hq => by
  obtain ⟨a, ha, h1, h2⟩ := skip_at hq
  rw [List.getElem?_map, hh] at ha
  cases ha
  exact hs ⟨h1, h2⟩
theorem noskip_n {y : EntT} (hh : L.length ≤ gg) : ¬ skipB (L.map e0) gg y = true := fun hq => by
  obtain ⟨a, ha, _⟩ := skip_at hq
  have := (List.getElem?_eq_some_iff.1 ha).1
  rw [List.length_map] at this; omega
end
end Go.Proofs.Ythmnndbpadegnaa
