/- Package adopt: Take. Conditions: lists of at most 100 entries, 20 operations each. -/
import Derived.Test.YthmnndbpadegnaaAdpC
import Derived.Scope
namespace Go.Proofs.Ythmnndbpadegnaa
open Go.RowKit Go.PlainAid
set_option linter.unusedVariables false
set_option linter.unusedSimpArgs false


section
variable {Q : Exit → Act → World → Prop} {a : Act} {w : World}
theorem co_scopeN (h : Q .normal a w) : Exit.noGoto Q .normal a w := h
theorem co_scopeR (h : Q .ret a w) : Exit.noGoto Q .ret a w := h
end
/-- What is known of an entry, wherever its operations lie. -/
structure ItK (e : EntT) : Prop where
  len : e.opl.length ≤ 20
  ts : 0 ≤ e.ts ∧ e.ts < 18446744073709551616
  en : (∀ o ∈ e.opl, opOk o) ∧ (Lit.int .i64 e.client).wf = true ∧ (Lit.int .i64 e.req).wf = true
theorem EntK.it {S : Nat → Prop} {n : Nat} {w : World} {e : EntT} (h : EntK S n w e) : ItK e := ⟨h.len, ⟨h.ts0, h.ts1⟩, h.each, h.cl, h.rq⟩
theorem EntOk.it {w : World} {e : EntT} (h : EntOk w e) (hl : e.opl.length ≤ 20) : ItK e := ⟨hl, ⟨h.ts0, h.ts1⟩, h.each, h.cl, h.rq⟩
theorem ItK.re {e : EntT} {v : Value} (h : ItK e) : ItK (EntT.mk e.client e.req v e.opl e.ts) := ⟨h.len, h.ts, h.en⟩
theorem ItK.ad {h y : EntT} (a : ItK h) (b : ItK y) : ItK (adE h y) := by
  unfold adE
  split
  · refine ⟨a.len, ?_, a.en⟩
    show 0 ≤ (if y.ts ≠ 0 then y.ts else h.ts) ∧ (if y.ts ≠ 0 then y.ts else h.ts) < 18446744073709551616
    split
    · exact b.ts
    · exact a.ts
  · exact b
theorem atE_it {A : Nat → Prop} {w : World} {b : Nat} {L : List EntT} (h : LObj A w b L) (i : Int) : ItK (atE L i) := by
  obtain ⟨_, M, u, hl⟩ := h
  have hz : ItK ⟨0, 0, .slice none 0 0, [], 0⟩ := ⟨by decide, by decide, (fun o ho => by cases ho), rfl, rfl⟩
  by_cases hi : i < 0 ∨ (L.length : Int) ≤ i
  · rw [atE_n hi]; exact hz
  · obtain ⟨y, hy⟩ : ∃ y, L[i.toNat]? = some y := ⟨_, List.getElem?_eq_getElem (by omega)⟩
    rw [atE_y hi hy]
    exact (hl.ents y (List.mem_of_getElem? hy)).it
section
variable {S : Nat → Prop} {w : World} {b : Nat} {M L L' : List EntT} {NS : List NtT} {g f gg k : Nat} {l2 : List EntT} {y x h : EntT}
theorem TkO.it (h : TkO S w b L NS) (i : Int) : ItK (atE L i) := by obtain ⟨A, h, _⟩ := h; exact atE_it h i
theorem rows_ne {B B2 sz sz2 k k2 : Nat} {e e2 : TypeId} {v v2 : Value} {xs xs2 : List Value} (h : w.ownsRow B e sz v k xs) (h2 : w.ownsRow B2 e2 sz2 v2 k2 xs2) (hne : e ≠ e2) : ∀ i, v.ownBlock = some i → v2.ownBlock ≠ some i := fun i hi hj => by
  rcases h.2 with ⟨hv, _⟩ | ⟨g, cap, cur, hv, _, hh, _⟩
  · rw [hv] at hi; cases hi
  · rcases h2.2 with ⟨hv2, _⟩ | ⟨g2, cap2, cur2, hv2, _, hh2, _⟩
    · rw [hv2] at hj; cases hj
    · rw [hv] at hi; rw [hv2] at hj
      have a : g = i := by simpa [Value.ownBlock] using hi
      have a2 : g2 = i := by simpa [Value.ownBlock] using hj
      subst a; subst a2
      rw [hh] at hh2
      injection hh2 with q1; injection q1 with q2 q3
      exact hne q3
theorem adE_e0 {h h' y : EntT} (hh : e0 h = e0 h') : e0 (adE h y) = e0 (adE h' y) := by
  have q1 : h.client = h'.client := (congrArg EntT.client hh : (e0 h).client = (e0 h').client)
  have q2 : h.req = h'.req := (congrArg EntT.req hh : (e0 h).req = (e0 h').req)
  have q3 : h.opl = h'.opl := (congrArg EntT.opl hh : (e0 h).opl = (e0 h').opl)
  have q4 : h.ts = h'.ts := (congrArg EntT.ts hh : (e0 h).ts = (e0 h').ts)
  have qn : nmE h = nmE h' := by unfold nmE; rw [q1, q2]
  unfold adE
  rw [qn]
  split
  · unfold e0; simp only [q1, q2, q3, q4]
  · rfl
/-- What the walk holds as the entry that is adopted. -/
theorem ad_one {v : Value} (hV : atV L (gg : Int) = true) : ∃ z, L[gg]? = some z ∧ e0 (adE (EntT.mk (atE L (gg : Int)).client (atE L (gg : Int)).req v (atE L (gg : Int)).opl (atE L (gg : Int)).ts) y) = e0 (oneE (L.map e0) gg y) ∧ z.client = (atE L (gg : Int)).client ∧ z.req = (atE L (gg : Int)).req ∧ z.ts = (atE L (gg : Int)).ts := by
  have hi : gg < L.length := by unfold atV at hV; have := of_decide_eq_true hV; omega
  obtain ⟨z, hz⟩ : ∃ z, L[gg]? = some z := ⟨_, List.getElem?_eq_getElem hi⟩
  have he : atE L (gg : Int) = z := atE_y (by omega) (by rw [Int.toNat_natCast]; exact hz)
  rw [he]
  refine ⟨z, hz, ?_, rfl, rfl, rfl⟩
  rw [one_ad (h := e0 z) (by rw [List.getElem?_map, hz]; rfl)]
  exact adE_e0 rfl
theorem no_one (hV : atV L (gg : Int) = false) : L.length ≤ gg ∧ e0 y = e0 (oneE (L.map e0) gg y) := by
  have hi : ¬ gg < L.length := by unfold atV at hV; have := of_decide_eq_false hV; omega
  exact ⟨by omega, by rw [one_none (by rw [List.length_map]; omega)]⟩
theorem ad_skip {v : Value} (hV : atV L (gg : Int) = true) (h1 : (atE L (gg : Int)).client = (adE (EntT.mk (atE L (gg : Int)).client (atE L (gg : Int)).req v (atE L (gg : Int)).opl (atE L (gg : Int)).ts) y).client ∧ (atE L (gg : Int)).req = (adE (EntT.mk (atE L (gg : Int)).client (atE L (gg : Int)).req v (atE L (gg : Int)).opl (atE L (gg : Int)).ts) y).req)
    (h2 : (atE L (gg : Int)).ts = (adE (EntT.mk (atE L (gg : Int)).client (atE L (gg : Int)).req v (atE L (gg : Int)).opl (atE L (gg : Int)).ts) y).ts) : skipB (L.map e0) gg y = true := by
  obtain ⟨z, hz, _, z1, z2, z3⟩ := ad_one (v := v) (y := y) hV
  obtain ⟨a, b⟩ := adE_skip (h := EntT.mk (atE L (gg : Int)).client (atE L (gg : Int)).req v (atE L (gg : Int)).opl (atE L (gg : Int)).ts) h1 h2
  exact skip_e0 hz (by unfold nmE at a ⊢; rw [z1, z2]; exact a) (fun hn => by rw [z3]; exact b hn)
theorem ad_new {v : Value} (hV : atV L (gg : Int) = true) (hs : ¬ (((atE L (gg : Int)).client = (adE (EntT.mk (atE L (gg : Int)).client (atE L (gg : Int)).req v (atE L (gg : Int)).opl (atE L (gg : Int)).ts) y).client ∧ (atE L (gg : Int)).req = (adE (EntT.mk (atE L (gg : Int)).client (atE L (gg : Int)).req v (atE L (gg : Int)).opl (atE L (gg : Int)).ts) y).req) ∧
    (atE L (gg : Int)).ts = (adE (EntT.mk (atE L (gg : Int)).client (atE L (gg : Int)).req v (atE L (gg : Int)).opl (atE L (gg : Int)).ts) y).ts)) : ¬ skipB (L.map e0) gg y = true := by
  obtain ⟨z, hz, _, z1, z2, z3⟩ := ad_one (v := v) (y := y) hV
  have hq := adE_new (h := EntT.mk (atE L (gg : Int)).client (atE L (gg : Int)).req v (atE L (gg : Int)).opl (atE L (gg : Int)).ts) hs
  refine noskip_e0 hz fun hc => hq ?_
  unfold nmE at hc ⊢
  rw [z1, z2, z3] at hc
  exact hc
theorem TkI.stop' (h : TkI M g f l2 NS L gg k) (hy : l2[k]? = some y) (hlt : ¬ f + k < gg) (hs : ¬ skipB (L.map e0) gg y = true) (hx : e0 x = e0 (oneE (L.map e0) gg y)) (hE : setE L (gg : Int) x.client x.req x.opl x.ts ≠ 0) : tkF M g f l2 = (NS.map ntP, gg, L.map e0) :=
  h.stop hy hlt hs (by have e : errX L gg x = errX L gg (oneE (L.map e0) gg y) := (show errX L gg (e0 x) = errX L gg (e0 (oneE (L.map e0) gg y)) by rw [hx]); rw [← e]; exact hE)
theorem TkI.set' {v : Value} (h : TkI M g f l2 NS L gg k) (hy : l2[k]? = some y) (hlt : ¬ f + k < gg) (hs : ¬ skipB (L.map e0) gg y = true) (hx : e0 x = e0 (oneE (L.map e0) gg y)) (hE : setE L (gg : Int) x.client x.req x.opl x.ts = 0) (hR : SetR L (gg : Int) x.client x.req x.opl x.ts L') : TkI M g f l2 (NS ++ [NtT.mk ((gg : Nat) : Int) (EntT.mk x.client x.req v x.opl x.ts)]) L' (gg + 1) (k + 1) := by
  have e : errX L gg x = errX L gg (oneE (L.map e0) gg y) := (show errX L gg (e0 x) = errX L gg (e0 (oneE (L.map e0) gg y)) by rw [hx])
  have e2 : nset L gg x = nset L gg (oneE (L.map e0) gg y) := (show nset L gg (e0 x) = nset L gg (e0 (oneE (L.map e0) gg y)) by rw [hx])
  refine h.set hy hlt hs (by rw [← e]; exact hE) (by rw [← e2]; exact setR_n hR hE) ?_
  rw [← hx]; rfl
end

set_option maxRecDepth 100000 in
set_option maxHeartbeats 6400000 in
theorem adoptTake_any (v : Value) (l : List EntT) (g : Nat) (f : Nat) (v2 : Value) (l2 : List EntT) (w : World) (hs : SliceOf entE 4 w v l) (hok : ∀ z ∈ l, EntOk w z) (hs2 : SliceOf entE 4 w v2 l2) (hok2 : ∀ z ∈ l2, EntOk w z) (hl20 : ∀ z ∈ l, z.opl.length ≤ 20) (hl22 : ∀ z ∈ l2, z.opl.length ≤ 20) (hRI : RI l) (hlen : l.length ≤ 100) (hlen2 : l2.length ≤ 100) (hfg : f ≤ g ∧ g ≤ l.length) :
    Calls Try.prog 43 #[v, .int .i64 ((g : Nat) : Int), .int .i64 ((f : Nat) : Int), v2] w fun e w' => ∃ (NS : List NtT) (u : Value), e = .returned (.tuple #[u, .int .i64 (((tkF (l.map e0) g f l2).2.1 : Nat) : Int)]) ∧ w'.ownsRow w.heap.size 93 18 u NS.length (NS.flatMap ntE) ∧ (∀ z ∈ NS, EntK (fun _ => False) 0 w' z.e) ∧ (∀ z ∈ NS, 0 ≤ z.n) ∧ NS.map ntP = (tkF (l.map e0) g f l2).1 ∧ Below w.heap.size w w' := by
 have hB0 := Below.refl w.heap.size w
 have hl_hs := sl_len hs
 have hl_hs2 := sl_len hs2
 refine co_enter (n := 91) Try.func43 rfl rfl rfl [(0, v), (1, .int .i64 ((g : Nat) : Int)), (2, .int .i64 ((f : Nat) : Int)), (3, v2)] rfl (fun a h0 => ?_)
 refine co_seq ?_
 refine co_reg ?_
 refine pk0 (v := .slice none 0 0) h0 rfl fun a1 h1 => ?_; clear h0
 refine pk0 (v := .int .i64 0) h1 rfl fun a2 h2 => ?_; clear h1
 refine pl_nil ?_
 refine co_then ?_
 refine wp_scope_straight ?_
 refine co_seq ?_
 refine co_seq ?_
 refine co_reg ?_
 refine pk0 (v := v) h2 rfl fun a3 h3 => ?_; clear h2
 refine pw h3 rfl (op_call (args := #[v]) (R := fun res xw => res = .int .i64 0 ∧ Below w.heap.size w xw) rfl rfl rfl (by kernel_rfl) (by kernel_rfl) (Try.call91 _ _) (itemRight_any v l w (hs.below hB0) (fun z hz => (hok z hz).below hB0)) (by rintro e x ⟨h0, h⟩; rw [hRI.right] at h0; exact ⟨_, h0, rfl, h⟩)) ?_; clear h3
 rintro _ w5 a4 ⟨rfl, hb6⟩ h4
 have hz7 := hb6.size
 refine pk0 (v := .bool ((0 : Int) != 0)) h4 rfl fun a8 h8 => ?_; clear h4
 refine pk0 (v := .bool ((0 : Int) != 0)) h8 rfl fun a9 h9 => ?_; clear h8
 have hc10 : ((0 : Int) != 0) = false := by first | (simp; done) | (simp; omega) | exact beq_false_of_ne (by omega) | exact beq_iff_eq.2 (by omega)
 rw [hc10] at h9; clear hc10
 refine pk0 (v := .int .i64 ((g : Nat) : Int)) h9 rfl fun a11 h11 => ?_; clear h9
 refine pk0 (v := .bool (decide (((g : Nat) : Int) < 0))) h11 rfl fun a12 h12 => ?_; clear h11
 refine pk0 (v := .bool (decide (((g : Nat) : Int) < 0))) h12 rfl fun a13 h13 => ?_; clear h12
 refine pk0 (v := .bool (decide (((g : Nat) : Int) < 0))) h13 rfl fun a14 h14 => ?_; clear h13
 have hc15 : (decide (((g : Nat) : Int) < 0)) = false := decide_eq_false (by omega)
 rw [hc15] at h14; clear hc15
 refine pk0 (v := .int .i64 ((g : Nat) : Int)) h14 rfl fun a16 h16 => ?_; clear h14
 refine pk0 (v := v) h16 rfl fun a17 h17 => ?_; clear h16
 have hB18 := hb_call hB0 hb6
 refine pk (v := .int .i64 ((l.length : Nat) : Int)) h17 rfl (rn_len rfl rfl Try.underlying39 (hs.below hB18)) fun a19 h19 => ?_; clear h17
 refine pk0 (v := .bool (decide (((g : Nat) : Int) > ((l.length : Nat) : Int)))) h19 rfl fun a20 h20 => ?_; clear h19
 refine pk0 (v := .bool (decide (((g : Nat) : Int) > ((l.length : Nat) : Int)))) h20 rfl fun a21 h21 => ?_; clear h20
 refine pl_nil ?_
 refine co_then ?_
 have hc22 : (decide (((g : Nat) : Int) > ((l.length : Nat) : Int))) = false := decide_eq_false (by omega)
 rw [hc22] at h21; clear hc22
 refine co_false h21 rfl ?_
 refine wp_skip ?_
 refine co_then ?_
 refine co_seq ?_
 refine co_reg ?_
 refine pk0 (v := .int .i64 ((f : Nat) : Int)) h21 rfl fun a23 h23 => ?_; clear h21
 refine pk (v := .int .i64 ((f : Nat) : Int)) h23 rfl (rn_max1 rfl rfl rfl rfl (by omega)) fun a24 h24 => ?_; clear h23
 refine pk0 (v := .int .i64 ((f : Nat) : Int)) h24 rfl fun a25 h25 => ?_; clear h24
 refine pl_nil ?_
 refine co_then ?_
 refine co_seq ?_
 refine co_seq ?_
 refine co_reg ?_
 refine pk0 (v := .int .i64 ((f : Nat) : Int)) h25 rfl fun a26 h26 => ?_; clear h25
 refine pk0 (v := .int .i64 ((g : Nat) : Int)) h26 rfl fun a27 h27 => ?_; clear h26
 refine pk0 (v := .bool (decide (((f : Nat) : Int) > ((g : Nat) : Int)))) h27 rfl fun a28 h28 => ?_; clear h27
 refine pl_nil ?_
 refine co_then ?_
 have hc29 : (decide (((f : Nat) : Int) > ((g : Nat) : Int))) = false := decide_eq_false (by omega)
 rw [hc29] at h28; clear hc29
 refine co_false h28 rfl ?_
 refine wp_skip ?_
 refine co_then ?_
 refine co_seq ?_
 refine co_reg ?_
 refine pk0 (v := v) h28 rfl fun a30 h30 => ?_; clear h28
 refine pw h30 rfl (op_call (args := #[v]) (R := fun res xw => ∃ N S L2, res = pt N 0 ∧ TkO S xw N L2 [] ∧ L2.map e0 = l.map e0 ∧ (∀ q, S q → w5.heap.size ≤ q) ∧ Below w5.heap.size w5 xw) rfl rfl rfl (by kernel_rfl) (by kernel_rfl) (Try.call92 _ _) (adoptLaid_any v l w5 (hs.below hB18) (fun z hz => (hok z hz).below hB18) hl20 hRI hlen) (by rintro e x ⟨N, S, L2, rfl, h⟩; exact ⟨_, rfl, N, S, L2, rfl, h⟩)) ?_; clear h30
 rintro _ w32 a31 ⟨N33, S34, L35, rfl, hO36, hq37, hlo38, hb39⟩ h31
 have hz40 := hb39.size
 have hlo41 : ∀ q, S34 q → w.heap.size ≤ q := fun q hq => by have := hlo38 q hq; omega
 have hLl := e0_len hq37
 refine pk0 (v := pt N33 0) h31 rfl fun a42 h42 => ?_; clear h31
 refine pl_nil ?_
 refine co_then ?_
 refine co_seq ?_
 refine co_reg ?_
 refine pk0 (v := .slice none 0 0) h42 rfl fun a43 h43 => ?_; clear h42
 refine pl_nil ?_
 refine co_then ?_
 refine co_seq ?_
 refine wp_label ?_
 refine co_then ?_
 refine co_seq ?_
 refine co_seq ?_
 refine co_reg ?_
 refine pk0 (v := v2) h43 rfl fun a44 h44 => ?_; clear h43
 have hB45 := hb_call hB18 hb39
 refine pk (v := .int .i64 ((l2.length : Nat) : Int)) h44 rfl (rn_len rfl rfl Try.underlying39 (hs2.below hB45)) fun a46 h46 => ?_; clear h44
 refine pk0 (v := .int .i64 0) h46 rfl fun a47 h47 => ?_; clear h46
 refine pl_nil ?_
 refine co_then ?_
 refine wp_block ?_
 have hll := hlo41
 have hTn : TkI (l.map e0) g f l2 [] L35 g 0 := TkI.start hq37
 have hn9 : ∀ z ∈ ([] : List NtT), 0 ≤ z.n := fun z hz => (List.not_mem_nil hz).elim
 have hof9 : ∀ i, Value.ownBlock (.slice none 0 0) = some i → ¬ S34 i := offR_nil
 have h48 : Slots 91 [(1, .int .i64 ((g : Nat) : Int)), (2, .int .i64 ((f : Nat) : Int)), (3, v2), (10, pt N33 0), (11, .slice none 0 0), (38, v2), (39, .int .i64 ((l2.length : Nat) : Int)), (40, .int .i64 0)] _ := h47.sub ⟨rfl, rfl, rfl, rfl, rfl, rfl, rfl, rfl, trivial⟩; clear h47
 refine co_loop (fun mm a x => ∃ (k : Nat) (gg : Nat) (un : Value) (NS : List NtT) (LL : List EntT) (SL : Nat → Prop), Slots 91 [(1, .int .i64 ((gg : Nat) : Int)), (2, .int .i64 ((f : Nat) : Int)), (3, v2), (10, pt N33 0), (11, un), (38, v2), (39, .int .i64 ((l2.length : Nat) : Int)), (40, .int .i64 ((k : Nat) : Int))] a ∧ mm = l2.length - k ∧ (k ≤ l2.length) ∧ (gg ≤ g + k) ∧ (NS.length ≤ k) ∧ (∀ q, SL q → w.heap.size ≤ q) ∧ (TkI (l.map e0) g f l2 NS LL gg k) ∧ (∀ z ∈ NS, 0 ≤ z.n) ∧ (∀ i, Value.ownBlock un = some i → ¬ SL i) ∧ TkO SL x N33 LL NS ∧ x.ownsRow w.heap.size 93 18 un NS.length (NS.flatMap ntE) ∧ Below w.heap.size w x) (l2.length - 0) ?_ ?_
 · exact ⟨0, g, (.slice none 0 0), [], L35, S34, h48.sub ⟨rfl, rfl, rfl, rfl, rfl, rfl, rfl, (slot_eq rfl (congrArg (Value.int .i64) (by first | rfl | omega))), trivial⟩, rfl, by omega, by omega, by first | omega | (simp; omega) | simp, by exact hll, by exact hTn, by exact hn9, by exact hof9, hO36, (row_nilL _ _ _ _ _), hB45⟩
 · rintro k49 a50 w51 ⟨k, gg, un, NS, LL, SL, h50, rfl, hi52, hi53, hi54, hi55, hi56, hi57, hi58, hf59, hf60, hB61⟩
   have hz62 := hB61.size
   have hlo63 : ∀ q, SL q → w.heap.size ≤ q := by assumption
   have hTk : TkI (l.map e0) g f l2 NS LL gg k := by assumption
   have hn0 : ∀ z ∈ NS, 0 ≤ z.n := by assumption
   have hofn : ∀ i, Value.ownBlock un = some i → ¬ SL i := by assumption
   have hLlen := TkO.len hf59
   refine co_seq ?_
   refine co_reg ?_
   refine pk0 (v := .bool (decide (((k : Nat) : Int) < ((l2.length : Nat) : Int)))) h50 rfl fun a64 h64 => ?_; clear h50
   refine pl_nil ?_
   refine co_then ?_
   refine co_seq ?_
   cases hc65 : (decide (((k : Nat) : Int) < ((l2.length : Nat) : Int)))
   ·
    rw [hc65] at h64
    have hp66 : ¬ (((k : Nat) : Int) < ((l2.length : Nat) : Int)) := of_decide_eq_false hc65
    clear hc65
    refine co_false h64 rfl ?_
    refine wp_exit ?_
    refine co_thenX ?_
    refine co_thenX ?_
    refine co_blockX ?_
    refine co_then ?_
    refine co_seq ?_
    refine co_reg ?_
    refine pk0 (v := un) h64 rfl fun a67 h67 => ?_; clear h64
    refine pk0 (v := .int .i64 ((gg : Nat) : Int)) h67 rfl fun a68 h68 => ?_; clear h67
    refine pk0 (v := un) h68 rfl fun a69 h69 => ?_; clear h68
    refine pk0 (v := .int .i64 ((gg : Nat) : Int)) h69 rfl fun a70 h70 => ?_; clear h69
    refine pl_nil ?_
    refine co_then ?_
    refine wp_ret ?_
    refine co_scopeR ?_
    refine co_ret2 h70 rfl rfl rfl ?_
    have hT := hTk.fin (by omega)
    exact ⟨NS, _, by rw [hT], (row_lows hf60 (by omega)), TkO.got hf59, hn0, by rw [hT], hB61⟩
   ·
    rw [hc65] at h64
    have hp71 : ((k : Nat) : Int) < ((l2.length : Nat) : Int) := of_decide_eq_true hc65
    clear hc65
    refine co_true h64 rfl ?_
    refine wp_skip ?_
    refine co_then ?_
    refine co_seq ?_
    refine wp_block ?_
    refine co_seq ?_
    refine co_reg ?_
    refine pk0 (v := .int .i64 ((k : Nat) : Int)) h64 rfl fun a72 h72 => ?_; clear h64
    refine pk0 (v := .int .i64 ((k : Nat) : Int)) h72 rfl fun a73 h73 => ?_; clear h72
    refine pl_nil ?_
    refine co_then ?_
    refine co_seq ?_
    refine co_seq ?_
    refine co_reg ?_
    refine pk0 (v := .int .i64 ((f : Nat) : Int)) h73 rfl fun a74 h74 => ?_; clear h73
    refine pk0 (v := .int .i64 ((k : Nat) : Int)) h74 rfl fun a75 h75 => ?_; clear h74
    refine pk (v := .int .i64 ((f + k : Nat) : Int)) h75 rfl (rn_arith' rfl rfl rfl rfl rfl rfl (IntWalk.i64_in _ (by omega)) (by omega)) fun a76 h76 => ?_; clear h75
    refine pk0 (v := .int .i64 ((gg : Nat) : Int)) h76 rfl fun a77 h77 => ?_; clear h76
    refine pk0 (v := .bool (decide (((f + k : Nat) : Int) < ((gg : Nat) : Int)))) h77 rfl fun a78 h78 => ?_; clear h77
    refine pl_nil ?_
    refine co_then ?_
    cases hc79 : (decide (((f + k : Nat) : Int) < ((gg : Nat) : Int)))
    ·
     rw [hc79] at h78
     have hp80 : ¬ (((f + k : Nat) : Int) < ((gg : Nat) : Int)) := of_decide_eq_false hc79
     clear hc79
     refine co_false h78 rfl ?_
     refine wp_skip ?_
     refine co_then ?_
     refine co_seq ?_
     refine co_reg ?_
     refine pk0 (v := v2) h78 rfl fun a81 h81 => ?_; clear h78
     refine pk0 (v := .int .i64 ((k : Nat) : Int)) h81 rfl fun a82 h82 => ?_; clear h81
     obtain ⟨y83, hy83⟩ : ∃ z, l2[k]? = some z := ⟨_, List.getElem?_eq_getElem (by first | omega | (simp; done) | (simp; omega))⟩
     have oky83 := hok2 _ (List.mem_of_getElem? hy83)
     have k84 : 0 ≤ y83.ts := oky83.ts0
     have k85 : y83.ts < 18446744073709551616 := oky83.ts1
     have h20y83 := hl22 y83 (List.mem_of_getElem? hy83)
     have hiy86 := oky83.it h20y83
     refine pk (v := pt (blkOf v2) (offOf v2 + k * 4)) h82 rfl (rn_index rfl rfl rfl Try.underlying39 Try.sizeOf47 (hs2.below hB61) (by omega) (by first | omega | (simp; done) | (simp; omega))) fun a87 h87 => ?_; clear h82
     refine pk (v := .agg #[.int .i64 y83.client, .int .i64 y83.req, y83.ops, .int .u64 y83.ts]) h87 rfl (rn_loadN rfl rfl Try.underlying47 rfl (by kernel_rfl) (sl_at (hs2.below hB61) hy83)) fun a88 h88 => ?_; clear h87
     refine pw h88 rfl (op_new (v := fun N => pt N 0) (T := 47) (cs := #[.int .i64 0, .int .i64 0, .slice none 0 0, .int .u64 0]) (by kernel_rfl) (by kernel_rfl) (by kernel_rfl)) ?_; clear h88
     rintro _ w90 a89 ⟨N91, rfl, hN94, hz95, hk93, hg92⟩ h89
     have ha96 := row_fresh hf60 hN94
     have hz97 := hg92.size
     have ho98 := off_new (TkO.ofS hf59) hN94
     try dsimp only at h89
     have hB104 := hb_new hB61 hg92
     refine pwD h89 rfl (op_storeN rfl rfl rfl (all_cons rfl (all_cons rfl (all_cons (sl_one (oky83.ops.below hB104)) (all_cons rfl all_nil)))) (by kernel_rfl) hk93 rfl) ?_; clear h89
     rintro _ w100 a99 ⟨hk101, hz102, hg103⟩ h99
     have hk101' : Blk w100 N91 47 #[.int .i64 y83.client, .int .i64 y83.req, y83.ops, .int .u64 y83.ts] := hk101; clear hk101
     have hz105 := hg103.size
     refine pl_nil ?_
     refine co_then ?_
     refine co_seq ?_
     refine co_seq ?_
     refine co_reg ?_
     refine pk0 (v := pt N33 0) h99 rfl fun a106 h106 => ?_; clear h99
     refine pk0 (v := .int .i64 ((gg : Nat) : Int)) h106 rfl fun a107 h107 => ?_; clear h106
     have hO111 := TkO.gr hf59 hg92 (fun k e => by cases e)
     have hO112 := TkO.gr hO111 hg103 (fun k e => by cases e; exact ho98)
     have ho110 := TkO.ofS hO112
     have hB113 := hb_at hB104 hg103 (by omega)
     have hr114 := row_kept_new hf60 hg92
     have hr115 := row_kept_at hr114 hg103 (ha96)
     refine pw h107 rfl (op_call (args := #[pt N33 0, .int .i64 ((gg : Nat) : Int)]) (R := fun res xw => ∃ ev : Value, ∃ S' : Nat → Prop, res = .tuple #[.agg #[.int .i64 ((atE LL ((gg : Nat) : Int)).client), .int .i64 ((atE LL ((gg : Nat) : Int)).req), ev, .int .u64 ((atE LL ((gg : Nat) : Int)).ts)], .bool (atV LL ((gg : Nat) : Int))] ∧ TkO S' xw N33 LL NS ∧ (xw.ownsRow w100.heap.size 127 3 ev (atE LL ((gg : Nat) : Int)).opl.length ((atE LL ((gg : Nat) : Int)).opl.flatMap opE)) ∧ (∀ q, S' q → q < w100.heap.size) ∧ Grew SL S' w100 xw) rfl rfl rfl (by kernel_rfl) (by kernel_rfl) (Try.call28 _ _) (kkAt w100 ((gg : Nat) : Int) hO112) (by rintro e x ⟨ev, S', h0, h⟩; exact ⟨_, h0, ev, S', rfl, h⟩)) ?_; clear h107
     rintro _ w109 a108 ⟨ev116, S117, rfl, hO118, hq120, hq121, hx119⟩ h108
     have hlo123 : ∀ q, S117 q → w.heap.size ≤ q := hx119.lo hlo63 (by omega)
     have hB122 := hbL hB113 hlo63 hx119.but
     have hz124 := hB122.size
     have hz125 := hx119.but.size
     have hik126 := TkO.it hO118 ((gg : Nat) : Int)
     have hq127 := hik126.len; have hq128 := hik126.ts
     refine pk0 (v := .tuple #[.agg #[.int .i64 ((atE LL ((gg : Nat) : Int)).client), .int .i64 ((atE LL ((gg : Nat) : Int)).req), ev116, .int .u64 ((atE LL ((gg : Nat) : Int)).ts)], .bool (atV LL ((gg : Nat) : Int))]) h108 rfl fun a129 h129 => ?_; clear h108
     refine pk0 (v := .agg #[.int .i64 ((atE LL ((gg : Nat) : Int)).client), .int .i64 ((atE LL ((gg : Nat) : Int)).req), ev116, .int .u64 ((atE LL ((gg : Nat) : Int)).ts)]) h129 rfl fun a130 h130 => ?_; clear h129
     refine pk0 (v := .bool (atV LL ((gg : Nat) : Int))) h130 rfl fun a131 h131 => ?_; clear h130
     refine pw h131 rfl (op_new (v := fun N => pt N 0) (T := 47) (cs := #[.int .i64 0, .int .i64 0, .slice none 0 0, .int .u64 0]) (by kernel_rfl) (by kernel_rfl) (by kernel_rfl)) ?_; clear h131
     rintro _ w133 a132 ⟨N134, rfl, hN137, hz138, hk136, hg135⟩ h132
     have hr140 := own_butS hr115 hx119.but hofn
     have ha139 := row_fresh hr140 hN137
     have ha141 := row_fresh hq120 hN137
     have hz142 := hg135.size
     have ho143 := off_new (TkO.ofS hO118) hN137
     try dsimp only at h132
     have hr149 := row_kept_new hq120 hg135
     refine pwD h132 rfl (op_storeN rfl rfl rfl (all_cons rfl (all_cons rfl (all_cons (row_one hr149) (all_cons rfl all_nil)))) (by kernel_rfl) hk136 rfl) ?_; clear h132
     rintro _ w145 a144 ⟨hk146, hz147, hg148⟩ h144
     have hk146' : Blk w145 N134 47 #[.int .i64 ((atE LL ((gg : Nat) : Int)).client), .int .i64 ((atE LL ((gg : Nat) : Int)).req), ev116, .int .u64 ((atE LL ((gg : Nat) : Int)).ts)] := hk146; clear hk146
     have hz150 := hg148.size
     refine pk0 (v := .bool (atV LL ((gg : Nat) : Int))) h144 rfl fun a151 h151 => ?_; clear h144
     refine pl_nil ?_
     refine co_then ?_
     refine co_seq ?_
     refine co_reg ?_
     refine pk0 (v := .bool (atV LL ((gg : Nat) : Int))) h151 rfl fun a152 h152 => ?_; clear h151
     refine pl_nil ?_
     refine co_then ?_
     have hB154 := hb_new hB122 hg135
     have hB155 := hb_at hB154 hg148 (by omega)
     have hr156 := row_kept_new hr140 hg135
     have hr157 := row_kept_at hr156 hg148 (ha139)
     have hk158 := Blk.butS hk101' hx119.but ho98
     have hk159 := hk158.kept hg135 (by simp)
     have hk160 := hk159.kept hg148 (by simp; omega)
     have hO161 := TkO.gr hO118 hg135 (fun k e => by cases e)
     have hO162 := TkO.gr hO161 hg148 (fun k e => by cases e; exact ho143)
     cases hc153 : ((atV LL ((gg : Nat) : Int)))
     ·
      rw [hc153] at h152
      refine co_false h152 rfl ?_
      refine wp_skip ?_
      refine co_then ?_
      refine co_seq ?_
      refine co_seq ?_
      refine co_reg ?_
      refine pk0 (v := pt N33 0) h152 rfl fun a163 h163 => ?_; clear h152
      refine pk0 (v := .int .i64 ((gg : Nat) : Int)) h163 rfl fun a164 h164 => ?_; clear h163
      refine pk (v := .agg #[.int .i64 y83.client, .int .i64 y83.req, y83.ops, .int .u64 y83.ts]) h164 rfl (rn_loadN rfl rfl Try.underlying47 rfl (by kernel_rfl) hk160.all) fun a165 h165 => ?_; clear h164
      have ho168 := TkO.ofS hO162
      refine pw h165 rfl (op_call (args := #[pt N33 0, .int .i64 ((gg : Nat) : Int), .agg #[.int .i64 y83.client, .int .i64 y83.req, y83.ops, .int .u64 y83.ts]]) (R := fun res xw => ∃ L' : List EntT, ∃ S' : Nat → Prop, res = .int .i64 (setE LL ((gg : Nat) : Int) y83.client y83.req y83.opl y83.ts) ∧ TkO S' xw N33 L' NS ∧ (SetR LL ((gg : Nat) : Int) y83.client y83.req y83.opl y83.ts L') ∧ Grew S117 S' w145 xw) rfl rfl rfl (by kernel_rfl) (by kernel_rfl) (Try.call39 _ _) (kkSet w145 ((gg : Nat) : Int) y83.client y83.req (y83.ops) y83.opl y83.ts hO162 (oky83.ops.below hB155) (sl_off oky83.ops (opE_ne _) hlo123) hiy86.len hiy86.ts hiy86.en) (by rintro e x ⟨L', S', h0, h⟩; exact ⟨_, h0, L', S', rfl, h⟩)) ?_; clear h165
      rintro _ w167 a166 ⟨L'169, S170, rfl, hO171, hq173, hx172⟩ h166
      have hr174 := row_kept_at hr149 hg148 (ha141)
      have hlo176 : ∀ q, S170 q → w.heap.size ≤ q := hx172.lo hlo123 (by omega)
      have hB175 := hbL hB155 hlo123 hx172.but
      have hz177 := hB175.size
      have hz178 := hx172.but.size
      refine pk0 (v := .bool ((setE LL ((gg : Nat) : Int) y83.client y83.req y83.opl y83.ts) != 0)) h166 rfl fun a179 h179 => ?_; clear h166
      refine pl_nil ?_
      refine co_then ?_
      cases hc180 : ((setE LL ((gg : Nat) : Int) y83.client y83.req y83.opl y83.ts) != 0)
      ·
       rw [hc180] at h179
       have hp181 : ¬ ((setE LL ((gg : Nat) : Int) y83.client y83.req y83.opl y83.ts) ≠ 0) := by first | simpa using hc180 | simpa [and_assoc] using hc180
       clear hc180
       refine co_false h179 rfl ?_
       refine wp_skip ?_
       refine co_then ?_
       refine co_seq ?_
       refine co_reg ?_
       refine pk0 (v := un) h179 rfl fun a182 h182 => ?_; clear h179
       refine pk0 (v := .int .i64 ((gg : Nat) : Int)) h182 rfl fun a183 h183 => ?_; clear h182
       have hk184 := Blk.butS hk160 hx172.but (Grew.off hx119 ho98 hk101'.lt)
       refine pk (v := .agg #[.int .i64 y83.client, .int .i64 y83.req, y83.ops, .int .u64 y83.ts]) h183 rfl (rn_loadN rfl rfl Try.underlying47 rfl (by kernel_rfl) hk184.all) fun a185 h185 => ?_; clear h183
       refine pw h185 rfl (op_call (args := #[.agg #[.int .i64 y83.client, .int .i64 y83.req, y83.ops, .int .u64 y83.ts]]) (R := fun res xw => ∃ u : Value, res = .agg #[.int .i64 y83.client, .int .i64 y83.req, u, .int .u64 y83.ts] ∧ xw.ownsRow w167.heap.size 127 3 u y83.opl.length (y83.opl.flatMap opE) ∧ Below w167.heap.size w167 xw) rfl rfl rfl (by kernel_rfl) (by kernel_rfl) (Try.call81 _ _) (freshEntry_any y83.client y83.req y83.ops y83.opl y83.ts w167 (oky83.ops.below hB175) (by first | omega | (simp; done) | (simp; omega))) (by rintro e x ⟨u, rfl, hq189, hb190⟩; exact ⟨_, rfl, ⟨u, rfl, hq189, hb190⟩⟩)) ?_; clear h185
       rintro _ w187 a186 ⟨u188, rfl, hq189, hb190⟩ h186
       have hz191 := hb190.size
       have ho192 := TkO.ofS hO171
       have hl193 := sl_len (row_sl hq189 opE_len)
       refine pk0 (v := .agg #[.int .i64 2, .int .i64 ((gg : Nat) : Int), .int .u64 0, .int .i64 0, .slice none 0 0, .int .u64 0, .slice none 0 0, .int .i64 y83.client, .int .i64 y83.req, u188, .int .u64 y83.ts, .int .i64 0, .int .u64 0, .int .i64 0, .int .i64 0, .int .i64 0, .int .i64 0, .int .i64 0]) h186 rfl fun a194 h194 => ?_; clear h186
       refine pw h194 rfl (op_new (v := fun N => .slice (some ⟨N, 0, none⟩) 1 1) (T := 93) (cs := #[.int .i64 2, .int .i64 ((gg : Nat) : Int), .int .u64 0, .int .i64 0, .slice none 0 0, .int .u64 0, .slice none 0 0, .int .i64 y83.client, .int .i64 y83.req, u188, .int .u64 y83.ts, .int .i64 0, .int .u64 0, .int .i64 0, .int .i64 0, .int .i64 0, .int .i64 0, .int .i64 0]) (by kernel_rfl) (by kernel_rfl) (by kernel_rfl)) ?_; clear h194
       rintro _ w196 a195 ⟨N197, rfl, hN200, hz201, hk199, hg198⟩ h195
       have hr203 := own_butS hr157 hx172.but (Grew.offR hx119 hr115 hofn)
       have hr204 := row_kept_new hr203 (below_grown hb190)
       have ha202 := row_fresh hr204 hN200
       have hr206 := own_butS hr174 hx172.but (offR_row hq121 hq120 (Nat.le_refl _))
       have hr207 := row_kept_new hr206 (below_grown hb190)
       have ha205 := row_fresh hr207 hN200
       have ha208 := row_fresh hq189 hN200
       have hz209 := hg198.size
       have hO211 := TkO.gr hO171 (below_grown hb190) (fun k e => by cases e)
       have ho210 := off_new (TkO.ofS hO211) hN200
       try dsimp only at h195
       have hr218 := row_kept_new hr204 hg198
       have hr219 := row_kept_new hq189 hg198
       refine pw h195 rfl (op_appendF rfl w.heap.size 93 (z := .agg #[.int .i64 0, .int .i64 0, .int .u64 0, .int .i64 0, .slice none 0 0, .int .u64 0, .slice none 0 0, .int .i64 0, .int .i64 0, .slice none 0 0, .int .u64 0, .int .i64 0, .int .u64 0, .int .i64 0, .int .i64 0, .int .i64 0, .int .i64 0, .int .i64 0]) (size := 18) (bytes := 192) Try.underlying72 (by kernel_rfl) rfl rfl rfl hr218 rfl hk199 rfl (all_cons rfl (all_cons rfl (all_cons rfl (all_cons rfl (all_cons rfl (all_cons rfl (all_cons rfl (all_cons rfl (all_cons rfl (all_cons (row_one hr219) (all_cons rfl (all_cons rfl (all_cons rfl (all_cons rfl (all_cons rfl (all_cons rfl (all_cons rfl (all_cons rfl all_nil)))))))))))))))))) (by first | omega | (simp only [List.length_nil, List.length_append, List.length_cons, List.length_take, List.length_drop]; omega)) (by first | omega | (simp only [List.length_nil, List.length_append, List.length_cons, List.length_take, List.length_drop]; omega)) (by omega)) ?_; clear h195
       rintro v214 w213 a212 ⟨hr215, hwt217, hg216⟩ h212
       have hr215' : w213.ownsRow w.heap.size 93 18 v214 ((NS ++ [(NtT.mk ((gg : Nat) : Int) (EntT.mk y83.client y83.req u188 y83.opl y83.ts))]).length) ((NS ++ [(NtT.mk ((gg : Nat) : Int) (EntT.mk y83.client y83.req u188 y83.opl y83.ts))]).flatMap ntE) := row_push (y := (NtT.mk ((gg : Nat) : Int) (EntT.mk y83.client y83.req u188 y83.opl y83.ts))) hr215 rfl rfl; clear hr215
       have hB222 := hb_call hB175 hb190
       have hB223 := hb_new hB222 hg198
       have hk224 := hk184.below hb190
       have hk225 := hk224.kept hg198 (by simp)
       have hk226 := Blk.butS hk146' hx172.but ho143
       have hk227 := hk226.below hb190
       have hk228 := hk227.kept hg198 (by simp)
       have hO229 := TkO.gr hO211 hg198 (fun k e => by cases e)
       have ho221 := TkO.ofS hO229
       have ho220 := offR_went (Grew.offR hx172 hr157 (Grew.offR hx119 hr115 hofn)) ho221 hwt217
       have hz230 := hg216.size
       have hr235 := row_kept_row hr219 hr218 hg216 (by decide)
       have hEz : EntK (fun _ => False) 0 w213 ((NtT.mk ((gg : Nat) : Int) (EntT.mk y83.client y83.req u188 y83.opl y83.ts))).e := ⟨row_lows hr235 (Nat.zero_le _), InS.low hr235 (Nat.zero_le _), hiy86.len, hiy86.en.1, hiy86.ts.1, hiy86.ts.2, hiy86.en.2.1, hiy86.en.2.2⟩
       have hO236 := TkO.gr hO229 hg216 (fun k e => (Grew.offR hx172 hr157 (Grew.offR hx119 hr115 hofn)) k e)
       have hNS := hO236
       have hofz : ∀ i, Value.ownBlock u188 = some i → ¬ S170 i := (offR_row ho192 hr235 (Nat.le_refl _))
       obtain ⟨S231, hO232, hx233⟩ : ∃ S2 : Nat → Prop, TkO S2 w213 N33 L'169 (NS ++ [(NtT.mk ((gg : Nat) : Int) (EntT.mk y83.client y83.req u188 y83.opl y83.ts))]) ∧ ∀ q, S2 q → S170 q ∨ Value.ownBlock u188 = some q := ⟨_, TkO.push (z := (NtT.mk ((gg : Nat) : Int) (EntT.mk y83.client y83.req u188 y83.opl y83.ts))) hNS hEz hofz, fun q hq => hq⟩
       have hlo234 : ∀ q, S231 q → w.heap.size ≤ q := fun q hq => by rcases hx233 q hq with k | k; exact hlo176 q k; have := (hr235.lt q k).1; omega
       have hon : ∀ i, Value.ownBlock v214 = some i → ¬ S231 i := fun i hi hq => by rcases hx233 i hq with k | k; exact ho220 i hi k; exact rows_ne hr215' hr235 (by decide) i hi k
       refine pk0 (v := v214) h212 rfl fun a237 h237 => ?_; clear h212
       refine pl_nil ?_
       refine co_then ?_
       refine co_reg ?_
       refine pk0 (v := .int .i64 ((gg : Nat) : Int)) h237 rfl fun a238 h238 => ?_; clear h237
       refine pk (v := .int .i64 ((gg + 1 : Nat) : Int)) h238 rfl (rn_arith' rfl rfl rfl rfl rfl rfl (IntWalk.i64_in _ (by omega)) (by omega)) fun a239 h239 => ?_; clear h238
       refine pk0 (v := .int .i64 ((gg + 1 : Nat) : Int)) h239 rfl fun a240 h240 => ?_; clear h239
       refine pl_nil ?_
       refine co_blockN ?_
       refine co_then ?_
       refine co_reg ?_
       refine pk (v := .int .i64 ((k + 1 : Nat) : Int)) h240 rfl (rn_arith' rfl rfl rfl rfl rfl rfl (IntWalk.i64_in _ (by omega)) (by omega)) fun a241 h241 => ?_; clear h240
       refine pk0 (v := .int .i64 ((k + 1 : Nat) : Int)) h241 rfl fun a242 h242 => ?_; clear h241
       refine pl_nil ?_
       refine co_then ?_
       refine ⟨(l2.length - (k + 1)), by omega, ?_⟩
       have hll := hlo234
       have hof9 : ∀ i, Value.ownBlock v214 = some i → ¬ S231 i := hon
       obtain ⟨hno, hxe⟩ := no_one (L := LL) (gg := gg) (y := y83) (by assumption)
       have hns := noskip_n (y := y83) hno
       have hTn := hTk.set' (v := u188) hy83 (by omega) hns hxe (by omega) hq173
       have hn9 : ∀ z ∈ NS ++ [(NtT.mk ((gg : Nat) : Int) (EntT.mk y83.client y83.req u188 y83.opl y83.ts))], 0 ≤ z.n := fun z hz => by rcases List.mem_append.1 hz with q | q; exact hn0 z q; simp at q; subst q; show (0 : Int) ≤ ((gg : Nat) : Int); omega
       have hB243 := hb_row hB223 hr218 (by omega) hg216
       exact ⟨k + 1, (gg + 1), v214, (NS ++ [(NtT.mk ((gg : Nat) : Int) (EntT.mk y83.client y83.req u188 y83.opl y83.ts))]), L'169, S231, h242.sub ⟨rfl, rfl, rfl, rfl, rfl, rfl, rfl, rfl, trivial⟩, rfl, by omega, by omega, by first | omega | (simp; omega) | simp, by exact hll, by exact hTn, by exact hn9, by exact hof9, hO232, (row_eq hr215' (rfl)), hB243⟩
      ·
       rw [hc180] at h179
       have hp244 : (setE LL ((gg : Nat) : Int) y83.client y83.req y83.opl y83.ts) ≠ 0 := by first | simpa using hc180 | simpa [and_assoc] using hc180
       clear hc180
       refine co_true h179 rfl ?_
       refine wp_exit ?_
       refine co_thenX ?_
       refine co_blockY (by decide) ?_
       refine co_thenX ?_
       refine co_thenX ?_
       refine co_blockX ?_
       refine co_then ?_
       refine co_seq ?_
       refine co_reg ?_
       refine pk0 (v := un) h179 rfl fun a245 h245 => ?_; clear h179
       refine pk0 (v := .int .i64 ((gg : Nat) : Int)) h245 rfl fun a246 h246 => ?_; clear h245
       refine pk0 (v := un) h246 rfl fun a247 h247 => ?_; clear h246
       refine pk0 (v := .int .i64 ((gg : Nat) : Int)) h247 rfl fun a248 h248 => ?_; clear h247
       refine pl_nil ?_
       refine co_then ?_
       refine wp_ret ?_
       refine co_scopeR ?_
       refine co_ret2 h248 rfl rfl rfl ?_
       have hr249 := own_butS hr157 hx172.but (Grew.offR hx119 hr115 hofn)
       obtain ⟨hno, hxe⟩ := no_one (L := LL) (gg := gg) (y := y83) (by assumption)
       have hns := noskip_n (y := y83) hno
       have hT := hTk.stop' hy83 (by omega) hns hxe (by omega)
       exact ⟨NS, _, by rw [hT], (row_lows hr249 (by omega)), TkO.got hO171, hn0, by rw [hT], hB175⟩
     ·
      rw [hc153] at h152
      refine co_true h152 rfl ?_
      refine co_seq ?_
      refine co_reg ?_
      refine pk (v := .agg #[.int .i64 ((atE LL ((gg : Nat) : Int)).client), .int .i64 ((atE LL ((gg : Nat) : Int)).req), ev116, .int .u64 ((atE LL ((gg : Nat) : Int)).ts)]) h152 rfl (rn_loadN rfl rfl Try.underlying47 rfl (by kernel_rfl) hk146'.all) fun a250 h250 => ?_; clear h152
      refine pk (v := .agg #[.int .i64 y83.client, .int .i64 y83.req, y83.ops, .int .u64 y83.ts]) h250 rfl (rn_loadN rfl rfl Try.underlying47 rfl (by kernel_rfl) hk160.all) fun a251 h251 => ?_; clear h250
      have ho254 := TkO.ofS hO162
      have hr258 := row_kept_at hr149 hg148 (ha141)
      refine pw h251 rfl (op_call (args := #[.agg #[.int .i64 ((atE LL ((gg : Nat) : Int)).client), .int .i64 ((atE LL ((gg : Nat) : Int)).req), ev116, .int .u64 ((atE LL ((gg : Nat) : Int)).ts)], .agg #[.int .i64 y83.client, .int .i64 y83.req, y83.ops, .int .u64 y83.ts]]) (R := fun res xw => ∃ u, res = .agg #[.int .i64 (adE (EntT.mk (atE LL ((gg : Nat) : Int)).client (atE LL ((gg : Nat) : Int)).req ev116 (atE LL ((gg : Nat) : Int)).opl (atE LL ((gg : Nat) : Int)).ts) y83).client, .int .i64 (adE (EntT.mk (atE LL ((gg : Nat) : Int)).client (atE LL ((gg : Nat) : Int)).req ev116 (atE LL ((gg : Nat) : Int)).opl (atE LL ((gg : Nat) : Int)).ts) y83).req, u, .int .u64 (adE (EntT.mk (atE LL ((gg : Nat) : Int)).client (atE LL ((gg : Nat) : Int)).req ev116 (atE LL ((gg : Nat) : Int)).opl (atE LL ((gg : Nat) : Int)).ts) y83).ts] ∧ xw.ownsRow w145.heap.size 127 3 u (adE (EntT.mk (atE LL ((gg : Nat) : Int)).client (atE LL ((gg : Nat) : Int)).req ev116 (atE LL ((gg : Nat) : Int)).opl (atE LL ((gg : Nat) : Int)).ts) y83).opl.length ((adE (EntT.mk (atE LL ((gg : Nat) : Int)).client (atE LL ((gg : Nat) : Int)).req ev116 (atE LL ((gg : Nat) : Int)).opl (atE LL ((gg : Nat) : Int)).ts) y83).opl.flatMap opE) ∧ Below w145.heap.size w145 xw) rfl rfl rfl (by kernel_rfl) (by kernel_rfl) (Try.call93 _ _) (adopted_any (EntT.mk (atE LL ((gg : Nat) : Int)).client (atE LL ((gg : Nat) : Int)).req ev116 (atE LL ((gg : Nat) : Int)).opl (atE LL ((gg : Nat) : Int)).ts) y83 w145 (row_sl hr258 opE_len) (oky83.ops.below hB155) (by omega) (by omega)) (by rintro e x ⟨u, rfl, h⟩; exact ⟨_, rfl, u, rfl, h⟩)) ?_; clear h251
      rintro _ w253 a252 ⟨u255, rfl, hr256, hb257⟩ h252
      have hz259 := hb257.size
      have ho260 := TkO.ofS hO162
      have hia261 : ItK (adE (EntT.mk (atE LL ((gg : Nat) : Int)).client (atE LL ((gg : Nat) : Int)).req ev116 (atE LL ((gg : Nat) : Int)).opl (atE LL ((gg : Nat) : Int)).ts) y83) := ItK.ad hik126.re hiy86
      have hq262 := hia261.len; have hq263 := hia261.ts
      have hk269 := hk160.below hb257
      refine pwD h252 rfl (op_storeN rfl rfl rfl (all_cons rfl (all_cons rfl (all_cons (row_one hr256) (all_cons rfl all_nil)))) (by kernel_rfl) hk269 rfl) ?_; clear h252
      rintro _ w265 a264 ⟨hk266, hz267, hg268⟩ h264
      have hk266' : Blk w265 N91 47 #[.int .i64 ((adE (EntT.mk (atE LL ((gg : Nat) : Int)).client (atE LL ((gg : Nat) : Int)).req ev116 (atE LL ((gg : Nat) : Int)).opl (atE LL ((gg : Nat) : Int)).ts) y83).client), .int .i64 ((adE (EntT.mk (atE LL ((gg : Nat) : Int)).client (atE LL ((gg : Nat) : Int)).req ev116 (atE LL ((gg : Nat) : Int)).opl (atE LL ((gg : Nat) : Int)).ts) y83).req), u255, .int .u64 ((adE (EntT.mk (atE LL ((gg : Nat) : Int)).client (atE LL ((gg : Nat) : Int)).req ev116 (atE LL ((gg : Nat) : Int)).opl (atE LL ((gg : Nat) : Int)).ts) y83).ts)] := hk266; clear hk266
      have hz270 := hg268.size
      refine pl_nil ?_
      refine co_then ?_
      refine co_seq ?_
      refine co_reg ?_
      have hk271 := hk146'.below hb257
      have hk272 := hk271.kept hg268 (by simp; omega)
      refine pk (v := .agg #[.int .i64 ((atE LL ((gg : Nat) : Int)).client), .int .i64 ((atE LL ((gg : Nat) : Int)).req), ev116, .int .u64 ((atE LL ((gg : Nat) : Int)).ts)]) h264 rfl (rn_loadN rfl rfl Try.underlying47 rfl (by kernel_rfl) hk272.all) fun a273 h273 => ?_; clear h264
      refine pk (v := .agg #[.int .i64 ((adE (EntT.mk (atE LL ((gg : Nat) : Int)).client (atE LL ((gg : Nat) : Int)).req ev116 (atE LL ((gg : Nat) : Int)).opl (atE LL ((gg : Nat) : Int)).ts) y83).client), .int .i64 ((adE (EntT.mk (atE LL ((gg : Nat) : Int)).client (atE LL ((gg : Nat) : Int)).req ev116 (atE LL ((gg : Nat) : Int)).opl (atE LL ((gg : Nat) : Int)).ts) y83).req), u255, .int .u64 ((adE (EntT.mk (atE LL ((gg : Nat) : Int)).client (atE LL ((gg : Nat) : Int)).req ev116 (atE LL ((gg : Nat) : Int)).opl (atE LL ((gg : Nat) : Int)).ts) y83).ts)]) h273 rfl (rn_loadN rfl rfl Try.underlying47 rfl (by kernel_rfl) hk266'.all) fun a274 h274 => ?_; clear h273
      refine pw h274 rfl (op_call (args := #[.agg #[.int .i64 ((atE LL ((gg : Nat) : Int)).client), .int .i64 ((atE LL ((gg : Nat) : Int)).req), ev116, .int .u64 ((atE LL ((gg : Nat) : Int)).ts)], .agg #[.int .i64 ((adE (EntT.mk (atE LL ((gg : Nat) : Int)).client (atE LL ((gg : Nat) : Int)).req ev116 (atE LL ((gg : Nat) : Int)).opl (atE LL ((gg : Nat) : Int)).ts) y83).client), .int .i64 ((adE (EntT.mk (atE LL ((gg : Nat) : Int)).client (atE LL ((gg : Nat) : Int)).req ev116 (atE LL ((gg : Nat) : Int)).opl (atE LL ((gg : Nat) : Int)).ts) y83).req), u255, .int .u64 ((adE (EntT.mk (atE LL ((gg : Nat) : Int)).client (atE LL ((gg : Nat) : Int)).req ev116 (atE LL ((gg : Nat) : Int)).opl (atE LL ((gg : Nat) : Int)).ts) y83).ts)]]) (R := fun res xw => res = .bool ((((atE LL ((gg : Nat) : Int)).client) == (((adE (EntT.mk (atE LL ((gg : Nat) : Int)).client (atE LL ((gg : Nat) : Int)).req ev116 (atE LL ((gg : Nat) : Int)).opl (atE LL ((gg : Nat) : Int)).ts) y83).client) : Int)) && (((atE LL ((gg : Nat) : Int)).req) == (((adE (EntT.mk (atE LL ((gg : Nat) : Int)).client (atE LL ((gg : Nat) : Int)).req ev116 (atE LL ((gg : Nat) : Int)).opl (atE LL ((gg : Nat) : Int)).ts) y83).req) : Int))) ∧ Below w265.heap.size w265 xw) rfl rfl rfl (by kernel_rfl) (by kernel_rfl) (Try.call94 _ _) (itemTwins_any ((atE LL ((gg : Nat) : Int)).client) ((atE LL ((gg : Nat) : Int)).req) ev116 ((atE LL ((gg : Nat) : Int)).ts) ((adE (EntT.mk (atE LL ((gg : Nat) : Int)).client (atE LL ((gg : Nat) : Int)).req ev116 (atE LL ((gg : Nat) : Int)).opl (atE LL ((gg : Nat) : Int)).ts) y83).client) ((adE (EntT.mk (atE LL ((gg : Nat) : Int)).client (atE LL ((gg : Nat) : Int)).req ev116 (atE LL ((gg : Nat) : Int)).opl (atE LL ((gg : Nat) : Int)).ts) y83).req) u255 ((adE (EntT.mk (atE LL ((gg : Nat) : Int)).client (atE LL ((gg : Nat) : Int)).req ev116 (atE LL ((gg : Nat) : Int)).opl (atE LL ((gg : Nat) : Int)).ts) y83).ts) w265 ) (by rintro e x ⟨rfl, hb277⟩; exact ⟨_, rfl, ⟨rfl, hb277⟩⟩)) ?_; clear h274
      rintro _ w276 a275 ⟨rfl, hb277⟩ h275
      have hz278 := hb277.size
      have hO280 := TkO.gr hO162 (below_grown hb257) (fun k e => by cases e)
      have hO281 := TkO.gr hO280 hg268 (fun k e => by cases e; exact (Grew.off hx119 ho98 hk101'.lt))
      have ho279 := TkO.ofS hO281
      refine pk0 (v := .bool ((((atE LL ((gg : Nat) : Int)).client) == (((adE (EntT.mk (atE LL ((gg : Nat) : Int)).client (atE LL ((gg : Nat) : Int)).req ev116 (atE LL ((gg : Nat) : Int)).opl (atE LL ((gg : Nat) : Int)).ts) y83).client) : Int)) && (((atE LL ((gg : Nat) : Int)).req) == (((adE (EntT.mk (atE LL ((gg : Nat) : Int)).client (atE LL ((gg : Nat) : Int)).req ev116 (atE LL ((gg : Nat) : Int)).opl (atE LL ((gg : Nat) : Int)).ts) y83).req) : Int)))) h275 rfl fun a282 h282 => ?_; clear h275
      have hB284 := hb_call hB155 hb257
      have hB285 := hb_at hB284 hg268 (by omega)
      have hB286 := hb_call hB285 hb277
      have hr287 := row_kept_new hr157 (below_grown hb257)
      have hr288 := row_kept_at hr287 hg268 (ha96)
      have hr289 := row_kept_new hr288 (below_grown hb277)
      have hr290 := row_kept_new hr258 (below_grown hb257)
      have hr291 := row_kept_at hr290 hg268 (own_neT hr290 hk269 (by decide))
      have hr292 := row_kept_new hr291 (below_grown hb277)
      have hr293 := row_kept_at hr256 hg268 (own_neT hr256 hk269 (by decide))
      have hr294 := row_kept_new hr293 (below_grown hb277)
      cases hc283 : (((((atE LL ((gg : Nat) : Int)).client) == (((adE (EntT.mk (atE LL ((gg : Nat) : Int)).client (atE LL ((gg : Nat) : Int)).req ev116 (atE LL ((gg : Nat) : Int)).opl (atE LL ((gg : Nat) : Int)).ts) y83).client) : Int)) && (((atE LL ((gg : Nat) : Int)).req) == (((adE (EntT.mk (atE LL ((gg : Nat) : Int)).client (atE LL ((gg : Nat) : Int)).req ev116 (atE LL ((gg : Nat) : Int)).opl (atE LL ((gg : Nat) : Int)).ts) y83).req) : Int))))
      ·
       rw [hc283] at h282
       have hp295 : ¬ (((atE LL ((gg : Nat) : Int)).client) = ((adE (EntT.mk (atE LL ((gg : Nat) : Int)).client (atE LL ((gg : Nat) : Int)).req ev116 (atE LL ((gg : Nat) : Int)).opl (atE LL ((gg : Nat) : Int)).ts) y83).client) ∧ ((atE LL ((gg : Nat) : Int)).req) = ((adE (EntT.mk (atE LL ((gg : Nat) : Int)).client (atE LL ((gg : Nat) : Int)).req ev116 (atE LL ((gg : Nat) : Int)).opl (atE LL ((gg : Nat) : Int)).ts) y83).req)) := by first | simpa using hc283 | simpa [and_assoc] using hc283
       clear hc283
       refine psk h282 rfl fun a296 h296 => ?_; clear h282
       refine psk h296 rfl fun a297 h297 => ?_; clear h296
       refine psk h297 rfl fun a298 h298 => ?_; clear h297
       refine psk h298 rfl fun a299 h299 => ?_; clear h298
       refine psk h299 rfl fun a300 h300 => ?_; clear h299
       refine pk0 (v := .bool false) h300 rfl fun a301 h301 => ?_; clear h300
       refine pl_nil ?_
       refine co_then ?_
       refine co_false h301 rfl ?_
       refine wp_skip ?_
       refine co_then ?_
       refine co_seq ?_
       refine co_seq ?_
       refine co_reg ?_
       refine pk0 (v := pt N33 0) h301 rfl fun a302 h302 => ?_; clear h301
       refine pk0 (v := .int .i64 ((gg : Nat) : Int)) h302 rfl fun a303 h303 => ?_; clear h302
       have hk304 := hk266'.below hb277
       refine pk (v := .agg #[.int .i64 ((adE (EntT.mk (atE LL ((gg : Nat) : Int)).client (atE LL ((gg : Nat) : Int)).req ev116 (atE LL ((gg : Nat) : Int)).opl (atE LL ((gg : Nat) : Int)).ts) y83).client), .int .i64 ((adE (EntT.mk (atE LL ((gg : Nat) : Int)).client (atE LL ((gg : Nat) : Int)).req ev116 (atE LL ((gg : Nat) : Int)).opl (atE LL ((gg : Nat) : Int)).ts) y83).req), u255, .int .u64 ((adE (EntT.mk (atE LL ((gg : Nat) : Int)).client (atE LL ((gg : Nat) : Int)).req ev116 (atE LL ((gg : Nat) : Int)).opl (atE LL ((gg : Nat) : Int)).ts) y83).ts)]) h303 rfl (rn_loadN rfl rfl Try.underlying47 rfl (by kernel_rfl) hk304.all) fun a305 h305 => ?_; clear h303
       have hO309 := TkO.gr hO281 (below_grown hb277) (fun k e => by cases e)
       have ho308 := TkO.ofS hO309
       refine pw h305 rfl (op_call (args := #[pt N33 0, .int .i64 ((gg : Nat) : Int), .agg #[.int .i64 ((adE (EntT.mk (atE LL ((gg : Nat) : Int)).client (atE LL ((gg : Nat) : Int)).req ev116 (atE LL ((gg : Nat) : Int)).opl (atE LL ((gg : Nat) : Int)).ts) y83).client), .int .i64 ((adE (EntT.mk (atE LL ((gg : Nat) : Int)).client (atE LL ((gg : Nat) : Int)).req ev116 (atE LL ((gg : Nat) : Int)).opl (atE LL ((gg : Nat) : Int)).ts) y83).req), u255, .int .u64 ((adE (EntT.mk (atE LL ((gg : Nat) : Int)).client (atE LL ((gg : Nat) : Int)).req ev116 (atE LL ((gg : Nat) : Int)).opl (atE LL ((gg : Nat) : Int)).ts) y83).ts)]]) (R := fun res xw => ∃ L' : List EntT, ∃ S' : Nat → Prop, res = .int .i64 (setE LL ((gg : Nat) : Int) ((adE (EntT.mk (atE LL ((gg : Nat) : Int)).client (atE LL ((gg : Nat) : Int)).req ev116 (atE LL ((gg : Nat) : Int)).opl (atE LL ((gg : Nat) : Int)).ts) y83).client) ((adE (EntT.mk (atE LL ((gg : Nat) : Int)).client (atE LL ((gg : Nat) : Int)).req ev116 (atE LL ((gg : Nat) : Int)).opl (atE LL ((gg : Nat) : Int)).ts) y83).req) ((adE (EntT.mk (atE LL ((gg : Nat) : Int)).client (atE LL ((gg : Nat) : Int)).req ev116 (atE LL ((gg : Nat) : Int)).opl (atE LL ((gg : Nat) : Int)).ts) y83).opl) ((adE (EntT.mk (atE LL ((gg : Nat) : Int)).client (atE LL ((gg : Nat) : Int)).req ev116 (atE LL ((gg : Nat) : Int)).opl (atE LL ((gg : Nat) : Int)).ts) y83).ts)) ∧ TkO S' xw N33 L' NS ∧ (SetR LL ((gg : Nat) : Int) ((adE (EntT.mk (atE LL ((gg : Nat) : Int)).client (atE LL ((gg : Nat) : Int)).req ev116 (atE LL ((gg : Nat) : Int)).opl (atE LL ((gg : Nat) : Int)).ts) y83).client) ((adE (EntT.mk (atE LL ((gg : Nat) : Int)).client (atE LL ((gg : Nat) : Int)).req ev116 (atE LL ((gg : Nat) : Int)).opl (atE LL ((gg : Nat) : Int)).ts) y83).req) ((adE (EntT.mk (atE LL ((gg : Nat) : Int)).client (atE LL ((gg : Nat) : Int)).req ev116 (atE LL ((gg : Nat) : Int)).opl (atE LL ((gg : Nat) : Int)).ts) y83).opl) ((adE (EntT.mk (atE LL ((gg : Nat) : Int)).client (atE LL ((gg : Nat) : Int)).req ev116 (atE LL ((gg : Nat) : Int)).opl (atE LL ((gg : Nat) : Int)).ts) y83).ts) L') ∧ Grew S117 S' w276 xw) rfl rfl rfl (by kernel_rfl) (by kernel_rfl) (Try.call39 _ _) (kkSet w276 ((gg : Nat) : Int) ((adE (EntT.mk (atE LL ((gg : Nat) : Int)).client (atE LL ((gg : Nat) : Int)).req ev116 (atE LL ((gg : Nat) : Int)).opl (atE LL ((gg : Nat) : Int)).ts) y83).client) ((adE (EntT.mk (atE LL ((gg : Nat) : Int)).client (atE LL ((gg : Nat) : Int)).req ev116 (atE LL ((gg : Nat) : Int)).opl (atE LL ((gg : Nat) : Int)).ts) y83).req) u255 ((adE (EntT.mk (atE LL ((gg : Nat) : Int)).client (atE LL ((gg : Nat) : Int)).req ev116 (atE LL ((gg : Nat) : Int)).opl (atE LL ((gg : Nat) : Int)).ts) y83).opl) ((adE (EntT.mk (atE LL ((gg : Nat) : Int)).client (atE LL ((gg : Nat) : Int)).req ev116 (atE LL ((gg : Nat) : Int)).opl (atE LL ((gg : Nat) : Int)).ts) y83).ts) hO309 (row_sl hr294 opE_len) (fun _ => (offR_row ho254 hr294 (Nat.le_refl _))) hia261.len hia261.ts hia261.en) (by rintro e x ⟨L', S', h0, h⟩; exact ⟨_, h0, L', S', rfl, h⟩)) ?_; clear h305
       rintro _ w307 a306 ⟨L'310, S311, rfl, hO312, hq314, hx313⟩ h306
       have hk315 := hk272.below hb277
       have hlo317 : ∀ q, S311 q → w.heap.size ≤ q := hx313.lo hlo123 (by omega)
       have hB316 := hbL hB286 hlo123 hx313.but
       have hz318 := hB316.size
       have hz319 := hx313.but.size
       refine pk0 (v := .bool ((setE LL ((gg : Nat) : Int) ((adE (EntT.mk (atE LL ((gg : Nat) : Int)).client (atE LL ((gg : Nat) : Int)).req ev116 (atE LL ((gg : Nat) : Int)).opl (atE LL ((gg : Nat) : Int)).ts) y83).client) ((adE (EntT.mk (atE LL ((gg : Nat) : Int)).client (atE LL ((gg : Nat) : Int)).req ev116 (atE LL ((gg : Nat) : Int)).opl (atE LL ((gg : Nat) : Int)).ts) y83).req) ((adE (EntT.mk (atE LL ((gg : Nat) : Int)).client (atE LL ((gg : Nat) : Int)).req ev116 (atE LL ((gg : Nat) : Int)).opl (atE LL ((gg : Nat) : Int)).ts) y83).opl) ((adE (EntT.mk (atE LL ((gg : Nat) : Int)).client (atE LL ((gg : Nat) : Int)).req ev116 (atE LL ((gg : Nat) : Int)).opl (atE LL ((gg : Nat) : Int)).ts) y83).ts)) != 0)) h306 rfl fun a320 h320 => ?_; clear h306
       refine pl_nil ?_
       refine co_then ?_
       cases hc321 : ((setE LL ((gg : Nat) : Int) ((adE (EntT.mk (atE LL ((gg : Nat) : Int)).client (atE LL ((gg : Nat) : Int)).req ev116 (atE LL ((gg : Nat) : Int)).opl (atE LL ((gg : Nat) : Int)).ts) y83).client) ((adE (EntT.mk (atE LL ((gg : Nat) : Int)).client (atE LL ((gg : Nat) : Int)).req ev116 (atE LL ((gg : Nat) : Int)).opl (atE LL ((gg : Nat) : Int)).ts) y83).req) ((adE (EntT.mk (atE LL ((gg : Nat) : Int)).client (atE LL ((gg : Nat) : Int)).req ev116 (atE LL ((gg : Nat) : Int)).opl (atE LL ((gg : Nat) : Int)).ts) y83).opl) ((adE (EntT.mk (atE LL ((gg : Nat) : Int)).client (atE LL ((gg : Nat) : Int)).req ev116 (atE LL ((gg : Nat) : Int)).opl (atE LL ((gg : Nat) : Int)).ts) y83).ts)) != 0)
       ·
        rw [hc321] at h320
        have hp322 : ¬ ((setE LL ((gg : Nat) : Int) ((adE (EntT.mk (atE LL ((gg : Nat) : Int)).client (atE LL ((gg : Nat) : Int)).req ev116 (atE LL ((gg : Nat) : Int)).opl (atE LL ((gg : Nat) : Int)).ts) y83).client) ((adE (EntT.mk (atE LL ((gg : Nat) : Int)).client (atE LL ((gg : Nat) : Int)).req ev116 (atE LL ((gg : Nat) : Int)).opl (atE LL ((gg : Nat) : Int)).ts) y83).req) ((adE (EntT.mk (atE LL ((gg : Nat) : Int)).client (atE LL ((gg : Nat) : Int)).req ev116 (atE LL ((gg : Nat) : Int)).opl (atE LL ((gg : Nat) : Int)).ts) y83).opl) ((adE (EntT.mk (atE LL ((gg : Nat) : Int)).client (atE LL ((gg : Nat) : Int)).req ev116 (atE LL ((gg : Nat) : Int)).opl (atE LL ((gg : Nat) : Int)).ts) y83).ts)) ≠ 0) := by first | simpa using hc321 | simpa [and_assoc] using hc321
        clear hc321
        refine co_false h320 rfl ?_
        refine wp_skip ?_
        refine co_then ?_
        refine co_seq ?_
        refine co_reg ?_
        refine pk0 (v := un) h320 rfl fun a323 h323 => ?_; clear h320
        refine pk0 (v := .int .i64 ((gg : Nat) : Int)) h323 rfl fun a324 h324 => ?_; clear h323
        have hk325 := Blk.butS hk304 hx313.but (Grew.off hx119 ho98 hk101'.lt)
        refine pk (v := .agg #[.int .i64 ((adE (EntT.mk (atE LL ((gg : Nat) : Int)).client (atE LL ((gg : Nat) : Int)).req ev116 (atE LL ((gg : Nat) : Int)).opl (atE LL ((gg : Nat) : Int)).ts) y83).client), .int .i64 ((adE (EntT.mk (atE LL ((gg : Nat) : Int)).client (atE LL ((gg : Nat) : Int)).req ev116 (atE LL ((gg : Nat) : Int)).opl (atE LL ((gg : Nat) : Int)).ts) y83).req), u255, .int .u64 ((adE (EntT.mk (atE LL ((gg : Nat) : Int)).client (atE LL ((gg : Nat) : Int)).req ev116 (atE LL ((gg : Nat) : Int)).opl (atE LL ((gg : Nat) : Int)).ts) y83).ts)]) h324 rfl (rn_loadN rfl rfl Try.underlying47 rfl (by kernel_rfl) hk325.all) fun a326 h326 => ?_; clear h324
        have hr329 := own_butS hr294 hx313.but (offR_row ho254 hr294 (Nat.le_refl _))
        refine pw h326 rfl (op_call (args := #[.agg #[.int .i64 ((adE (EntT.mk (atE LL ((gg : Nat) : Int)).client (atE LL ((gg : Nat) : Int)).req ev116 (atE LL ((gg : Nat) : Int)).opl (atE LL ((gg : Nat) : Int)).ts) y83).client), .int .i64 ((adE (EntT.mk (atE LL ((gg : Nat) : Int)).client (atE LL ((gg : Nat) : Int)).req ev116 (atE LL ((gg : Nat) : Int)).opl (atE LL ((gg : Nat) : Int)).ts) y83).req), u255, .int .u64 ((adE (EntT.mk (atE LL ((gg : Nat) : Int)).client (atE LL ((gg : Nat) : Int)).req ev116 (atE LL ((gg : Nat) : Int)).opl (atE LL ((gg : Nat) : Int)).ts) y83).ts)]]) (R := fun res xw => ∃ u : Value, res = .agg #[.int .i64 ((adE (EntT.mk (atE LL ((gg : Nat) : Int)).client (atE LL ((gg : Nat) : Int)).req ev116 (atE LL ((gg : Nat) : Int)).opl (atE LL ((gg : Nat) : Int)).ts) y83).client), .int .i64 ((adE (EntT.mk (atE LL ((gg : Nat) : Int)).client (atE LL ((gg : Nat) : Int)).req ev116 (atE LL ((gg : Nat) : Int)).opl (atE LL ((gg : Nat) : Int)).ts) y83).req), u, .int .u64 ((adE (EntT.mk (atE LL ((gg : Nat) : Int)).client (atE LL ((gg : Nat) : Int)).req ev116 (atE LL ((gg : Nat) : Int)).opl (atE LL ((gg : Nat) : Int)).ts) y83).ts)] ∧ xw.ownsRow w307.heap.size 127 3 u ((adE (EntT.mk (atE LL ((gg : Nat) : Int)).client (atE LL ((gg : Nat) : Int)).req ev116 (atE LL ((gg : Nat) : Int)).opl (atE LL ((gg : Nat) : Int)).ts) y83).opl).length (((adE (EntT.mk (atE LL ((gg : Nat) : Int)).client (atE LL ((gg : Nat) : Int)).req ev116 (atE LL ((gg : Nat) : Int)).opl (atE LL ((gg : Nat) : Int)).ts) y83).opl).flatMap opE) ∧ Below w307.heap.size w307 xw) rfl rfl rfl (by kernel_rfl) (by kernel_rfl) (Try.call81 _ _) (freshEntry_any ((adE (EntT.mk (atE LL ((gg : Nat) : Int)).client (atE LL ((gg : Nat) : Int)).req ev116 (atE LL ((gg : Nat) : Int)).opl (atE LL ((gg : Nat) : Int)).ts) y83).client) ((adE (EntT.mk (atE LL ((gg : Nat) : Int)).client (atE LL ((gg : Nat) : Int)).req ev116 (atE LL ((gg : Nat) : Int)).opl (atE LL ((gg : Nat) : Int)).ts) y83).req) u255 ((adE (EntT.mk (atE LL ((gg : Nat) : Int)).client (atE LL ((gg : Nat) : Int)).req ev116 (atE LL ((gg : Nat) : Int)).opl (atE LL ((gg : Nat) : Int)).ts) y83).opl) ((adE (EntT.mk (atE LL ((gg : Nat) : Int)).client (atE LL ((gg : Nat) : Int)).req ev116 (atE LL ((gg : Nat) : Int)).opl (atE LL ((gg : Nat) : Int)).ts) y83).ts) w307 (row_sl hr329 opE_len) (by first | omega | (simp; done) | (simp; omega))) (by rintro e x ⟨u, rfl, hq331, hb332⟩; exact ⟨_, rfl, ⟨u, rfl, hq331, hb332⟩⟩)) ?_; clear h326
        rintro _ w328 a327 ⟨u330, rfl, hq331, hb332⟩ h327
        have hz333 := hb332.size
        have ho334 := TkO.ofS hO312
        have hl335 := sl_len (row_sl hq331 opE_len)
        refine pk0 (v := .agg #[.int .i64 2, .int .i64 ((gg : Nat) : Int), .int .u64 0, .int .i64 0, .slice none 0 0, .int .u64 0, .slice none 0 0, .int .i64 ((adE (EntT.mk (atE LL ((gg : Nat) : Int)).client (atE LL ((gg : Nat) : Int)).req ev116 (atE LL ((gg : Nat) : Int)).opl (atE LL ((gg : Nat) : Int)).ts) y83).client), .int .i64 ((adE (EntT.mk (atE LL ((gg : Nat) : Int)).client (atE LL ((gg : Nat) : Int)).req ev116 (atE LL ((gg : Nat) : Int)).opl (atE LL ((gg : Nat) : Int)).ts) y83).req), u330, .int .u64 ((adE (EntT.mk (atE LL ((gg : Nat) : Int)).client (atE LL ((gg : Nat) : Int)).req ev116 (atE LL ((gg : Nat) : Int)).opl (atE LL ((gg : Nat) : Int)).ts) y83).ts), .int .i64 0, .int .u64 0, .int .i64 0, .int .i64 0, .int .i64 0, .int .i64 0, .int .i64 0]) h327 rfl fun a336 h336 => ?_; clear h327
        refine pw h336 rfl (op_new (v := fun N => .slice (some ⟨N, 0, none⟩) 1 1) (T := 93) (cs := #[.int .i64 2, .int .i64 ((gg : Nat) : Int), .int .u64 0, .int .i64 0, .slice none 0 0, .int .u64 0, .slice none 0 0, .int .i64 ((adE (EntT.mk (atE LL ((gg : Nat) : Int)).client (atE LL ((gg : Nat) : Int)).req ev116 (atE LL ((gg : Nat) : Int)).opl (atE LL ((gg : Nat) : Int)).ts) y83).client), .int .i64 ((adE (EntT.mk (atE LL ((gg : Nat) : Int)).client (atE LL ((gg : Nat) : Int)).req ev116 (atE LL ((gg : Nat) : Int)).opl (atE LL ((gg : Nat) : Int)).ts) y83).req), u330, .int .u64 ((adE (EntT.mk (atE LL ((gg : Nat) : Int)).client (atE LL ((gg : Nat) : Int)).req ev116 (atE LL ((gg : Nat) : Int)).opl (atE LL ((gg : Nat) : Int)).ts) y83).ts), .int .i64 0, .int .u64 0, .int .i64 0, .int .i64 0, .int .i64 0, .int .i64 0, .int .i64 0]) (by kernel_rfl) (by kernel_rfl) (by kernel_rfl)) ?_; clear h336
        rintro _ w338 a337 ⟨N339, rfl, hN342, hz343, hk341, hg340⟩ h337
        have hr345 := own_butS hr289 hx313.but (Grew.offR hx119 hr115 hofn)
        have hr346 := row_kept_new hr345 (below_grown hb332)
        have ha344 := row_fresh hr346 hN342
        have hr348 := own_butS hr292 hx313.but (offR_row hq121 hq120 (Nat.le_refl _))
        have hr349 := row_kept_new hr348 (below_grown hb332)
        have ha347 := row_fresh hr349 hN342
        have hr351 := row_kept_new hr329 (below_grown hb332)
        have ha350 := row_fresh hr351 hN342
        have ha352 := row_fresh hq331 hN342
        have hz353 := hg340.size
        have hO355 := TkO.gr hO312 (below_grown hb332) (fun k e => by cases e)
        have ho354 := off_new (TkO.ofS hO355) hN342
        try dsimp only at h337
        have hr362 := row_kept_new hr346 hg340
        have hr363 := row_kept_new hq331 hg340
        refine pw h337 rfl (op_appendF rfl w.heap.size 93 (z := .agg #[.int .i64 0, .int .i64 0, .int .u64 0, .int .i64 0, .slice none 0 0, .int .u64 0, .slice none 0 0, .int .i64 0, .int .i64 0, .slice none 0 0, .int .u64 0, .int .i64 0, .int .u64 0, .int .i64 0, .int .i64 0, .int .i64 0, .int .i64 0, .int .i64 0]) (size := 18) (bytes := 192) Try.underlying72 (by kernel_rfl) rfl rfl rfl hr362 rfl hk341 rfl (all_cons rfl (all_cons rfl (all_cons rfl (all_cons rfl (all_cons rfl (all_cons rfl (all_cons rfl (all_cons rfl (all_cons rfl (all_cons (row_one hr363) (all_cons rfl (all_cons rfl (all_cons rfl (all_cons rfl (all_cons rfl (all_cons rfl (all_cons rfl (all_cons rfl all_nil)))))))))))))))))) (by first | omega | (simp only [List.length_nil, List.length_append, List.length_cons, List.length_take, List.length_drop]; omega)) (by first | omega | (simp only [List.length_nil, List.length_append, List.length_cons, List.length_take, List.length_drop]; omega)) (by omega)) ?_; clear h337
        rintro v358 w357 a356 ⟨hr359, hwt361, hg360⟩ h356
        have hr359' : w357.ownsRow w.heap.size 93 18 v358 ((NS ++ [(NtT.mk ((gg : Nat) : Int) (EntT.mk ((adE (EntT.mk (atE LL ((gg : Nat) : Int)).client (atE LL ((gg : Nat) : Int)).req ev116 (atE LL ((gg : Nat) : Int)).opl (atE LL ((gg : Nat) : Int)).ts) y83).client) ((adE (EntT.mk (atE LL ((gg : Nat) : Int)).client (atE LL ((gg : Nat) : Int)).req ev116 (atE LL ((gg : Nat) : Int)).opl (atE LL ((gg : Nat) : Int)).ts) y83).req) u330 ((adE (EntT.mk (atE LL ((gg : Nat) : Int)).client (atE LL ((gg : Nat) : Int)).req ev116 (atE LL ((gg : Nat) : Int)).opl (atE LL ((gg : Nat) : Int)).ts) y83).opl) ((adE (EntT.mk (atE LL ((gg : Nat) : Int)).client (atE LL ((gg : Nat) : Int)).req ev116 (atE LL ((gg : Nat) : Int)).opl (atE LL ((gg : Nat) : Int)).ts) y83).ts)))]).length) ((NS ++ [(NtT.mk ((gg : Nat) : Int) (EntT.mk ((adE (EntT.mk (atE LL ((gg : Nat) : Int)).client (atE LL ((gg : Nat) : Int)).req ev116 (atE LL ((gg : Nat) : Int)).opl (atE LL ((gg : Nat) : Int)).ts) y83).client) ((adE (EntT.mk (atE LL ((gg : Nat) : Int)).client (atE LL ((gg : Nat) : Int)).req ev116 (atE LL ((gg : Nat) : Int)).opl (atE LL ((gg : Nat) : Int)).ts) y83).req) u330 ((adE (EntT.mk (atE LL ((gg : Nat) : Int)).client (atE LL ((gg : Nat) : Int)).req ev116 (atE LL ((gg : Nat) : Int)).opl (atE LL ((gg : Nat) : Int)).ts) y83).opl) ((adE (EntT.mk (atE LL ((gg : Nat) : Int)).client (atE LL ((gg : Nat) : Int)).req ev116 (atE LL ((gg : Nat) : Int)).opl (atE LL ((gg : Nat) : Int)).ts) y83).ts)))]).flatMap ntE) := row_push (y := (NtT.mk ((gg : Nat) : Int) (EntT.mk ((adE (EntT.mk (atE LL ((gg : Nat) : Int)).client (atE LL ((gg : Nat) : Int)).req ev116 (atE LL ((gg : Nat) : Int)).opl (atE LL ((gg : Nat) : Int)).ts) y83).client) ((adE (EntT.mk (atE LL ((gg : Nat) : Int)).client (atE LL ((gg : Nat) : Int)).req ev116 (atE LL ((gg : Nat) : Int)).opl (atE LL ((gg : Nat) : Int)).ts) y83).req) u330 ((adE (EntT.mk (atE LL ((gg : Nat) : Int)).client (atE LL ((gg : Nat) : Int)).req ev116 (atE LL ((gg : Nat) : Int)).opl (atE LL ((gg : Nat) : Int)).ts) y83).opl) ((adE (EntT.mk (atE LL ((gg : Nat) : Int)).client (atE LL ((gg : Nat) : Int)).req ev116 (atE LL ((gg : Nat) : Int)).opl (atE LL ((gg : Nat) : Int)).ts) y83).ts)))) hr359 rfl rfl; clear hr359
        have hB366 := hb_call hB316 hb332
        have hB367 := hb_new hB366 hg340
        have hk368 := Blk.butS hk315 hx313.but ho143
        have hk369 := hk368.below hb332
        have hk370 := hk369.kept hg340 (by simp)
        have hk371 := hk325.below hb332
        have hk372 := hk371.kept hg340 (by simp)
        have hO373 := TkO.gr hO355 hg340 (fun k e => by cases e)
        have ho365 := TkO.ofS hO373
        have ho364 := offR_went (Grew.offR hx313 hr289 (Grew.offR hx119 hr115 hofn)) ho365 hwt361
        have hz374 := hg360.size
        have hr379 := row_kept_row hr363 hr362 hg360 (by decide)
        have hEz : EntK (fun _ => False) 0 w357 ((NtT.mk ((gg : Nat) : Int) (EntT.mk ((adE (EntT.mk (atE LL ((gg : Nat) : Int)).client (atE LL ((gg : Nat) : Int)).req ev116 (atE LL ((gg : Nat) : Int)).opl (atE LL ((gg : Nat) : Int)).ts) y83).client) ((adE (EntT.mk (atE LL ((gg : Nat) : Int)).client (atE LL ((gg : Nat) : Int)).req ev116 (atE LL ((gg : Nat) : Int)).opl (atE LL ((gg : Nat) : Int)).ts) y83).req) u330 ((adE (EntT.mk (atE LL ((gg : Nat) : Int)).client (atE LL ((gg : Nat) : Int)).req ev116 (atE LL ((gg : Nat) : Int)).opl (atE LL ((gg : Nat) : Int)).ts) y83).opl) ((adE (EntT.mk (atE LL ((gg : Nat) : Int)).client (atE LL ((gg : Nat) : Int)).req ev116 (atE LL ((gg : Nat) : Int)).opl (atE LL ((gg : Nat) : Int)).ts) y83).ts)))).e := ⟨row_lows hr379 (Nat.zero_le _), InS.low hr379 (Nat.zero_le _), hia261.len, hia261.en.1, hia261.ts.1, hia261.ts.2, hia261.en.2.1, hia261.en.2.2⟩
        have hO380 := TkO.gr hO373 hg360 (fun k e => (Grew.offR hx313 hr289 (Grew.offR hx119 hr115 hofn)) k e)
        have hNS := hO380
        have hofz : ∀ i, Value.ownBlock u330 = some i → ¬ S311 i := (offR_row ho334 hr379 (Nat.le_refl _))
        obtain ⟨S375, hO376, hx377⟩ : ∃ S2 : Nat → Prop, TkO S2 w357 N33 L'310 (NS ++ [(NtT.mk ((gg : Nat) : Int) (EntT.mk ((adE (EntT.mk (atE LL ((gg : Nat) : Int)).client (atE LL ((gg : Nat) : Int)).req ev116 (atE LL ((gg : Nat) : Int)).opl (atE LL ((gg : Nat) : Int)).ts) y83).client) ((adE (EntT.mk (atE LL ((gg : Nat) : Int)).client (atE LL ((gg : Nat) : Int)).req ev116 (atE LL ((gg : Nat) : Int)).opl (atE LL ((gg : Nat) : Int)).ts) y83).req) u330 ((adE (EntT.mk (atE LL ((gg : Nat) : Int)).client (atE LL ((gg : Nat) : Int)).req ev116 (atE LL ((gg : Nat) : Int)).opl (atE LL ((gg : Nat) : Int)).ts) y83).opl) ((adE (EntT.mk (atE LL ((gg : Nat) : Int)).client (atE LL ((gg : Nat) : Int)).req ev116 (atE LL ((gg : Nat) : Int)).opl (atE LL ((gg : Nat) : Int)).ts) y83).ts)))]) ∧ ∀ q, S2 q → S311 q ∨ Value.ownBlock u330 = some q := ⟨_, TkO.push (z := (NtT.mk ((gg : Nat) : Int) (EntT.mk ((adE (EntT.mk (atE LL ((gg : Nat) : Int)).client (atE LL ((gg : Nat) : Int)).req ev116 (atE LL ((gg : Nat) : Int)).opl (atE LL ((gg : Nat) : Int)).ts) y83).client) ((adE (EntT.mk (atE LL ((gg : Nat) : Int)).client (atE LL ((gg : Nat) : Int)).req ev116 (atE LL ((gg : Nat) : Int)).opl (atE LL ((gg : Nat) : Int)).ts) y83).req) u330 ((adE (EntT.mk (atE LL ((gg : Nat) : Int)).client (atE LL ((gg : Nat) : Int)).req ev116 (atE LL ((gg : Nat) : Int)).opl (atE LL ((gg : Nat) : Int)).ts) y83).opl) ((adE (EntT.mk (atE LL ((gg : Nat) : Int)).client (atE LL ((gg : Nat) : Int)).req ev116 (atE LL ((gg : Nat) : Int)).opl (atE LL ((gg : Nat) : Int)).ts) y83).ts)))) hNS hEz hofz, fun q hq => hq⟩
        have hlo378 : ∀ q, S375 q → w.heap.size ≤ q := fun q hq => by rcases hx377 q hq with k | k; exact hlo317 q k; have := (hr379.lt q k).1; omega
        have hon : ∀ i, Value.ownBlock v358 = some i → ¬ S375 i := fun i hi hq => by rcases hx377 i hq with k | k; exact ho364 i hi k; exact rows_ne hr359' hr379 (by decide) i hi k
        refine pk0 (v := v358) h356 rfl fun a381 h381 => ?_; clear h356
        refine pl_nil ?_
        refine co_then ?_
        refine co_reg ?_
        refine pk0 (v := .int .i64 ((gg : Nat) : Int)) h381 rfl fun a382 h382 => ?_; clear h381
        refine pk (v := .int .i64 ((gg + 1 : Nat) : Int)) h382 rfl (rn_arith' rfl rfl rfl rfl rfl rfl (IntWalk.i64_in _ (by omega)) (by omega)) fun a383 h383 => ?_; clear h382
        refine pk0 (v := .int .i64 ((gg + 1 : Nat) : Int)) h383 rfl fun a384 h384 => ?_; clear h383
        refine pl_nil ?_
        refine co_blockN ?_
        refine co_then ?_
        refine co_reg ?_
        refine pk (v := .int .i64 ((k + 1 : Nat) : Int)) h384 rfl (rn_arith' rfl rfl rfl rfl rfl rfl (IntWalk.i64_in _ (by omega)) (by omega)) fun a385 h385 => ?_; clear h384
        refine pk0 (v := .int .i64 ((k + 1 : Nat) : Int)) h385 rfl fun a386 h386 => ?_; clear h385
        refine pl_nil ?_
        refine co_then ?_
        refine ⟨(l2.length - (k + 1)), by omega, ?_⟩
        have hll := hlo378
        have hof9 : ∀ i, Value.ownBlock v358 = some i → ¬ S375 i := hon
        obtain ⟨z9, hz9, hxe, hz1⟩ := ad_one (v := ev116) (y := y83) (L := LL) (gg := gg) (by assumption)
        have hns := ad_new (v := ev116) (y := y83) (L := LL) (gg := gg) (by assumption) (fun hq => by first | exact absurd hq.1 (by assumption) | exact absurd hq.2 (by assumption) | omega)
        have hTn := hTk.set' (v := u330) hy83 (by omega) hns hxe (by omega) hq314
        have hn9 : ∀ z ∈ NS ++ [(NtT.mk ((gg : Nat) : Int) (EntT.mk ((adE (EntT.mk (atE LL ((gg : Nat) : Int)).client (atE LL ((gg : Nat) : Int)).req ev116 (atE LL ((gg : Nat) : Int)).opl (atE LL ((gg : Nat) : Int)).ts) y83).client) ((adE (EntT.mk (atE LL ((gg : Nat) : Int)).client (atE LL ((gg : Nat) : Int)).req ev116 (atE LL ((gg : Nat) : Int)).opl (atE LL ((gg : Nat) : Int)).ts) y83).req) u330 ((adE (EntT.mk (atE LL ((gg : Nat) : Int)).client (atE LL ((gg : Nat) : Int)).req ev116 (atE LL ((gg : Nat) : Int)).opl (atE LL ((gg : Nat) : Int)).ts) y83).opl) ((adE (EntT.mk (atE LL ((gg : Nat) : Int)).client (atE LL ((gg : Nat) : Int)).req ev116 (atE LL ((gg : Nat) : Int)).opl (atE LL ((gg : Nat) : Int)).ts) y83).ts)))], 0 ≤ z.n := fun z hz => by rcases List.mem_append.1 hz with q | q; exact hn0 z q; simp at q; subst q; show (0 : Int) ≤ ((gg : Nat) : Int); omega
        have hB387 := hb_row hB367 hr362 (by omega) hg360
        exact ⟨k + 1, (gg + 1), v358, (NS ++ [(NtT.mk ((gg : Nat) : Int) (EntT.mk ((adE (EntT.mk (atE LL ((gg : Nat) : Int)).client (atE LL ((gg : Nat) : Int)).req ev116 (atE LL ((gg : Nat) : Int)).opl (atE LL ((gg : Nat) : Int)).ts) y83).client) ((adE (EntT.mk (atE LL ((gg : Nat) : Int)).client (atE LL ((gg : Nat) : Int)).req ev116 (atE LL ((gg : Nat) : Int)).opl (atE LL ((gg : Nat) : Int)).ts) y83).req) u330 ((adE (EntT.mk (atE LL ((gg : Nat) : Int)).client (atE LL ((gg : Nat) : Int)).req ev116 (atE LL ((gg : Nat) : Int)).opl (atE LL ((gg : Nat) : Int)).ts) y83).opl) ((adE (EntT.mk (atE LL ((gg : Nat) : Int)).client (atE LL ((gg : Nat) : Int)).req ev116 (atE LL ((gg : Nat) : Int)).opl (atE LL ((gg : Nat) : Int)).ts) y83).ts)))]), L'310, S375, h386.sub ⟨rfl, rfl, rfl, rfl, rfl, rfl, rfl, rfl, trivial⟩, rfl, by omega, by omega, by first | omega | (simp; omega) | simp, by exact hll, by exact hTn, by exact hn9, by exact hof9, hO376, (row_eq hr359' (rfl)), hB387⟩
       ·
        rw [hc321] at h320
        have hp388 : (setE LL ((gg : Nat) : Int) ((adE (EntT.mk (atE LL ((gg : Nat) : Int)).client (atE LL ((gg : Nat) : Int)).req ev116 (atE LL ((gg : Nat) : Int)).opl (atE LL ((gg : Nat) : Int)).ts) y83).client) ((adE (EntT.mk (atE LL ((gg : Nat) : Int)).client (atE LL ((gg : Nat) : Int)).req ev116 (atE LL ((gg : Nat) : Int)).opl (atE LL ((gg : Nat) : Int)).ts) y83).req) ((adE (EntT.mk (atE LL ((gg : Nat) : Int)).client (atE LL ((gg : Nat) : Int)).req ev116 (atE LL ((gg : Nat) : Int)).opl (atE LL ((gg : Nat) : Int)).ts) y83).opl) ((adE (EntT.mk (atE LL ((gg : Nat) : Int)).client (atE LL ((gg : Nat) : Int)).req ev116 (atE LL ((gg : Nat) : Int)).opl (atE LL ((gg : Nat) : Int)).ts) y83).ts)) ≠ 0 := by first | simpa using hc321 | simpa [and_assoc] using hc321
        clear hc321
        refine co_true h320 rfl ?_
        refine wp_exit ?_
        refine co_thenX ?_
        refine co_blockY (by decide) ?_
        refine co_thenX ?_
        refine co_thenX ?_
        refine co_blockX ?_
        refine co_then ?_
        refine co_seq ?_
        refine co_reg ?_
        refine pk0 (v := un) h320 rfl fun a389 h389 => ?_; clear h320
        refine pk0 (v := .int .i64 ((gg : Nat) : Int)) h389 rfl fun a390 h390 => ?_; clear h389
        refine pk0 (v := un) h390 rfl fun a391 h391 => ?_; clear h390
        refine pk0 (v := .int .i64 ((gg : Nat) : Int)) h391 rfl fun a392 h392 => ?_; clear h391
        refine pl_nil ?_
        refine co_then ?_
        refine wp_ret ?_
        refine co_scopeR ?_
        refine co_ret2 h392 rfl rfl rfl ?_
        have hr393 := own_butS hr289 hx313.but (Grew.offR hx119 hr115 hofn)
        obtain ⟨z9, hz9, hxe, hz1⟩ := ad_one (v := ev116) (y := y83) (L := LL) (gg := gg) (by assumption)
        have hns := ad_new (v := ev116) (y := y83) (L := LL) (gg := gg) (by assumption) (fun hq => by first | exact absurd hq.1 (by assumption) | exact absurd hq.2 (by assumption) | omega)
        have hT := hTk.stop' hy83 (by omega) hns hxe (by omega)
        exact ⟨NS, _, by rw [hT], (row_lows hr393 (by omega)), TkO.got hO312, hn0, by rw [hT], hB316⟩
      ·
       rw [hc283] at h282
       have hp394 : ((atE LL ((gg : Nat) : Int)).client) = ((adE (EntT.mk (atE LL ((gg : Nat) : Int)).client (atE LL ((gg : Nat) : Int)).req ev116 (atE LL ((gg : Nat) : Int)).opl (atE LL ((gg : Nat) : Int)).ts) y83).client) ∧ ((atE LL ((gg : Nat) : Int)).req) = ((adE (EntT.mk (atE LL ((gg : Nat) : Int)).client (atE LL ((gg : Nat) : Int)).req ev116 (atE LL ((gg : Nat) : Int)).opl (atE LL ((gg : Nat) : Int)).ts) y83).req) := by first | simpa using hc283 | simpa [and_assoc] using hc283
       clear hc283
       refine pk0 (v := pt N134 3) h282 rfl fun a395 h395 => ?_; clear h282
       have hk396 := hk272.below hb277
       refine pk (v := .int .u64 ((atE LL ((gg : Nat) : Int)).ts)) h395 rfl (rn_load1 rfl rfl Try.isAgg45 (hk396.cell rfl)) fun a397 h397 => ?_; clear h395
       refine pk0 (v := pt N91 3) h397 rfl fun a398 h398 => ?_; clear h397
       have hk399 := hk266'.below hb277
       refine pk (v := .int .u64 ((adE (EntT.mk (atE LL ((gg : Nat) : Int)).client (atE LL ((gg : Nat) : Int)).req ev116 (atE LL ((gg : Nat) : Int)).opl (atE LL ((gg : Nat) : Int)).ts) y83).ts)) h398 rfl (rn_load1 rfl rfl Try.isAgg45 (hk399.cell rfl)) fun a400 h400 => ?_; clear h398
       refine pk0 (v := .bool ((atE LL ((gg : Nat) : Int)).ts == (adE (EntT.mk (atE LL ((gg : Nat) : Int)).client (atE LL ((gg : Nat) : Int)).req ev116 (atE LL ((gg : Nat) : Int)).opl (atE LL ((gg : Nat) : Int)).ts) y83).ts)) h400 rfl fun a401 h401 => ?_; clear h400
       refine pk0 (v := .bool ((atE LL ((gg : Nat) : Int)).ts == (adE (EntT.mk (atE LL ((gg : Nat) : Int)).client (atE LL ((gg : Nat) : Int)).req ev116 (atE LL ((gg : Nat) : Int)).opl (atE LL ((gg : Nat) : Int)).ts) y83).ts)) h401 rfl fun a402 h402 => ?_; clear h401
       refine pl_nil ?_
       refine co_then ?_
       cases hc403 : ((atE LL ((gg : Nat) : Int)).ts == (adE (EntT.mk (atE LL ((gg : Nat) : Int)).client (atE LL ((gg : Nat) : Int)).req ev116 (atE LL ((gg : Nat) : Int)).opl (atE LL ((gg : Nat) : Int)).ts) y83).ts)
       ·
        rw [hc403] at h402
        have hp404 : ¬ ((atE LL ((gg : Nat) : Int)).ts = (adE (EntT.mk (atE LL ((gg : Nat) : Int)).client (atE LL ((gg : Nat) : Int)).req ev116 (atE LL ((gg : Nat) : Int)).opl (atE LL ((gg : Nat) : Int)).ts) y83).ts) := by first | simpa using hc403 | simpa [and_assoc] using hc403
        clear hc403
        refine co_false h402 rfl ?_
        refine wp_skip ?_
        refine co_then ?_
        refine co_seq ?_
        refine co_seq ?_
        refine co_reg ?_
        refine pk0 (v := pt N33 0) h402 rfl fun a405 h405 => ?_; clear h402
        refine pk0 (v := .int .i64 ((gg : Nat) : Int)) h405 rfl fun a406 h406 => ?_; clear h405
        refine pk (v := .agg #[.int .i64 ((adE (EntT.mk (atE LL ((gg : Nat) : Int)).client (atE LL ((gg : Nat) : Int)).req ev116 (atE LL ((gg : Nat) : Int)).opl (atE LL ((gg : Nat) : Int)).ts) y83).client), .int .i64 ((adE (EntT.mk (atE LL ((gg : Nat) : Int)).client (atE LL ((gg : Nat) : Int)).req ev116 (atE LL ((gg : Nat) : Int)).opl (atE LL ((gg : Nat) : Int)).ts) y83).req), u255, .int .u64 ((adE (EntT.mk (atE LL ((gg : Nat) : Int)).client (atE LL ((gg : Nat) : Int)).req ev116 (atE LL ((gg : Nat) : Int)).opl (atE LL ((gg : Nat) : Int)).ts) y83).ts)]) h406 rfl (rn_loadN rfl rfl Try.underlying47 rfl (by kernel_rfl) hk399.all) fun a407 h407 => ?_; clear h406
        have hO411 := TkO.gr hO281 (below_grown hb277) (fun k e => by cases e)
        have ho410 := TkO.ofS hO411
        refine pw h407 rfl (op_call (args := #[pt N33 0, .int .i64 ((gg : Nat) : Int), .agg #[.int .i64 ((adE (EntT.mk (atE LL ((gg : Nat) : Int)).client (atE LL ((gg : Nat) : Int)).req ev116 (atE LL ((gg : Nat) : Int)).opl (atE LL ((gg : Nat) : Int)).ts) y83).client), .int .i64 ((adE (EntT.mk (atE LL ((gg : Nat) : Int)).client (atE LL ((gg : Nat) : Int)).req ev116 (atE LL ((gg : Nat) : Int)).opl (atE LL ((gg : Nat) : Int)).ts) y83).req), u255, .int .u64 ((adE (EntT.mk (atE LL ((gg : Nat) : Int)).client (atE LL ((gg : Nat) : Int)).req ev116 (atE LL ((gg : Nat) : Int)).opl (atE LL ((gg : Nat) : Int)).ts) y83).ts)]]) (R := fun res xw => ∃ L' : List EntT, ∃ S' : Nat → Prop, res = .int .i64 (setE LL ((gg : Nat) : Int) ((adE (EntT.mk (atE LL ((gg : Nat) : Int)).client (atE LL ((gg : Nat) : Int)).req ev116 (atE LL ((gg : Nat) : Int)).opl (atE LL ((gg : Nat) : Int)).ts) y83).client) ((adE (EntT.mk (atE LL ((gg : Nat) : Int)).client (atE LL ((gg : Nat) : Int)).req ev116 (atE LL ((gg : Nat) : Int)).opl (atE LL ((gg : Nat) : Int)).ts) y83).req) ((adE (EntT.mk (atE LL ((gg : Nat) : Int)).client (atE LL ((gg : Nat) : Int)).req ev116 (atE LL ((gg : Nat) : Int)).opl (atE LL ((gg : Nat) : Int)).ts) y83).opl) ((adE (EntT.mk (atE LL ((gg : Nat) : Int)).client (atE LL ((gg : Nat) : Int)).req ev116 (atE LL ((gg : Nat) : Int)).opl (atE LL ((gg : Nat) : Int)).ts) y83).ts)) ∧ TkO S' xw N33 L' NS ∧ (SetR LL ((gg : Nat) : Int) ((adE (EntT.mk (atE LL ((gg : Nat) : Int)).client (atE LL ((gg : Nat) : Int)).req ev116 (atE LL ((gg : Nat) : Int)).opl (atE LL ((gg : Nat) : Int)).ts) y83).client) ((adE (EntT.mk (atE LL ((gg : Nat) : Int)).client (atE LL ((gg : Nat) : Int)).req ev116 (atE LL ((gg : Nat) : Int)).opl (atE LL ((gg : Nat) : Int)).ts) y83).req) ((adE (EntT.mk (atE LL ((gg : Nat) : Int)).client (atE LL ((gg : Nat) : Int)).req ev116 (atE LL ((gg : Nat) : Int)).opl (atE LL ((gg : Nat) : Int)).ts) y83).opl) ((adE (EntT.mk (atE LL ((gg : Nat) : Int)).client (atE LL ((gg : Nat) : Int)).req ev116 (atE LL ((gg : Nat) : Int)).opl (atE LL ((gg : Nat) : Int)).ts) y83).ts) L') ∧ Grew S117 S' w276 xw) rfl rfl rfl (by kernel_rfl) (by kernel_rfl) (Try.call39 _ _) (kkSet w276 ((gg : Nat) : Int) ((adE (EntT.mk (atE LL ((gg : Nat) : Int)).client (atE LL ((gg : Nat) : Int)).req ev116 (atE LL ((gg : Nat) : Int)).opl (atE LL ((gg : Nat) : Int)).ts) y83).client) ((adE (EntT.mk (atE LL ((gg : Nat) : Int)).client (atE LL ((gg : Nat) : Int)).req ev116 (atE LL ((gg : Nat) : Int)).opl (atE LL ((gg : Nat) : Int)).ts) y83).req) u255 ((adE (EntT.mk (atE LL ((gg : Nat) : Int)).client (atE LL ((gg : Nat) : Int)).req ev116 (atE LL ((gg : Nat) : Int)).opl (atE LL ((gg : Nat) : Int)).ts) y83).opl) ((adE (EntT.mk (atE LL ((gg : Nat) : Int)).client (atE LL ((gg : Nat) : Int)).req ev116 (atE LL ((gg : Nat) : Int)).opl (atE LL ((gg : Nat) : Int)).ts) y83).ts) hO411 (row_sl hr294 opE_len) (fun _ => (offR_row ho254 hr294 (Nat.le_refl _))) hia261.len hia261.ts hia261.en) (by rintro e x ⟨L', S', h0, h⟩; exact ⟨_, h0, L', S', rfl, h⟩)) ?_; clear h407
        rintro _ w409 a408 ⟨L'412, S413, rfl, hO414, hq416, hx415⟩ h408
        have hlo418 : ∀ q, S413 q → w.heap.size ≤ q := hx415.lo hlo123 (by omega)
        have hB417 := hbL hB286 hlo123 hx415.but
        have hz419 := hB417.size
        have hz420 := hx415.but.size
        refine pk0 (v := .bool ((setE LL ((gg : Nat) : Int) ((adE (EntT.mk (atE LL ((gg : Nat) : Int)).client (atE LL ((gg : Nat) : Int)).req ev116 (atE LL ((gg : Nat) : Int)).opl (atE LL ((gg : Nat) : Int)).ts) y83).client) ((adE (EntT.mk (atE LL ((gg : Nat) : Int)).client (atE LL ((gg : Nat) : Int)).req ev116 (atE LL ((gg : Nat) : Int)).opl (atE LL ((gg : Nat) : Int)).ts) y83).req) ((adE (EntT.mk (atE LL ((gg : Nat) : Int)).client (atE LL ((gg : Nat) : Int)).req ev116 (atE LL ((gg : Nat) : Int)).opl (atE LL ((gg : Nat) : Int)).ts) y83).opl) ((adE (EntT.mk (atE LL ((gg : Nat) : Int)).client (atE LL ((gg : Nat) : Int)).req ev116 (atE LL ((gg : Nat) : Int)).opl (atE LL ((gg : Nat) : Int)).ts) y83).ts)) != 0)) h408 rfl fun a421 h421 => ?_; clear h408
        refine pl_nil ?_
        refine co_then ?_
        cases hc422 : ((setE LL ((gg : Nat) : Int) ((adE (EntT.mk (atE LL ((gg : Nat) : Int)).client (atE LL ((gg : Nat) : Int)).req ev116 (atE LL ((gg : Nat) : Int)).opl (atE LL ((gg : Nat) : Int)).ts) y83).client) ((adE (EntT.mk (atE LL ((gg : Nat) : Int)).client (atE LL ((gg : Nat) : Int)).req ev116 (atE LL ((gg : Nat) : Int)).opl (atE LL ((gg : Nat) : Int)).ts) y83).req) ((adE (EntT.mk (atE LL ((gg : Nat) : Int)).client (atE LL ((gg : Nat) : Int)).req ev116 (atE LL ((gg : Nat) : Int)).opl (atE LL ((gg : Nat) : Int)).ts) y83).opl) ((adE (EntT.mk (atE LL ((gg : Nat) : Int)).client (atE LL ((gg : Nat) : Int)).req ev116 (atE LL ((gg : Nat) : Int)).opl (atE LL ((gg : Nat) : Int)).ts) y83).ts)) != 0)
        ·
         rw [hc422] at h421
         have hp423 : ¬ ((setE LL ((gg : Nat) : Int) ((adE (EntT.mk (atE LL ((gg : Nat) : Int)).client (atE LL ((gg : Nat) : Int)).req ev116 (atE LL ((gg : Nat) : Int)).opl (atE LL ((gg : Nat) : Int)).ts) y83).client) ((adE (EntT.mk (atE LL ((gg : Nat) : Int)).client (atE LL ((gg : Nat) : Int)).req ev116 (atE LL ((gg : Nat) : Int)).opl (atE LL ((gg : Nat) : Int)).ts) y83).req) ((adE (EntT.mk (atE LL ((gg : Nat) : Int)).client (atE LL ((gg : Nat) : Int)).req ev116 (atE LL ((gg : Nat) : Int)).opl (atE LL ((gg : Nat) : Int)).ts) y83).opl) ((adE (EntT.mk (atE LL ((gg : Nat) : Int)).client (atE LL ((gg : Nat) : Int)).req ev116 (atE LL ((gg : Nat) : Int)).opl (atE LL ((gg : Nat) : Int)).ts) y83).ts)) ≠ 0) := by first | simpa using hc422 | simpa [and_assoc] using hc422
         clear hc422
         refine co_false h421 rfl ?_
         refine wp_skip ?_
         refine co_then ?_
         refine co_seq ?_
         refine co_reg ?_
         refine pk0 (v := un) h421 rfl fun a424 h424 => ?_; clear h421
         refine pk0 (v := .int .i64 ((gg : Nat) : Int)) h424 rfl fun a425 h425 => ?_; clear h424
         have hk426 := Blk.butS hk399 hx415.but (Grew.off hx119 ho98 hk101'.lt)
         refine pk (v := .agg #[.int .i64 ((adE (EntT.mk (atE LL ((gg : Nat) : Int)).client (atE LL ((gg : Nat) : Int)).req ev116 (atE LL ((gg : Nat) : Int)).opl (atE LL ((gg : Nat) : Int)).ts) y83).client), .int .i64 ((adE (EntT.mk (atE LL ((gg : Nat) : Int)).client (atE LL ((gg : Nat) : Int)).req ev116 (atE LL ((gg : Nat) : Int)).opl (atE LL ((gg : Nat) : Int)).ts) y83).req), u255, .int .u64 ((adE (EntT.mk (atE LL ((gg : Nat) : Int)).client (atE LL ((gg : Nat) : Int)).req ev116 (atE LL ((gg : Nat) : Int)).opl (atE LL ((gg : Nat) : Int)).ts) y83).ts)]) h425 rfl (rn_loadN rfl rfl Try.underlying47 rfl (by kernel_rfl) hk426.all) fun a427 h427 => ?_; clear h425
         have hr430 := own_butS hr294 hx415.but (offR_row ho254 hr294 (Nat.le_refl _))
         refine pw h427 rfl (op_call (args := #[.agg #[.int .i64 ((adE (EntT.mk (atE LL ((gg : Nat) : Int)).client (atE LL ((gg : Nat) : Int)).req ev116 (atE LL ((gg : Nat) : Int)).opl (atE LL ((gg : Nat) : Int)).ts) y83).client), .int .i64 ((adE (EntT.mk (atE LL ((gg : Nat) : Int)).client (atE LL ((gg : Nat) : Int)).req ev116 (atE LL ((gg : Nat) : Int)).opl (atE LL ((gg : Nat) : Int)).ts) y83).req), u255, .int .u64 ((adE (EntT.mk (atE LL ((gg : Nat) : Int)).client (atE LL ((gg : Nat) : Int)).req ev116 (atE LL ((gg : Nat) : Int)).opl (atE LL ((gg : Nat) : Int)).ts) y83).ts)]]) (R := fun res xw => ∃ u : Value, res = .agg #[.int .i64 ((adE (EntT.mk (atE LL ((gg : Nat) : Int)).client (atE LL ((gg : Nat) : Int)).req ev116 (atE LL ((gg : Nat) : Int)).opl (atE LL ((gg : Nat) : Int)).ts) y83).client), .int .i64 ((adE (EntT.mk (atE LL ((gg : Nat) : Int)).client (atE LL ((gg : Nat) : Int)).req ev116 (atE LL ((gg : Nat) : Int)).opl (atE LL ((gg : Nat) : Int)).ts) y83).req), u, .int .u64 ((adE (EntT.mk (atE LL ((gg : Nat) : Int)).client (atE LL ((gg : Nat) : Int)).req ev116 (atE LL ((gg : Nat) : Int)).opl (atE LL ((gg : Nat) : Int)).ts) y83).ts)] ∧ xw.ownsRow w409.heap.size 127 3 u ((adE (EntT.mk (atE LL ((gg : Nat) : Int)).client (atE LL ((gg : Nat) : Int)).req ev116 (atE LL ((gg : Nat) : Int)).opl (atE LL ((gg : Nat) : Int)).ts) y83).opl).length (((adE (EntT.mk (atE LL ((gg : Nat) : Int)).client (atE LL ((gg : Nat) : Int)).req ev116 (atE LL ((gg : Nat) : Int)).opl (atE LL ((gg : Nat) : Int)).ts) y83).opl).flatMap opE) ∧ Below w409.heap.size w409 xw) rfl rfl rfl (by kernel_rfl) (by kernel_rfl) (Try.call81 _ _) (freshEntry_any ((adE (EntT.mk (atE LL ((gg : Nat) : Int)).client (atE LL ((gg : Nat) : Int)).req ev116 (atE LL ((gg : Nat) : Int)).opl (atE LL ((gg : Nat) : Int)).ts) y83).client) ((adE (EntT.mk (atE LL ((gg : Nat) : Int)).client (atE LL ((gg : Nat) : Int)).req ev116 (atE LL ((gg : Nat) : Int)).opl (atE LL ((gg : Nat) : Int)).ts) y83).req) u255 ((adE (EntT.mk (atE LL ((gg : Nat) : Int)).client (atE LL ((gg : Nat) : Int)).req ev116 (atE LL ((gg : Nat) : Int)).opl (atE LL ((gg : Nat) : Int)).ts) y83).opl) ((adE (EntT.mk (atE LL ((gg : Nat) : Int)).client (atE LL ((gg : Nat) : Int)).req ev116 (atE LL ((gg : Nat) : Int)).opl (atE LL ((gg : Nat) : Int)).ts) y83).ts) w409 (row_sl hr430 opE_len) (by first | omega | (simp; done) | (simp; omega))) (by rintro e x ⟨u, rfl, hq432, hb433⟩; exact ⟨_, rfl, ⟨u, rfl, hq432, hb433⟩⟩)) ?_; clear h427
         rintro _ w429 a428 ⟨u431, rfl, hq432, hb433⟩ h428
         have hz434 := hb433.size
         have ho435 := TkO.ofS hO414
         have hl436 := sl_len (row_sl hq432 opE_len)
         refine pk0 (v := .agg #[.int .i64 2, .int .i64 ((gg : Nat) : Int), .int .u64 0, .int .i64 0, .slice none 0 0, .int .u64 0, .slice none 0 0, .int .i64 ((adE (EntT.mk (atE LL ((gg : Nat) : Int)).client (atE LL ((gg : Nat) : Int)).req ev116 (atE LL ((gg : Nat) : Int)).opl (atE LL ((gg : Nat) : Int)).ts) y83).client), .int .i64 ((adE (EntT.mk (atE LL ((gg : Nat) : Int)).client (atE LL ((gg : Nat) : Int)).req ev116 (atE LL ((gg : Nat) : Int)).opl (atE LL ((gg : Nat) : Int)).ts) y83).req), u431, .int .u64 ((adE (EntT.mk (atE LL ((gg : Nat) : Int)).client (atE LL ((gg : Nat) : Int)).req ev116 (atE LL ((gg : Nat) : Int)).opl (atE LL ((gg : Nat) : Int)).ts) y83).ts), .int .i64 0, .int .u64 0, .int .i64 0, .int .i64 0, .int .i64 0, .int .i64 0, .int .i64 0]) h428 rfl fun a437 h437 => ?_; clear h428
         refine pw h437 rfl (op_new (v := fun N => .slice (some ⟨N, 0, none⟩) 1 1) (T := 93) (cs := #[.int .i64 2, .int .i64 ((gg : Nat) : Int), .int .u64 0, .int .i64 0, .slice none 0 0, .int .u64 0, .slice none 0 0, .int .i64 ((adE (EntT.mk (atE LL ((gg : Nat) : Int)).client (atE LL ((gg : Nat) : Int)).req ev116 (atE LL ((gg : Nat) : Int)).opl (atE LL ((gg : Nat) : Int)).ts) y83).client), .int .i64 ((adE (EntT.mk (atE LL ((gg : Nat) : Int)).client (atE LL ((gg : Nat) : Int)).req ev116 (atE LL ((gg : Nat) : Int)).opl (atE LL ((gg : Nat) : Int)).ts) y83).req), u431, .int .u64 ((adE (EntT.mk (atE LL ((gg : Nat) : Int)).client (atE LL ((gg : Nat) : Int)).req ev116 (atE LL ((gg : Nat) : Int)).opl (atE LL ((gg : Nat) : Int)).ts) y83).ts), .int .i64 0, .int .u64 0, .int .i64 0, .int .i64 0, .int .i64 0, .int .i64 0, .int .i64 0]) (by kernel_rfl) (by kernel_rfl) (by kernel_rfl)) ?_; clear h437
         rintro _ w439 a438 ⟨N440, rfl, hN443, hz444, hk442, hg441⟩ h438
         have hr446 := own_butS hr289 hx415.but (Grew.offR hx119 hr115 hofn)
         have hr447 := row_kept_new hr446 (below_grown hb433)
         have ha445 := row_fresh hr447 hN443
         have hr449 := own_butS hr292 hx415.but (offR_row hq121 hq120 (Nat.le_refl _))
         have hr450 := row_kept_new hr449 (below_grown hb433)
         have ha448 := row_fresh hr450 hN443
         have hr452 := row_kept_new hr430 (below_grown hb433)
         have ha451 := row_fresh hr452 hN443
         have ha453 := row_fresh hq432 hN443
         have hz454 := hg441.size
         have hO456 := TkO.gr hO414 (below_grown hb433) (fun k e => by cases e)
         have ho455 := off_new (TkO.ofS hO456) hN443
         try dsimp only at h438
         have hr463 := row_kept_new hr447 hg441
         have hr464 := row_kept_new hq432 hg441
         refine pw h438 rfl (op_appendF rfl w.heap.size 93 (z := .agg #[.int .i64 0, .int .i64 0, .int .u64 0, .int .i64 0, .slice none 0 0, .int .u64 0, .slice none 0 0, .int .i64 0, .int .i64 0, .slice none 0 0, .int .u64 0, .int .i64 0, .int .u64 0, .int .i64 0, .int .i64 0, .int .i64 0, .int .i64 0, .int .i64 0]) (size := 18) (bytes := 192) Try.underlying72 (by kernel_rfl) rfl rfl rfl hr463 rfl hk442 rfl (all_cons rfl (all_cons rfl (all_cons rfl (all_cons rfl (all_cons rfl (all_cons rfl (all_cons rfl (all_cons rfl (all_cons rfl (all_cons (row_one hr464) (all_cons rfl (all_cons rfl (all_cons rfl (all_cons rfl (all_cons rfl (all_cons rfl (all_cons rfl (all_cons rfl all_nil)))))))))))))))))) (by first | omega | (simp only [List.length_nil, List.length_append, List.length_cons, List.length_take, List.length_drop]; omega)) (by first | omega | (simp only [List.length_nil, List.length_append, List.length_cons, List.length_take, List.length_drop]; omega)) (by omega)) ?_; clear h438
         rintro v459 w458 a457 ⟨hr460, hwt462, hg461⟩ h457
         have hr460' : w458.ownsRow w.heap.size 93 18 v459 ((NS ++ [(NtT.mk ((gg : Nat) : Int) (EntT.mk ((adE (EntT.mk (atE LL ((gg : Nat) : Int)).client (atE LL ((gg : Nat) : Int)).req ev116 (atE LL ((gg : Nat) : Int)).opl (atE LL ((gg : Nat) : Int)).ts) y83).client) ((adE (EntT.mk (atE LL ((gg : Nat) : Int)).client (atE LL ((gg : Nat) : Int)).req ev116 (atE LL ((gg : Nat) : Int)).opl (atE LL ((gg : Nat) : Int)).ts) y83).req) u431 ((adE (EntT.mk (atE LL ((gg : Nat) : Int)).client (atE LL ((gg : Nat) : Int)).req ev116 (atE LL ((gg : Nat) : Int)).opl (atE LL ((gg : Nat) : Int)).ts) y83).opl) ((adE (EntT.mk (atE LL ((gg : Nat) : Int)).client (atE LL ((gg : Nat) : Int)).req ev116 (atE LL ((gg : Nat) : Int)).opl (atE LL ((gg : Nat) : Int)).ts) y83).ts)))]).length) ((NS ++ [(NtT.mk ((gg : Nat) : Int) (EntT.mk ((adE (EntT.mk (atE LL ((gg : Nat) : Int)).client (atE LL ((gg : Nat) : Int)).req ev116 (atE LL ((gg : Nat) : Int)).opl (atE LL ((gg : Nat) : Int)).ts) y83).client) ((adE (EntT.mk (atE LL ((gg : Nat) : Int)).client (atE LL ((gg : Nat) : Int)).req ev116 (atE LL ((gg : Nat) : Int)).opl (atE LL ((gg : Nat) : Int)).ts) y83).req) u431 ((adE (EntT.mk (atE LL ((gg : Nat) : Int)).client (atE LL ((gg : Nat) : Int)).req ev116 (atE LL ((gg : Nat) : Int)).opl (atE LL ((gg : Nat) : Int)).ts) y83).opl) ((adE (EntT.mk (atE LL ((gg : Nat) : Int)).client (atE LL ((gg : Nat) : Int)).req ev116 (atE LL ((gg : Nat) : Int)).opl (atE LL ((gg : Nat) : Int)).ts) y83).ts)))]).flatMap ntE) := row_push (y := (NtT.mk ((gg : Nat) : Int) (EntT.mk ((adE (EntT.mk (atE LL ((gg : Nat) : Int)).client (atE LL ((gg : Nat) : Int)).req ev116 (atE LL ((gg : Nat) : Int)).opl (atE LL ((gg : Nat) : Int)).ts) y83).client) ((adE (EntT.mk (atE LL ((gg : Nat) : Int)).client (atE LL ((gg : Nat) : Int)).req ev116 (atE LL ((gg : Nat) : Int)).opl (atE LL ((gg : Nat) : Int)).ts) y83).req) u431 ((adE (EntT.mk (atE LL ((gg : Nat) : Int)).client (atE LL ((gg : Nat) : Int)).req ev116 (atE LL ((gg : Nat) : Int)).opl (atE LL ((gg : Nat) : Int)).ts) y83).opl) ((adE (EntT.mk (atE LL ((gg : Nat) : Int)).client (atE LL ((gg : Nat) : Int)).req ev116 (atE LL ((gg : Nat) : Int)).opl (atE LL ((gg : Nat) : Int)).ts) y83).ts)))) hr460 rfl rfl; clear hr460
         have hB467 := hb_call hB417 hb433
         have hB468 := hb_new hB467 hg441
         have hk469 := Blk.butS hk396 hx415.but ho143
         have hk470 := hk469.below hb433
         have hk471 := hk470.kept hg441 (by simp)
         have hk472 := hk426.below hb433
         have hk473 := hk472.kept hg441 (by simp)
         have hO474 := TkO.gr hO456 hg441 (fun k e => by cases e)
         have ho466 := TkO.ofS hO474
         have ho465 := offR_went (Grew.offR hx415 hr289 (Grew.offR hx119 hr115 hofn)) ho466 hwt462
         have hz475 := hg461.size
         have hr480 := row_kept_row hr464 hr463 hg461 (by decide)
         have hEz : EntK (fun _ => False) 0 w458 ((NtT.mk ((gg : Nat) : Int) (EntT.mk ((adE (EntT.mk (atE LL ((gg : Nat) : Int)).client (atE LL ((gg : Nat) : Int)).req ev116 (atE LL ((gg : Nat) : Int)).opl (atE LL ((gg : Nat) : Int)).ts) y83).client) ((adE (EntT.mk (atE LL ((gg : Nat) : Int)).client (atE LL ((gg : Nat) : Int)).req ev116 (atE LL ((gg : Nat) : Int)).opl (atE LL ((gg : Nat) : Int)).ts) y83).req) u431 ((adE (EntT.mk (atE LL ((gg : Nat) : Int)).client (atE LL ((gg : Nat) : Int)).req ev116 (atE LL ((gg : Nat) : Int)).opl (atE LL ((gg : Nat) : Int)).ts) y83).opl) ((adE (EntT.mk (atE LL ((gg : Nat) : Int)).client (atE LL ((gg : Nat) : Int)).req ev116 (atE LL ((gg : Nat) : Int)).opl (atE LL ((gg : Nat) : Int)).ts) y83).ts)))).e := ⟨row_lows hr480 (Nat.zero_le _), InS.low hr480 (Nat.zero_le _), hia261.len, hia261.en.1, hia261.ts.1, hia261.ts.2, hia261.en.2.1, hia261.en.2.2⟩
         have hO481 := TkO.gr hO474 hg461 (fun k e => (Grew.offR hx415 hr289 (Grew.offR hx119 hr115 hofn)) k e)
         have hNS := hO481
         have hofz : ∀ i, Value.ownBlock u431 = some i → ¬ S413 i := (offR_row ho435 hr480 (Nat.le_refl _))
         obtain ⟨S476, hO477, hx478⟩ : ∃ S2 : Nat → Prop, TkO S2 w458 N33 L'412 (NS ++ [(NtT.mk ((gg : Nat) : Int) (EntT.mk ((adE (EntT.mk (atE LL ((gg : Nat) : Int)).client (atE LL ((gg : Nat) : Int)).req ev116 (atE LL ((gg : Nat) : Int)).opl (atE LL ((gg : Nat) : Int)).ts) y83).client) ((adE (EntT.mk (atE LL ((gg : Nat) : Int)).client (atE LL ((gg : Nat) : Int)).req ev116 (atE LL ((gg : Nat) : Int)).opl (atE LL ((gg : Nat) : Int)).ts) y83).req) u431 ((adE (EntT.mk (atE LL ((gg : Nat) : Int)).client (atE LL ((gg : Nat) : Int)).req ev116 (atE LL ((gg : Nat) : Int)).opl (atE LL ((gg : Nat) : Int)).ts) y83).opl) ((adE (EntT.mk (atE LL ((gg : Nat) : Int)).client (atE LL ((gg : Nat) : Int)).req ev116 (atE LL ((gg : Nat) : Int)).opl (atE LL ((gg : Nat) : Int)).ts) y83).ts)))]) ∧ ∀ q, S2 q → S413 q ∨ Value.ownBlock u431 = some q := ⟨_, TkO.push (z := (NtT.mk ((gg : Nat) : Int) (EntT.mk ((adE (EntT.mk (atE LL ((gg : Nat) : Int)).client (atE LL ((gg : Nat) : Int)).req ev116 (atE LL ((gg : Nat) : Int)).opl (atE LL ((gg : Nat) : Int)).ts) y83).client) ((adE (EntT.mk (atE LL ((gg : Nat) : Int)).client (atE LL ((gg : Nat) : Int)).req ev116 (atE LL ((gg : Nat) : Int)).opl (atE LL ((gg : Nat) : Int)).ts) y83).req) u431 ((adE (EntT.mk (atE LL ((gg : Nat) : Int)).client (atE LL ((gg : Nat) : Int)).req ev116 (atE LL ((gg : Nat) : Int)).opl (atE LL ((gg : Nat) : Int)).ts) y83).opl) ((adE (EntT.mk (atE LL ((gg : Nat) : Int)).client (atE LL ((gg : Nat) : Int)).req ev116 (atE LL ((gg : Nat) : Int)).opl (atE LL ((gg : Nat) : Int)).ts) y83).ts)))) hNS hEz hofz, fun q hq => hq⟩
         have hlo479 : ∀ q, S476 q → w.heap.size ≤ q := fun q hq => by rcases hx478 q hq with k | k; exact hlo418 q k; have := (hr480.lt q k).1; omega
         have hon : ∀ i, Value.ownBlock v459 = some i → ¬ S476 i := fun i hi hq => by rcases hx478 i hq with k | k; exact ho465 i hi k; exact rows_ne hr460' hr480 (by decide) i hi k
         refine pk0 (v := v459) h457 rfl fun a482 h482 => ?_; clear h457
         refine pl_nil ?_
         refine co_then ?_
         refine co_reg ?_
         refine pk0 (v := .int .i64 ((gg : Nat) : Int)) h482 rfl fun a483 h483 => ?_; clear h482
         refine pk (v := .int .i64 ((gg + 1 : Nat) : Int)) h483 rfl (rn_arith' rfl rfl rfl rfl rfl rfl (IntWalk.i64_in _ (by omega)) (by omega)) fun a484 h484 => ?_; clear h483
         refine pk0 (v := .int .i64 ((gg + 1 : Nat) : Int)) h484 rfl fun a485 h485 => ?_; clear h484
         refine pl_nil ?_
         refine co_blockN ?_
         refine co_then ?_
         refine co_reg ?_
         refine pk (v := .int .i64 ((k + 1 : Nat) : Int)) h485 rfl (rn_arith' rfl rfl rfl rfl rfl rfl (IntWalk.i64_in _ (by omega)) (by omega)) fun a486 h486 => ?_; clear h485
         refine pk0 (v := .int .i64 ((k + 1 : Nat) : Int)) h486 rfl fun a487 h487 => ?_; clear h486
         refine pl_nil ?_
         refine co_then ?_
         refine ⟨(l2.length - (k + 1)), by omega, ?_⟩
         have hll := hlo479
         have hof9 : ∀ i, Value.ownBlock v459 = some i → ¬ S476 i := hon
         obtain ⟨z9, hz9, hxe, hz1⟩ := ad_one (v := ev116) (y := y83) (L := LL) (gg := gg) (by assumption)
         have hns := ad_new (v := ev116) (y := y83) (L := LL) (gg := gg) (by assumption) (fun hq => by first | exact absurd hq.1 (by assumption) | exact absurd hq.2 (by assumption) | omega)
         have hTn := hTk.set' (v := u431) hy83 (by omega) hns hxe (by omega) hq416
         have hn9 : ∀ z ∈ NS ++ [(NtT.mk ((gg : Nat) : Int) (EntT.mk ((adE (EntT.mk (atE LL ((gg : Nat) : Int)).client (atE LL ((gg : Nat) : Int)).req ev116 (atE LL ((gg : Nat) : Int)).opl (atE LL ((gg : Nat) : Int)).ts) y83).client) ((adE (EntT.mk (atE LL ((gg : Nat) : Int)).client (atE LL ((gg : Nat) : Int)).req ev116 (atE LL ((gg : Nat) : Int)).opl (atE LL ((gg : Nat) : Int)).ts) y83).req) u431 ((adE (EntT.mk (atE LL ((gg : Nat) : Int)).client (atE LL ((gg : Nat) : Int)).req ev116 (atE LL ((gg : Nat) : Int)).opl (atE LL ((gg : Nat) : Int)).ts) y83).opl) ((adE (EntT.mk (atE LL ((gg : Nat) : Int)).client (atE LL ((gg : Nat) : Int)).req ev116 (atE LL ((gg : Nat) : Int)).opl (atE LL ((gg : Nat) : Int)).ts) y83).ts)))], 0 ≤ z.n := fun z hz => by rcases List.mem_append.1 hz with q | q; exact hn0 z q; simp at q; subst q; show (0 : Int) ≤ ((gg : Nat) : Int); omega
         have hB488 := hb_row hB468 hr463 (by omega) hg461
         exact ⟨k + 1, (gg + 1), v459, (NS ++ [(NtT.mk ((gg : Nat) : Int) (EntT.mk ((adE (EntT.mk (atE LL ((gg : Nat) : Int)).client (atE LL ((gg : Nat) : Int)).req ev116 (atE LL ((gg : Nat) : Int)).opl (atE LL ((gg : Nat) : Int)).ts) y83).client) ((adE (EntT.mk (atE LL ((gg : Nat) : Int)).client (atE LL ((gg : Nat) : Int)).req ev116 (atE LL ((gg : Nat) : Int)).opl (atE LL ((gg : Nat) : Int)).ts) y83).req) u431 ((adE (EntT.mk (atE LL ((gg : Nat) : Int)).client (atE LL ((gg : Nat) : Int)).req ev116 (atE LL ((gg : Nat) : Int)).opl (atE LL ((gg : Nat) : Int)).ts) y83).opl) ((adE (EntT.mk (atE LL ((gg : Nat) : Int)).client (atE LL ((gg : Nat) : Int)).req ev116 (atE LL ((gg : Nat) : Int)).opl (atE LL ((gg : Nat) : Int)).ts) y83).ts)))]), L'412, S476, h487.sub ⟨rfl, rfl, rfl, rfl, rfl, rfl, rfl, rfl, trivial⟩, rfl, by omega, by omega, by first | omega | (simp; omega) | simp, by exact hll, by exact hTn, by exact hn9, by exact hof9, hO477, (row_eq hr460' (rfl)), hB488⟩
        ·
         rw [hc422] at h421
         have hp489 : (setE LL ((gg : Nat) : Int) ((adE (EntT.mk (atE LL ((gg : Nat) : Int)).client (atE LL ((gg : Nat) : Int)).req ev116 (atE LL ((gg : Nat) : Int)).opl (atE LL ((gg : Nat) : Int)).ts) y83).client) ((adE (EntT.mk (atE LL ((gg : Nat) : Int)).client (atE LL ((gg : Nat) : Int)).req ev116 (atE LL ((gg : Nat) : Int)).opl (atE LL ((gg : Nat) : Int)).ts) y83).req) ((adE (EntT.mk (atE LL ((gg : Nat) : Int)).client (atE LL ((gg : Nat) : Int)).req ev116 (atE LL ((gg : Nat) : Int)).opl (atE LL ((gg : Nat) : Int)).ts) y83).opl) ((adE (EntT.mk (atE LL ((gg : Nat) : Int)).client (atE LL ((gg : Nat) : Int)).req ev116 (atE LL ((gg : Nat) : Int)).opl (atE LL ((gg : Nat) : Int)).ts) y83).ts)) ≠ 0 := by first | simpa using hc422 | simpa [and_assoc] using hc422
         clear hc422
         refine co_true h421 rfl ?_
         refine wp_exit ?_
         refine co_thenX ?_
         refine co_blockY (by decide) ?_
         refine co_thenX ?_
         refine co_thenX ?_
         refine co_blockX ?_
         refine co_then ?_
         refine co_seq ?_
         refine co_reg ?_
         refine pk0 (v := un) h421 rfl fun a490 h490 => ?_; clear h421
         refine pk0 (v := .int .i64 ((gg : Nat) : Int)) h490 rfl fun a491 h491 => ?_; clear h490
         refine pk0 (v := un) h491 rfl fun a492 h492 => ?_; clear h491
         refine pk0 (v := .int .i64 ((gg : Nat) : Int)) h492 rfl fun a493 h493 => ?_; clear h492
         refine pl_nil ?_
         refine co_then ?_
         refine wp_ret ?_
         refine co_scopeR ?_
         refine co_ret2 h493 rfl rfl rfl ?_
         have hr494 := own_butS hr289 hx415.but (Grew.offR hx119 hr115 hofn)
         obtain ⟨z9, hz9, hxe, hz1⟩ := ad_one (v := ev116) (y := y83) (L := LL) (gg := gg) (by assumption)
         have hns := ad_new (v := ev116) (y := y83) (L := LL) (gg := gg) (by assumption) (fun hq => by first | exact absurd hq.1 (by assumption) | exact absurd hq.2 (by assumption) | omega)
         have hT := hTk.stop' hy83 (by omega) hns hxe (by omega)
         exact ⟨NS, _, by rw [hT], (row_lows hr494 (by omega)), TkO.got hO414, hn0, by rw [hT], hB417⟩
       ·
        rw [hc403] at h402
        have hp495 : (atE LL ((gg : Nat) : Int)).ts = (adE (EntT.mk (atE LL ((gg : Nat) : Int)).client (atE LL ((gg : Nat) : Int)).req ev116 (atE LL ((gg : Nat) : Int)).opl (atE LL ((gg : Nat) : Int)).ts) y83).ts := by first | simpa using hc403 | simpa [and_assoc] using hc403
        clear hc403
        refine co_true h402 rfl ?_
        refine co_seq ?_
        refine co_reg ?_
        refine pk0 (v := .int .i64 ((gg : Nat) : Int)) h402 rfl fun a496 h496 => ?_; clear h402
        refine pk (v := .int .i64 ((gg + 1 : Nat) : Int)) h496 rfl (rn_arith' rfl rfl rfl rfl rfl rfl (IntWalk.i64_in _ (by omega)) (by omega)) fun a497 h497 => ?_; clear h496
        refine pk0 (v := .int .i64 ((gg + 1 : Nat) : Int)) h497 rfl fun a498 h498 => ?_; clear h497
        refine pl_nil ?_
        refine co_then ?_
        refine wp_exit ?_
        refine co_thenX ?_
        refine co_blockX ?_
        refine co_then ?_
        refine co_reg ?_
        refine pk (v := .int .i64 ((k + 1 : Nat) : Int)) h498 rfl (rn_arith' rfl rfl rfl rfl rfl rfl (IntWalk.i64_in _ (by omega)) (by omega)) fun a499 h499 => ?_; clear h498
        refine pk0 (v := .int .i64 ((k + 1 : Nat) : Int)) h499 rfl fun a500 h500 => ?_; clear h499
        refine pl_nil ?_
        refine co_then ?_
        refine ⟨(l2.length - (k + 1)), by omega, ?_⟩
        have hll := hlo123
        have hof9 : ∀ i, Value.ownBlock un = some i → ¬ S117 i := (Grew.offR hx119 hr115 hofn)
        have hsk := ad_skip (v := ev116) (y := y83) (by assumption) (by assumption) (by assumption)
        have hTn := hTk.skip hy83 (by omega) hsk
        have hn9 := hn0
        have hO501 := TkO.gr hO281 (below_grown hb277) (fun k e => by cases e)
        exact ⟨k + 1, (gg + 1), un, NS, LL, S117, h500.sub ⟨rfl, rfl, rfl, rfl, rfl, rfl, rfl, rfl, trivial⟩, rfl, by omega, by omega, by first | omega | (simp; omega) | simp, by exact hll, by exact hTn, by exact hn9, by exact hof9, hO501, (row_eq hr289 (rfl)), hB286⟩
    ·
     rw [hc79] at h78
     have hp502 : ((f + k : Nat) : Int) < ((gg : Nat) : Int) := of_decide_eq_true hc79
     clear hc79
     refine co_true h78 rfl ?_
     refine wp_exit ?_
     refine co_thenX ?_
     refine co_blockX ?_
     refine co_then ?_
     refine co_reg ?_
     refine pk (v := .int .i64 ((k + 1 : Nat) : Int)) h78 rfl (rn_arith' rfl rfl rfl rfl rfl rfl (IntWalk.i64_in _ (by omega)) (by omega)) fun a503 h503 => ?_; clear h78
     refine pk0 (v := .int .i64 ((k + 1 : Nat) : Int)) h503 rfl fun a504 h504 => ?_; clear h503
     refine pl_nil ?_
     refine co_then ?_
     refine ⟨(l2.length - (k + 1)), by omega, ?_⟩
     have hll := hlo63
     have hof9 : ∀ i, Value.ownBlock un = some i → ¬ SL i := hofn
     obtain ⟨y9, hy9⟩ : ∃ z, l2[k]? = some z := ⟨_, List.getElem?_eq_getElem (by omega)⟩
     have hTn := hTk.below hy9 (by omega)
     have hn9 := hn0
     exact ⟨k + 1, gg, un, NS, LL, SL, h504.sub ⟨rfl, rfl, rfl, rfl, rfl, rfl, rfl, rfl, trivial⟩, rfl, by omega, by omega, by first | omega | (simp; omega) | simp, by exact hll, by exact hTn, by exact hn9, by exact hof9, hf59, (row_eq hf60 (rfl)), hB61⟩
end Go.Proofs.Ythmnndbpadegnaa
