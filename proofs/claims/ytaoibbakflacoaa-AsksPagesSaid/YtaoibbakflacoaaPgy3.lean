/- Put together: AskJPgz, AskKPgz, AskLPgz, AskMPgz. Conditions: as each says. -/
import Derived.Test.YtaoibbakflacoaaPgy2
/- catenalaw34: a scan's task as an object. Conditions: none. -/
namespace Go.Proofs.Ytaoibbakflacoaa
open Go.RowKit Go.PlainAid
set_option linter.unusedVariables false
def InB (S : Nat → Prop) (v : Value) : Prop := ∀ k, v.ownBlock = some k → S k
/-- A task that scans, under way (d tells how far it is), or done (with d's pairs). -/
def TkA (S : Nat → Prop) (w : World) (tk : Nat) (dn : Bool) (d : RdD) : Prop :=
  (∀ q, S q → q < w.heap.size) ∧ S tk ∧
  (dn = false → ∃ (B : Nat) (ov pv : Value) (wt : Int), Blk w tk 67 #[.iface 75 (pt B 0), .int .i64 d.rq, .int .i64 wt, .bool false, .int .i64 0, .int .i64 0, .int .u64 0, .int .i64 0, .slice none 0 0] ∧
    Blk w B 77 #[.int .i64 d.c, .int .i64 d.rq, .int .i64 2, .int .i64 d.nd, .string d.k0, .string d.to_, .int .u64 d.at0, .int .i64 d.n, ov, .int .u64 d.tm, .string d.key, pv] ∧ w.ownsRow 0 57 2 pv d.prs.length (d.prs.flatMap prE) ∧ S B ∧ InB S pv) ∧
  (dn = true → ∃ (B : Nat) (u : Value) (wt : Int), Blk w tk 67 #[.iface 75 (pt B 0), .int .i64 d.rq, .int .i64 wt, .bool true, .int .i64 d.rq, .int .i64 0, .int .u64 d.tm, .int .i64 0, u] ∧ w.ownsRow 0 57 2 u d.prs.length (d.prs.flatMap prE) ∧ InB S u)
section
variable {S D : Nat → Prop} {w x : World} {tk : Nat} {dn : Bool} {d : RdD}
theorem TkA.ofS (h : TkA S w tk dn d) : ∀ q, S q → q < w.heap.size := h.1
theorem TkA.move (h : TkA S w tk dn d) (hs : w.heap.size ≤ x.heap.size) (hk : ∀ k, S k → x.heap[k]? = w.heap[k]?) : TkA S x tk dn d := by
  have bm : ∀ {N : Nat} {T : TypeId} {cs : Array Value}, Blk w N T cs → S N → Blk x N T cs := fun hb hS => by unfold Blk at hb ⊢; rw [hk _ hS]; exact hb
  have rm : ∀ {v : Value} {k : Nat} {xs : List Value}, w.ownsRow 0 57 2 v k xs → InB S v → x.ownsRow 0 57 2 v k xs := fun hr hS => row_sameL hr fun i hi => hk i (hS i hi)
  refine ⟨fun q hq => Nat.lt_of_lt_of_le (h.1 q hq) hs, h.2.1, fun e => ?_, fun e => ?_⟩
  · obtain ⟨B, ov, pv, wt, h1, h2, h3, h4, h5⟩ := h.2.2.1 e
    exact ⟨B, ov, pv, wt, bm h1 h.2.1, bm h2 h4, rm h3 h5, h4, h5⟩
  · obtain ⟨B, u, wt, h1, h2, h3⟩ := h.2.2.2 e
    exact ⟨B, u, wt, bm h1 h.2.1, rm h2 h3, h3⟩
theorem TkA.gr {row : Option Nat} (h : TkA S w tk dn d) (hg : w.grownBy x row) (hr : ∀ k, row = some k → ¬ S k) : TkA S x tk dn d := h.move hg.size fun k hk => hg.block k (h.1 k hk) (fun e => hr k e.symm hk)
theorem TkA.but (h : TkA S w tk dn d) (hb : But D w x) (hd : ∀ q, S q → D q → False) : TkA S x tk dn d := h.move hb.size fun k hk => hb.block k (h.1 k hk) (fun e => hd k hk e)
theorem row_pm {v2 : Value} {pl : List PrT} {B0 : Nat} (h : w.ownsRow B0 57 2 v2 pl.length (pl.flatMap prE)) {cs : Array Value} (ht : Blk w tk 67 cs) : pl ≠ [] → ∀ k, v2.ownBlock = some k → ¬ (fun q => q = tk) k := fun _ k hk e => by
  have e : k = tk := e
  subst e; exact own_ne_blk h ht (by decide) hk
theorem tkNew (w : World) (c rq nd : Int) (ky to_ : ByteArray) (tm n : Int) (hc : 0 ≤ c ∧ c ≤ 2) (hrq : 1 ≤ rq ∧ rq ≤ 1073741824) (hnd : 0 ≤ nd ∧ nd ≤ 3) (hky : ky.size ≤ 8) (hto : to_.size ≤ 8) (hn : 1 ≤ n ∧ n ≤ 32) :
    Calls Try.prog 8 #[.int .i64 c, .int .i64 rq, .agg #[.int .i64 2, .int .i64 nd, .string ky, .string to_, .int .u64 tm, .int .i64 n, .slice none 0 0]] w fun e w' => ∃ (tk : Nat) (S : Nat → Prop), e = .returned (.tuple #[pt tk 0, .int .i64 0]) ∧ TkA S w' tk false ⟨c, rq, nd, ky, to_, tm, n, tm, ky, []⟩ ∧ (∀ q, S q → w.heap.size ≤ q) ∧ Below w.heap.size w w' :=
  (aTNew_any c rq nd ky to_ tm n w hc hrq hnd hky hto hn).mono fun e x ⟨tk, nb, u, h1, h2, h3, h4, h5, h6, h7, h8⟩ =>
    ⟨tk, fun k => k = tk ∨ k = nb, h1, ⟨fun q hq => by rcases hq with rfl | rfl; exact h3.lt; exact h4.lt, .inl rfl, fun _ => ⟨nb, u, .slice none 0 0, 0, h3, h4, World.ownsRow_nil _ _ _ _, .inr rfl, fun k hk => by simp [Value.ownBlock] at hk⟩, fun e => by cases e⟩, fun q hq => by rcases hq with rfl | rfl <;> assumption, h8⟩
theorem grew_same (hb : Below w.heap.size w x) (hS : ∀ q, S q → q < w.heap.size) : Grew S S w x := ⟨fun q h => .inl h, But.of_below hb⟩
theorem tkNext (w : World) (h : TkA S w tk false d) (hn : 0 ≤ d.n ∧ d.n ≤ 32) (hpn : d.prs.length < d.n.toNat) (ep hd : Int) : Calls Try.prog 13 #[pt tk 0, .int .i64 ep, .int .i64 hd] w fun e w' => ∃ S' : Nat → Prop, e = .returned (.tuple #[.int .i64 d.nd, .agg #[.int .i64 9, .int .i64 0, .int .i64 d.rq, .int .i64 0, .bool false, .int .u64 d.tm, .int .u64 0, .int .i64 (mnI 2 (d.n - (d.prs.length : Int))), .int .i64 0, .int .i64 0, .int .i64 0, .string d.key, .string d.to_, .int .i64 0, .slice none 0 0, .int .u64 0, .int .i64 0, .int .i64 0, .slice none 0 0, .slice none 0 0, .slice none 0 0, .slice none 0 0]]) ∧ TkA S' w' tk false d ∧ Grew S S' w w' := by
  obtain ⟨B, ov, pv, wt, h1, h2, h3, h4, h5⟩ := h.2.2.1 rfl
  exact (aTNext_any tk B d ov pv wt ep hd w h1 h2 (row_sl h3 prE_len) hn hpn).mono fun e x ⟨r1, r2⟩ => ⟨S, r1, h.move r2.size (fun k hk => r2.block k (h.1 k hk)), grew_same r2 h.1⟩
def RL (dn : Bool) (d : RdD) : List PrT := if dn = true then d.prs else []
theorem tkDone (w : World) (h : TkA S w tk dn d) (hn : 0 ≤ d.n ∧ d.n ≤ 32) (hpn : dn = false → d.prs.length < d.n.toNat) (hl : d.prs.length ≤ 64) : Calls Try.prog 9 #[pt tk 0] w fun e w' => ∃ (u : Value) (S' : Nat → Prop), e = .returned (.tuple #[.agg #[.int .i64 (if dn = true then d.rq else 0), .int .i64 0, .int .u64 (if dn = true then d.tm else 0), .int .i64 0, u], .bool dn]) ∧ TkA S' w' tk dn d ∧ w'.ownsRow w.heap.size 57 2 u (RL dn d).length ((RL dn d).flatMap prE) ∧ (∀ i, u.ownBlock = some i → ¬ S' i) ∧ Grew S S' w w' := by
  cases dn with
  | false =>
    obtain ⟨B, ov, pv, wt, h1, h2, h3, h4, h5⟩ := h.2.2.1 rfl
    exact (aTDoneL_any tk B d ov pv wt w h1 h2 (row_sl h3 prE_len) hn (hpn rfl)).mono fun e x ⟨r1, r2⟩ => ⟨.slice none 0 0, S, r1, h.move r2.size (fun k hk => r2.block k (h.1 k hk)), World.ownsRow_nil _ _ _ _, fun i hi => by simp [Value.ownBlock] at hi, grew_same r2 h.1⟩
  | true =>
    obtain ⟨B, u, wt, h1, h2, h3⟩ := h.2.2.2 rfl
    exact (aTDoneF_any tk B d.rq d.tm d.prs wt u w h1 (row_sl h2 prE_len) hl).mono fun e x ⟨u2, r1, r3, r2⟩ => ⟨u2, S, r1, h.move r2.size (fun k hk => r2.block k (h.1 k hk)), r3, fun i hi hS => by have := (r3.lt i hi).1; have := h.1 i hS; omega, grew_same r2 h.1⟩
theorem tkTake (w : World) (h : TkA S w tk false d) (hn : 0 ≤ d.n ∧ d.n ≤ 32) (hpn : d.prs.length < d.n.toNat) (fg : Bool) (v2 : Value) (pl : List PrT) {B0 : Nat} (hr : w.ownsRow B0 57 2 v2 pl.length (pl.flatMap prE)) (hpl : pl.length ≤ 60) (hok : ∀ z ∈ pl, z.1.size ≤ 9223372036854775807) :
    Calls Try.prog 11 #[pt tk 0, .int .i64 d.nd, .agg #[.int .i64 10, .int .i64 0, .int .i64 d.rq, .int .i64 0, .bool fg, .int .u64 d.tm, .int .u64 0, .int .i64 0, .int .i64 0, .int .i64 0, .int .i64 0, .string d.key, .string ⟨#[]⟩, .int .i64 0, .slice none 0 0, .int .u64 0, .int .i64 0, .int .i64 0, .slice none 0 0, .slice none 0 0, .slice none 0 0, v2]] w fun e w' => ∃ S' : Nat → Prop, e = .returned (.bool (moreF d fg pl)) ∧ TkA S' w' tk (!moreF d fg pl) (nxD d pl) ∧ Grew S S' w w' := by
  obtain ⟨B, ov, pv, wt, h1, h2, h3, h4, h5⟩ := h.2.2.1 rfl
  have hlt := h1.lt
  cases hm : moreF d fg pl with
  | true =>
    refine (aTTakeM_any tk B d ov pv wt fg v2 pl w h1 h2 (row_sl h3 prE_len) hn hpn (row_sl hr prE_len) hpl hok (row_pm h3 h1) (row_pm hr h1) hm).mono ?_
    rintro e x ⟨nb, u, r1, r2, r3, r4, r5, r6⟩
    have hne : ∀ i, u.ownBlock = some i → i ≠ tk := fun i hi e => by have := (r2.lt i hi).1; omega
    refine ⟨fun k => k = tk ∨ k = nb ∨ u.ownBlock = some k, r1, ⟨fun q hq => ?_, .inl rfl, fun _ => ⟨nb, ov, u, 0, r3, r4, row_lows r2 (Nat.zero_le _), .inr (.inl rfl), fun k hk => .inr (.inr hk)⟩, fun e => by cases e⟩, ⟨fun q hq => ?_, r6.mono fun k _ e => by (have e : k = tk := e); subst e; exact h.2.1⟩⟩
    · rcases hq with rfl | rfl | hq
      · exact r3.lt
      · exact r4.lt
      · exact (r2.lt q hq).2
    · rcases hq with rfl | rfl | hq
      · exact .inl h.2.1
      · exact .inr r5
      · exact .inr (r2.lt q hq).1
  | false =>
    refine (aTTakeD_any tk B d ov pv wt fg v2 pl w h1 h2 (row_sl h3 prE_len) hn hpn (row_sl hr prE_len) hpl hok (row_pm h3 h1) (row_pm hr h1) hm).mono ?_
    rintro e x ⟨u, r1, r2, r3, r6⟩
    refine ⟨fun k => k = tk ∨ u.ownBlock = some k, r1, ⟨fun q hq => ?_, .inl rfl, fun e => (by cases e), fun _ => ⟨B, u, wt, r3, row_lows r2 (Nat.zero_le _), fun k hk => .inr hk⟩⟩, ⟨fun q hq => ?_, r6.mono fun k _ e => by (have e : k = tk := e); subst e; exact h.2.1⟩⟩
    · rcases hq with rfl | hq
      · exact r3.lt
      · exact (r2.lt q hq).2
    · rcases hq with rfl | hq
      · exact .inl h.2.1
      · exact .inr (r2.lt q hq).1
end
end Go.Proofs.Ytaoibbakflacoaa

/- catenalaw34: what a list has between two texts; SamePairs. Conditions: none. -/
namespace Go.Proofs.Ytaoibbakflacoaa
open Go.RowKit Go.PlainAid
set_option linter.unusedVariables false
set_option linter.unusedSimpArgs false

theorem eq_pair (a b d e : ByteArray) (w : World) : (binOp .eql 57 (.agg #[.string a, .string b]) (.agg #[.string d, .string e])).run Try.prog w = .ok (.bool (a.toList == d.toList && b.toList == e.toList)) w := by
  have u := Try.underlying9
  have hS : Try.prog.underlying 57 = some (.struct (Try.prog.fieldsOf 57)) := by kernel_rfl
  have hp : Try.prog.stoodInHeld 57 = false := by kernel_rfl
  have hf : (Try.prog.fieldsOf 57).toList.map (fun f => (f.offset, f.type)) = [(0, 9), (1, 9)] := by kernel_rfl
  rw [run_eql_struct, show (10000 : Nat) = 9999 + 1 from rfl, run_equalIn_agg w 9999 57 _ _ hS hp]
  simp only [Program.fieldsOf, Try.underlying57]
  go_simp
  by_cases h1 : a.toList = d.toList <;> by_cases h2 : b.toList = e.toList <;> simp [h1, h2]

theorem in_a {F T k : ByteArray} (h : (!(Op.bytesLess k.toList F.toList)) = false) : false = inB F T k := by
  rw [Go.ByteArray.toList_eq, Go.ByteArray.toList_eq] at h; unfold inB; rw [show Op.bytesLess (kB k) (kB F) = true by simpa using h]; rfl
theorem in_b {F T k : ByteArray} (h : (!(Op.bytesLess k.toList F.toList)) = true) (h2 : (T.toList == (⟨#[]⟩ : ByteArray).toList) = true) : true = inB F T k := by
  rw [Go.ByteArray.toList_eq, Go.ByteArray.toList_eq] at h h2; unfold inB; rw [show Op.bytesLess (kB k) (kB F) = false by simpa using h, show (kB T == []) = true from h2]; rfl
theorem in_c {F T k : ByteArray} (h : (!(Op.bytesLess k.toList F.toList)) = true) (h2 : (T.toList == (⟨#[]⟩ : ByteArray).toList) = false) : Op.bytesLess k.toList T.toList = inB F T k := by
  rw [Go.ByteArray.toList_eq, Go.ByteArray.toList_eq] at h h2 ⊢; unfold inB; rw [show Op.bytesLess (kB k) (kB F) = false by simpa using h, show (kB T == []) = false from h2]; simp
/-- The pairs of a list that have keys, as operations. -/
def okL (l : List PrT) : List OpT := l.filterMap fun p => if keyC p.1 = 0 then some (p.1, p.2, false) else none
theorem ok_y {l : List PrT} {i : Nat} {y : PrT} (h : l[i]? = some y) (hc : keyC y.1 = 0) : okL (l.take i) ++ [(y.1, y.2, false)] = okL (l.take (i + 1)) := by
  rw [List.take_add_one, h]; unfold okL; rw [List.filterMap_append]; simp [hc]
theorem ok_n {l : List PrT} {i : Nat} {y : PrT} (h : l[i]? = some y) (hc : ¬ keyC y.1 = 0) : okL (l.take i) = okL (l.take (i + 1)) := by
  rw [List.take_add_one, h]; unfold okL; rw [List.filterMap_append]; simp [hc]
theorem ok_len (l : List PrT) : (okL l).length ≤ l.length := List.length_filterMap_le _ _
theorem ok_key {l : List PrT} {o : OpT} (h : o ∈ okL l) : (kB o.1).length ≤ 8 ∧ o.1.size ≤ 8 := by
  unfold okL at h
  obtain ⟨p, hp, he⟩ := List.mem_filterMap.1 h
  by_cases hc : keyC p.1 = 0
  · rw [if_pos hc] at he; cases he
    have h9 : (kB p.1).length = p.1.size := rfl
    have : p.1.size ≤ 8 := by
      unfold keyC at hc
      split at hc
      · omega
      · omega
    exact ⟨by show (kB p.1).length ≤ 8; omega, this⟩
  · rw [if_neg hc] at he; cases he
theorem norm_ok {l : List PrT} {ys : List OpT} (h : SetG (fun y : OpT => y.1) (lastG (okL l)) ys) : ys.Pairwise (fun a b => kB a.1 < kB b.1) ∧ ∀ o ∈ ys, (kB o.1).length ≤ 8 ∧ o.1.size ≤ 8 := by
  refine ⟨h.1, fun o ho => ?_⟩
  obtain ⟨k, hk⟩ := (h.2 o).1 ho
  have h1 := lastG_key _ _ _ hk
  have h2 := (lastG_mem (okL l) k).1 ⟨o, hk⟩
  obtain ⟨p, hp, he⟩ := List.mem_map.1 h2
  have h3 := ok_key hp
  have he : p.1 = k := he
  rw [he, ← h1] at h3; exact h3
theorem hit_len (all : List OpT) (F T : ByteArray) : (hitP all F T).length ≤ all.length := by unfold hitP; rw [List.length_map]; exact List.length_filter_le _ _
theorem hit_y {all : List OpT} {k : Nat} {o : OpT} {F T : ByteArray} (h : all[k]? = some o) (hi : inB F T o.1 = true) : hitP (all.take k) F T ++ [(o.1, o.2.1)] = hitP (all.take (k + 1)) F T := by rw [hit_at h, if_pos hi]; rfl
theorem hit_n {all : List OpT} {k : Nat} {o : OpT} {F T : ByteArray} (h : all[k]? = some o) (hi : inB F T o.1 = false) : hitP (all.take k) F T = hitP (all.take (k + 1)) F T := by rw [hit_at h, if_neg (by rw [hi]; decide), List.append_nil]
theorem want_is {all : List OpT} {j n : Nat} {F T : ByteArray} (h : all.length ≤ j ∨ n ≤ (hitP (all.take j) F T).length) (hl : (hitP (all.take j) F T).length ≤ n) : hitP (all.take j) F T = (hitP all F T).take n := by
  rcases h with h | h
  · rw [List.take_of_length_le h] at hl ⊢; exact (List.take_of_length_le hl).symm
  · rw [hit_cut all j F T, List.take_append_of_le_length (by omega)]
    exact (List.take_of_length_le (by omega)).symm
theorem PgI.len {all : List OpT} {F T : ByteArray} {n i : Nat} {dn : Bool} {d : RdD} (h : PgI all F T n i dn d) : d.prs.length ≤ n ∧ i ≤ d.prs.length + 1 := by
  cases dn with
  | false => have := h.live rfl; omega
  | true => obtain ⟨h1, h2⟩ := h.fin rfl; exact ⟨by rw [h1, List.length_take]; omega, h2⟩
theorem pg_end {all : List OpT} {F T : ByteArray} {n i k : Nat} {d : RdD} (hs : all.Pairwise (fun a b => kB a.1 < kB b.1)) (hk : ∀ o ∈ all, (kB o.1).length ≤ 8 ∧ o.1.size ≤ 8) (h : PgI all F T n i false d) (hn : 1 ≤ n) (hke : all.length ≤ k) (hl : ((hitP (all.take k) d.key d.to_).length : Int) ≤ mnI 2 (d.n - (d.prs.length : Int))) :
    PgI all F T n (i + 1) (!moreF d false (hitP (all.take k) d.key d.to_)) (nxD d (hitP (all.take k) d.key d.to_)) := by
  have eT := h.con.2.2.2.2
  rw [eT] at hl ⊢
  rw [List.take_of_length_le hke] at hl ⊢
  exact h.step hs (fun o ho => (hk o ho).1) hn (List.take_of_length_le (by omega)).symm (by rw [decide_eq_false (by omega)])
theorem pg_brk {all : List OpT} {F T : ByteArray} {n i k : Nat} {d : RdD} {o : OpT} (hs : all.Pairwise (fun a b => kB a.1 < kB b.1)) (hk : ∀ o ∈ all, (kB o.1).length ≤ 8 ∧ o.1.size ≤ 8) (h : PgI all F T n i false d) (hn : 1 ≤ n) (ho : all[k]? = some o) (hi : inB d.key d.to_ o.1 = true) (hl : ((hitP (all.take k) d.key d.to_).length : Int) ≤ mnI 2 (d.n - (d.prs.length : Int))) (hl2 : mnI 2 (d.n - (d.prs.length : Int)) ≤ ((hitP (all.take k) d.key d.to_).length : Int)) :
    PgI all F T n (i + 1) (!moreF d true (hitP (all.take k) d.key d.to_)) (nxD d (hitP (all.take k) d.key d.to_)) := by
  have eT := h.con.2.2.2.2
  rw [eT] at hi hl hl2 ⊢
  have hc := hit_cut all (k + 1) d.key T
  rw [← hit_y ho hi] at hc
  refine h.step hs (fun o ho => (hk o ho).1) hn ?_ ?_
  · rw [hc, List.append_assoc, List.take_append_of_le_length (by omega)]
    exact (List.take_of_length_le (by omega)).symm
  · symm; apply decide_eq_true; rw [hc]; simp; omega
theorem hit_sz {all : List OpT} {k : Nat} {F T : ByteArray} (hk : ∀ o ∈ all, (kB o.1).length ≤ 8 ∧ o.1.size ≤ 8) : ∀ z ∈ hitP (all.take k) F T, z.1.size ≤ 9223372036854775807 := fun z hz => by
  unfold hitP at hz
  obtain ⟨o, ho, rfl⟩ := List.mem_map.1 hz
  have := (hk o (List.mem_of_mem_take (List.mem_filter.1 ho).1)).2
  show o.1.size ≤ _; omega
theorem pg_start (all : List OpT) (F T : ByteArray) (m : Nat) : PgI all F T (1 + m) 0 false ⟨1, 2, 0, F, T, 9, 1 + (m : Int), 9, F, []⟩ := ⟨⟨by show 1 + (m : Int) = ((1 + m : Nat) : Int); omega, rfl, rfl, rfl, rfl⟩, fun _ => ⟨rfl, by show 0 < _; omega, Nat.zero_le _⟩, fun e => by cases e⟩

set_option maxRecDepth 100000 in
theorem rin34_any (k : ByteArray) (F : ByteArray) (T : ByteArray) (w : World)  :
    Calls Try.prog 17 #[.string k, .string F, .string T] w fun e w' => e = .returned (.bool (inB F T k)) ∧ Below w.heap.size w w' := by
 have hB0 := Below.refl w.heap.size w
 refine co_enter (n := 19) Try.func17 rfl rfl rfl [(0, .string k), (1, .string F), (2, .string T)] rfl (fun a h0 => ?_)
 refine co_seq ?_
 refine co_reg ?_
 refine pk0 (v := .bool false) h0 rfl fun a1 h1 => ?_; clear h0
 refine pl_nil ?_
 refine co_then ?_
 refine co_seq ?_
 refine co_reg ?_
 refine pk0 (v := .string k) h1 rfl fun a2 h2 => ?_; clear h1
 refine pk0 (v := .string F) h2 rfl fun a3 h3 => ?_; clear h2
 refine pk0 (v := .bool (!(Op.bytesLess k.toList F.toList))) h3 rfl fun a4 h4 => ?_; clear h3
 refine pk0 (v := .bool (!(Op.bytesLess k.toList F.toList))) h4 rfl fun a5 h5 => ?_; clear h4
 cases hc6 : (!(Op.bytesLess k.toList F.toList))
 ·
  rw [hc6] at h5
  refine psk h5 rfl fun a7 h7 => ?_; clear h5
  refine psk h7 rfl fun a8 h8 => ?_; clear h7
  refine psk h8 rfl fun a9 h9 => ?_; clear h8
  refine psk h9 rfl fun a10 h10 => ?_; clear h9
  refine psk h10 rfl fun a11 h11 => ?_; clear h10
  refine psk h11 rfl fun a12 h12 => ?_; clear h11
  refine psk h12 rfl fun a13 h13 => ?_; clear h12
  refine pk0 (v := .bool false) h13 rfl fun a14 h14 => ?_; clear h13
  refine pk0 (v := .bool false) h14 rfl fun a15 h15 => ?_; clear h14
  refine pl_nil ?_
  refine co_then ?_
  refine wp_ret ?_
  refine co_ret1 h15 rfl rfl ?_
  exact ⟨ret_bool (by first | exact in_a (by assumption) | exact in_b (by assumption) (by assumption) | exact in_c (by assumption) (by assumption)), hB0⟩
 ·
  rw [hc6] at h5
  refine pk0 (v := .string T) h5 rfl fun a16 h16 => ?_; clear h5
  refine pk0 (v := .bool (T.toList == (⟨#[]⟩ : ByteArray).toList)) h16 rfl fun a17 h17 => ?_; clear h16
  refine pk0 (v := .bool (T.toList == (⟨#[]⟩ : ByteArray).toList)) h17 rfl fun a18 h18 => ?_; clear h17
  cases hc19 : (T.toList == (⟨#[]⟩ : ByteArray).toList)
  ·
   rw [hc19] at h18
   refine pk0 (v := .string k) h18 rfl fun a20 h20 => ?_; clear h18
   refine pk0 (v := .string T) h20 rfl fun a21 h21 => ?_; clear h20
   refine pk0 (v := .bool (Op.bytesLess k.toList T.toList)) h21 rfl fun a22 h22 => ?_; clear h21
   refine pk0 (v := .bool (Op.bytesLess k.toList T.toList)) h22 rfl fun a23 h23 => ?_; clear h22
   refine pk0 (v := .bool (Op.bytesLess k.toList T.toList)) h23 rfl fun a24 h24 => ?_; clear h23
   refine pk0 (v := .bool (Op.bytesLess k.toList T.toList)) h24 rfl fun a25 h25 => ?_; clear h24
   refine pl_nil ?_
   refine co_then ?_
   refine wp_ret ?_
   refine co_ret1 h25 rfl rfl ?_
   exact ⟨ret_bool (by first | exact in_a (by assumption) | exact in_b (by assumption) (by assumption) | exact in_c (by assumption) (by assumption)), hB0⟩
  ·
   rw [hc19] at h18
   refine psk h18 rfl fun a26 h26 => ?_; clear h18
   refine psk h26 rfl fun a27 h27 => ?_; clear h26
   refine psk h27 rfl fun a28 h28 => ?_; clear h27
   refine pk0 (v := .bool true) h28 rfl fun a29 h29 => ?_; clear h28
   refine pk0 (v := .bool true) h29 rfl fun a30 h30 => ?_; clear h29
   refine pk0 (v := .bool true) h30 rfl fun a31 h31 => ?_; clear h30
   refine pl_nil ?_
   refine co_then ?_
   refine wp_ret ?_
   refine co_ret1 h31 rfl rfl ?_
   exact ⟨ret_bool (by first | exact in_a (by assumption) | exact in_b (by assumption) (by assumption) | exact in_c (by assumption) (by assumption)), hB0⟩
set_option maxRecDepth 100000 in
theorem samePr34_any (u : Value) (v : Value) (l : List PrT) (w : World) (hu : SliceOf prE 2 w u l) (hv : SliceOf prE 2 w v l) :
    Calls Try.prog 18 #[u, v] w fun e w' => e = .returned (.bool true) ∧ Below w.heap.size w w' := by
 have hB0 := Below.refl w.heap.size w
 have hl_hu := sl_len hu
 have hl_hv := sl_len hv
 refine co_enter (n := 32) Try.func18 rfl rfl rfl [(0, u), (1, v)] rfl (fun a h0 => ?_)
 refine co_seq ?_
 refine co_reg ?_
 refine pk0 (v := .bool false) h0 rfl fun a1 h1 => ?_; clear h0
 refine pl_nil ?_
 refine co_then ?_
 refine co_seq ?_
 refine co_seq ?_
 refine co_reg ?_
 refine pk0 (v := u) h1 rfl fun a2 h2 => ?_; clear h1
 refine pk (v := .int .i64 ((l.length : Nat) : Int)) h2 rfl (rn_len rfl rfl Try.underlying33 hu) fun a3 h3 => ?_; clear h2
 refine pk0 (v := v) h3 rfl fun a4 h4 => ?_; clear h3
 refine pk (v := .int .i64 ((l.length : Nat) : Int)) h4 rfl (rn_len rfl rfl Try.underlying33 hv) fun a5 h5 => ?_; clear h4
 refine pk0 (v := .bool (((l.length : Nat) : Int) != ((l.length : Nat) : Int))) h5 rfl fun a6 h6 => ?_; clear h5
 refine pl_nil ?_
 refine co_then ?_
 have hc7 : (((l.length : Nat) : Int) != ((l.length : Nat) : Int)) = false := by first | (simp; done) | (simp; omega) | exact beq_false_of_ne (by omega) | exact beq_iff_eq.2 (by omega)
 rw [hc7] at h6; clear hc7
 refine co_false h6 rfl ?_
 refine wp_skip ?_
 refine co_then ?_
 refine co_seq ?_
 refine co_seq ?_
 refine co_reg ?_
 refine pk0 (v := .int .i64 0) h6 rfl fun a8 h8 => ?_; clear h6
 refine pl_nil ?_
 refine co_then ?_
 refine wp_block ?_
 have h9 : Slots 32 [(0, u), (1, v), (5, .int .i64 0)] _ := h8.sub ⟨rfl, rfl, rfl, trivial⟩; clear h8
 refine co_loop (fun mm a x => ∃ (i : Nat), Slots 32 [(0, u), (1, v), (5, .int .i64 ((i : Nat) : Int))] a ∧ mm = l.length - i ∧ (i ≤ l.length) ∧ Below w.heap.size w x) (l.length - 0) ?_ ?_
 · exact ⟨0, h9.sub ⟨rfl, rfl, (slot_eq rfl (congrArg (Value.int .i64) (by first | rfl | omega))), trivial⟩, rfl, by omega, hB0⟩
 · rintro k10 a11 w12 ⟨i, h11, rfl, hi13, hB14⟩
   have hz15 := hB14.size
   refine co_seq ?_
   refine co_seq ?_
   refine co_reg ?_
   refine pk0 (v := .int .i64 ((i : Nat) : Int)) h11 rfl fun a16 h16 => ?_; clear h11
   refine pk0 (v := u) h16 rfl fun a17 h17 => ?_; clear h16
   refine pk (v := .int .i64 ((l.length : Nat) : Int)) h17 rfl (rn_len rfl rfl Try.underlying33 (hu.below hB14)) fun a18 h18 => ?_; clear h17
   refine pk0 (v := .bool (decide (((i : Nat) : Int) < ((l.length : Nat) : Int)))) h18 rfl fun a19 h19 => ?_; clear h18
   refine pk0 (v := .bool (decide (((i : Nat) : Int) < ((l.length : Nat) : Int)))) h19 rfl fun a20 h20 => ?_; clear h19
   cases hc21 : (decide (((i : Nat) : Int) < ((l.length : Nat) : Int)))
   ·
    rw [hc21] at h20
    have hp22 : ¬ (((i : Nat) : Int) < ((l.length : Nat) : Int)) := of_decide_eq_false hc21
    clear hc21
    refine psk h20 rfl fun a23 h23 => ?_; clear h20
    refine psk h23 rfl fun a24 h24 => ?_; clear h23
    refine psk h24 rfl fun a25 h25 => ?_; clear h24
    refine psk h25 rfl fun a26 h26 => ?_; clear h25
    refine pk0 (v := .bool false) h26 rfl fun a27 h27 => ?_; clear h26
    refine pl_nil ?_
    refine co_then ?_
    refine co_false h27 rfl ?_
    refine wp_exit ?_
    refine co_thenX ?_
    refine co_thenX ?_
    refine co_blockX ?_
    refine co_then ?_
    refine co_seq ?_
    refine co_reg ?_
    refine pk0 (v := .bool true) h27 rfl fun a28 h28 => ?_; clear h27
    refine pl_nil ?_
    refine co_then ?_
    refine wp_ret ?_
    refine co_ret1 h28 rfl rfl ?_
    exact ⟨rfl, hB14⟩
   ·
    rw [hc21] at h20
    have hp29 : ((i : Nat) : Int) < ((l.length : Nat) : Int) := of_decide_eq_true hc21
    clear hc21
    refine pk0 (v := .int .i64 ((i : Nat) : Int)) h20 rfl fun a30 h30 => ?_; clear h20
    refine pk0 (v := v) h30 rfl fun a31 h31 => ?_; clear h30
    refine pk (v := .int .i64 ((l.length : Nat) : Int)) h31 rfl (rn_len rfl rfl Try.underlying33 (hv.below hB14)) fun a32 h32 => ?_; clear h31
    refine pk0 (v := .bool (decide (((i : Nat) : Int) < ((l.length : Nat) : Int)))) h32 rfl fun a33 h33 => ?_; clear h32
    refine pk0 (v := .bool (decide (((i : Nat) : Int) < ((l.length : Nat) : Int)))) h33 rfl fun a34 h34 => ?_; clear h33
    refine pl_nil ?_
    refine co_then ?_
    have hc35 : (decide (((i : Nat) : Int) < ((l.length : Nat) : Int))) = true := decide_eq_true (by omega)
    rw [hc35] at h34; clear hc35
    refine co_true h34 rfl ?_
    refine wp_skip ?_
    refine co_then ?_
    refine co_seq ?_
    refine wp_block ?_
    refine co_seq ?_
    refine dr_eq (by kernel_rfl) (fun w36 hg37 => ?_)
    have hz38 := hg37.size
    refine dk0 0 (v := u) h34 rfl rfl rfl fun a39 h39 => ?_; clear h34
    refine dk0 1 (v := .int .i64 ((i : Nat) : Int)) h39 rfl rfl rfl fun a40 h40 => ?_; clear h39
    have hB42 := hb_new hB14 hg37
    obtain ⟨y41, hy41⟩ : ∃ z, l[i]? = some z := ⟨_, List.getElem?_eq_getElem (by first | omega | (simp; done) | (simp; omega))⟩
    refine dk 2 (v := pt (blkOf u) (offOf u + i * 2)) h40 rfl rfl rfl (fun x hx => by subst hx; exact (rn_index rfl rfl rfl Try.underlying33 Try.sizeOf57 (hu.below hB42) (by omega) (by first | omega | (simp; done) | (simp; omega)))) fun a43 h43 => ?_; clear h40
    refine dk 3 (v := .agg #[.string y41.1, .string y41.2]) h43 rfl rfl rfl (fun x hx => by subst hx; exact (rn_loadN rfl rfl Try.underlying57 rfl (by kernel_rfl) (sl_at (hu.below hB42) hy41))) fun a44 h44 => ?_; clear h43
    refine dk0 4 (v := v) h44 rfl rfl rfl fun a45 h45 => ?_; clear h44
    refine dk0 5 (v := .int .i64 ((i : Nat) : Int)) h45 rfl rfl rfl fun a46 h46 => ?_; clear h45
    refine dk 6 (v := pt (blkOf v) (offOf v + i * 2)) h46 rfl rfl rfl (fun x hx => by subst hx; exact (rn_index rfl rfl rfl Try.underlying33 Try.sizeOf57 (hv.below hB42) (by omega) (by first | omega | (simp; done) | (simp; omega)))) fun a47 h47 => ?_; clear h46
    refine dk 7 (v := .agg #[.string y41.1, .string y41.2]) h47 rfl rfl rfl (fun x hx => by subst hx; exact (rn_loadN rfl rfl Try.underlying57 rfl (by kernel_rfl) (sl_at (hv.below hB42) hy41))) fun a48 h48 => ?_; clear h47
    refine dk 8 (v := .bool (!(y41.1.toList == y41.1.toList && y41.2.toList == y41.2.toList))) h48 rfl rfl rfl (fun x hx => by subst hx; exact (rn_neS rfl rfl rfl Try.eqGuardType57 (eq_pair _ _ _ _ _))) fun a49 h49 => ?_; clear h48
    refine dr_done (by kernel_rfl) ?_
    refine co_then ?_
    have hc50 : (!(y41.1.toList == y41.1.toList && y41.2.toList == y41.2.toList)) = false := by simp
    rw [hc50] at h49; clear hc50
    refine co_false h49 rfl ?_
    refine wp_skip ?_
    refine co_blockN ?_
    refine co_then ?_
    refine co_reg ?_
    refine pk0 (v := .int .i64 ((i : Nat) : Int)) h49 rfl fun a51 h51 => ?_; clear h49
    refine pk (v := .int .i64 ((i + 1 : Nat) : Int)) h51 rfl (rn_arith' rfl rfl rfl rfl rfl rfl (IntWalk.i64_in _ (by omega)) (by omega)) fun a52 h52 => ?_; clear h51
    refine pk0 (v := .int .i64 ((i + 1 : Nat) : Int)) h52 rfl fun a53 h53 => ?_; clear h52
    refine pl_nil ?_
    refine co_then ?_
    refine ⟨(l.length - (i + 1)), by omega, ?_⟩
    exact ⟨i + 1, h53.sub ⟨rfl, rfl, rfl, trivial⟩, rfl, by omega, hB42⟩
end Go.Proofs.Ytaoibbakflacoaa

/- catenalaw34: AsksPages. Conditions: none. -/
namespace Go.Proofs.Ytaoibbakflacoaa
open Go.RowKit Go.PlainAid
set_option linter.unusedVariables false
set_option linter.unusedSimpArgs false


theorem tkTake0 {S : Nat → Prop} {tk : Nat} {d : RdD} (w : World) (h : TkA S w tk false d) (hn : 0 ≤ d.n ∧ d.n ≤ 32) (hpn : d.prs.length < d.n.toNat) (fg : Bool) (v2 : Value) (pl : List PrT) (hnd : d.nd = 0) {B0 : Nat} (hr : w.ownsRow B0 57 2 v2 pl.length (pl.flatMap prE)) (hpl : pl.length ≤ 60) (hok : ∀ z ∈ pl, z.1.size ≤ 9223372036854775807) :
    Calls Try.prog 11 #[pt tk 0, .int .i64 0, .agg #[.int .i64 10, .int .i64 0, .int .i64 d.rq, .int .i64 0, .bool fg, .int .u64 d.tm, .int .u64 0, .int .i64 0, .int .i64 0, .int .i64 0, .int .i64 0, .string d.key, .string ⟨#[]⟩, .int .i64 0, .slice none 0 0, .int .u64 0, .int .i64 0, .int .i64 0, .slice none 0 0, .slice none 0 0, .slice none 0 0, v2]] w fun e w' => ∃ S' : Nat → Prop, e = .returned (.bool (moreF d fg pl)) ∧ TkA S' w' tk (!moreF d fg pl) (nxD d pl) ∧ Grew S S' w w' := by
  have := tkTake w h hn hpn fg v2 pl hr hpl hok
  rw [hnd] at this; exact this

set_option maxRecDepth 100000 in
set_option maxHeartbeats 12800000 in
theorem asksPages_law (v : Value) (l : List PrT) (F : ByteArray) (T : ByteArray) (c : Nat) (md : Nat) (w : World) (hs : SliceOf prE 2 w v l) (hc : c ≤ 255) (hmd : ((md : Nat) : Int) = ((c : Nat) : Int) % 32) (hm2 : md ≤ 31) :
    Calls Try.prog 4 #[v, .string F, .string T, .int .u8 ((c : Nat) : Int)] w fun e w' => e = .returned (.bool true) ∧ Below w.heap.size w w' := by
 have hB0 := Below.refl w.heap.size w
 have hl_hs := sl_len hs
 refine co_enter (n := 195) Try.func4 rfl rfl rfl [(0, v), (1, .string F), (2, .string T), (3, .int .u8 ((c : Nat) : Int))] rfl (fun a h0 => ?_)
 refine co_seq ?_
 refine co_reg ?_
 refine pk0 (v := .bool false) h0 rfl fun a1 h1 => ?_; clear h0
 refine pl_nil ?_
 refine co_then ?_
 refine co_seq ?_
 refine co_seq ?_
 refine co_reg ?_
 refine pk0 (v := v) h1 rfl fun a2 h2 => ?_; clear h1
 refine pk (v := .int .i64 ((l.length : Nat) : Int)) h2 rfl (rn_len rfl rfl Try.underlying33 hs) fun a3 h3 => ?_; clear h2
 refine pk0 (v := .bool (decide (((l.length : Nat) : Int) > 60))) h3 rfl fun a4 h4 => ?_; clear h3
 refine pk0 (v := .bool (decide (((l.length : Nat) : Int) > 60))) h4 rfl fun a5 h5 => ?_; clear h4
 cases hc6 : (decide (((l.length : Nat) : Int) > 60))
 ·
  rw [hc6] at h5
  have hp7 : ¬ (((l.length : Nat) : Int) > 60) := of_decide_eq_false hc6
  clear hc6
  refine pk0 (v := .string F) h5 rfl fun a8 h8 => ?_; clear h5
  refine pk (v := .int .i64 ((F.size : Nat) : Int)) h8 rfl (rn_lenStr rfl rfl Try.underlying9) fun a9 h9 => ?_; clear h8
  refine pk0 (v := .bool (decide (((F.size : Nat) : Int) > 8))) h9 rfl fun a10 h10 => ?_; clear h9
  refine pk0 (v := .bool (decide (((F.size : Nat) : Int) > 8))) h10 rfl fun a11 h11 => ?_; clear h10
  refine pk0 (v := .bool (decide (((F.size : Nat) : Int) > 8))) h11 rfl fun a12 h12 => ?_; clear h11
  cases hc13 : (decide (((F.size : Nat) : Int) > 8))
  ·
   rw [hc13] at h12
   have hp14 : ¬ (((F.size : Nat) : Int) > 8) := of_decide_eq_false hc13
   clear hc13
   refine pk0 (v := .string T) h12 rfl fun a15 h15 => ?_; clear h12
   refine pk (v := .int .i64 ((T.size : Nat) : Int)) h15 rfl (rn_lenStr rfl rfl Try.underlying9) fun a16 h16 => ?_; clear h15
   refine pk0 (v := .bool (decide (((T.size : Nat) : Int) > 8))) h16 rfl fun a17 h17 => ?_; clear h16
   refine pk0 (v := .bool (decide (((T.size : Nat) : Int) > 8))) h17 rfl fun a18 h18 => ?_; clear h17
   refine pl_nil ?_
   refine co_then ?_
   cases hc19 : (decide (((T.size : Nat) : Int) > 8))
   ·
    rw [hc19] at h18
    have hp20 : ¬ (((T.size : Nat) : Int) > 8) := of_decide_eq_false hc19
    clear hc19
    refine co_false h18 rfl ?_
    refine wp_skip ?_
    refine co_then ?_
    refine co_seq ?_
    refine co_reg ?_
    refine pk0 (v := .slice none 0 0) h18 rfl fun a21 h21 => ?_; clear h18
    refine pl_nil ?_
    refine co_then ?_
    refine co_seq ?_
    refine co_seq ?_
    refine co_reg ?_
    refine pk0 (v := .int .i64 0) h21 rfl fun a22 h22 => ?_; clear h21
    refine pl_nil ?_
    refine co_then ?_
    refine wp_block ?_
    have h23 : Slots 195 [(0, v), (1, .string F), (2, .string T), (3, .int .u8 ((c : Nat) : Int)), (9, .slice none 0 0), (10, .int .i64 0)] _ := h22.sub ⟨rfl, rfl, rfl, rfl, rfl, rfl, trivial⟩; clear h22
    refine co_loop (fun mm a x => ∃ (i : Nat) (u : Value), Slots 195 [(0, v), (1, .string F), (2, .string T), (3, .int .u8 ((c : Nat) : Int)), (9, u), (10, .int .i64 ((i : Nat) : Int))] a ∧ mm = l.length - i ∧ (i ≤ l.length) ∧ ((okL (l.take i)).length ≤ i) ∧ x.ownsRow w.heap.size 59 3 u (okL (l.take i)).length ((okL (l.take i)).flatMap opE) ∧ Below w.heap.size w x) (l.length - 0) ?_ ?_
    · exact ⟨0, .slice none 0 0, h23.sub ⟨rfl, rfl, rfl, rfl, rfl, (slot_eq rfl (congrArg (Value.int .i64) (by first | rfl | omega))), trivial⟩, rfl, by omega, by first | (simp [okL]; done) | (have := ok_len (l.take (i + 1)); rw [List.length_take] at this; omega), (row_nilL _ _ _ _ _), hB0⟩
    · rintro k24 a25 w26 ⟨i, u, h25, rfl, hi27, hi28, hf29, hB30⟩
      have hz31 := hB30.size
      refine co_seq ?_
      refine co_seq ?_
      refine co_reg ?_
      refine pk0 (v := .int .i64 ((i : Nat) : Int)) h25 rfl fun a32 h32 => ?_; clear h25
      refine pk0 (v := v) h32 rfl fun a33 h33 => ?_; clear h32
      refine pk (v := .int .i64 ((l.length : Nat) : Int)) h33 rfl (rn_len rfl rfl Try.underlying33 (hs.below hB30)) fun a34 h34 => ?_; clear h33
      refine pk0 (v := .bool (decide (((i : Nat) : Int) < ((l.length : Nat) : Int)))) h34 rfl fun a35 h35 => ?_; clear h34
      refine pl_nil ?_
      refine co_then ?_
      cases hc36 : (decide (((i : Nat) : Int) < ((l.length : Nat) : Int)))
      ·
       rw [hc36] at h35
       have hp37 : ¬ (((i : Nat) : Int) < ((l.length : Nat) : Int)) := of_decide_eq_false hc36
       clear hc36
       refine co_false h35 rfl ?_
       refine wp_exit ?_
       refine co_thenX ?_
       refine co_thenX ?_
       refine co_blockX ?_
       refine co_then ?_
       refine co_seq ?_
       refine co_reg ?_
       refine pk0 (v := u) h35 rfl fun a38 h38 => ?_; clear h35
       have hlt9 := ok_len l
       skip
       have hoz9 := ok_len (l.take i)
       have hoz8 : (l.take i).length ≤ l.length := by rw [List.length_take]; omega
       have hil9 : l.take i = l := List.take_of_length_le (by omega)
       refine pw h38 rfl (op_call (args := #[u]) (R := fun res xw => ∃ (ys : List OpT) (u : Value), res = u ∧ xw.ownsRow w26.heap.size 59 3 u ys.length (ys.flatMap opE) ∧ SetG (fun y : OpT => y.1) (lastG (okL l)) ys ∧ ys.length ≤ (okL l).length ∧ Below w26.heap.size w26 xw) rfl rfl rfl (by kernel_rfl) (by kernel_rfl) (Try.call16 _ _) (hil9 ▸ ropsNorm_any u (okL (l.take i)) w26 (row_sl hf29 opE_len) (by omega)) (by rintro e x ⟨ys, u, rfl, h⟩; exact ⟨_, rfl, ys, u, rfl, h⟩)) ?_; clear h38
       rintro u41 w40 a39 ⟨ys, _, rfl, hr42, hS43, hl44, hb45⟩ h39
       have hz46 := hb45.size
       have hyk0 := norm_ok hS43
       have hys := hyk0.1
       have hyk := hyk0.2
       have hyl : ys.length ≤ 60 := by omega
       refine pk0 (v := u41) h39 rfl fun a47 h47 => ?_; clear h39
       refine pl_nil ?_
       refine co_then ?_
       refine co_seq ?_
       refine co_reg ?_
       refine pk0 (v := .int .u8 ((c : Nat) : Int)) h47 rfl fun a48 h48 => ?_; clear h47
       refine pk (v := .int .i64 ((c : Nat) : Int)) h48 rfl (rn_conv rfl rfl Try.underlying5 Try.underlying3 (IntWalk.i64_in _ (by omega))) fun a49 h49 => ?_; clear h48
       refine pk (v := .int .i64 ((md : Nat) : Int)) h49 rfl (by rw [hmd]; exact rn_rem rfl rfl rfl (by omega) (by omega)) fun a50 h50 => ?_; clear h49
       refine pk (v := .int .i64 (1 + ((md : Nat) : Int))) h50 rfl (rn_arith rfl rfl rfl rfl rfl rfl (IntWalk.i64_in _ (by omega))) fun a51 h51 => ?_; clear h50
       refine pk0 (v := .int .i64 (1 + ((md : Nat) : Int))) h51 rfl fun a52 h52 => ?_; clear h51
       refine pl_nil ?_
       refine co_then ?_
       refine co_seq ?_
       refine co_reg ?_
       refine pk0 (v := .string F) h52 rfl fun a53 h53 => ?_; clear h52
       refine pk0 (v := .string T) h53 rfl fun a54 h54 => ?_; clear h53
       refine pk0 (v := .int .i64 (1 + ((md : Nat) : Int))) h54 rfl fun a55 h55 => ?_; clear h54
       refine pk0 (v := .agg #[.int .i64 2, .int .i64 0, .string F, .string T, .int .u64 9, .int .i64 (1 + ((md : Nat) : Int)), .slice none 0 0]) h55 rfl fun a56 h56 => ?_; clear h55
       have hB59 := hb_call hB30 hb45
       have hr65 := row_kept_new hf29 (below_grown hb45)
       refine pw h56 rfl (op_call (args := #[.int .i64 1, .int .i64 2, .agg #[.int .i64 2, .int .i64 0, .string F, .string T, .int .u64 9, .int .i64 (1 + ((md : Nat) : Int)), .slice none 0 0]]) (R := fun res xw => ∃ tk S, res = .tuple #[pt tk 0, .int .i64 0] ∧ TkA S xw tk false (RdD.mk 1 2 0 F T 9 (1 + (md : Int)) 9 F []) ∧ (∀ q, S q → w40.heap.size ≤ q) ∧ Below w40.heap.size w40 xw) rfl rfl rfl (by kernel_rfl) (by kernel_rfl) (Try.call8 _ _) (tkNew w40 1 2 0 F T 9 (1 + (md : Int)) (by omega) (by omega) (by omega) (by omega) (by omega) (by omega)) (by rintro e x ⟨tk, S, rfl, h⟩; exact ⟨_, rfl, tk, S, rfl, h⟩)) ?_; clear h56
       rintro _ w58 a57 ⟨tk60, S61, rfl, hO62, hlo63, hb64⟩ h57
       have hz66 := hb64.size
       have hlo67 : ∀ q, S61 q → w.heap.size ≤ q := fun q hq => by have := hlo63 q hq; omega
       have ho68 : ∀ i, (Value.ownBlock (u)) = some i → ¬ S61 i := offR_lo hlo63 (fun i hi => (hr65.lt i hi).2)
       have ho69 : ∀ i, (Value.ownBlock (u41)) = some i → ¬ S61 i := offR_lo hlo63 (fun i hi => (hr42.lt i hi).2)
       refine pk0 (v := .tuple #[pt tk60 0, .int .i64 0]) h57 rfl fun a70 h70 => ?_; clear h57
       refine pk0 (v := pt tk60 0) h70 rfl fun a71 h71 => ?_; clear h70
       refine pk0 (v := .int .i64 0) h71 rfl fun a72 h72 => ?_; clear h71
       refine pk0 (v := pt tk60 0) h72 rfl fun a73 h73 => ?_; clear h72
       refine pk0 (v := .int .i64 0) h73 rfl fun a74 h74 => ?_; clear h73
       refine pl_nil ?_
       refine co_then ?_
       refine co_seq ?_
       refine co_seq ?_
       refine co_reg ?_
       refine pk0 (v := .int .i64 0) h74 rfl fun a75 h75 => ?_; clear h74
       refine pk0 (v := .bool ((0 : Int) != 0)) h75 rfl fun a76 h76 => ?_; clear h75
       refine pl_nil ?_
       refine co_then ?_
       have hc77 : ((0 : Int) != 0) = false := by first | (simp; done) | (simp; omega) | exact beq_false_of_ne (by omega) | exact beq_iff_eq.2 (by omega)
       rw [hc77] at h76; clear hc77
       refine co_false h76 rfl ?_
       refine wp_skip ?_
       refine co_then ?_
       refine co_seq ?_
       refine co_reg ?_
       refine pk0 (v := .slice none 0 0) h76 rfl fun a78 h78 => ?_; clear h76
       refine pl_nil ?_
       refine co_then ?_
       have hB79 := hb_call hB59 hb64
       refine co_cut (fun a x => ∃ (lw : List PrT) (uz : Value), Slots 195 [(0, v), (1, .string F), (2, .string T), (9, u41), (11, .int .i64 (1 + ((md : Nat) : Int))), (12, pt tk60 0), (14, uz)] a ∧ (lw = (hitP ys F T).take (1 + md)) ∧ (∀ q, S61 q → w.heap.size ≤ q) ∧ (∀ i, (Value.ownBlock (u41)) = some i → ¬ S61 i) ∧ (∀ i, (Value.ownBlock (uz)) = some i → ¬ S61 i) ∧ x.ownsRow w26.heap.size 59 3 u41 ys.length (ys.flatMap opE) ∧ x.ownsRow w.heap.size 57 2 uz lw.length (lw.flatMap prE) ∧ TkA S61 x tk60 false (RdD.mk 1 2 0 F T 9 (1 + (md : Int)) 9 F []) ∧ Below w.heap.size w x) ?_ ?_
       ·
        refine co_seq ?_
        refine co_reg ?_
        refine pk0 (v := .int .i64 0) h78 rfl fun a80 h80 => ?_; clear h78
        refine pl_nil ?_
        refine co_then ?_
        refine wp_block ?_
        have h81 : Slots 195 [(0, v), (1, .string F), (2, .string T), (9, u41), (11, .int .i64 (1 + ((md : Nat) : Int))), (12, pt tk60 0), (14, .slice none 0 0), (15, .int .i64 0)] _ := h80.sub ⟨rfl, rfl, rfl, rfl, rfl, rfl, rfl, rfl, trivial⟩; clear h80
        refine co_loop (fun mm a x => ∃ (j : Nat) (uw : Value), Slots 195 [(0, v), (1, .string F), (2, .string T), (9, u41), (11, .int .i64 (1 + ((md : Nat) : Int))), (12, pt tk60 0), (14, uw), (15, .int .i64 ((j : Nat) : Int))] a ∧ mm = ys.length - j ∧ (j ≤ ys.length) ∧ ((hitP (ys.take j) F T).length ≤ 1 + md) ∧ (∀ q, S61 q → w.heap.size ≤ q) ∧ (∀ i, (Value.ownBlock (u41)) = some i → ¬ S61 i) ∧ (∀ i, (Value.ownBlock (uw)) = some i → ¬ S61 i) ∧ x.ownsRow w26.heap.size 59 3 u41 ys.length (ys.flatMap opE) ∧ x.ownsRow w.heap.size 57 2 uw (hitP (ys.take j) F T).length ((hitP (ys.take j) F T).flatMap prE) ∧ TkA S61 x tk60 false (RdD.mk 1 2 0 F T 9 (1 + (md : Int)) 9 F []) ∧ Below w.heap.size w x) (ys.length - 0) ?_ ?_
        have hr82 := row_kept_new hr42 (below_grown hb64)
        · exact ⟨0, .slice none 0 0, h81.sub ⟨rfl, rfl, rfl, rfl, rfl, rfl, rfl, (slot_eq rfl (congrArg (Value.int .i64) (by first | rfl | omega))), trivial⟩, rfl, by omega, by first | (simp [hitP]; done) | omega | (rw [← hit_y (by assumption) (by assumption), List.length_append]; simp; omega) | (rw [← hit_n (by assumption) (by assumption)]; omega), by exact hlo67, by exact ho69, by exact offR_nil, hr82, (row_nilL _ _ _ _ _), hO62, hB79⟩
        · rintro k83 a84 w85 ⟨j, uw, h84, rfl, hi86, hi87, hi88, hi89, hi90, hf91, hf92, hf93, hB94⟩
          have hz95 := hB94.size
          have hlo96 : ∀ q, S61 q → w.heap.size ≤ q := by assumption
          have ho97 : ∀ i, (Value.ownBlock (u41)) = some i → ¬ S61 i := by assumption
          have ho98 : ∀ i, (Value.ownBlock (uw)) = some i → ¬ S61 i := by assumption
          refine co_seq ?_
          refine co_seq ?_
          refine co_reg ?_
          refine pk0 (v := .int .i64 ((j : Nat) : Int)) h84 rfl fun a99 h99 => ?_; clear h84
          refine pk0 (v := u41) h99 rfl fun a100 h100 => ?_; clear h99
          refine pk (v := .int .i64 ((ys.length : Nat) : Int)) h100 rfl (rn_lenOwn rfl rfl Try.underlying23 hf91) fun a101 h101 => ?_; clear h100
          refine pk0 (v := .bool (decide (((j : Nat) : Int) < ((ys.length : Nat) : Int)))) h101 rfl fun a102 h102 => ?_; clear h101
          refine pk0 (v := .bool (decide (((j : Nat) : Int) < ((ys.length : Nat) : Int)))) h102 rfl fun a103 h103 => ?_; clear h102
          cases hc104 : (decide (((j : Nat) : Int) < ((ys.length : Nat) : Int)))
          ·
           rw [hc104] at h103
           have hp105 : ¬ (((j : Nat) : Int) < ((ys.length : Nat) : Int)) := of_decide_eq_false hc104
           clear hc104
           refine psk h103 rfl fun a106 h106 => ?_; clear h103
           refine psk h106 rfl fun a107 h107 => ?_; clear h106
           refine psk h107 rfl fun a108 h108 => ?_; clear h107
           refine psk h108 rfl fun a109 h109 => ?_; clear h108
           refine pk0 (v := .bool false) h109 rfl fun a110 h110 => ?_; clear h109
           refine pl_nil ?_
           refine co_then ?_
           refine co_false h110 rfl ?_
           refine wp_exit ?_
           refine co_thenX ?_
           refine co_thenX ?_
           refine co_blockX ?_
           refine co_then ?_
           exact ⟨(hitP (ys.take j) F T), uw, h110.sub ⟨rfl, rfl, rfl, rfl, rfl, rfl, rfl, trivial⟩, by exact want_is (by omega) (by omega), by exact hlo96, by exact ho97, by exact ho98, hf91, (row_eq hf92 (rfl)), hf93, hB94⟩
          ·
           rw [hc104] at h103
           have hp111 : ((j : Nat) : Int) < ((ys.length : Nat) : Int) := of_decide_eq_true hc104
           clear hc104
           refine pk0 (v := uw) h103 rfl fun a112 h112 => ?_; clear h103
           refine pk (v := .int .i64 (((hitP (ys.take j) F T).length : Nat) : Int)) h112 rfl (rn_lenOwn rfl rfl Try.underlying33 hf92) fun a113 h113 => ?_; clear h112
           refine pk0 (v := .int .i64 (1 + ((md : Nat) : Int))) h113 rfl fun a114 h114 => ?_; clear h113
           refine pk0 (v := .bool (decide ((((hitP (ys.take j) F T).length : Nat) : Int) < 1 + ((md : Nat) : Int)))) h114 rfl fun a115 h115 => ?_; clear h114
           refine pk0 (v := .bool (decide ((((hitP (ys.take j) F T).length : Nat) : Int) < 1 + ((md : Nat) : Int)))) h115 rfl fun a116 h116 => ?_; clear h115
           refine pl_nil ?_
           refine co_then ?_
           cases hc117 : (decide ((((hitP (ys.take j) F T).length : Nat) : Int) < 1 + ((md : Nat) : Int)))
           ·
            rw [hc117] at h116
            have hp118 : ¬ ((((hitP (ys.take j) F T).length : Nat) : Int) < 1 + ((md : Nat) : Int)) := of_decide_eq_false hc117
            clear hc117
            refine co_false h116 rfl ?_
            refine wp_exit ?_
            refine co_thenX ?_
            refine co_thenX ?_
            refine co_blockX ?_
            refine co_then ?_
            exact ⟨(hitP (ys.take j) F T), uw, h116.sub ⟨rfl, rfl, rfl, rfl, rfl, rfl, rfl, trivial⟩, by exact want_is (by omega) (by omega), by exact hlo96, by exact ho97, by exact ho98, hf91, (row_eq hf92 (rfl)), hf93, hB94⟩
           ·
            rw [hc117] at h116
            have hp119 : (((hitP (ys.take j) F T).length : Nat) : Int) < 1 + ((md : Nat) : Int) := of_decide_eq_true hc117
            clear hc117
            refine co_true h116 rfl ?_
            refine wp_skip ?_
            refine co_then ?_
            refine co_seq ?_
            refine wp_block ?_
            refine co_seq ?_
            refine co_reg ?_
            refine pk0 (v := u41) h116 rfl fun a120 h120 => ?_; clear h116
            refine pk0 (v := .int .i64 ((j : Nat) : Int)) h120 rfl fun a121 h121 => ?_; clear h120
            obtain ⟨y122, hy122⟩ : ∃ z, ys[j]? = some z := ⟨_, List.getElem?_eq_getElem (by first | omega | (simp; done) | (simp; omega))⟩
            refine pk (v := pt (blkOf u41) (offOf u41 + j * 3)) h121 rfl (rn_index rfl rfl rfl Try.underlying23 Try.sizeOf59 (row_sl hf91 opE_len) (by omega) (by first | omega | (simp; done) | (simp; omega))) fun a123 h123 => ?_; clear h121
            refine pk0 (v := pt (blkOf u41) (offOf u41 + j * 3)) h123 rfl fun a124 h124 => ?_; clear h123
            refine pk (v := .string y122.1) h124 rfl (rn_load1 rfl rfl Try.isAgg9 ((sl_at (row_sl hf91 opE_len) hy122) 0 _ rfl)) fun a125 h125 => ?_; clear h124
            refine pk0 (v := .string F) h125 rfl fun a126 h126 => ?_; clear h125
            refine pk0 (v := .string T) h126 rfl fun a127 h127 => ?_; clear h126
            refine pw h127 rfl (op_call (args := #[.string y122.1, .string F, .string T]) (R := fun res xw => res = .bool (inB F T y122.1) ∧ Below w85.heap.size w85 xw) rfl rfl rfl (by kernel_rfl) (by kernel_rfl) (Try.call17 _ _) (rin34_any y122.1 F T w85 ) (by rintro e x ⟨rfl, hb130⟩; exact ⟨_, rfl, ⟨rfl, hb130⟩⟩)) ?_; clear h127
            rintro _ w129 a128 ⟨rfl, hb130⟩ h128
            have hz131 := hb130.size
            have ho132 := TkA.ofS hf93
            refine pl_nil ?_
            refine co_then ?_
            have hB134 := hb_call hB94 hb130
            cases hc133 : (inB F T y122.1)
            ·
             rw [hc133] at h128
             refine co_false h128 rfl ?_
             refine wp_skip ?_
             refine co_blockN ?_
             refine co_then ?_
             refine co_reg ?_
             refine pk0 (v := .int .i64 ((j : Nat) : Int)) h128 rfl fun a135 h135 => ?_; clear h128
             refine pk (v := .int .i64 ((j + 1 : Nat) : Int)) h135 rfl (rn_arith' rfl rfl rfl rfl rfl rfl (IntWalk.i64_in _ (by omega)) (by omega)) fun a136 h136 => ?_; clear h135
             refine pk0 (v := .int .i64 ((j + 1 : Nat) : Int)) h136 rfl fun a137 h137 => ?_; clear h136
             refine pl_nil ?_
             refine co_then ?_
             refine ⟨(ys.length - (j + 1)), by omega, ?_⟩
             have hr138 := row_kept_new hf91 (below_grown hb130)
             have hr139 := row_kept_new hf92 (below_grown hb130)
             have hO140 := TkA.gr hf93 (below_grown hb130) (fun k e => by cases e)
             exact ⟨j + 1, uw, h137.sub ⟨rfl, rfl, rfl, rfl, rfl, rfl, rfl, rfl, trivial⟩, rfl, by omega, by first | (simp [hitP]; done) | omega | (rw [← hit_y (by assumption) (by assumption), List.length_append]; simp; omega) | (rw [← hit_n (by assumption) (by assumption)]; omega), by exact hlo96, by exact ho97, by exact ho98, hr138, (row_eq hr139 (by first | rfl | exact hit_y (by assumption) (by assumption) | exact hit_n (by assumption) (by assumption))), hO140, hB134⟩
            ·
             rw [hc133] at h128
             refine co_true h128 rfl ?_
             refine dr_gen (fun x => Below w.heap.size w x ∧ x.ownsRow w26.heap.size 59 3 u41 ys.length (ys.flatMap opE)) (by kernel_rfl) (fun w141 hg142 => ?_) (fun w141 hg142 => ?_)
             ·
              have hz143 := hg142.size
              have hB144 := hb_new hB134 hg142
              have hr145 := row_kept_new hf91 (below_grown hb130)
              have hr146 := row_kept_new hr145 hg142
              exact ⟨hB144, hr146⟩
             have hz147 := hg142.size
             have hB148 := hb_new hB134 hg142
             have hr149 := row_kept_new hf91 (below_grown hb130)
             have hr150 := row_kept_new hr149 hg142
             refine dk0 0 (v := uw) h128 rfl rfl ⟨hB148, hr150⟩ fun a151 h151 => ?_; clear h128
             refine dk0 1 (v := u41) h151 rfl rfl ⟨hB148, hr150⟩ fun a152 h152 => ?_; clear h151
             refine dk0 2 (v := .int .i64 ((j : Nat) : Int)) h152 rfl rfl ⟨hB148, hr150⟩ fun a153 h153 => ?_; clear h152
             refine dk 3 (v := pt (blkOf u41) (offOf u41 + j * 3)) h153 rfl rfl ⟨hB148, hr150⟩ (fun x hx => (rn_index rfl rfl rfl Try.underlying23 Try.sizeOf59 (row_sl hx.2 opE_len) (by omega) (by first | omega | (simp; done) | (simp; omega)))) fun a154 h154 => ?_; clear h153
             refine dk0 4 (v := pt (blkOf u41) (offOf u41 + j * 3)) h154 rfl rfl ⟨hB148, hr150⟩ fun a155 h155 => ?_; clear h154
             refine dk 5 (v := .string y122.1) h155 rfl rfl ⟨hB148, hr150⟩ (fun x hx => (rn_load1 rfl rfl Try.isAgg9 ((sl_at (row_sl hx.2 opE_len) hy122) 0 _ rfl))) fun a156 h156 => ?_; clear h155
             refine dk0 6 (v := u41) h156 rfl rfl ⟨hB148, hr150⟩ fun a157 h157 => ?_; clear h156
             refine dk0 7 (v := .int .i64 ((j : Nat) : Int)) h157 rfl rfl ⟨hB148, hr150⟩ fun a158 h158 => ?_; clear h157
             refine dk 8 (v := pt (blkOf u41) (offOf u41 + j * 3)) h158 rfl rfl ⟨hB148, hr150⟩ (fun x hx => (rn_index rfl rfl rfl Try.underlying23 Try.sizeOf59 (row_sl hx.2 opE_len) (by omega) (by first | omega | (simp; done) | (simp; omega)))) fun a159 h159 => ?_; clear h158
             refine dk0 9 (v := pt (blkOf u41) (offOf u41 + j * 3 + 1)) h159 rfl rfl ⟨hB148, hr150⟩ fun a160 h160 => ?_; clear h159
             refine dk 10 (v := .string y122.2.1) h160 rfl rfl ⟨hB148, hr150⟩ (fun x hx => (rn_load1 rfl rfl Try.isAgg9 ((sl_at (row_sl hx.2 opE_len) hy122) 1 _ rfl))) fun a161 h161 => ?_; clear h160
             refine dk0 11 (v := .agg #[.string y122.1, .string y122.2.1]) h161 rfl rfl ⟨hB148, hr150⟩ fun a162 h162 => ?_; clear h161
             refine d1 12 h162 rfl rfl (op_new (v := fun N => .slice (some ⟨N, 0, none⟩) 1 1) (T := 57) (cs := #[.string y122.1, .string y122.2.1]) (by kernel_rfl) (by kernel_rfl) (by kernel_rfl)) ?_ ?_; clear h162
             ·
              rintro _ w164 ⟨N165, rfl, hN168, hz169, hk167, hg166⟩
              have ha170 := row_fresh hr150 hN168
              have hr172 := row_kept_new hf92 (below_grown hb130)
              have hr173 := row_kept_new hr172 hg142
              have ha171 := row_fresh hr173 hN168
              have hz174 := hg166.size
              have hO176 := TkA.gr hf93 (below_grown hb130) (fun k e => by cases e)
              have hO177 := TkA.gr hO176 hg142 (fun k e => by cases e)
              have ho175 := off_new (TkA.ofS hO177) hN168
              have hB178 := hb_new hB148 hg166
              have hr179 := row_kept_new hr150 hg166
              exact ⟨hB178, hr179⟩
             rintro _ w164 a163 ⟨N165, rfl, hN168, hz169, hk167, hg166⟩ h163
             have ha170 := row_fresh hr150 hN168
             have hr172 := row_kept_new hf92 (below_grown hb130)
             have hr173 := row_kept_new hr172 hg142
             have ha171 := row_fresh hr173 hN168
             have hz174 := hg166.size
             have hO176 := TkA.gr hf93 (below_grown hb130) (fun k e => by cases e)
             have hO177 := TkA.gr hO176 hg142 (fun k e => by cases e)
             have ho175 := off_new (TkA.ofS hO177) hN168
             try dsimp only at h163
             have hB178 := hb_new hB148 hg166
             have hr179 := row_kept_new hr150 hg166
             have hr186 := row_kept_new hr173 hg166
             refine d1 13 h163 rfl rfl (op_appendF rfl w.heap.size 57 (z := .agg #[.string (⟨#[]⟩), .string (⟨#[]⟩)]) (size := 2) (bytes := 32) Try.underlying33 (by kernel_rfl) rfl rfl rfl hr186 rfl hk167 rfl (by kernel_rfl) (by first | omega | (simp only [List.length_nil, List.length_append, List.length_cons, List.length_take, List.length_drop]; omega)) (by first | omega | (simp only [List.length_nil, List.length_append, List.length_cons, List.length_take, List.length_drop]; omega)) (by omega)) ?_ ?_; clear h163
             ·
              rintro v182 w181 ⟨hr183, hwt185, hg184⟩
              have hr183' : w181.ownsRow w.heap.size 57 2 v182 (((hitP (ys.take j) F T) ++ [(y122.1, y122.2.1)]).length) (((hitP (ys.take j) F T) ++ [(y122.1, y122.2.1)]).flatMap prE) := row_push (y := (y122.1, y122.2.1)) hr183 rfl rfl; clear hr183
              have hO189 := TkA.gr hO177 hg166 (fun k e => by cases e)
              have ho188 := TkA.ofS hO189
              have ho187 := offR_went ho98 ho188 hwt185
              have hz190 := hg184.size
              have hB191 := hb_row hB178 hr186 (by omega) hg184
              have hr192 := row_kept_row hr179 hr186 hg184 (by decide)
              exact ⟨hB191, hr192⟩
             rintro v182 w181 a180 ⟨hr183, hwt185, hg184⟩ h180
             have hr183' : w181.ownsRow w.heap.size 57 2 v182 (((hitP (ys.take j) F T) ++ [(y122.1, y122.2.1)]).length) (((hitP (ys.take j) F T) ++ [(y122.1, y122.2.1)]).flatMap prE) := row_push (y := (y122.1, y122.2.1)) hr183 rfl rfl; clear hr183
             have hO189 := TkA.gr hO177 hg166 (fun k e => by cases e)
             have ho188 := TkA.ofS hO189
             have ho187 := offR_went ho98 ho188 hwt185
             have hz190 := hg184.size
             have hB191 := hb_row hB178 hr186 (by omega) hg184
             have hr192 := row_kept_row hr179 hr186 hg184 (by decide)
             refine dk0 14 (v := v182) h180 rfl rfl ⟨hB191, hr192⟩ fun a193 h193 => ?_; clear h180
             refine dr_done (by kernel_rfl) ?_
             refine co_blockN ?_
             refine co_then ?_
             refine co_reg ?_
             refine pk0 (v := .int .i64 ((j : Nat) : Int)) h193 rfl fun a194 h194 => ?_; clear h193
             refine pk (v := .int .i64 ((j + 1 : Nat) : Int)) h194 rfl (rn_arith' rfl rfl rfl rfl rfl rfl (IntWalk.i64_in _ (by omega)) (by omega)) fun a195 h195 => ?_; clear h194
             refine pk0 (v := .int .i64 ((j + 1 : Nat) : Int)) h195 rfl fun a196 h196 => ?_; clear h195
             refine pl_nil ?_
             refine co_then ?_
             refine ⟨(ys.length - (j + 1)), by omega, ?_⟩
             have hO197 := TkA.gr hO189 hg184 (fun k e => ho98 k e)
             exact ⟨j + 1, v182, h196.sub ⟨rfl, rfl, rfl, rfl, rfl, rfl, rfl, rfl, trivial⟩, rfl, by omega, by first | (simp [hitP]; done) | omega | (rw [← hit_y (by assumption) (by assumption), List.length_append]; simp; omega) | (rw [← hit_n (by assumption) (by assumption)]; omega), by exact hlo96, by exact ho97, by exact ho187, hr192, (row_eq hr183' (by first | rfl | exact hit_y (by assumption) (by assumption) | exact hit_n (by assumption) (by assumption))), hO197, hB191⟩
       rintro a198 w199 ⟨lw, uz, h198, hi200, hi201, hi202, hi203, hf204, hf205, hf206, hB207⟩
       have hz208 := hB207.size
       have hlo209 : ∀ q, S61 q → w.heap.size ≤ q := by assumption
       have ho210 : ∀ i, (Value.ownBlock (u41)) = some i → ¬ S61 i := by assumption
       have ho211 : ∀ i, (Value.ownBlock (uz)) = some i → ¬ S61 i := by assumption
       have hlw : lw = (hitP ys F T).take (1 + md) := by assumption
       refine co_seq ?_
       refine co_seq ?_
       refine co_reg ?_
       refine pk0 (v := .int .i64 0) h198 rfl fun a212 h212 => ?_; clear h198
       refine pl_nil ?_
       refine co_then ?_
       refine wp_block ?_
       have h213 : Slots 195 [(0, v), (1, .string F), (2, .string T), (9, u41), (11, .int .i64 (1 + ((md : Nat) : Int))), (12, pt tk60 0), (14, uz), (16, .int .i64 0)] _ := h212.sub ⟨rfl, rfl, rfl, rfl, rfl, rfl, rfl, rfl, trivial⟩; clear h212
       refine co_loop (fun mm a x => ∃ (ri : Nat) (dn : Bool) (d : RdD) (Sx : Nat → Prop), Slots 195 [(0, v), (1, .string F), (2, .string T), (9, u41), (11, .int .i64 (1 + ((md : Nat) : Int))), (12, pt tk60 0), (14, uz), (16, .int .i64 ((ri : Nat) : Int))] a ∧ mm = 100 - ri ∧ (ri ≤ 100) ∧ (PgI ys F T (1 + md) ri dn d) ∧ (∀ q, Sx q → w.heap.size ≤ q) ∧ (∀ i, (Value.ownBlock (u41)) = some i → ¬ Sx i) ∧ (∀ i, (Value.ownBlock (uz)) = some i → ¬ Sx i) ∧ x.ownsRow w26.heap.size 59 3 u41 ys.length (ys.flatMap opE) ∧ x.ownsRow w.heap.size 57 2 uz lw.length (lw.flatMap prE) ∧ TkA Sx x tk60 dn d ∧ Below w.heap.size w x) (100 - 0) ?_ ?_
       · exact ⟨0, false, (RdD.mk 1 2 0 F T 9 (1 + (md : Int)) 9 F []), S61, h213.sub ⟨rfl, rfl, rfl, rfl, rfl, rfl, rfl, (slot_eq rfl (congrArg (Value.int .i64) (by first | rfl | omega))), trivial⟩, rfl, by omega, by exact pg_start ys F T md, by exact hlo209, by exact ho210, by exact ho211, hf204, hf205, hf206, hB207⟩
       · rintro k214 a215 w216 ⟨ri, dn, d, Sx, h215, rfl, hi217, hi218, hi219, hi220, hi221, hf222, hf223, hf224, hB225⟩
         have hz226 := hB225.size
         have hlo227 : ∀ q, Sx q → w.heap.size ≤ q := by assumption
         have ho228 : ∀ i, (Value.ownBlock (u41)) = some i → ¬ Sx i := by assumption
         have ho229 : ∀ i, (Value.ownBlock (uz)) = some i → ¬ Sx i := by assumption
         have hPg : PgI ys F T (1 + md) ri dn d := by assumption
         refine co_seq ?_
         refine co_seq ?_
         refine co_reg ?_
         refine pk0 (v := .int .i64 ((ri : Nat) : Int)) h215 rfl fun a230 h230 => ?_; clear h215
         refine pk0 (v := .bool (decide (((ri : Nat) : Int) < 100))) h230 rfl fun a231 h231 => ?_; clear h230
         refine pl_nil ?_
         refine co_then ?_
         cases hc232 : (decide (((ri : Nat) : Int) < 100))
         ·
          rw [hc232] at h231
          have hp233 : ¬ (((ri : Nat) : Int) < 100) := of_decide_eq_false hc232
          clear hc232
          refine co_false h231 rfl ?_
          refine wp_exit ?_
          refine co_thenX ?_
          refine co_thenX ?_
          refine co_blockX ?_
          refine co_then ?_
          refine co_seq ?_
          refine co_reg ?_
          refine pk0 (v := .bool false) h231 rfl fun a234 h234 => ?_; clear h231
          refine pl_nil ?_
          refine co_then ?_
          refine wp_ret ?_
          refine co_ret1 h234 rfl rfl ?_
          exfalso; have := PgI.len (by assumption : PgI ys F T (1 + md) ri dn d); omega
         ·
          rw [hc232] at h231
          have hp235 : ((ri : Nat) : Int) < 100 := of_decide_eq_true hc232
          clear hc232
          refine co_true h231 rfl ?_
          refine wp_skip ?_
          refine co_then ?_
          refine co_seq ?_
          refine wp_block ?_
          refine co_seq ?_
          refine co_reg ?_
          refine pk0 (v := pt tk60 0) h231 rfl fun a236 h236 => ?_; clear h231
          have hg239 := hPg.con
          have hg240 := PgI.len hPg
          refine pw h236 rfl (op_call (args := #[pt tk60 0]) (R := fun res xw => ∃ u : Value, ∃ S' : Nat → Prop, res = .tuple #[.agg #[.int .i64 (if dn = true then d.rq else 0), .int .i64 0, .int .u64 (if dn = true then d.tm else 0), .int .i64 0, u], .bool dn] ∧ TkA S' xw tk60 dn d ∧ (xw.ownsRow w216.heap.size 57 2 u (RL dn d).length ((RL dn d).flatMap prE)) ∧ (∀ i, (Value.ownBlock u) = some i → ¬ S' i) ∧ Grew Sx S' w216 xw) rfl rfl rfl (by kernel_rfl) (by kernel_rfl) (Try.call9 _ _) (tkDone w216 hf224 (by omega) (fun e => by have := (hPg.live e).2.1; omega) (by omega)) (by rintro e x ⟨u, S', h0, h⟩; exact ⟨_, h0, u, S', rfl, h⟩)) ?_; clear h236
          rintro _ w238 a237 ⟨u241, S242, rfl, hO243, hq245, hq246, hx244⟩ h237
          have hlo248 : ∀ q, S242 q → w.heap.size ≤ q := hx244.lo hlo227 (by omega)
          have hB247 := hbL hB225 hlo227 hx244.but
          have hz249 := hB247.size
          have hz250 := hx244.but.size
          refine pk0 (v := .tuple #[.agg #[.int .i64 (if dn = true then d.rq else 0), .int .i64 0, .int .u64 (if dn = true then d.tm else 0), .int .i64 0, u241], .bool dn]) h237 rfl fun a251 h251 => ?_; clear h237
          refine pk0 (v := .agg #[.int .i64 (if dn = true then d.rq else 0), .int .i64 0, .int .u64 (if dn = true then d.tm else 0), .int .i64 0, u241]) h251 rfl fun a252 h252 => ?_; clear h251
          refine pk0 (v := .bool dn) h252 rfl fun a253 h253 => ?_; clear h252
          refine pw h253 rfl (op_new (v := fun N => pt N 0) (T := 35) (cs := #[.int .i64 0, .int .i64 0, .int .u64 0, .int .i64 0, .slice none 0 0]) (by kernel_rfl) (by kernel_rfl) (by kernel_rfl)) ?_; clear h253
          rintro _ w255 a254 ⟨N256, rfl, hN259, hz260, hk258, hg257⟩ h254
          have hr262 := own_butS hf222 hx244.but ho228
          have ha261 := row_fresh hr262 hN259
          have hr264 := own_butS hf223 hx244.but ho229
          have ha263 := row_fresh hr264 hN259
          have ha265 := row_fresh hq245 hN259
          have hz266 := hg257.size
          have ho267 := off_new (TkA.ofS hO243) hN259
          try dsimp only at h254
          have hr273 := row_kept_new hq245 hg257
          refine pwD h254 rfl (op_storeN rfl rfl rfl (all_cons rfl (all_cons rfl (all_cons rfl (all_cons rfl (all_cons (row_one hr273) all_nil))))) (by kernel_rfl) hk258 rfl) ?_; clear h254
          rintro _ w269 a268 ⟨hk270, hz271, hg272⟩ h268
          have hk270' : Blk w269 N256 35 #[.int .i64 (if dn = true then d.rq else 0), .int .i64 0, .int .u64 (if dn = true then d.tm else 0), .int .i64 0, u241] := hk270; clear hk270
          have hz274 := hg272.size
          refine pk0 (v := .bool dn) h268 rfl fun a275 h275 => ?_; clear h268
          refine pl_nil ?_
          refine co_then ?_
          refine co_seq ?_
          refine co_seq ?_
          refine co_reg ?_
          refine pk0 (v := .bool dn) h275 rfl fun a276 h276 => ?_; clear h275
          refine pl_nil ?_
          refine co_then ?_
          have hB278 := hb_new hB247 hg257
          have hB279 := hb_at hB278 hg272 (by omega)
          have hr280 := row_kept_new hr262 hg257
          have hr281 := row_kept_at hr280 hg272 (ha261)
          have hr282 := row_kept_new hr264 hg257
          have hr283 := row_kept_at hr282 hg272 (ha263)
          have hO284 := TkA.gr hO243 hg257 (fun k e => by cases e)
          have hO285 := TkA.gr hO284 hg272 (fun k e => by cases e; exact ho267)
          cases hc277 : (dn)
          ·
           rw [hc277] at h276
           refine co_false h276 rfl ?_
           refine wp_skip ?_
           refine co_then ?_
           refine co_seq ?_
           refine co_reg ?_
           refine pk0 (v := pt tk60 0) h276 rfl fun a286 h286 => ?_; clear h276
           have hdn9 : dn = false := by assumption
           have hO289 : TkA S242 w269 tk60 false d := hdn9 ▸ hO285
           have hPl := (hdn9 ▸ hPg : PgI ys F T (1 + md) ri false d)
           have hPv := hPl.live rfl
           have hPc := hPl.con
           refine pw h286 rfl (op_call (args := #[pt tk60 0, .int .i64 0, .int .i64 (-1)]) (R := fun res xw => ∃ S' : Nat → Prop, res = .tuple #[.int .i64 d.nd, .agg #[.int .i64 9, .int .i64 0, .int .i64 d.rq, .int .i64 0, .bool false, .int .u64 d.tm, .int .u64 0, .int .i64 (mnI 2 (d.n - (d.prs.length : Int))), .int .i64 0, .int .i64 0, .int .i64 0, .string d.key, .string d.to_, .int .i64 0, .slice none 0 0, .int .u64 0, .int .i64 0, .int .i64 0, .slice none 0 0, .slice none 0 0, .slice none 0 0, .slice none 0 0]] ∧ TkA S' xw tk60 false d ∧ Grew S242 S' w269 xw) rfl rfl rfl (by kernel_rfl) (by kernel_rfl) (Try.call13 _ _) (tkNext w269 hO289 (by omega) (by omega) 0 (-1)) (by rintro e x ⟨S', h0, h⟩; exact ⟨_, h0, S', rfl, h⟩)) ?_; clear h286
           rintro _ w288 a287 ⟨S290, rfl, hO291, hx292⟩ h287
           have hr293 := row_kept_at hr273 hg272 (ha265)
           have hlo295 : ∀ q, S290 q → w.heap.size ≤ q := hx292.lo hlo248 (by omega)
           have hB294 := hbL hB279 hlo248 hx292.but
           have hz296 := hB294.size
           have hz297 := hx292.but.size
           have hmn := mnI_p 2 (d.n - (d.prs.length : Int))
           refine pk0 (v := .tuple #[.int .i64 d.nd, .agg #[.int .i64 9, .int .i64 0, .int .i64 d.rq, .int .i64 0, .bool false, .int .u64 d.tm, .int .u64 0, .int .i64 (mnI 2 (d.n - (d.prs.length : Int))), .int .i64 0, .int .i64 0, .int .i64 0, .string d.key, .string d.to_, .int .i64 0, .slice none 0 0, .int .u64 0, .int .i64 0, .int .i64 0, .slice none 0 0, .slice none 0 0, .slice none 0 0, .slice none 0 0]]) h287 rfl fun a298 h298 => ?_; clear h287
           refine pk0 (v := .int .i64 d.nd) h298 rfl fun a299 h299 => ?_; clear h298
           refine pk0 (v := .agg #[.int .i64 9, .int .i64 0, .int .i64 d.rq, .int .i64 0, .bool false, .int .u64 d.tm, .int .u64 0, .int .i64 (mnI 2 (d.n - (d.prs.length : Int))), .int .i64 0, .int .i64 0, .int .i64 0, .string d.key, .string d.to_, .int .i64 0, .slice none 0 0, .int .u64 0, .int .i64 0, .int .i64 0, .slice none 0 0, .slice none 0 0, .slice none 0 0, .slice none 0 0]) h299 rfl fun a300 h300 => ?_; clear h299
           refine pw h300 rfl (op_new (v := fun N => pt N 0) (T := 46) (cs := #[.int .i64 0, .int .i64 0, .int .i64 0, .int .i64 0, .bool false, .int .u64 0, .int .u64 0, .int .i64 0, .int .i64 0, .int .i64 0, .int .i64 0, .string (⟨#[]⟩), .string (⟨#[]⟩), .int .i64 0, .slice none 0 0, .int .u64 0, .int .i64 0, .int .i64 0, .slice none 0 0, .slice none 0 0, .slice none 0 0, .slice none 0 0]) (by kernel_rfl) (by kernel_rfl) (by kernel_rfl)) ?_; clear h300
           rintro _ w302 a301 ⟨N303, rfl, hN306, hz307, hk305, hg304⟩ h301
           have hr309 := own_butS hr281 hx292.but (Grew.offR hx244 hf222 ho228)
           have ha308 := row_fresh hr309 hN306
           have hr311 := own_butS hr283 hx292.but (Grew.offR hx244 hf223 ho229)
           have ha310 := row_fresh hr311 hN306
           have hr313 := own_butS hr293 hx292.but hq246
           have ha312 := row_fresh hr313 hN306
           have hz314 := hg304.size
           have ho315 := off_new (TkA.ofS hO291) hN306
           try dsimp only at h301
           refine pk0 (v := .int .i64 d.nd) h301 rfl fun a316 h316 => ?_; clear h301
           refine pwD h316 rfl (op_storeN rfl rfl rfl (all_cons rfl (all_cons rfl (all_cons rfl (all_cons rfl (all_cons rfl (all_cons rfl (all_cons rfl (all_cons rfl (all_cons rfl (all_cons rfl (all_cons rfl (all_cons rfl (all_cons rfl (all_cons rfl (all_cons rfl (all_cons rfl (all_cons rfl (all_cons rfl (all_cons rfl (all_cons rfl (all_cons rfl (all_cons rfl all_nil)))))))))))))))))))))) (by kernel_rfl) hk305 rfl) ?_; clear h316
           rintro _ w318 a317 ⟨hk319, hz320, hg321⟩ h317
           have hk319' : Blk w318 N303 46 #[.int .i64 9, .int .i64 0, .int .i64 d.rq, .int .i64 0, .bool false, .int .u64 d.tm, .int .u64 0, .int .i64 (mnI 2 (d.n - (d.prs.length : Int))), .int .i64 0, .int .i64 0, .int .i64 0, .string d.key, .string d.to_, .int .i64 0, .slice none 0 0, .int .u64 0, .int .i64 0, .int .i64 0, .slice none 0 0, .slice none 0 0, .slice none 0 0, .slice none 0 0] := hk319; clear hk319
           have hz322 := hg321.size
           refine pl_nil ?_
           refine co_then ?_
           refine co_seq ?_
           refine co_reg ?_
           refine pk0 (v := pt N303 2) h317 rfl fun a323 h323 => ?_; clear h317
           refine pk (v := .int .i64 d.rq) h323 rfl (rn_load1 rfl rfl Try.isAgg3 (hk319'.cell rfl)) fun a324 h324 => ?_; clear h323
           refine pk0 (v := pt N303 11) h324 rfl fun a325 h325 => ?_; clear h324
           refine pk (v := .string d.key) h325 rfl (rn_load1 rfl rfl Try.isAgg9 (hk319'.cell rfl)) fun a326 h326 => ?_; clear h325
           refine pk0 (v := pt N303 5) h326 rfl fun a327 h327 => ?_; clear h326
           refine pk (v := .int .u64 d.tm) h327 rfl (rn_load1 rfl rfl Try.isAgg22 (hk319'.cell rfl)) fun a328 h328 => ?_; clear h327
           refine pk0 (v := .agg #[.int .i64 10, .int .i64 0, .int .i64 d.rq, .int .i64 0, .bool false, .int .u64 d.tm, .int .u64 0, .int .i64 0, .int .i64 0, .int .i64 0, .int .i64 0, .string d.key, .string (⟨#[]⟩), .int .i64 0, .slice none 0 0, .int .u64 0, .int .i64 0, .int .i64 0, .slice none 0 0, .slice none 0 0, .slice none 0 0, .slice none 0 0]) h328 rfl fun a329 h329 => ?_; clear h328
           refine pw h329 rfl (op_new (v := fun N => pt N 0) (T := 46) (cs := #[.int .i64 0, .int .i64 0, .int .i64 0, .int .i64 0, .bool false, .int .u64 0, .int .u64 0, .int .i64 0, .int .i64 0, .int .i64 0, .int .i64 0, .string (⟨#[]⟩), .string (⟨#[]⟩), .int .i64 0, .slice none 0 0, .int .u64 0, .int .i64 0, .int .i64 0, .slice none 0 0, .slice none 0 0, .slice none 0 0, .slice none 0 0]) (by kernel_rfl) (by kernel_rfl) (by kernel_rfl)) ?_; clear h329
           rintro _ w331 a330 ⟨N332, rfl, hN335, hz336, hk334, hg333⟩ h330
           have hr338 := row_kept_new hr309 hg304
           have hr339 := row_kept_at hr338 hg321 (ha308)
           have ha337 := row_fresh hr339 hN335
           have hr341 := row_kept_new hr311 hg304
           have hr342 := row_kept_at hr341 hg321 (ha310)
           have ha340 := row_fresh hr342 hN335
           have hr344 := row_kept_new hr313 hg304
           have hr345 := row_kept_at hr344 hg321 (ha312)
           have ha343 := row_fresh hr345 hN335
           have hz346 := hg333.size
           have hO348 := TkA.gr hO291 hg304 (fun k e => by cases e)
           have hO349 := TkA.gr hO348 hg321 (fun k e => by cases e; exact ho315)
           have ho347 := off_new (TkA.ofS hO349) hN335
           try dsimp only at h330
           refine pwD h330 rfl (op_storeN rfl rfl rfl (all_cons rfl (all_cons rfl (all_cons rfl (all_cons rfl (all_cons rfl (all_cons rfl (all_cons rfl (all_cons rfl (all_cons rfl (all_cons rfl (all_cons rfl (all_cons rfl (all_cons rfl (all_cons rfl (all_cons rfl (all_cons rfl (all_cons rfl (all_cons rfl (all_cons rfl (all_cons rfl (all_cons rfl (all_cons rfl all_nil)))))))))))))))))))))) (by kernel_rfl) hk334 rfl) ?_; clear h330
           rintro _ w351 a350 ⟨hk352, hz353, hg354⟩ h350
           have hk352' : Blk w351 N332 46 #[.int .i64 10, .int .i64 0, .int .i64 d.rq, .int .i64 0, .bool false, .int .u64 d.tm, .int .u64 0, .int .i64 0, .int .i64 0, .int .i64 0, .int .i64 0, .string d.key, .string (⟨#[]⟩), .int .i64 0, .slice none 0 0, .int .u64 0, .int .i64 0, .int .i64 0, .slice none 0 0, .slice none 0 0, .slice none 0 0, .slice none 0 0] := hk352; clear hk352
           have hz355 := hg354.size
           refine pl_nil ?_
           refine co_then ?_
           refine co_seq ?_
           refine co_seq ?_
           refine co_reg ?_
           refine pk0 (v := .int .i64 0) h350 rfl fun a356 h356 => ?_; clear h350
           refine pl_nil ?_
           refine co_then ?_
           refine wp_block ?_
           obtain ⟨bs357, hb_bs357⟩ : ∃ b, b = w351.heap.size := ⟨_, rfl⟩
           have hr359 := row_kept_new hr342 hg333
           have hr360 := row_kept_at hr359 hg354 (ha340)
           have hu358 : ∀ k, Value.ownBlock uz = some k → k < bs357 := fun k hk => by have := (hr360.lt k hk).2; omega
           have h361 : Slots 195 [(0, v), (1, .string F), (2, .string T), (9, u41), (11, .int .i64 (1 + ((md : Nat) : Int))), (12, pt tk60 0), (14, uz), (16, .int .i64 ((ri : Nat) : Int)), (20, pt N303 0), (21, pt N332 0), (22, .int .i64 0)] _ := h356.sub ⟨rfl, rfl, rfl, rfl, rfl, rfl, rfl, rfl, rfl, rfl, rfl, trivial⟩; clear h356
           refine co_loop (fun mm a x => ∃ (k : Nat) (up : Value), Slots 195 [(0, v), (1, .string F), (2, .string T), (9, u41), (11, .int .i64 (1 + ((md : Nat) : Int))), (12, pt tk60 0), (14, uz), (16, .int .i64 ((ri : Nat) : Int)), (20, pt N303 0), (21, pt N332 0), (22, .int .i64 ((k : Nat) : Int))] a ∧ mm = ys.length - k ∧ (k ≤ ys.length) ∧ (((hitP (ys.take k) d.key d.to_).length : Int) ≤ mnI 2 (d.n - (d.prs.length : Int))) ∧ (∀ q, S290 q → w.heap.size ≤ q) ∧ (∀ i, (Value.ownBlock (u41)) = some i → ¬ S290 i) ∧ (∀ i, (Value.ownBlock (uz)) = some i → ¬ S290 i) ∧ (∀ i, (Value.ownBlock (up)) = some i → ¬ S290 i) ∧ (¬ S290 N303) ∧ (¬ S290 N332) ∧ x.ownsRow w26.heap.size 59 3 u41 ys.length (ys.flatMap opE) ∧ x.ownsRow w.heap.size 57 2 uz lw.length (lw.flatMap prE) ∧ Blk x N303 46 #[.int .i64 9, .int .i64 0, .int .i64 d.rq, .int .i64 0, .bool false, .int .u64 d.tm, .int .u64 0, .int .i64 (mnI 2 (d.n - (d.prs.length : Int))), .int .i64 0, .int .i64 0, .int .i64 0, .string d.key, .string d.to_, .int .i64 0, .slice none 0 0, .int .u64 0, .int .i64 0, .int .i64 0, .slice none 0 0, .slice none 0 0, .slice none 0 0, .slice none 0 0] ∧ Blk x N332 46 #[.int .i64 10, .int .i64 0, .int .i64 d.rq, .int .i64 0, .bool false, .int .u64 d.tm, .int .u64 0, .int .i64 0, .int .i64 0, .int .i64 0, .int .i64 0, .string d.key, .string (⟨#[]⟩), .int .i64 0, .slice none 0 0, .int .u64 0, .int .i64 0, .int .i64 0, .slice none 0 0, .slice none 0 0, .slice none 0 0, up] ∧ x.ownsRow bs357 57 2 up (hitP (ys.take k) d.key d.to_).length ((hitP (ys.take k) d.key d.to_).flatMap prE) ∧ TkA S290 x tk60 false d ∧ Below w.heap.size w x) (ys.length - 0) ?_ ?_
           have hr362 := row_kept_new hr339 hg333
           have hr363 := row_kept_at hr362 hg354 (ha337)
           have hk364 := hk319'.kept hg333 (by simp)
           have hk365 := hk364.kept hg354 (by simp; omega)
           have hO366 := TkA.gr hO349 hg333 (fun k e => by cases e)
           have hO367 := TkA.gr hO366 hg354 (fun k e => by cases e; exact ho347)
           have hB368 := hb_new hB294 hg304
           have hB369 := hb_at hB368 hg321 (by omega)
           have hB370 := hb_new hB369 hg333
           have hB371 := hb_at hB370 hg354 (by omega)
           · exact ⟨0, .slice none 0 0, h361.sub ⟨rfl, rfl, rfl, rfl, rfl, rfl, rfl, rfl, rfl, rfl, (slot_eq rfl (congrArg (Value.int .i64) (by first | rfl | omega))), trivial⟩, rfl, by omega, by first | (simp [hitP]; omega) | omega | (rw [← hit_y (by assumption) (by assumption), List.length_append]; simp; omega) | (rw [← hit_n (by assumption) (by assumption)]; omega), by exact hlo295, by exact (Grew.offR hx292 hr281 (Grew.offR hx244 hf222 ho228)), by exact (Grew.offR hx292 hr283 (Grew.offR hx244 hf223 ho229)), by exact offR_nil, by exact ho315, by exact ho347, hr363, hr360, hk365, hk352', (row_nilL _ _ _ _ _), hO367, hB371⟩
           · rintro k372 a373 w374 ⟨k, up, h373, rfl, hi375, hi376, hi377, hi378, hi379, hi380, hi381, hi382, hf383, hf384, hf385, hf386, hf387, hf388, hB389⟩
             have hz390 := hB389.size
             have hl391 := hf385.lt
             have hl392 := hf386.lt
             have hlo393 : ∀ q, S290 q → w.heap.size ≤ q := by assumption
             have ho394 : ∀ i, (Value.ownBlock (u41)) = some i → ¬ S290 i := by assumption
             have ho395 : ∀ i, (Value.ownBlock (uz)) = some i → ¬ S290 i := by assumption
             have ho396 : ∀ i, (Value.ownBlock (up)) = some i → ¬ S290 i := by assumption
             have ho397 : ¬ S290 N303 := by assumption
             have ho398 : ¬ S290 N332 := by assumption
             refine co_seq ?_
             refine co_seq ?_
             refine co_reg ?_
             refine pk0 (v := .int .i64 ((k : Nat) : Int)) h373 rfl fun a399 h399 => ?_; clear h373
             refine pk0 (v := u41) h399 rfl fun a400 h400 => ?_; clear h399
             refine pk (v := .int .i64 ((ys.length : Nat) : Int)) h400 rfl (rn_lenOwn rfl rfl Try.underlying23 hf383) fun a401 h401 => ?_; clear h400
             refine pk0 (v := .bool (decide (((k : Nat) : Int) < ((ys.length : Nat) : Int)))) h401 rfl fun a402 h402 => ?_; clear h401
             refine pl_nil ?_
             refine co_then ?_
             cases hc403 : (decide (((k : Nat) : Int) < ((ys.length : Nat) : Int)))
             ·
              rw [hc403] at h402
              have hp404 : ¬ (((k : Nat) : Int) < ((ys.length : Nat) : Int)) := of_decide_eq_false hc403
              clear hc403
              refine co_false h402 rfl ?_
              refine wp_exit ?_
              refine co_thenX ?_
              refine co_thenX ?_
              refine co_blockX ?_
              refine co_then ?_
              refine co_reg ?_
              refine pk0 (v := pt tk60 0) h402 rfl fun a405 h405 => ?_; clear h402
              refine pk (v := .agg #[.int .i64 10, .int .i64 0, .int .i64 d.rq, .int .i64 0, .bool false, .int .u64 d.tm, .int .u64 0, .int .i64 0, .int .i64 0, .int .i64 0, .int .i64 0, .string d.key, .string (⟨#[]⟩), .int .i64 0, .slice none 0 0, .int .u64 0, .int .i64 0, .int .i64 0, .slice none 0 0, .slice none 0 0, .slice none 0 0, up]) h405 rfl (rn_loadN rfl rfl Try.underlying46 rfl (by kernel_rfl) hf386.all) fun a406 h406 => ?_; clear h405
              refine pw h406 rfl (op_call (args := #[pt tk60 0, .int .i64 0, .agg #[.int .i64 10, .int .i64 0, .int .i64 d.rq, .int .i64 0, .bool false, .int .u64 d.tm, .int .u64 0, .int .i64 0, .int .i64 0, .int .i64 0, .int .i64 0, .string d.key, .string (⟨#[]⟩), .int .i64 0, .slice none 0 0, .int .u64 0, .int .i64 0, .int .i64 0, .slice none 0 0, .slice none 0 0, .slice none 0 0, up]]) (R := fun res xw => ∃ S' : Nat → Prop, res = .bool (moreF d false (hitP (ys.take k) d.key d.to_)) ∧ TkA S' xw tk60 (!moreF d false (hitP (ys.take k) d.key d.to_)) (nxD d (hitP (ys.take k) d.key d.to_)) ∧ Grew S290 S' w374 xw) rfl rfl rfl (by kernel_rfl) (by kernel_rfl) (Try.call11 _ _) (tkTake0 w374 hf388 (by omega) (by omega) false up (hitP (ys.take k) d.key d.to_) hPc.2.2.2.1 hf387 (by have := hit_len (ys.take k) d.key d.to_; have := List.length_take_le k ys; first | omega | (simp at *; omega)) (hit_sz hyk)) (by rintro e x ⟨S', h0, h⟩; exact ⟨_, h0, S', rfl, h⟩)) ?_; clear h406
              rintro _ w408 a407 ⟨S409, rfl, hO410, hx411⟩ h407
              have hlo413 : ∀ q, S409 q → w.heap.size ≤ q := hx411.lo hlo393 (by omega)
              have hB412 := hbL hB389 hlo393 hx411.but
              have hz414 := hB412.size
              have hz415 := hx411.but.size
              refine pl_nil ?_
              refine co_blockN ?_
              refine co_then ?_
              refine co_reg ?_
              refine pk0 (v := .int .i64 ((ri : Nat) : Int)) h407 rfl fun a416 h416 => ?_; clear h407
              refine pk (v := .int .i64 ((ri + 1 : Nat) : Int)) h416 rfl (rn_arith' rfl rfl rfl rfl rfl rfl (IntWalk.i64_in _ (by omega)) (by omega)) fun a417 h417 => ?_; clear h416
              refine pk0 (v := .int .i64 ((ri + 1 : Nat) : Int)) h417 rfl fun a418 h418 => ?_; clear h417
              refine pl_nil ?_
              refine co_then ?_
              refine ⟨(100 - (ri + 1)), by omega, ?_⟩
              have hr419 := own_butS hf383 hx411.but ho394
              have hr420 := own_butS hf384 hx411.but ho395
              exact ⟨ri + 1, (!moreF d false (hitP (ys.take k) d.key d.to_)), (nxD d (hitP (ys.take k) d.key d.to_)), S409, h418.sub ⟨rfl, rfl, rfl, rfl, rfl, rfl, rfl, rfl, trivial⟩, rfl, by omega, by first | exact pg_end hys hyk hPl (by omega) (by omega) (by omega) | exact pg_brk hys hyk hPl (by omega) (by assumption) (by assumption) (by omega) (by omega), by exact hlo413, by exact (Grew.offR hx411 hf383 ho394), by exact (Grew.offR hx411 hf384 ho395), hr419, hr420, hO410, hB412⟩
             ·
              rw [hc403] at h402
              have hp421 : ((k : Nat) : Int) < ((ys.length : Nat) : Int) := of_decide_eq_true hc403
              clear hc403
              refine co_true h402 rfl ?_
              refine wp_skip ?_
              refine co_then ?_
              refine co_seq ?_
              refine wp_block ?_
              refine co_seq ?_
              refine dr_gen (fun x => Below w.heap.size w x ∧ x.ownsRow w26.heap.size 59 3 u41 ys.length (ys.flatMap opE) ∧ Blk x N303 46 #[.int .i64 9, .int .i64 0, .int .i64 d.rq, .int .i64 0, .bool false, .int .u64 d.tm, .int .u64 0, .int .i64 (mnI 2 (d.n - (d.prs.length : Int))), .int .i64 0, .int .i64 0, .int .i64 0, .string d.key, .string d.to_, .int .i64 0, .slice none 0 0, .int .u64 0, .int .i64 0, .int .i64 0, .slice none 0 0, .slice none 0 0, .slice none 0 0, .slice none 0 0]) (by kernel_rfl) (fun w422 hg423 => ?_) (fun w422 hg423 => ?_)
              ·
               have hz424 := hg423.size
               have hB425 := hb_new hB389 hg423
               have hr426 := row_kept_new hf383 hg423
               have hk427 := hf385.kept hg423 (by simp)
               exact ⟨hB425, hr426, hk427⟩
              have hz428 := hg423.size
              have hB429 := hb_new hB389 hg423
              have hr430 := row_kept_new hf383 hg423
              have hk431 := hf385.kept hg423 (by simp)
              refine dk0 0 (v := u41) h402 rfl rfl ⟨hB429, hr430, hk431⟩ fun a432 h432 => ?_; clear h402
              refine dk0 1 (v := .int .i64 ((k : Nat) : Int)) h432 rfl rfl ⟨hB429, hr430, hk431⟩ fun a433 h433 => ?_; clear h432
              obtain ⟨y434, hy434⟩ : ∃ z, ys[k]? = some z := ⟨_, List.getElem?_eq_getElem (by first | omega | (simp; done) | (simp; omega))⟩
              refine dk 2 (v := pt (blkOf u41) (offOf u41 + k * 3)) h433 rfl rfl ⟨hB429, hr430, hk431⟩ (fun x hx => (rn_index rfl rfl rfl Try.underlying23 Try.sizeOf59 (row_sl hx.2.1 opE_len) (by omega) (by first | omega | (simp; done) | (simp; omega)))) fun a435 h435 => ?_; clear h433
              refine dk0 3 (v := pt (blkOf u41) (offOf u41 + k * 3)) h435 rfl rfl ⟨hB429, hr430, hk431⟩ fun a436 h436 => ?_; clear h435
              refine dk 4 (v := .string y434.1) h436 rfl rfl ⟨hB429, hr430, hk431⟩ (fun x hx => (rn_load1 rfl rfl Try.isAgg9 ((sl_at (row_sl hx.2.1 opE_len) hy434) 0 _ rfl))) fun a437 h437 => ?_; clear h436
              refine dk0 5 (v := pt N303 11) h437 rfl rfl ⟨hB429, hr430, hk431⟩ fun a438 h438 => ?_; clear h437
              refine dk 6 (v := .string d.key) h438 rfl rfl ⟨hB429, hr430, hk431⟩ (fun x hx => (rn_load1 rfl rfl Try.isAgg9 (hx.2.2.cell rfl))) fun a439 h439 => ?_; clear h438
              refine dk0 7 (v := pt N303 12) h439 rfl rfl ⟨hB429, hr430, hk431⟩ fun a440 h440 => ?_; clear h439
              refine dk 8 (v := .string d.to_) h440 rfl rfl ⟨hB429, hr430, hk431⟩ (fun x hx => (rn_load1 rfl rfl Try.isAgg9 (hx.2.2.cell rfl))) fun a441 h441 => ?_; clear h440
              refine d1 9 h441 rfl rfl (op_call (args := #[.string y434.1, .string d.key, .string d.to_]) (R := fun res xw => res = .bool (inB d.key d.to_ y434.1) ∧ Below w422.heap.size w422 xw) rfl rfl rfl (by kernel_rfl) (by kernel_rfl) (Try.call17 _ _) (rin34_any y434.1 d.key d.to_ w422 ) (by rintro e x ⟨rfl, hb444⟩; exact ⟨_, rfl, ⟨rfl, hb444⟩⟩)) ?_ ?_; clear h441
              ·
               rintro _ w443 ⟨rfl, hb444⟩
               have hz445 := hb444.size
               have hO447 := TkA.gr hf388 hg423 (fun k e => by cases e)
               have ho446 := TkA.ofS hO447
               have hB448 := hb_call hB429 hb444
               have hr449 := row_kept_new hr430 (below_grown hb444)
               have hk450 := hk431.below hb444
               exact ⟨hB448, hr449, hk450⟩
              rintro _ w443 a442 ⟨rfl, hb444⟩ h442
              have hz445 := hb444.size
              have hO447 := TkA.gr hf388 hg423 (fun k e => by cases e)
              have ho446 := TkA.ofS hO447
              refine dr_done (by kernel_rfl) ?_
              refine co_then ?_
              have hB449 := hb_call hB429 hb444
              have hr450 := row_kept_new hf384 hg423
              have hr451 := row_kept_new hr450 (below_grown hb444)
              have hk452 := hf386.kept hg423 (by simp)
              have hk453 := hk452.below hb444
              have hr454 := row_kept_new hf387 hg423
              have hr455 := row_kept_new hr454 (below_grown hb444)
              cases hc448 : (inB d.key d.to_ y434.1)
              ·
               rw [hc448] at h442
               refine co_false h442 rfl ?_
               refine wp_skip ?_
               refine co_blockN ?_
               refine co_then ?_
               refine co_reg ?_
               refine pk0 (v := .int .i64 ((k : Nat) : Int)) h442 rfl fun a456 h456 => ?_; clear h442
               refine pk (v := .int .i64 ((k + 1 : Nat) : Int)) h456 rfl (rn_arith' rfl rfl rfl rfl rfl rfl (IntWalk.i64_in _ (by omega)) (by omega)) fun a457 h457 => ?_; clear h456
               refine pk0 (v := .int .i64 ((k + 1 : Nat) : Int)) h457 rfl fun a458 h458 => ?_; clear h457
               refine pl_nil ?_
               refine co_then ?_
               refine ⟨(ys.length - (k + 1)), by omega, ?_⟩
               have hr459 := row_kept_new hr430 (below_grown hb444)
               have hk460 := hk431.below hb444
               have hO461 := TkA.gr hO447 (below_grown hb444) (fun k e => by cases e)
               exact ⟨k + 1, up, h458.sub ⟨rfl, rfl, rfl, rfl, rfl, rfl, rfl, rfl, rfl, rfl, rfl, trivial⟩, rfl, by omega, by first | (simp [hitP]; omega) | omega | (rw [← hit_y (by assumption) (by assumption), List.length_append]; simp; omega) | (rw [← hit_n (by assumption) (by assumption)]; omega), by exact hlo393, by exact ho394, by exact ho395, by exact ho396, by exact ho397, by exact ho398, hr459, hr451, hk460, hk453, (row_eq hr455 (by first | rfl | exact hit_y (by assumption) (by assumption) | exact hit_n (by assumption) (by assumption))), hO461, hB449⟩
              ·
               rw [hc448] at h442
               refine co_true h442 rfl ?_
               refine co_seq ?_
               refine co_seq ?_
               refine co_reg ?_
               refine pk0 (v := pt N332 21) h442 rfl fun a462 h462 => ?_; clear h442
               refine pk (v := up) h462 rfl (rn_load1 rfl rfl Try.isAgg33 (hk453.cell rfl)) fun a463 h463 => ?_; clear h462
               refine pk (v := .int .i64 (((hitP (ys.take k) d.key d.to_).length : Nat) : Int)) h463 rfl (rn_lenOwn rfl rfl Try.underlying33 hr455) fun a464 h464 => ?_; clear h463
               refine pk0 (v := pt N303 7) h464 rfl fun a465 h465 => ?_; clear h464
               have hk466 := hk431.below hb444
               refine pk (v := .int .i64 (mnI 2 (d.n - (d.prs.length : Int)))) h465 rfl (rn_load1 rfl rfl Try.isAgg3 (hk466.cell rfl)) fun a467 h467 => ?_; clear h465
               refine pk0 (v := .bool (decide ((((hitP (ys.take k) d.key d.to_).length : Nat) : Int) ≥ mnI 2 (d.n - (d.prs.length : Int))))) h467 rfl fun a468 h468 => ?_; clear h467
               refine pl_nil ?_
               refine co_then ?_
               cases hc469 : (decide ((((hitP (ys.take k) d.key d.to_).length : Nat) : Int) ≥ mnI 2 (d.n - (d.prs.length : Int))))
               ·
                rw [hc469] at h468
                have hp470 : ¬ ((((hitP (ys.take k) d.key d.to_).length : Nat) : Int) ≥ mnI 2 (d.n - (d.prs.length : Int))) := of_decide_eq_false hc469
                clear hc469
                refine co_false h468 rfl ?_
                refine wp_skip ?_
                refine co_then ?_
                refine dr_gen (fun x => Below w.heap.size w x ∧ x.ownsRow w26.heap.size 59 3 u41 ys.length (ys.flatMap opE)) (by kernel_rfl) (fun w471 hg472 => ?_) (fun w471 hg472 => ?_)
                ·
                 have hz473 := hg472.size
                 have hB474 := hb_new hB449 hg472
                 have hr475 := row_kept_new hr430 (below_grown hb444)
                 have hr476 := row_kept_new hr475 hg472
                 exact ⟨hB474, hr476⟩
                have hz477 := hg472.size
                have hB478 := hb_new hB449 hg472
                have hr479 := row_kept_new hr430 (below_grown hb444)
                have hr480 := row_kept_new hr479 hg472
                refine dk0 0 (v := pt N332 21) h468 rfl rfl ⟨hB478, hr480⟩ fun a481 h481 => ?_; clear h468
                refine dk0 2 (v := u41) h481 rfl rfl ⟨hB478, hr480⟩ fun a482 h482 => ?_; clear h481
                refine dk0 3 (v := .int .i64 ((k : Nat) : Int)) h482 rfl rfl ⟨hB478, hr480⟩ fun a483 h483 => ?_; clear h482
                refine dk 4 (v := pt (blkOf u41) (offOf u41 + k * 3)) h483 rfl rfl ⟨hB478, hr480⟩ (fun x hx => (rn_index rfl rfl rfl Try.underlying23 Try.sizeOf59 (row_sl hx.2 opE_len) (by omega) (by first | omega | (simp; done) | (simp; omega)))) fun a484 h484 => ?_; clear h483
                refine dk0 5 (v := pt (blkOf u41) (offOf u41 + k * 3)) h484 rfl rfl ⟨hB478, hr480⟩ fun a485 h485 => ?_; clear h484
                refine dk 6 (v := .string y434.1) h485 rfl rfl ⟨hB478, hr480⟩ (fun x hx => (rn_load1 rfl rfl Try.isAgg9 ((sl_at (row_sl hx.2 opE_len) hy434) 0 _ rfl))) fun a486 h486 => ?_; clear h485
                refine dk0 7 (v := u41) h486 rfl rfl ⟨hB478, hr480⟩ fun a487 h487 => ?_; clear h486
                refine dk0 8 (v := .int .i64 ((k : Nat) : Int)) h487 rfl rfl ⟨hB478, hr480⟩ fun a488 h488 => ?_; clear h487
                refine dk 9 (v := pt (blkOf u41) (offOf u41 + k * 3)) h488 rfl rfl ⟨hB478, hr480⟩ (fun x hx => (rn_index rfl rfl rfl Try.underlying23 Try.sizeOf59 (row_sl hx.2 opE_len) (by omega) (by first | omega | (simp; done) | (simp; omega)))) fun a489 h489 => ?_; clear h488
                refine dk0 10 (v := pt (blkOf u41) (offOf u41 + k * 3 + 1)) h489 rfl rfl ⟨hB478, hr480⟩ fun a490 h490 => ?_; clear h489
                refine dk 11 (v := .string y434.2.1) h490 rfl rfl ⟨hB478, hr480⟩ (fun x hx => (rn_load1 rfl rfl Try.isAgg9 ((sl_at (row_sl hx.2 opE_len) hy434) 1 _ rfl))) fun a491 h491 => ?_; clear h490
                refine dk0 12 (v := .agg #[.string y434.1, .string y434.2.1]) h491 rfl rfl ⟨hB478, hr480⟩ fun a492 h492 => ?_; clear h491
                refine dr_many [1, 13] (by kernel_rfl) (by simp) ⟨?_, ?_, trivial⟩
                ·
                 have hk493 := hk453.kept hg472 (by simp)
                 refine dr_opVal (i := 1) (v := up) h492 rfl rfl rfl rfl (by kernel_rfl) rfl (rn_load1 rfl rfl Try.isAgg33 (hk493.cell rfl)) ⟨hB478, hr480⟩ (fun a494 h494 => ?_); clear h492
                 refine d1 13 h494 rfl rfl (op_new (v := fun N => .slice (some ⟨N, 0, none⟩) 1 1) (T := 57) (cs := #[.string y434.1, .string y434.2.1]) (by kernel_rfl) (by kernel_rfl) (by kernel_rfl)) ?_ ?_; clear h494
                 ·
                  rintro _ w496 ⟨N497, rfl, hN500, hz501, hk499, hg498⟩
                  have ha502 := row_fresh hr480 hN500
                  have hr504 := row_kept_new hr451 hg472
                  have ha503 := row_fresh hr504 hN500
                  have hr506 := row_kept_new hr455 hg472
                  have ha505 := row_fresh hr506 hN500
                  have hz507 := hg498.size
                  have hO509 := TkA.gr hO447 (below_grown hb444) (fun k e => by cases e)
                  have hO510 := TkA.gr hO509 hg472 (fun k e => by cases e)
                  have ho508 := off_new (TkA.ofS hO510) hN500
                  have hB511 := hb_new hB478 hg498
                  have hr512 := row_kept_new hr480 hg498
                  exact ⟨hB511, hr512⟩
                 rintro _ w496 a495 ⟨N497, rfl, hN500, hz501, hk499, hg498⟩ h495
                 have ha502 := row_fresh hr480 hN500
                 have hr504 := row_kept_new hr451 hg472
                 have ha503 := row_fresh hr504 hN500
                 have hr506 := row_kept_new hr455 hg472
                 have ha505 := row_fresh hr506 hN500
                 have hz507 := hg498.size
                 have hO509 := TkA.gr hO447 (below_grown hb444) (fun k e => by cases e)
                 have hO510 := TkA.gr hO509 hg472 (fun k e => by cases e)
                 have ho508 := off_new (TkA.ofS hO510) hN500
                 try dsimp only at h495
                 have hB511 := hb_new hB478 hg498
                 have hr512 := row_kept_new hr480 hg498
                 have hr519 := row_kept_new hr506 hg498
                 refine d1 14 h495 rfl rfl (op_appendF rfl bs357 57 (z := .agg #[.string (⟨#[]⟩), .string (⟨#[]⟩)]) (size := 2) (bytes := 32) Try.underlying33 (by kernel_rfl) rfl rfl rfl hr519 rfl hk499 rfl (by kernel_rfl) (by first | omega | (simp only [List.length_nil, List.length_append, List.length_cons, List.length_take, List.length_drop]; omega)) (by first | omega | (simp only [List.length_nil, List.length_append, List.length_cons, List.length_take, List.length_drop]; omega)) (by omega)) ?_ ?_; clear h495
                 ·
                  rintro v515 w514 ⟨hr516, hwt518, hg517⟩
                  have hr516' : w514.ownsRow bs357 57 2 v515 (((hitP (ys.take k) d.key d.to_) ++ [(y434.1, y434.2.1)]).length) (((hitP (ys.take k) d.key d.to_) ++ [(y434.1, y434.2.1)]).flatMap prE) := row_push (y := (y434.1, y434.2.1)) hr516 rfl rfl; clear hr516
                  have hk522 := hk466.kept hg472 (by simp)
                  have hk523 := hk522.kept hg498 (by simp)
                  have hO524 := TkA.gr hO510 hg498 (fun k e => by cases e)
                  have ho521 := TkA.ofS hO524
                  have ho520 := offR_went ho396 ho521 hwt518
                  have hz525 := hg517.size
                  have hB526 := hb_row hB511 hr519 (by omega) hg517
                  have hr527 := row_kept_row hr512 hr519 hg517 (by decide)
                  exact ⟨hB526, hr527⟩
                 rintro v515 w514 a513 ⟨hr516, hwt518, hg517⟩ h513
                 have hr516' : w514.ownsRow bs357 57 2 v515 (((hitP (ys.take k) d.key d.to_) ++ [(y434.1, y434.2.1)]).length) (((hitP (ys.take k) d.key d.to_) ++ [(y434.1, y434.2.1)]).flatMap prE) := row_push (y := (y434.1, y434.2.1)) hr516 rfl rfl; clear hr516
                 have hk522 := hk466.kept hg472 (by simp)
                 have hk523 := hk522.kept hg498 (by simp)
                 have hO524 := TkA.gr hO510 hg498 (fun k e => by cases e)
                 have ho521 := TkA.ofS hO524
                 have ho520 := offR_went ho396 ho521 hwt518
                 have hz525 := hg517.size
                 have hB526 := hb_row hB511 hr519 (by omega) hg517
                 have hr527 := row_kept_row hr512 hr519 hg517 (by decide)
                 refine dk0 15 (v := pt N332 21) h513 rfl rfl ⟨hB526, hr527⟩ fun a528 h528 => ?_; clear h513
                 have hk534 := hk493.kept hg498 (by simp)
                 have hk535 := hk534.kept hg517 (own_neT hr519 hk534 (by decide))
                 refine d1D 16 h528 rfl rfl (op_store1 rfl rfl rfl (row_one hr516') Try.sizeOf33 hk535 rfl) ?_ ?_; clear h528
                 ·
                  rintro _ w530 ⟨hk531, hz532, hg533⟩
                  have hk531' : Blk w530 N332 46 #[.int .i64 10, .int .i64 0, .int .i64 d.rq, .int .i64 0, .bool false, .int .u64 d.tm, .int .u64 0, .int .i64 0, .int .i64 0, .int .i64 0, .int .i64 0, .string d.key, .string (⟨#[]⟩), .int .i64 0, .slice none 0 0, .int .u64 0, .int .i64 0, .int .i64 0, .slice none 0 0, .slice none 0 0, .slice none 0 0, v515] := hk531; clear hk531
                  have hz536 := hg533.size
                  have hB537 := hb_at hB526 hg533 (by omega)
                  have hr538 := row_kept_at hr527 hg533 (ha337)
                  exact ⟨hB537, hr538⟩
                 rintro _ w530 a529 ⟨hk531, hz532, hg533⟩ h529
                 have hk531' : Blk w530 N332 46 #[.int .i64 10, .int .i64 0, .int .i64 d.rq, .int .i64 0, .bool false, .int .u64 d.tm, .int .u64 0, .int .i64 0, .int .i64 0, .int .i64 0, .int .i64 0, .string d.key, .string (⟨#[]⟩), .int .i64 0, .slice none 0 0, .int .u64 0, .int .i64 0, .int .i64 0, .slice none 0 0, .slice none 0 0, .slice none 0 0, v515] := hk531; clear hk531
                 have hz536 := hg533.size
                 refine dr_done (by kernel_rfl) ?_
                 refine co_blockN ?_
                 refine co_then ?_
                 refine co_reg ?_
                 refine pk0 (v := .int .i64 ((k : Nat) : Int)) h529 rfl fun a537 h537 => ?_; clear h529
                 refine pk (v := .int .i64 ((k + 1 : Nat) : Int)) h537 rfl (rn_arith' rfl rfl rfl rfl rfl rfl (IntWalk.i64_in _ (by omega)) (by omega)) fun a538 h538 => ?_; clear h537
                 refine pk0 (v := .int .i64 ((k + 1 : Nat) : Int)) h538 rfl fun a539 h539 => ?_; clear h538
                 refine pl_nil ?_
                 refine co_then ?_
                 refine ⟨(ys.length - (k + 1)), by omega, ?_⟩
                 have hr540 := row_kept_at hr527 hg533 (ha337)
                 have hr541 := row_kept_new hr504 hg498
                 have hr542 := row_kept_ap hr541 hr519 hu358 hg517
                 have hr543 := row_kept_at hr542 hg533 (ha340)
                 have hk544 := hk523.kept hg517 (own_neT hr519 hk523 (by decide))
                 have hk545 := hk544.kept hg533 (by simp; omega)
                 have hr546 := row_kept_at hr516' hg533 (own_neT hr516' hk535 (by decide))
                 have hO547 := TkA.gr hO524 hg517 (fun k e => ho396 k e)
                 have hO548 := TkA.gr hO547 hg533 (fun k e => by cases e; exact ho398)
                 have hB549 := hb_at hB526 hg533 (by omega)
                 exact ⟨k + 1, v515, h539.sub ⟨rfl, rfl, rfl, rfl, rfl, rfl, rfl, rfl, rfl, rfl, rfl, trivial⟩, rfl, by omega, by first | (simp [hitP]; omega) | omega | (rw [← hit_y (by assumption) (by assumption), List.length_append]; simp; omega) | (rw [← hit_n (by assumption) (by assumption)]; omega), by exact hlo393, by exact ho394, by exact ho395, by exact ho520, by exact ho397, by exact ho398, hr540, hr543, hk545, hk531', (row_eq hr546 (by first | rfl | exact hit_y (by assumption) (by assumption) | exact hit_n (by assumption) (by assumption))), hO548, hB549⟩
                ·
                 refine dr_op (i := 13) h492 rfl rfl rfl rfl (op_new (v := fun N => .slice (some ⟨N, 0, none⟩) 1 1) (T := 57) (cs := #[.string y434.1, .string y434.2.1]) (by kernel_rfl) (by kernel_rfl) (by kernel_rfl)) ?_ ?_; clear h492
                 ·
                  rintro _ w551 ⟨N552, rfl, hN555, hz556, hk554, hg553⟩
                  have ha557 := row_fresh hr480 hN555
                  have hr559 := row_kept_new hr451 hg472
                  have ha558 := row_fresh hr559 hN555
                  have hr561 := row_kept_new hr455 hg472
                  have ha560 := row_fresh hr561 hN555
                  have hz562 := hg553.size
                  have hO564 := TkA.gr hO447 (below_grown hb444) (fun k e => by cases e)
                  have hO565 := TkA.gr hO564 hg472 (fun k e => by cases e)
                  have ho563 := off_new (TkA.ofS hO565) hN555
                  have hB566 := hb_new hB478 hg553
                  have hr567 := row_kept_new hr480 hg553
                  exact ⟨hB566, hr567⟩
                 rintro _ w551 a550 ⟨N552, rfl, hN555, hz556, hk554, hg553⟩ h550
                 have ha557 := row_fresh hr480 hN555
                 have hr559 := row_kept_new hr451 hg472
                 have ha558 := row_fresh hr559 hN555
                 have hr561 := row_kept_new hr455 hg472
                 have ha560 := row_fresh hr561 hN555
                 have hz562 := hg553.size
                 have hO564 := TkA.gr hO447 (below_grown hb444) (fun k e => by cases e)
                 have hO565 := TkA.gr hO564 hg472 (fun k e => by cases e)
                 have ho563 := off_new (TkA.ofS hO565) hN555
                 try dsimp only at h550
                 have hB566 := hb_new hB478 hg553
                 have hr567 := row_kept_new hr480 hg553
                 refine dr_many [1] (by kernel_rfl) (by simp) ⟨?_, trivial⟩
                 ·
                  have hk568 := hk453.kept hg472 (by simp)
                  have hk569 := hk568.kept hg553 (by simp)
                  refine dr_opVal (i := 1) (v := up) h550 rfl rfl rfl rfl (by kernel_rfl) rfl (rn_load1 rfl rfl Try.isAgg33 (hk569.cell rfl)) ⟨hB566, hr567⟩ (fun a570 h570 => ?_); clear h550
                  have hr577 := row_kept_new hr561 hg553
                  refine d1 14 h570 rfl rfl (op_appendF rfl bs357 57 (z := .agg #[.string (⟨#[]⟩), .string (⟨#[]⟩)]) (size := 2) (bytes := 32) Try.underlying33 (by kernel_rfl) rfl rfl rfl hr577 rfl hk554 rfl (by kernel_rfl) (by first | omega | (simp only [List.length_nil, List.length_append, List.length_cons, List.length_take, List.length_drop]; omega)) (by first | omega | (simp only [List.length_nil, List.length_append, List.length_cons, List.length_take, List.length_drop]; omega)) (by omega)) ?_ ?_; clear h570
                  ·
                   rintro v573 w572 ⟨hr574, hwt576, hg575⟩
                   have hr574' : w572.ownsRow bs357 57 2 v573 (((hitP (ys.take k) d.key d.to_) ++ [(y434.1, y434.2.1)]).length) (((hitP (ys.take k) d.key d.to_) ++ [(y434.1, y434.2.1)]).flatMap prE) := row_push (y := (y434.1, y434.2.1)) hr574 rfl rfl; clear hr574
                   have hk580 := hk466.kept hg472 (by simp)
                   have hk581 := hk580.kept hg553 (by simp)
                   have hO582 := TkA.gr hO565 hg553 (fun k e => by cases e)
                   have ho579 := TkA.ofS hO582
                   have ho578 := offR_went ho396 ho579 hwt576
                   have hz583 := hg575.size
                   have hB584 := hb_row hB566 hr577 (by omega) hg575
                   have hr585 := row_kept_row hr567 hr577 hg575 (by decide)
                   exact ⟨hB584, hr585⟩
                  rintro v573 w572 a571 ⟨hr574, hwt576, hg575⟩ h571
                  have hr574' : w572.ownsRow bs357 57 2 v573 (((hitP (ys.take k) d.key d.to_) ++ [(y434.1, y434.2.1)]).length) (((hitP (ys.take k) d.key d.to_) ++ [(y434.1, y434.2.1)]).flatMap prE) := row_push (y := (y434.1, y434.2.1)) hr574 rfl rfl; clear hr574
                  have hk580 := hk466.kept hg472 (by simp)
                  have hk581 := hk580.kept hg553 (by simp)
                  have hO582 := TkA.gr hO565 hg553 (fun k e => by cases e)
                  have ho579 := TkA.ofS hO582
                  have ho578 := offR_went ho396 ho579 hwt576
                  have hz583 := hg575.size
                  have hB584 := hb_row hB566 hr577 (by omega) hg575
                  have hr585 := row_kept_row hr567 hr577 hg575 (by decide)
                  refine dk0 15 (v := pt N332 21) h571 rfl rfl ⟨hB584, hr585⟩ fun a586 h586 => ?_; clear h571
                  have hk592 := hk569.kept hg575 (own_neT hr577 hk569 (by decide))
                  refine d1D 16 h586 rfl rfl (op_store1 rfl rfl rfl (row_one hr574') Try.sizeOf33 hk592 rfl) ?_ ?_; clear h586
                  ·
                   rintro _ w588 ⟨hk589, hz590, hg591⟩
                   have hk589' : Blk w588 N332 46 #[.int .i64 10, .int .i64 0, .int .i64 d.rq, .int .i64 0, .bool false, .int .u64 d.tm, .int .u64 0, .int .i64 0, .int .i64 0, .int .i64 0, .int .i64 0, .string d.key, .string (⟨#[]⟩), .int .i64 0, .slice none 0 0, .int .u64 0, .int .i64 0, .int .i64 0, .slice none 0 0, .slice none 0 0, .slice none 0 0, v573] := hk589; clear hk589
                   have hz593 := hg591.size
                   have hB594 := hb_at hB584 hg591 (by omega)
                   have hr595 := row_kept_at hr585 hg591 (ha337)
                   exact ⟨hB594, hr595⟩
                  rintro _ w588 a587 ⟨hk589, hz590, hg591⟩ h587
                  have hk589' : Blk w588 N332 46 #[.int .i64 10, .int .i64 0, .int .i64 d.rq, .int .i64 0, .bool false, .int .u64 d.tm, .int .u64 0, .int .i64 0, .int .i64 0, .int .i64 0, .int .i64 0, .string d.key, .string (⟨#[]⟩), .int .i64 0, .slice none 0 0, .int .u64 0, .int .i64 0, .int .i64 0, .slice none 0 0, .slice none 0 0, .slice none 0 0, v573] := hk589; clear hk589
                  have hz593 := hg591.size
                  refine dr_done (by kernel_rfl) ?_
                  refine co_blockN ?_
                  refine co_then ?_
                  refine co_reg ?_
                  refine pk0 (v := .int .i64 ((k : Nat) : Int)) h587 rfl fun a594 h594 => ?_; clear h587
                  refine pk (v := .int .i64 ((k + 1 : Nat) : Int)) h594 rfl (rn_arith' rfl rfl rfl rfl rfl rfl (IntWalk.i64_in _ (by omega)) (by omega)) fun a595 h595 => ?_; clear h594
                  refine pk0 (v := .int .i64 ((k + 1 : Nat) : Int)) h595 rfl fun a596 h596 => ?_; clear h595
                  refine pl_nil ?_
                  refine co_then ?_
                  refine ⟨(ys.length - (k + 1)), by omega, ?_⟩
                  have hr597 := row_kept_at hr585 hg591 (ha337)
                  have hr598 := row_kept_new hr559 hg553
                  have hr599 := row_kept_ap hr598 hr577 hu358 hg575
                  have hr600 := row_kept_at hr599 hg591 (ha340)
                  have hk601 := hk581.kept hg575 (own_neT hr577 hk581 (by decide))
                  have hk602 := hk601.kept hg591 (by simp; omega)
                  have hr603 := row_kept_at hr574' hg591 (own_neT hr574' hk592 (by decide))
                  have hO604 := TkA.gr hO582 hg575 (fun k e => ho396 k e)
                  have hO605 := TkA.gr hO604 hg591 (fun k e => by cases e; exact ho398)
                  have hB606 := hb_at hB584 hg591 (by omega)
                  exact ⟨k + 1, v573, h596.sub ⟨rfl, rfl, rfl, rfl, rfl, rfl, rfl, rfl, rfl, rfl, rfl, trivial⟩, rfl, by omega, by first | (simp [hitP]; omega) | omega | (rw [← hit_y (by assumption) (by assumption), List.length_append]; simp; omega) | (rw [← hit_n (by assumption) (by assumption)]; omega), by exact hlo393, by exact ho394, by exact ho395, by exact ho578, by exact ho397, by exact ho398, hr597, hr600, hk602, hk589', (row_eq hr603 (by first | rfl | exact hit_y (by assumption) (by assumption) | exact hit_n (by assumption) (by assumption))), hO605, hB606⟩
               ·
                rw [hc469] at h468
                have hp607 : (((hitP (ys.take k) d.key d.to_).length : Nat) : Int) ≥ mnI 2 (d.n - (d.prs.length : Int)) := of_decide_eq_true hc469
                clear hc469
                refine co_true h468 rfl ?_
                refine co_seq ?_
                refine co_reg ?_
                refine pk0 (v := pt N332 4) h468 rfl fun a608 h608 => ?_; clear h468
                refine pwD h608 rfl (op_store1 rfl rfl rfl rfl Try.sizeOf4 hk453 rfl) ?_; clear h608
                rintro _ w610 a609 ⟨hk611, hz612, hg613⟩ h609
                have hk611' : Blk w610 N332 46 #[.int .i64 10, .int .i64 0, .int .i64 d.rq, .int .i64 0, .bool true, .int .u64 d.tm, .int .u64 0, .int .i64 0, .int .i64 0, .int .i64 0, .int .i64 0, .string d.key, .string (⟨#[]⟩), .int .i64 0, .slice none 0 0, .int .u64 0, .int .i64 0, .int .i64 0, .slice none 0 0, .slice none 0 0, .slice none 0 0, up] := hk611; clear hk611
                have hz614 := hg613.size
                refine pl_nil ?_
                refine co_then ?_
                refine wp_exit ?_
                refine co_thenX ?_
                refine co_blockY (by decide) ?_
                refine co_thenX ?_
                refine co_thenX ?_
                refine co_blockX ?_
                refine co_then ?_
                refine co_reg ?_
                refine pk0 (v := pt tk60 0) h609 rfl fun a615 h615 => ?_; clear h609
                refine pk (v := .agg #[.int .i64 10, .int .i64 0, .int .i64 d.rq, .int .i64 0, .bool true, .int .u64 d.tm, .int .u64 0, .int .i64 0, .int .i64 0, .int .i64 0, .int .i64 0, .string d.key, .string (⟨#[]⟩), .int .i64 0, .slice none 0 0, .int .u64 0, .int .i64 0, .int .i64 0, .slice none 0 0, .slice none 0 0, .slice none 0 0, up]) h615 rfl (rn_loadN rfl rfl Try.underlying46 rfl (by kernel_rfl) hk611'.all) fun a616 h616 => ?_; clear h615
                have hB619 := hb_at hB449 hg613 (by omega)
                have hr620 := row_kept_new hr430 (below_grown hb444)
                have hr621 := row_kept_at hr620 hg613 (ha337)
                have hO622 := TkA.gr hO447 (below_grown hb444) (fun k e => by cases e)
                have hO623 := TkA.gr hO622 hg613 (fun k e => by cases e; exact ho398)
                have hr624 := row_kept_at hr455 hg613 (own_neT hr455 hk453 (by decide))
                refine pw h616 rfl (op_call (args := #[pt tk60 0, .int .i64 0, .agg #[.int .i64 10, .int .i64 0, .int .i64 d.rq, .int .i64 0, .bool true, .int .u64 d.tm, .int .u64 0, .int .i64 0, .int .i64 0, .int .i64 0, .int .i64 0, .string d.key, .string (⟨#[]⟩), .int .i64 0, .slice none 0 0, .int .u64 0, .int .i64 0, .int .i64 0, .slice none 0 0, .slice none 0 0, .slice none 0 0, up]]) (R := fun res xw => ∃ S' : Nat → Prop, res = .bool (moreF d true (hitP (ys.take k) d.key d.to_)) ∧ TkA S' xw tk60 (!moreF d true (hitP (ys.take k) d.key d.to_)) (nxD d (hitP (ys.take k) d.key d.to_)) ∧ Grew S290 S' w610 xw) rfl rfl rfl (by kernel_rfl) (by kernel_rfl) (Try.call11 _ _) (tkTake0 w610 hO623 (by omega) (by omega) true up (hitP (ys.take k) d.key d.to_) hPc.2.2.2.1 hr624 (by have := hit_len (ys.take k) d.key d.to_; have := List.length_take_le k ys; first | omega | (simp at *; omega)) (hit_sz hyk)) (by rintro e x ⟨S', h0, h⟩; exact ⟨_, h0, S', rfl, h⟩)) ?_; clear h616
                rintro _ w618 a617 ⟨S625, rfl, hO626, hx627⟩ h617
                have hr628 := row_kept_at hr451 hg613 (ha340)
                have hk629 := hk466.kept hg613 (by simp; omega)
                have hlo631 : ∀ q, S625 q → w.heap.size ≤ q := hx627.lo hlo393 (by omega)
                have hB630 := hbL hB619 hlo393 hx627.but
                have hz632 := hB630.size
                have hz633 := hx627.but.size
                refine pl_nil ?_
                refine co_blockN ?_
                refine co_then ?_
                refine co_reg ?_
                refine pk0 (v := .int .i64 ((ri : Nat) : Int)) h617 rfl fun a634 h634 => ?_; clear h617
                refine pk (v := .int .i64 ((ri + 1 : Nat) : Int)) h634 rfl (rn_arith' rfl rfl rfl rfl rfl rfl (IntWalk.i64_in _ (by omega)) (by omega)) fun a635 h635 => ?_; clear h634
                refine pk0 (v := .int .i64 ((ri + 1 : Nat) : Int)) h635 rfl fun a636 h636 => ?_; clear h635
                refine pl_nil ?_
                refine co_then ?_
                refine ⟨(100 - (ri + 1)), by omega, ?_⟩
                have hr637 := own_butS hr621 hx627.but ho394
                have hr638 := own_butS hr628 hx627.but ho395
                exact ⟨ri + 1, (!moreF d true (hitP (ys.take k) d.key d.to_)), (nxD d (hitP (ys.take k) d.key d.to_)), S625, h636.sub ⟨rfl, rfl, rfl, rfl, rfl, rfl, rfl, rfl, trivial⟩, rfl, by omega, by first | exact pg_end hys hyk hPl (by omega) (by omega) (by omega) | exact pg_brk hys hyk hPl (by omega) (by assumption) (by assumption) (by omega) (by omega), by exact hlo631, by exact (Grew.offR hx627 hr621 ho394), by exact (Grew.offR hx627 hr628 ho395), hr637, hr638, hO626, hB630⟩
          ·
           rw [hc277] at h276
           refine co_true h276 rfl ?_
           refine co_seq ?_
           refine co_reg ?_
           refine pk0 (v := pt N256 1) h276 rfl fun a639 h639 => ?_; clear h276
           refine pk (v := .int .i64 0) h639 rfl (rn_load1 rfl rfl Try.isAgg30 (hk270'.cell rfl)) fun a640 h640 => ?_; clear h639
           refine pk0 (v := .bool ((0 : Int) == 0)) h640 rfl fun a641 h641 => ?_; clear h640
           refine pk0 (v := .bool ((0 : Int) == 0)) h641 rfl fun a642 h642 => ?_; clear h641
           have hc643 : ((0 : Int) == 0) = true := by first | (simp; done) | (simp; omega) | exact beq_false_of_ne (by omega) | exact beq_iff_eq.2 (by omega)
           rw [hc643] at h642; clear hc643
           refine pk0 (v := pt N256 2) h642 rfl fun a644 h644 => ?_; clear h642
           refine pk (v := .int .u64 (if dn = true then d.tm else 0)) h644 rfl (rn_load1 rfl rfl Try.isAgg22 (hk270'.cell rfl)) fun a645 h645 => ?_; clear h644
           refine pk0 (v := .bool ((if dn = true then d.tm else 0) == 9)) h645 rfl fun a646 h646 => ?_; clear h645
           refine pk0 (v := .bool ((if dn = true then d.tm else 0) == 9)) h646 rfl fun a647 h647 => ?_; clear h646
           refine pk0 (v := .bool ((if dn = true then d.tm else 0) == 9)) h647 rfl fun a648 h648 => ?_; clear h647
           have hc649 : ((if dn = true then d.tm else 0) == 9) = true := by rw [if_pos (by assumption)]; first | rfl | (rw [hPg.con.2.2.1]; rfl)
           rw [hc649] at h648; clear hc649
           refine pk0 (v := pt N256 4) h648 rfl fun a650 h650 => ?_; clear h648
           refine pk (v := u241) h650 rfl (rn_load1 rfl rfl Try.isAgg33 (hk270'.cell rfl)) fun a651 h651 => ?_; clear h650
           refine pk0 (v := uz) h651 rfl fun a652 h652 => ?_; clear h651
           have hdn8 : dn = true := by assumption
           have hRL : RL dn d = lw := by unfold RL; rw [if_pos hdn8, hlw]; exact (hPg.fin hdn8).1
           have hr656 := row_kept_at hr273 hg272 (ha265)
           refine pw h652 rfl (op_call (args := #[u241, uz]) (R := fun res xw => res = .bool true ∧ Below w269.heap.size w269 xw) rfl rfl rfl (by kernel_rfl) (by kernel_rfl) (Try.call18 _ _) (samePr34_any u241 uz lw w269 (hRL ▸ row_sl hr656 prE_len) (row_sl hr283 prE_len)) (by rintro e x ⟨rfl, h⟩; exact ⟨_, rfl, rfl, h⟩)) ?_; clear h652
           rintro _ w654 a653 ⟨rfl, hb655⟩ h653
           have hz657 := hb655.size
           have ho658 := TkA.ofS hO285
           refine pk0 (v := .bool true) h653 rfl fun a659 h659 => ?_; clear h653
           refine pk0 (v := .bool true) h659 rfl fun a660 h660 => ?_; clear h659
           refine pw h660 rfl (op_call (args := #[]) (R := fun res xw => res = .bool true ∧ Below w654.heap.size w654 xw) rfl rfl rfl (by kernel_rfl) (by kernel_rfl) (Try.call7 _ _) (awake34  w654 ) (by rintro e x ⟨rfl, hb663⟩; exact ⟨_, rfl, ⟨rfl, hb663⟩⟩)) ?_; clear h660
           rintro _ w662 a661 ⟨rfl, hb663⟩ h661
           have hz664 := hb663.size
           have hO666 := TkA.gr hO285 (below_grown hb655) (fun k e => by cases e)
           have ho665 := TkA.ofS hO666
           refine pk0 (v := .bool true) h661 rfl fun a667 h667 => ?_; clear h661
           refine pk0 (v := .bool true) h667 rfl fun a668 h668 => ?_; clear h667
           refine pl_nil ?_
           refine co_then ?_
           refine wp_ret ?_
           refine co_thenR ?_
           refine co_blockR ?_
           refine co_thenR ?_
           refine co_thenR ?_
           refine co_blockR ?_
           refine co_thenR ?_
           refine co_ret1 h668 rfl rfl ?_
           have hB669 := hb_call hB279 hb655
           have hB670 := hb_call hB669 hb663
           exact ⟨rfl, hB670⟩
      ·
       rw [hc36] at h35
       have hp671 : ((i : Nat) : Int) < ((l.length : Nat) : Int) := of_decide_eq_true hc36
       clear hc36
       refine co_true h35 rfl ?_
       refine wp_skip ?_
       refine co_then ?_
       refine co_seq ?_
       refine wp_block ?_
       refine co_seq ?_
       refine co_reg ?_
       refine pk0 (v := v) h35 rfl fun a672 h672 => ?_; clear h35
       refine pk0 (v := .int .i64 ((i : Nat) : Int)) h672 rfl fun a673 h673 => ?_; clear h672
       obtain ⟨y674, hy674⟩ : ∃ z, l[i]? = some z := ⟨_, List.getElem?_eq_getElem (by first | omega | (simp; done) | (simp; omega))⟩
       refine pk (v := pt (blkOf v) (offOf v + i * 2)) h673 rfl (rn_index rfl rfl rfl Try.underlying33 Try.sizeOf57 (hs.below hB30) (by omega) (by first | omega | (simp; done) | (simp; omega))) fun a675 h675 => ?_; clear h673
       refine pk0 (v := pt (blkOf v) (offOf v + i * 2)) h675 rfl fun a676 h676 => ?_; clear h675
       refine pk (v := .string y674.1) h676 rfl (rn_load1 rfl rfl Try.isAgg9 ((sl_at (hs.below hB30) hy674) 0 _ rfl)) fun a677 h677 => ?_; clear h676
       refine pw h677 rfl (op_call (args := #[.string y674.1]) (R := fun res xw => res = .int .i64 (keyC y674.1) ∧ Below w26.heap.size w26 xw) rfl rfl rfl (by kernel_rfl) (by kernel_rfl) (Try.call15 _ _) (rKey_any y674.1 w26 ) (by rintro e x ⟨rfl, hb680⟩; exact ⟨_, rfl, ⟨rfl, hb680⟩⟩)) ?_; clear h677
       rintro _ w679 a678 ⟨rfl, hb680⟩ h678
       have hz681 := hb680.size
       refine pk0 (v := .bool (keyC y674.1 == 0)) h678 rfl fun a682 h682 => ?_; clear h678
       refine pl_nil ?_
       refine co_then ?_
       have hB684 := hb_call hB30 hb680
       cases hc683 : (keyC y674.1 == 0)
       ·
        rw [hc683] at h682
        have hp685 : ¬ (keyC y674.1 = 0) := by first | simpa using hc683 | simpa [and_assoc] using hc683
        clear hc683
        refine co_false h682 rfl ?_
        refine wp_skip ?_
        refine co_blockN ?_
        refine co_then ?_
        refine co_reg ?_
        refine pk0 (v := .int .i64 ((i : Nat) : Int)) h682 rfl fun a686 h686 => ?_; clear h682
        refine pk (v := .int .i64 ((i + 1 : Nat) : Int)) h686 rfl (rn_arith' rfl rfl rfl rfl rfl rfl (IntWalk.i64_in _ (by omega)) (by omega)) fun a687 h687 => ?_; clear h686
        refine pk0 (v := .int .i64 ((i + 1 : Nat) : Int)) h687 rfl fun a688 h688 => ?_; clear h687
        refine pl_nil ?_
        refine co_then ?_
        refine ⟨(l.length - (i + 1)), by omega, ?_⟩
        have hr689 := row_kept_new hf29 (below_grown hb680)
        exact ⟨i + 1, u, h688.sub ⟨rfl, rfl, rfl, rfl, rfl, rfl, trivial⟩, rfl, by omega, by first | (simp [okL]; done) | (have := ok_len (l.take (i + 1)); rw [List.length_take] at this; omega), (row_eq hr689 (by first | rfl | exact ok_y (by assumption) (by assumption) | exact ok_n (by assumption) (by assumption))), hB684⟩
       ·
        rw [hc683] at h682
        have hp690 : keyC y674.1 = 0 := by first | simpa using hc683 | simpa [and_assoc] using hc683
        clear hc683
        refine co_true h682 rfl ?_
        refine dr_gen (fun x => Below w.heap.size w x) (by kernel_rfl) (fun w691 hg692 => ?_) (fun w691 hg692 => ?_)
        ·
         have hz693 := hg692.size
         have hB694 := hb_new hB684 hg692
         exact hB694
        have hz695 := hg692.size
        have hB696 := hb_new hB684 hg692
        refine dk0 0 (v := u) h682 rfl rfl hB696 fun a697 h697 => ?_; clear h682
        refine dk0 1 (v := v) h697 rfl rfl hB696 fun a698 h698 => ?_; clear h697
        refine dk0 2 (v := .int .i64 ((i : Nat) : Int)) h698 rfl rfl hB696 fun a699 h699 => ?_; clear h698
        refine dk 3 (v := pt (blkOf v) (offOf v + i * 2)) h699 rfl rfl hB696 (fun x hx => (rn_index rfl rfl rfl Try.underlying33 Try.sizeOf57 (hs.below hx) (by omega) (by first | omega | (simp; done) | (simp; omega)))) fun a700 h700 => ?_; clear h699
        refine dk0 4 (v := pt (blkOf v) (offOf v + i * 2)) h700 rfl rfl hB696 fun a701 h701 => ?_; clear h700
        refine dk 5 (v := .string y674.1) h701 rfl rfl hB696 (fun x hx => (rn_load1 rfl rfl Try.isAgg9 ((sl_at (hs.below hx) hy674) 0 _ rfl))) fun a702 h702 => ?_; clear h701
        refine dk0 6 (v := v) h702 rfl rfl hB696 fun a703 h703 => ?_; clear h702
        refine dk0 7 (v := .int .i64 ((i : Nat) : Int)) h703 rfl rfl hB696 fun a704 h704 => ?_; clear h703
        refine dk 8 (v := pt (blkOf v) (offOf v + i * 2)) h704 rfl rfl hB696 (fun x hx => (rn_index rfl rfl rfl Try.underlying33 Try.sizeOf57 (hs.below hx) (by omega) (by first | omega | (simp; done) | (simp; omega)))) fun a705 h705 => ?_; clear h704
        refine dk0 9 (v := pt (blkOf v) (offOf v + i * 2 + 1)) h705 rfl rfl hB696 fun a706 h706 => ?_; clear h705
        refine dk 10 (v := .string y674.2) h706 rfl rfl hB696 (fun x hx => (rn_load1 rfl rfl Try.isAgg9 ((sl_at (hs.below hx) hy674) 1 _ rfl))) fun a707 h707 => ?_; clear h706
        refine dk0 11 (v := .agg #[.string y674.1, .string y674.2, .bool false]) h707 rfl rfl hB696 fun a708 h708 => ?_; clear h707
        refine d1 12 h708 rfl rfl (op_new (v := fun N => .slice (some ⟨N, 0, none⟩) 1 1) (T := 59) (cs := #[.string y674.1, .string y674.2, .bool false]) (by kernel_rfl) (by kernel_rfl) (by kernel_rfl)) ?_ ?_; clear h708
        ·
         rintro _ w710 ⟨N711, rfl, hN714, hz715, hk713, hg712⟩
         have hr717 := row_kept_new hf29 (below_grown hb680)
         have hr718 := row_kept_new hr717 hg692
         have ha716 := row_fresh hr718 hN714
         have hz719 := hg712.size
         have hB720 := hb_new hB696 hg712
         exact hB720
        rintro _ w710 a709 ⟨N711, rfl, hN714, hz715, hk713, hg712⟩ h709
        have hr717 := row_kept_new hf29 (below_grown hb680)
        have hr718 := row_kept_new hr717 hg692
        have ha716 := row_fresh hr718 hN714
        have hz719 := hg712.size
        try dsimp only at h709
        have hB720 := hb_new hB696 hg712
        have hr727 := row_kept_new hr718 hg712
        refine d1 13 h709 rfl rfl (op_appendF rfl w.heap.size 59 (z := .agg #[.string (⟨#[]⟩), .string (⟨#[]⟩), .bool false]) (size := 3) (bytes := 40) Try.underlying23 (by kernel_rfl) rfl rfl rfl hr727 rfl hk713 rfl (by kernel_rfl) (by first | omega | (simp only [List.length_nil, List.length_append, List.length_cons, List.length_take, List.length_drop]; omega)) (by first | omega | (simp only [List.length_nil, List.length_append, List.length_cons, List.length_take, List.length_drop]; omega)) (by omega)) ?_ ?_; clear h709
        ·
         rintro v723 w722 ⟨hr724, hwt726, hg725⟩
         have hr724' : w722.ownsRow w.heap.size 59 3 v723 (((okL (l.take i)) ++ [(y674.1, y674.2, false)]).length) (((okL (l.take i)) ++ [(y674.1, y674.2, false)]).flatMap opE) := row_push (y := (y674.1, y674.2, false)) hr724 rfl rfl; clear hr724
         have hz728 := hg725.size
         have hB729 := hb_row hB720 hr727 (by omega) hg725
         exact hB729
        rintro v723 w722 a721 ⟨hr724, hwt726, hg725⟩ h721
        have hr724' : w722.ownsRow w.heap.size 59 3 v723 (((okL (l.take i)) ++ [(y674.1, y674.2, false)]).length) (((okL (l.take i)) ++ [(y674.1, y674.2, false)]).flatMap opE) := row_push (y := (y674.1, y674.2, false)) hr724 rfl rfl; clear hr724
        have hz728 := hg725.size
        have hB729 := hb_row hB720 hr727 (by omega) hg725
        refine dk0 14 (v := v723) h721 rfl rfl hB729 fun a730 h730 => ?_; clear h721
        refine dr_done (by kernel_rfl) ?_
        refine co_blockN ?_
        refine co_then ?_
        refine co_reg ?_
        refine pk0 (v := .int .i64 ((i : Nat) : Int)) h730 rfl fun a731 h731 => ?_; clear h730
        refine pk (v := .int .i64 ((i + 1 : Nat) : Int)) h731 rfl (rn_arith' rfl rfl rfl rfl rfl rfl (IntWalk.i64_in _ (by omega)) (by omega)) fun a732 h732 => ?_; clear h731
        refine pk0 (v := .int .i64 ((i + 1 : Nat) : Int)) h732 rfl fun a733 h733 => ?_; clear h732
        refine pl_nil ?_
        refine co_then ?_
        refine ⟨(l.length - (i + 1)), by omega, ?_⟩
        exact ⟨i + 1, v723, h733.sub ⟨rfl, rfl, rfl, rfl, rfl, rfl, trivial⟩, rfl, by omega, by first | (simp [okL]; done) | (have := ok_len (l.take (i + 1)); rw [List.length_take] at this; omega), (row_eq hr724' (by first | rfl | exact ok_y (by assumption) (by assumption) | exact ok_n (by assumption) (by assumption))), hB729⟩
   ·
    rw [hc19] at h18
    have hp734 : ((T.size : Nat) : Int) > 8 := of_decide_eq_true hc19
    clear hc19
    refine co_true h18 rfl ?_
    refine co_seq ?_
    refine co_reg ?_
    refine pw h18 rfl (op_call (args := #[]) (R := fun res xw => res = .bool true ∧ Below w.heap.size w xw) rfl rfl rfl (by kernel_rfl) (by kernel_rfl) (Try.call7 _ _) (awake34  w ) (by rintro e x ⟨rfl, hb737⟩; exact ⟨_, rfl, ⟨rfl, hb737⟩⟩)) ?_; clear h18
    rintro _ w736 a735 ⟨rfl, hb737⟩ h735
    have hz738 := hb737.size
    refine pk0 (v := .bool true) h735 rfl fun a739 h739 => ?_; clear h735
    refine pl_nil ?_
    refine co_then ?_
    refine wp_ret ?_
    refine co_thenR ?_
    refine co_ret1 h739 rfl rfl ?_
    have hB740 := hb_call hB0 hb737
    exact ⟨rfl, hB740⟩
  ·
   rw [hc13] at h12
   have hp741 : ((F.size : Nat) : Int) > 8 := of_decide_eq_true hc13
   clear hc13
   refine psk h12 rfl fun a742 h742 => ?_; clear h12
   refine psk h742 rfl fun a743 h743 => ?_; clear h742
   refine psk h743 rfl fun a744 h744 => ?_; clear h743
   refine pk0 (v := .bool true) h744 rfl fun a745 h745 => ?_; clear h744
   refine pl_nil ?_
   refine co_then ?_
   refine co_true h745 rfl ?_
   refine co_seq ?_
   refine co_reg ?_
   refine pw h745 rfl (op_call (args := #[]) (R := fun res xw => res = .bool true ∧ Below w.heap.size w xw) rfl rfl rfl (by kernel_rfl) (by kernel_rfl) (Try.call7 _ _) (awake34  w ) (by rintro e x ⟨rfl, hb748⟩; exact ⟨_, rfl, ⟨rfl, hb748⟩⟩)) ?_; clear h745
   rintro _ w747 a746 ⟨rfl, hb748⟩ h746
   have hz749 := hb748.size
   refine pk0 (v := .bool true) h746 rfl fun a750 h750 => ?_; clear h746
   refine pl_nil ?_
   refine co_then ?_
   refine wp_ret ?_
   refine co_thenR ?_
   refine co_ret1 h750 rfl rfl ?_
   have hB751 := hb_call hB0 hb748
   exact ⟨rfl, hB751⟩
 ·
  rw [hc6] at h5
  have hp752 : ((l.length : Nat) : Int) > 60 := of_decide_eq_true hc6
  clear hc6
  refine psk h5 rfl fun a753 h753 => ?_; clear h5
  refine psk h753 rfl fun a754 h754 => ?_; clear h753
  refine psk h754 rfl fun a755 h755 => ?_; clear h754
  refine pk0 (v := .bool true) h755 rfl fun a756 h756 => ?_; clear h755
  refine pk0 (v := .bool true) h756 rfl fun a757 h757 => ?_; clear h756
  refine psk h757 rfl fun a758 h758 => ?_; clear h757
  refine psk h758 rfl fun a759 h759 => ?_; clear h758
  refine psk h759 rfl fun a760 h760 => ?_; clear h759
  refine pk0 (v := .bool true) h760 rfl fun a761 h761 => ?_; clear h760
  refine pl_nil ?_
  refine co_then ?_
  refine co_true h761 rfl ?_
  refine co_seq ?_
  refine co_reg ?_
  refine pw h761 rfl (op_call (args := #[]) (R := fun res xw => res = .bool true ∧ Below w.heap.size w xw) rfl rfl rfl (by kernel_rfl) (by kernel_rfl) (Try.call7 _ _) (awake34  w ) (by rintro e x ⟨rfl, hb764⟩; exact ⟨_, rfl, ⟨rfl, hb764⟩⟩)) ?_; clear h761
  rintro _ w763 a762 ⟨rfl, hb764⟩ h762
  have hz765 := hb764.size
  refine pk0 (v := .bool true) h762 rfl fun a766 h766 => ?_; clear h762
  refine pl_nil ?_
  refine co_then ?_
  refine wp_ret ?_
  refine co_thenR ?_
  refine co_ret1 h766 rfl rfl ?_
  have hB767 := hb_call hB0 hb764
  exact ⟨rfl, hB767⟩
end Go.Proofs.Ytaoibbakflacoaa

/- catenalaw34: AsksPages. Conditions: none. -/
namespace Go.Proofs.Ytaoibbakflacoaa
open Go.RowKit Go.PlainAid
theorem wf_u8A {b : Int} (h : (Lit.int .u8 b).wf = true) : 0 ≤ b ∧ b ≤ 255 := by
  unfold Lit.wf at h
  rw [Bool.and_eq_true, decide_eq_true_eq, decide_eq_true_eq] at h
  have e1 : IntKind.min .u8 = 0 := by decide
  have e2 : IntKind.max .u8 = 255 := by decide
  rw [e1, e2] at h
  exact h
theorem asksPages_c (v : Value) (l : List PrT) (F T : ByteArray) (n : Int) (w : World) (s : SliceOf prE 2 w v l) (g : ∀ p ∈ l, True) (wF : F.size ≤ 140737488351232) (wT : T.size ≤ 140737488351232) (hn : (Lit.int .u8 n).wf = true) :
    Calls Try.prog 4 #[v, .string F, .string T, .int .u8 n] w fun e w' => e = .returned (.bool true) ∧ Below w.heap.size w w' := by
  have h := wf_u8A hn
  obtain ⟨c, rfl⟩ := Int.eq_ofNat_of_zero_le h.1
  exact asksPages_law v l F T c (c % 32) w s (by omega) (by omega) (by omega)
end Go.Proofs.Ytaoibbakflacoaa
