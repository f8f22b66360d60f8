/- Package tree, of lists of cells: a tree that somebody made, as an object: New, zero, Len, Depth, Put, Del. Conditions: at most 80000 keys. -/
import Derived.Test.YtfjhlckklgeokaaTrcG
import Derived.Test.YtfjhlckklgeokaaTrcK
import Derived.Test.YtfjhlckklgeokaaTrcI
namespace Go.Proofs.Ytfjhlckklgeokaa
open Go.RowKit Go.PlainAid Go.Shelf
set_option linter.unusedVariables false

/-- A tree that somebody made: it holds L, and tells the depth d; S holds its blocks. -/
def TrO (S : Nat → Prop) (w : World) (tb : Nat) (L : List Kv) (d : Int) : Prop := ∃ t : Tm, Blk w tb 86 #[.bool true, ptT t, .int .i64 (sz t)] ∧ TreeAt w t ∧ tb ∉ bk t ∧ (bk t).Nodup ∧ Avl t ∧ Srt (il t) ∧ il t = L ∧ dp t = d ∧ (∀ q, S q ↔ q = tb ∨ q ∈ bk t)
section
variable {S S' D : Nat → Prop} {w x : World} {tb N : Nat} {L : List Kv} {d : Int}
theorem TrO.ofS (h : TrO S w tb L d) : ∀ q, S q → q < w.heap.size := fun q hq => by
  obtain ⟨t, h1, h2, _, _, _, _, _, _, h9⟩ := h
  rcases (h9 q).1 hq with rfl | h
  · exact h1.lt
  · exact h2.lt q h
theorem TrO.keep (h : TrO S w tb L d) (hk : ∀ q, S q → x.heap[q]? = w.heap[q]?) : TrO S x tb L d := by
  obtain ⟨t, h1, h2, h3, h4, h5, h6, h7, h8, h9⟩ := h
  refine ⟨t, ?_, h2.keep fun q hq => hk q ((h9 q).2 (.inr hq)), h3, h4, h5, h6, h7, h8, h9⟩
  unfold Blk at h1 ⊢
  rw [hk tb ((h9 tb).2 (.inl rfl))]; exact h1
theorem TrO.gr {row : Option Nat} (h : TrO S w tb L d) (hg : w.grownBy x row) (hr : ∀ k, row = some k → ¬ S k) : TrO S x tb L d :=
  h.keep fun q hq => hg.block q (h.ofS q hq) (fun e => hr q e.symm hq)
theorem TrO.but (h : TrO S w tb L d) (hb : But D w x) (ha : ∀ q, D q → S q → False) : TrO S x tb L d :=
  h.keep fun q hq => hb.block q (h.ofS q hq) (fun hd => ha q hd hq)
theorem TrO.below {n0 : Nat} (h : TrO S w tb L d) (hb : Below n0 w x) (hn : ∀ q, S q → q < n0) : TrO S x tb L d := h.keep fun q hq => hb.block q (hn q hq)
theorem TrO.srt (h : TrO S w tb L d) : Srt L := by obtain ⟨t, h1, h2, h3, h4, h5, h6, h7, h8, h9⟩ := h; rw [← h7]; exact h6
theorem blk_set {T : TypeId} {cs : Array Value} (h : Blk w N T cs) (i : Nat) (hi : i < cs.size) (v : Value) : Blk (w.setCell ⟨N, i, none⟩ v) N T (cs.set i v) := by
  have hl := h.lt
  unfold Blk at h ⊢
  unfold World.setCell
  simp [Array.getElem?_modify, h, Array.setIfInBounds, hi]
end
theorem But.setB {S : Nat → Prop} {w x : World} {b i : Nat} (h : But S w x) (hb : S b) (v : Value) : But S w (x.setCell ⟨b, i, none⟩ v) := h.setCell (p := ⟨b, i, none⟩) (fun _ => hb) v
theorem TreeAt.set {w : World} {t : Tm} {b i : Nat} {v : Value} (h : TreeAt w t) (hb : b ∉ bk t) : TreeAt (w.setCell ⟨b, i, none⟩ v) t :=
  h.keep fun q hq => Below.heap_setCell _ _ _ _ (fun e => hb (by have e' : q = b := e; rw [← e']; exact hq))
theorem ptT_ptr (t : Tm) : ∃ q, ptT t = .pointer q := by cases t with | nil => exact ⟨_, rfl⟩ | nd b l k v d r => exact ⟨_, rfl⟩
set_option maxRecDepth 100000
set_option maxHeartbeats 2000000
theorem zero_made (tb : Nat) (p q : Value) (w : World) (h : Blk w tb 86 #[.bool true, p, q]) : Calls Try.prog 41 #[pt tb 0] w fun e w' => e = .returned (.bool false) ∧ w = w' := by
  have c0 : w.cell? ⟨tb, 0, none⟩ = some (.bool true) := h.cell (k := 0) rfl
  go_enter Try.func41, Try.ntmps41
  go_wp2
  go_ret
  exact ⟨rfl, rfl⟩
theorem zero_not (tb : Nat) (p q : Value) (w : World) (h : Blk w tb 86 #[.bool false, p, q]) : Calls Try.prog 41 #[pt tb 0] w fun e w' => e = .returned (.bool true) ∧ w = w' := by
  have c0 : w.cell? ⟨tb, 0, none⟩ = some (.bool false) := h.cell (k := 0) rfl
  go_enter Try.func41, Try.ntmps41
  go_wp2
  go_ret
  exact ⟨rfl, rfl⟩
theorem zero_nil (w : World) : Calls Try.prog 41 #[.pointer none] w fun e w' => e = .returned (.bool true) ∧ w = w' := by
  go_enter Try.func41, Try.ntmps41
  go_wp2
  go_ret
  exact ⟨rfl, rfl⟩
-- left out here










-- left out here













theorem tput_any (S : Nat → Prop) (w : World) (tb : Nat) (L : List Kv) (d : Int) (k : ByteArray) (v : SlT) (h : TrO S w tb L d) (hL : L.length ≤ 80000) :
    Calls Try.prog 29 #[pt tb 0, .string k, .slice v.a v.n v.c] w fun e w' => ∃ (d' : Int) (S' : Nat → Prop), e = .returned (.bool (hasL L k)) ∧ TrO S' w' tb (insL L k v) d' ∧ Grew S S' w w' := by
  obtain ⟨t, h1, h2, h3, h4, h5, h6, rfl, h8, h9⟩ := h
  rw [il_len] at hL
  have c1 : w.cell? ⟨tb, 1, none⟩ = some (ptT t) := h1.cell (k := 1) rfl
  have H1 := Lib.hid h1; have H2 := Lib.hid h2; have H3 := Lib.hid h3; have H4 := Lib.hid h4; have H5 := Lib.hid h5; have H6 := Lib.hid h6; have H8 := Lib.hid h8; have H9 := Lib.hid h9; clear h1 h2 h3 h4 h5 h6 h8 h9
  go_enter Try.func29, Try.ntmps29
  go_wp2_with fail
  refine (zero_made tb _ _ _ H1.out).mono ?_
  rintro e w1 ⟨rfl, rfl⟩
  go_wp2_with fail
  refine (put_any t k v _ H2.out H4.out H5.out (by omega)).mono ?_
  rintro e w1 ⟨N, rfl, hT, hN, hb⟩
  have k1 : Blk w1 tb 86 #[.bool true, ptT t, .int .i64 (sz t)] := Blk.butS H1.out hb H3.out
  have hlt := H1.out.lt
  have hnd : Hid (tb ∉ bk (putT t k v N)) := Lib.hid fun hq => by rcases put_mem H5.out hq with h | h; omega; exact H3.out h
  obtain ⟨pq, hpq⟩ := ptT_ptr (putT t k v N)
  have HPQ := Lib.hid hpq
  have k2 := blk_set k1 1 (by simp) (.pointer pq)
  have k3 := blk_set k2 2 (by simp) (.int .i64 ((sz t : Int) + 1))
  have d1 : w1.cell? ⟨tb, 1, none⟩ = some (ptT t) := k1.cell (k := 1) rfl
  have d1f := k1.frozen 1
  have d2 : (w1.setCell ⟨tb, 1, none⟩ (.pointer pq)).cell? ⟨tb, 2, none⟩ = some (.int .i64 (sz t)) := k2.cell (k := 2) rfl
  have d2f := k2.frozen 2
  have hsz := put_sz k v N t H5.out
  have K2 := Lib.hid k2; have K3 := Lib.hid k3; have HT := Lib.hid hT; have HB := Lib.hid hb; have HN := Lib.hid hN; have HS := Lib.hid hsz
  clear k1 k2 k3 hT hb hN hsz hlt
  have hfin : Hid (∀ (x : World) (s : Value), Blk x tb 86 #[.bool true, ptT (putT t k v N), .int .i64 (sz (putT t k v N))] → TreeAt x (putT t k v N) → But (fun q => q = tb ∨ q ∈ bk t) w x → ∃ (d' : Int) (S' : Nat → Prop), TrO S' x tb (insL (il t) k v) d' ∧ Grew S S' w x) := Lib.hid fun x s hx hy hz =>
    ⟨_, fun q => q = tb ∨ q ∈ bk (putT t k v N), ⟨_, hx, hy, hnd.out, put_nd H5.out H4.out (fun hq => by have := TreeAt.lt H2.out _ hq; have := HN.out; omega), (put_avl k v N t H5.out).1, put_srt H5.out H6.out, put_il k v N t H5.out H6.out, rfl, fun q => Iff.rfl⟩,
      fun q hq => by
        rcases hq with rfl | hq
        · exact .inl ((H9.out _).2 (.inl rfl))
        · rcases put_mem H5.out hq with rfl | h
          · exact .inr HN.out
          · exact .inl ((H9.out _).2 (.inr h)),
      hz.mono fun q _ hq => (H9.out q).2 hq⟩
  have HB2 : Hid (But (fun q => q = tb ∨ q ∈ bk t) w w1) := Lib.hid (HB.out.mono fun q _ hq => .inr hq)
  rw [hpq]; clear hpq
  cases hh : hasT t k with
  | true =>
    go_wp2
    go_ret
    have hs : sz (putT t k v N) = sz t := by have := HS.out; rw [hh] at this; simpa using this
    obtain ⟨d', S', q1, q2⟩ := hfin.out _ (.bool true) (by have := K2.out; rw [hs, HPQ.out]; exact this) (HT.out.set hnd.out) (HB2.out.setB (.inl rfl) _)
    exact ⟨d', S', by rw [← has_il t k H6.out, hh]; rfl, q1, q2⟩
  | false =>
    go_wp2
    go_ret
    have hs : ((sz (putT t k v N) : Nat) : Int) = (sz t : Int) + 1 := by have := HS.out; rw [hh] at this; simp at this; omega
    obtain ⟨d', S', q1, q2⟩ := hfin.out _ (.bool true) (by have := K3.out; rw [hs, HPQ.out]; exact this) ((HT.out.set hnd.out).set hnd.out) ((HB2.out.setB (.inl rfl) _).setB (.inl rfl) _)
    exact ⟨d', S', by rw [← has_il t k H6.out, hh]; rfl, q1, q2⟩
theorem tdel_any (S : Nat → Prop) (w : World) (tb : Nat) (L : List Kv) (d : Int) (k : ByteArray) (h : TrO S w tb L d) (hL : L.length ≤ 80000) :
    Calls Try.prog 34 #[pt tb 0, .string k] w fun e w' => ∃ (d' : Int) (S' : Nat → Prop), e = .returned (.bool (hasL L k)) ∧ TrO S' w' tb (delL L k) d' ∧ Grew S S' w w' := by
  obtain ⟨t, h1, h2, h3, h4, h5, h6, rfl, h8, h9⟩ := h
  rw [il_len] at hL
  have c1 : w.cell? ⟨tb, 1, none⟩ = some (ptT t) := h1.cell (k := 1) rfl
  have H1 := Lib.hid h1; have H2 := Lib.hid h2; have H3 := Lib.hid h3; have H4 := Lib.hid h4; have H5 := Lib.hid h5; have H6 := Lib.hid h6; have H8 := Lib.hid h8; have H9 := Lib.hid h9; clear h1 h2 h3 h4 h5 h6 h8 h9
  go_enter Try.func34, Try.ntmps34
  go_wp2_with fail
  refine (zero_made tb _ _ _ H1.out).mono ?_
  rintro e w1 ⟨rfl, rfl⟩
  go_wp2_with fail
  refine (del_any t k _ H2.out H4.out H5.out (by omega)).mono ?_
  rintro e w1 ⟨rfl, hT, hb⟩
  have k1 : Blk w1 tb 86 #[.bool true, ptT t, .int .i64 (sz t)] := Blk.butS H1.out hb H3.out
  have hbk := del_bk t k H5.out H4.out
  have hnd : Hid (tb ∉ bk (delT t k)) := Lib.hid fun hq => H3.out (hbk.1 _ hq)
  obtain ⟨pq, hpq⟩ := ptT_ptr (delT t k)
  have HPQ := Lib.hid hpq
  have k2 := blk_set k1 1 (by simp) (.pointer pq)
  have k3 := blk_set k2 2 (by simp) (.int .i64 ((sz t : Int) - 1))
  have d1 : w1.cell? ⟨tb, 1, none⟩ = some (ptT t) := k1.cell (k := 1) rfl
  have d1f := k1.frozen 1
  have d2 : (w1.setCell ⟨tb, 1, none⟩ (.pointer pq)).cell? ⟨tb, 2, none⟩ = some (.int .i64 (sz t)) := k2.cell (k := 2) rfl
  have d2f := k2.frozen 2
  have hsz := del_sz' (k := k) H5.out H6.out
  have K2 := Lib.hid k2; have K3 := Lib.hid k3; have HT := Lib.hid hT; have HB := Lib.hid hb; have HS := Lib.hid hsz; have HBK := Lib.hid hbk
  clear k1 k2 k3 hT hb hsz hbk
  have hfin : Hid (∀ (x : World) (s : Value), Blk x tb 86 #[.bool true, ptT (delT t k), .int .i64 (sz (delT t k))] → TreeAt x (delT t k) → But (fun q => q = tb ∨ q ∈ bk t) w x → ∃ (d' : Int) (S' : Nat → Prop), TrO S' x tb (delL (il t) k) d' ∧ Grew S S' w x) := Lib.hid fun x s hx hy hz =>
    ⟨_, fun q => q = tb ∨ q ∈ bk (delT t k), ⟨_, hx, hy, hnd.out, HBK.out.2, (del_avl t k H5.out).1, del_srt H5.out H6.out, del_il t k H5.out H6.out, rfl, fun q => Iff.rfl⟩,
      fun q hq => .inl ((H9.out _).2 (by
        rcases hq with rfl | hq
        · exact .inl rfl
        · exact .inr (HBK.out.1 _ hq))),
      hz.mono fun q _ hq => (H9.out q).2 hq⟩
  have HB2 : Hid (But (fun q => q = tb ∨ q ∈ bk t) w w1) := Lib.hid (HB.out.mono fun q _ hq => .inr hq)
  rw [hpq]; clear hpq
  cases hh : hasT t k with
  | false =>
    go_wp2
    go_ret
    have hs : sz (delT t k) = sz t := by have := HS.out; rw [hh] at this; simpa using this
    obtain ⟨d', S', q1, q2⟩ := hfin.out _ (.bool true) (by have := K2.out; rw [hs, HPQ.out]; exact this) (HT.out.set hnd.out) (HB2.out.setB (.inl rfl) _)
    exact ⟨d', S', by rw [← has_il t k H6.out, hh]; rfl, q1, q2⟩
  | true =>
    go_wp2
    go_ret
    have hs : ((sz (delT t k) : Nat) : Int) = (sz t : Int) - 1 := by have := HS.out; rw [hh] at this; simp at this; omega
    obtain ⟨d', S', q1, q2⟩ := hfin.out _ (.bool true) (by have := K3.out; rw [hs, HPQ.out]; exact this) ((HT.out.set hnd.out).set hnd.out) ((HB2.out.setB (.inl rfl) _).setB (.inl rfl) _)
    exact ⟨d', S', by rw [← has_il t k H6.out, hh]; rfl, q1, q2⟩
end Go.Proofs.Ytfjhlckklgeokaa
