/- Put together: MvF, MvG. Conditions: as each says. -/
import Derived.Test.YtfjhlckklgeokaaMvDLm
import Derived.Test.YtfjhlckklgeokaaMvELm
/- Package mvcc: the program's store as an object: New, Put, Prune, Get, Scan, Last, Cells; those that nobody made. Conditions: at most 100 calls, 20 operations each. -/
namespace Go.Proofs.Ytfjhlckklgeokaa
open Go.RowKit Go.PlainAid Go.Shelf
set_option linter.unusedVariables false

/-- The keys that have something, rising. -/
noncomputable def ksOf (f : Fv) : List ByteArray := open Classical in if h : ∃ K, KOf K f then h.choose else []
theorem ksOf_eq {f : Fv} {K : List ByteArray} (h : KOf K f) : ksOf f = K := by
  unfold ksOf; rw [dif_pos ⟨K, h⟩]; exact KOf.one (Exists.choose_spec (⟨K, h⟩ : ∃ K, KOf K f)) h
/-- A store that was made: what each key has, the last timestamp, the versions' number; m calls at most so far. -/
def MvO (S : Nat → Prop) (w : World) (b : Nat) (f : Fv) (la ce : Int) (m : Nat) : Prop :=
  ∃ (tb : Nat) (S1 : Nat → Prop) (K : List ByteArray), Blk w b 57 #[.bool true, pt tb 0, .int .u64 la, .int .i64 ce] ∧ VkO S1 w tb K f ∧ ¬ S1 b ∧ (∀ q, S q ↔ q = b ∨ S1 q) ∧ FOk f la m ∧ (0 ≤ la ∧ la < 18446744073709551616) ∧ K.length ≤ 20 * m ∧ (-100000000 * (m : Int) ≤ ce ∧ ce ≤ 100000000 * (m : Int))
section
variable {S D : Nat → Prop} {w x : World} {b m : Nat} {f : Fv} {la ce : Int}
theorem MvO.ofS (h : MvO S w b f la ce m) : ∀ q, S q → q < w.heap.size := fun q hq => by
  obtain ⟨tb, S1, K, h1, h2, h3, h4, _⟩ := h
  rcases (h4 q).1 hq with rfl | hq
  · exact h1.lt
  · exact h2.ofS q hq
theorem MvO.keep (h : MvO S w b f la ce m) (hk : ∀ q, S q → x.heap[q]? = w.heap[q]?) (hz : w.heap.size ≤ x.heap.size) : MvO S x b f la ce m := by
  obtain ⟨tb, S1, K, h1, h2, h3, h4, h5⟩ := h
  refine ⟨tb, S1, K, ?_, h2.keep (fun q hq => hk q ((h4 q).2 (.inr hq))) hz, h3, h4, h5⟩
  unfold Blk at h1 ⊢
  rw [hk b ((h4 b).2 (.inl rfl))]; exact h1
theorem MvO.gr {row : Option Nat} (h : MvO S w b f la ce m) (hg : w.grownBy x row) (hr : ∀ k, row = some k → ¬ S k) : MvO S x b f la ce m :=
  h.keep (fun q hq => hg.block q (h.ofS q hq) (fun e => hr q e.symm hq)) hg.size
theorem MvO.but (h : MvO S w b f la ce m) (hb : But D w x) (ha : ∀ q, D q → S q → False) : MvO S x b f la ce m :=
  h.keep (fun q hq => hb.block q (h.ofS q hq) (fun hd => ha q hd hq)) hb.size
theorem MvO.fok (h : MvO S w b f la ce m) : FOk f la m := by obtain ⟨tb, S1, K, h1, h2, h3, h4, h5, _⟩ := h; exact h5
theorem MvO.laB (h : MvO S w b f la ce m) : 0 ≤ la ∧ la < 18446744073709551616 := by obtain ⟨tb, S1, K, h1, h2, h3, h4, h5, h6, _⟩ := h; exact h6
theorem MvO.kof (h : MvO S w b f la ce m) : KOf (ksOf f) f := by obtain ⟨tb, S1, K, h1, h2, _⟩ := h; rw [ksOf_eq h2.kof]; exact h2.kof
theorem MvO.klen (h : MvO S w b f la ce m) : (ksOf f).length ≤ 20 * m := by obtain ⟨tb, S1, K, h1, h2, h3, h4, h5, h6, h7, _⟩ := h; rw [ksOf_eq h2.kof]; exact h7
theorem mvLa_bd {ts : Int} {l : List OpT} (h : 0 ≤ la ∧ la < 18446744073709551616) (hts : 0 ≤ ts ∧ ts < 18446744073709551616) : (0 ≤ mvLa la ts l ∧ mvLa la ts l < 18446744073709551616) ∧ la ≤ mvLa la ts l := by
  unfold mvLa
  split
  · rename_i hE
    by_cases h1 : ts = 0
    · rw [mvE_a h1] at hE; cases hE
    · by_cases h2 : ts ≤ la
      · rw [mvE_b h1 h2] at hE; cases hE
      · exact ⟨hts, by omega⟩
  · exact ⟨h, Int.le_refl _⟩
theorem mv_good {ts : Int} {l : List OpT} (hE : mvE la ts l = 0) : ¬ ts = 0 ∧ la < ts ∧ chkB 0 1 l = 0 := by
  by_cases h1 : ts = 0
  · rw [mvE_a h1] at hE; cases hE
  · by_cases h2 : ts ≤ la
    · rw [mvE_b h1 h2] at hE; cases hE
    · rw [mvE_c h1 h2] at hE; exact ⟨h1, by omega, hE⟩
theorem FOk.mv {ts : Int} {l : List OpT} (h : FOk f la m) (hts : 0 ≤ ts ∧ ts < 18446744073709551616) : FOk (mvF f la ts l) (mvLa la ts l) (m + 1) := by
  unfold mvF mvLa
  by_cases hE : mvE la ts l = 0
  · obtain ⟨h1, h2, h3⟩ := mv_good hE
    rw [if_pos hE, if_pos hE]
    exact h.puts h2 ⟨by omega, hts.2⟩ (chkB_up h3)
  · rw [if_neg hE, if_neg hE]; exact h.mono (Int.le_refl _) (by omega)
theorem mvPut (w : World) (ts : Int) (v : Value) (l : List OpT) (h : MvO S w b f la ce m) (hs : SliceOf opE 3 w v l) (hvS : l ≠ [] → ∀ k, v.ownBlock = some k → ¬ S k) (hl : l.length ≤ 20) (hts : 0 ≤ ts ∧ ts < 18446744073709551616) (hm : m ≤ 100) :
    Calls Try.prog 11 #[pt b 0, .int .u64 ts, v] w fun e w' => ∃ S' : Nat → Prop, e = .returned (.int .i64 (mvE la ts l)) ∧ MvO S' w' b (mvF f la ts l) (mvLa la ts l) (mvCe la ts ce l) (m + 1) ∧ Grew S S' w w' := by
  obtain ⟨tb, S1, K, h1, h2, h3, h4, h5, h6, h7, h8⟩ := h
  refine (mput_blk S1 b tb K f la ce m ts v l w h1 h2 h3 h5 (by omega) h6 (by omega) hs (fun hn k hk hq => hvS hn k hk ((h4 k).2 hq)) hts (by omega) hl).mono ?_
  rintro e w' ⟨S', K', rfl, k1, k2, k3, k4, k5, k6⟩
  refine ⟨fun q => q = b ∨ S' q, rfl, ⟨tb, S', K', k1, k2, k4, fun q => Iff.rfl, h5.mv hts, (mvLa_bd h6 hts).1, by omega, ?_⟩, fun q hq => ?_, k6.mono fun q _ hq => (h4 q).2 hq⟩
  · unfold mvCe; split <;> omega
  · rcases hq with rfl | hq
    · exact .inl ((h4 _).2 (.inl rfl))
    · rcases k3 q hq with k | k
      · exact .inl ((h4 q).2 k)
      · exact .inr k
theorem mvPruneX (w : World) (h : Int) (hO : MvO S w b f la ce m) (hh : 0 ≤ h ∧ h < 18446744073709551616) (hm : m ≤ 100) :
    Calls Try.prog 13 #[pt b 0, .int .u64 h] w fun e w' => ∃ (g : Int) (S' : Nat → Prop), e = .returned (.int .i64 g) ∧ MvO S' w' b (pruneF f h) la (ce - g) (m + 1) ∧ Grew S S' w w' ∧ g = ((goneK f h (ksOf f) : Nat) : Int) := by
  obtain ⟨tb, S1, K, h1, h2, h3, h4, h5, h6, h7, h8⟩ := hO
  refine (mprune_blk S1 b tb K f la ce m h w h1 h2 h3 h5 (by omega) h6 (by omega) hh (by omega)).mono ?_
  rintro e w' ⟨S', K', g, rfl, k1, k2, k3, k4, k5, k6, k8, k7⟩
  refine ⟨g, fun q => q = b ∨ S' q, rfl, ⟨tb, S', K', k1, k2, k4, fun q => Iff.rfl, (h5.prune h).mono (Int.le_refl _) (by omega), h6, by omega, by omega⟩, ⟨fun q hq => ?_, k7.mono fun q _ hq => (h4 q).2 hq⟩, by rw [ksOf_eq h2.kof]; exact k8⟩
  rcases hq with rfl | hq
  · exact .inl ((h4 _).2 (.inl rfl))
  · rcases k3 q hq with k | k
    · exact .inl ((h4 q).2 k)
    · exact .inr k
theorem mvPrune (w : World) (h : Int) (hO : MvO S w b f la ce m) (hh : 0 ≤ h ∧ h < 18446744073709551616) (hm : m ≤ 100) :
    Calls Try.prog 13 #[pt b 0, .int .u64 h] w fun e w' => ∃ (g : Int) (S' : Nat → Prop), e = .returned (.int .i64 g) ∧ MvO S' w' b (pruneF f h) la (ce - g) (m + 1) ∧ Grew S S' w w' :=
  (mvPruneX w h hO hh hm).mono fun e x ⟨g, S', h1, h2, h3, _⟩ => ⟨g, S', h1, h2, h3⟩
theorem mvGet (w : World) (k : ByteArray) (t : Int) (h : MvO S w b f la ce m) :
    Calls Try.prog 19 #[pt b 0, .string k, .int .u64 t] w fun e w' => e = .returned (.tuple #[.string (atS (f k) t).1, .bool (atS (f k) t).2]) ∧ Below w.heap.size w w' := by
  obtain ⟨tb, S1, K, h1, h2, h3, h4, h5, _⟩ := h
  exact mget_blk b tb _ _ S1 K f k t la m w h1 h2 h5
/-- What a scan tells, were there no limit. -/
noncomputable def hitsF (f : Fv) (t : Int) (F T : ByteArray) : List PairT := hits f t ((ksOf f).filter (inR F T))
theorem mvScan (w : World) (F T : ByteArray) (t most : Int) (h : MvO S w b f la ce m) (hm : m ≤ 100) (hmost : -9223372036854775808 ≤ most ∧ most ≤ 9223372036854775807) :
    Calls Try.prog 20 #[pt b 0, .string F, .string T, .int .u64 t, .int .i64 most] w fun e w' => ∃ u, e = .returned (.tuple #[u, .bool (scanM (hitsF f t F T) most)]) ∧ w'.ownsRow w.heap.size 51 2 u (scanL (hitsF f t F T) most).length ((scanL (hitsF f t F T) most).flatMap pairE) ∧ Below w.heap.size w w' := by
  obtain ⟨tb, S1, K, h1, h2, h3, h4, h5, h6, h7, h8⟩ := h
  unfold hitsF
  rw [ksOf_eq h2.kof]
  exact mscan_blk S1 b tb K f la ce m F T t most w h1 h2 h3 h5 (by omega) h6 (by omega) (by omega) hmost
end
set_option maxRecDepth 100000
theorem mvLast {S : Nat → Prop} {b m : Nat} {f : Fv} {la ce : Int} (w : World) (h : MvO S w b f la ce m) : Calls Try.prog 16 #[pt b 0] w fun e w' => e = .returned (.int .u64 la) ∧ w = w' := by
  obtain ⟨tb, S1, K, h1, h2, _⟩ := h
  have c2 : w.cell? ⟨b, 2, none⟩ = some (.int .u64 la) := h1.cell (k := 2) rfl
  have HB := Lib.hid h1; clear h1 h2
  go_enter Try.func16, Try.ntmps16
  go_wp2_with fail
  refine (mzero_any b _ _ _ w HB.out).mono ?_
  rintro e w1 ⟨rfl, rfl⟩
  go_wp2
  go_ret
  exact ⟨rfl, rfl⟩
theorem mvCells {S : Nat → Prop} {b m : Nat} {f : Fv} {la ce : Int} (w : World) (h : MvO S w b f la ce m) : Calls Try.prog 17 #[pt b 0] w fun e w' => e = .returned (.int .i64 ce) ∧ w = w' := by
  obtain ⟨tb, S1, K, h1, h2, _⟩ := h
  have c3 : w.cell? ⟨b, 3, none⟩ = some (.int .i64 ce) := h1.cell (k := 3) rfl
  have HB := Lib.hid h1; clear h1 h2
  go_enter Try.func17, Try.ntmps17
  go_wp2_with fail
  refine (mzero_any b _ _ _ w HB.out).mono ?_
  rintro e w1 ⟨rfl, rfl⟩
  go_wp2
  go_ret
  exact ⟨rfl, rfl⟩
theorem mvNew (w : World) : Calls Try.prog 10 #[] w fun e w' => ∃ (N : Nat) (S : Nat → Prop), e = .returned (pt N 0) ∧ MvO S w' N (fun _ => []) 0 0 0 ∧ (∀ q, S q → w.heap.size ≤ q) ∧ Below w.heap.size w w' := by
  go_enter Try.func10, Try.ntmps10
  go_wp2_with fail
  refine (tnew_any w).mono ?_
  rintro e w1 ⟨S0, rfl, hT, hlo, hb⟩
  have HT := Lib.hid hT; have HL := Lib.hid hlo; have HB := Lib.hid hb; clear hT hlo hb
  go_wp2
  go_ret
  have hg := World.grownBy_alloc w1 (.cells #[.bool true, pt w.heap.size 0, .int .u64 0, .int .i64 0] 57) none
  refine ⟨w1.heap.size, fun q => q = w1.heap.size ∨ S0 q, rfl, ⟨w.heap.size, S0, [], World.alloc_heap_new w1 _, ⟨S0, [], 0, HT.out.gr hg (fun k e => by cases e), rfl, ⟨List.Pairwise.nil, by simp⟩, by simp, fun q hq => hq, fun q hq => Nat.lt_of_lt_of_le (HT.out.ofS q hq) hg.size⟩, fun hq => by have := HT.out.ofS _ hq; omega, fun q => Iff.rfl, ⟨by simp, fun _ => rfl, fun _ => Int.le_refl _, by simp⟩, by omega, by simp, by omega⟩, fun q hq => ?_, HB.out.alloc HB.out.size _⟩
  rcases hq with rfl | hq
  · exact HB.out.size
  · exact HL.out q hq
/-- Nobody made it. -/
def NoMv (w : World) (p : Value) : Prop := p = .pointer none ∨ ∃ b u v c, p = pt b 0 ∧ Blk w b 57 #[.bool false, u, v, c]
theorem NoMv.gr {w x : World} {p : Value} (h : NoMv w p) (hg : w.grownBy x none) : NoMv x p := by
  rcases h with rfl | ⟨b, u, v, c, rfl, h⟩
  · exact .inl rfl
  · exact .inr ⟨b, u, v, c, rfl, h.kept hg (by simp)⟩
theorem mzero_not (b : Nat) (p u c : Value) (w : World) (h : Blk w b 57 #[.bool false, p, u, c]) : Calls Try.prog 25 #[pt b 0] w fun e w' => e = .returned (.bool true) ∧ w = w' := by
  have c0 : w.cell? ⟨b, 0, none⟩ = some (.bool false) := h.cell (k := 0) rfl
  go_enter Try.func25, Try.ntmps25
  go_wp2
  go_ret
  exact ⟨rfl, rfl⟩
theorem mzero_nil (w : World) : Calls Try.prog 25 #[.pointer none] w fun e w' => e = .returned (.bool true) ∧ w = w' := by
  go_enter Try.func25, Try.ntmps25
  go_wp2
  go_ret
  exact ⟨rfl, rfl⟩
theorem mzero_no (w : World) (p : Value) (h : NoMv w p) : Calls Try.prog 25 #[p] w fun e w' => e = .returned (.bool true) ∧ w = w' := by
  rcases h with rfl | ⟨b, u, v, c, rfl, h⟩
  · exact mzero_nil w
  · exact mzero_not b u v c w h
theorem zmPut (w : World) (p : Value) (ts : Int) (v : Value) (h : NoMv w p) : Calls Try.prog 11 #[p, .int .u64 ts, v] w fun e w' => e = .returned (.int .i64 8) ∧ w = w' := by
  have H := Lib.hid h; clear h
  go_enter Try.func11, Try.ntmps11
  go_wp2_with fail
  refine (mzero_no _ p (H.out)).mono ?_
  rintro e w1 ⟨rfl, rfl⟩
  go_wp2
  go_ret
  exact ⟨rfl, rfl⟩
theorem zmGet (w : World) (p : Value) (k : ByteArray) (t : Int) (h : NoMv w p) : Calls Try.prog 19 #[p, .string k, .int .u64 t] w fun e w' => e = .returned (.tuple #[.string ⟨#[]⟩, .bool false]) ∧ w = w' := by
  have H := Lib.hid h; clear h
  go_enter Try.func19, Try.ntmps19
  go_wp2_with fail
  refine (mzero_no _ p (H.out)).mono ?_
  rintro e w1 ⟨rfl, rfl⟩
  go_wp2
  go_ret2
  exact ⟨rfl, rfl⟩
theorem zmPrune (w : World) (p : Value) (h' : Int) (h : NoMv w p) : Calls Try.prog 13 #[p, .int .u64 h'] w fun e w' => e = .returned (.int .i64 0) ∧ w = w' := by
  have H := Lib.hid h; clear h
  go_enter Try.func13, Try.ntmps13
  go_wp2_with fail
  refine (mzero_no _ p (H.out)).mono ?_
  rintro e w1 ⟨rfl, rfl⟩
  go_wp2
  go_ret
  exact ⟨rfl, rfl⟩
theorem zmLast (w : World) (p : Value) (h : NoMv w p) : Calls Try.prog 16 #[p] w fun e w' => e = .returned (.int .u64 0) ∧ w = w' := by
  have H := Lib.hid h; clear h
  go_enter Try.func16, Try.ntmps16
  go_wp2_with fail
  refine (mzero_no _ p (H.out)).mono ?_
  rintro e w1 ⟨rfl, rfl⟩
  go_wp2
  go_ret
  exact ⟨rfl, rfl⟩
theorem zmCells (w : World) (p : Value) (h : NoMv w p) : Calls Try.prog 17 #[p] w fun e w' => e = .returned (.int .i64 0) ∧ w = w' := by
  have H := Lib.hid h; clear h
  go_enter Try.func17, Try.ntmps17
  go_wp2_with fail
  refine (mzero_no _ p (H.out)).mono ?_
  rintro e w1 ⟨rfl, rfl⟩
  go_wp2
  go_ret
  exact ⟨rfl, rfl⟩
end Go.Proofs.Ytfjhlckklgeokaa

/- Package mvcc: Scan of one that nobody made. Conditions: none. -/
namespace Go.Proofs.Ytfjhlckklgeokaa
open Go.RowKit Go.PlainAid
set_option linter.unusedVariables false
set_option linter.unusedSimpArgs false

set_option maxRecDepth 100000 in
theorem zmScan (p : Value) (F : ByteArray) (T : ByteArray) (t : Int) (most : Int) (w : World) (hN : NoMv w p) :
    Calls Try.prog 20 #[p, .string F, .string T, .int .u64 t, .int .i64 most] w fun e w' => e = .returned (.tuple #[.slice none 0 0, .bool false]) ∧ w = w' := by
 have hB0 := Below.refl w.heap.size w
 refine co_enter (n := 54) Try.func20 rfl rfl rfl [(0, p), (1, .string F), (2, .string T), (3, .int .u64 t), (4, .int .i64 most)] rfl (fun a h0 => ?_)
 refine co_seq ?_
 refine co_reg ?_
 refine pk0 (v := .slice none 0 0) h0 rfl fun a1 h1 => ?_; clear h0
 refine pk0 (v := .bool false) h1 rfl fun a2 h2 => ?_; clear h1
 refine pl_nil ?_
 refine co_then ?_
 refine wp_scope_straight ?_
 refine co_seq ?_
 refine co_seq ?_
 refine co_reg ?_
 refine pk0 (v := p) h2 rfl fun a3 h3 => ?_; clear h2
 refine pw h3 rfl (op_call (args := #[p]) (R := fun res xw => res = .bool true ∧ w = xw) rfl rfl rfl (by kernel_rfl) (by kernel_rfl) (Try.call25 _ _) (mzero_no w p hN) (by rintro e x ⟨rfl, rfl⟩; exact ⟨_, rfl, rfl, rfl⟩)) ?_; clear h3
 rintro _ _ a4 ⟨rfl, rfl⟩ h4
 refine pl_nil ?_
 refine co_then ?_
 refine co_true h4 rfl ?_
 refine co_seq ?_
 refine co_reg ?_
 refine pk0 (v := .slice none 0 0) h4 rfl fun a6 h6 => ?_; clear h4
 refine pk0 (v := .bool false) h6 rfl fun a7 h7 => ?_; clear h6
 refine pl_nil ?_
 refine co_then ?_
 refine wp_ret ?_
 refine co_thenR ?_
 refine co_scopeR ?_
 refine co_ret2 h7 rfl rfl rfl ?_
 exact ⟨rfl, rfl⟩
end Go.Proofs.Ytfjhlckklgeokaa
