/- Package rlog: Thin. Conditions: at most 100 entries, 20 operations each, their keys different. -/
import Derived.Test.YthmnndbpadegnaaRlgF
import Derived.Test.YthmnndbpadegnaaRlgH
namespace Go.Proofs.Ythmnndbpadegnaa
open Go.RowKit Go.PlainAid
set_option linter.unusedVariables false


def ltE (h : Int) (e : EntT) : Bool := decide (¬ e.ts = 0 ∧ e.ts ≤ h)
def cntK (k : ByteArray) (l : List OpT) : Int := ((l.countP fun o => decide (o.1 = k) : Nat) : Int)
/-- How often a key stands in what may be thinned. -/
def fT (h : Int) : List EntT → ByteArray → Int
  | [], _ => 0
  | e :: r, k => if ltE h e = true then fT h r k + cntK k e.opl else fT h r k
def kpL (f : ByteArray → Int) (l : List OpT) : List OpT := l.filter fun o => decide (f o.1 = 0)
def lT (h : Int) : List EntT → List EntT
  | [] => []
  | e :: r => (if ltE h e = true then { e with opl := kpL (fT h r) e.opl } else e) :: lT h r
def gT (h : Int) : List EntT → Int
  | [] => 0
  | e :: r => if ltE h e = true then gT h r + ((e.opl.length : Int) - ((kpL (fT h r) e.opl).length : Int)) else gT h r
def thM (L : List EntT) (n : Int) : Nat := (if n < 0 then 0 else if (L.length : Int) < n then (L.length : Int) else n).toNat
def thS (L : List EntT) (h : Int) (M j : Nat) : List EntT := L.take j ++ (lT h ((L.take M).drop j) ++ L.drop M)
def thL (L : List EntT) (h n : Int) : List EntT := lT h (L.take (thM L n)) ++ L.drop (thM L n)
def thG (L : List EntT) (h n : Int) : Int := gT h (L.take (thM L n))
/-- The counts behind the first q operations of an entry. -/
def laterF (h : Int) (T : List EntT) (l : List OpT) (q : Nat) (k : ByteArray) : Int := fT h T k + cntK k (l.take q)
theorem lT_len (h : Int) (L : List EntT) : (lT h L).length = L.length := by induction L with
  | nil => rfl
  | cons e r ih => simp [lT, ih]
theorem cntK_nn (k : ByteArray) (l : List OpT) : 0 ≤ cntK k l ∧ cntK k l ≤ l.length := by unfold cntK; have := List.countP_le_length (l := l) (p := fun o => decide (o.1 = k)); omega
theorem fT_nn (h : Int) (k : ByteArray) : ∀ L : List EntT, (∀ e ∈ L, e.opl.length ≤ 20) → 0 ≤ fT h L k ∧ fT h L k ≤ 20 * (L.length : Int)
  | [], _ => by simp [fT]
  | e :: r, hl => by
    have ih := fT_nn h k r (fun x hx => hl x (List.mem_cons_of_mem _ hx))
    have h1 := hl e (by simp)
    have h2 := cntK_nn k e.opl
    simp only [fT, List.length_cons]
    split <;> omega
theorem kpL_le (f : ByteArray → Int) (l : List OpT) : (kpL f l).length ≤ l.length := List.length_filter_le ..
theorem gT_nn (h : Int) : ∀ L : List EntT, (∀ e ∈ L, e.opl.length ≤ 20) → 0 ≤ gT h L ∧ gT h L ≤ 20 * (L.length : Int)
  | [], _ => by simp [gT]
  | e :: r, hl => by
    have ih := gT_nn h r (fun x hx => hl x (List.mem_cons_of_mem _ hx))
    have h1 := hl e (by simp)
    have h2 := kpL_le (fT h r) e.opl
    simp only [gT, List.length_cons]
    split <;> omega
section
variable {L Lk : List EntT} {h : Int} {j M q : Nat} {y y' : EntT} {l : List OpT} {o : OpT} {T : List EntT} {f : ByteArray → Int}
theorem thS_split (hj : 0 < j) (hM : j ≤ M) (hL : M ≤ L.length) : ∃ z, L[j - 1]? = some z ∧ (L.take M).drop (j - 1) = z :: (L.take M).drop j ∧ L.take j = L.take (j - 1) ++ [z] := by
  obtain ⟨i, rfl⟩ : ∃ i, j = i + 1 := ⟨j - 1, by omega⟩
  have hi : i < L.length := by omega
  refine ⟨L[i], List.getElem?_eq_getElem hi, ?_, ?_⟩
  · have hi2 : i < (L.take M).length := by rw [List.length_take]; omega
    rw [show i + 1 - 1 = i by omega, List.drop_eq_getElem_cons hi2, List.getElem_take]
  · rw [show i + 1 - 1 = i by omega, takeE (List.getElem?_eq_getElem hi)]
theorem thS_z (hj : 0 < j) (hM : j ≤ M) (hL : M ≤ L.length) (hLk : Lk.map e0 = (thS L h M j).map e0) (hy : Lk[j - 1]? = some y) : ∃ z, L[j - 1]? = some z ∧ e0 z = e0 y ∧ (L.take M).drop (j - 1) = z :: (L.take M).drop j ∧ L.take j = L.take (j - 1) ++ [z] := by
  obtain ⟨z, h1, h2, h3⟩ := thS_split hj hM hL
  obtain ⟨z', h4, h5⟩ := e0_at hLk hy
  have : (thS L h M j)[j - 1]? = L[j - 1]? := by
    unfold thS
    rw [List.getElem?_append_left (by rw [List.length_take]; omega), List.getElem?_take, if_pos (by omega)]
  rw [this, h1] at h4
  cases h4
  exact ⟨z, h1, h5, h2, h3⟩
theorem ltE_e0 {a b : EntT} (e : e0 a = e0 b) : ltE h a = ltE h b := by unfold ltE; rw [(e0_ts e).1]
theorem th_no (hj : 0 < j) (hM : j ≤ M) (hL : M ≤ L.length) (hLk : Lk.map e0 = (thS L h M j).map e0) (hy : Lk[j - 1]? = some y) (hq : ltE h y = false) : Lk.map e0 = (thS L h M (j - 1)).map e0 := by
  obtain ⟨z, h1, h2, h3, h4⟩ := thS_z hj hM hL hLk hy
  rw [hLk]
  unfold thS
  rw [h3, h4, lT, if_neg (by rw [ltE_e0 h2, hq]; simp)]
  simp
theorem th_yes (hj : 0 < j) (hM : j ≤ M) (hL : M ≤ L.length) (hLk : Lk.map e0 = (thS L h M j).map e0) (hy : Lk[j - 1]? = some y) (hq : ltE h y = true) (e : e0 y' = e0 { y with opl := kpL (fT h ((L.take M).drop j)) y.opl }) : (Lk.set (j - 1) y').map e0 = (thS L h M (j - 1)).map e0 := by
  obtain ⟨z, h1, h2, h3, h4⟩ := thS_z hj hM hL hLk hy
  obtain ⟨k1, k2, k3, k4⟩ := e0_ts h2
  rw [List.map_set, hLk, e]
  unfold thS
  rw [h3, h4, lT, if_pos (by rw [ltE_e0 h2, hq])]
  have hl : (L.take (j - 1)).length = j - 1 := by rw [List.length_take]; have := (List.getElem?_eq_some_iff.1 h1).1; omega
  simp only [List.map_append, List.map_cons, List.map_nil, List.append_assoc, List.singleton_append]
  rw [List.set_append_right _ _ (by rw [List.length_map, hl]; omega)]
  rw [List.length_map, hl, Nat.sub_self, List.set_cons_zero]
  simp only [List.cons_append]
  congr 2
  unfold e0; simp [k1, k2, k3, k4]
theorem fT_no (hj : 0 < j) (hM : j ≤ M) (hL : M ≤ L.length) (hLk : Lk.map e0 = (thS L h M j).map e0) (hy : Lk[j - 1]? = some y) (hq : ltE h y = false) : fT h ((L.take M).drop j) = fT h ((L.take M).drop (j - 1)) := by
  obtain ⟨z, h1, h2, h3, h4⟩ := thS_z hj hM hL hLk hy
  rw [h3]; funext k; rw [fT, if_neg (by rw [ltE_e0 h2, hq]; simp)]
theorem fT_yes (hj : 0 < j) (hM : j ≤ M) (hL : M ≤ L.length) (hLk : Lk.map e0 = (thS L h M j).map e0) (hy : Lk[j - 1]? = some y) (hq : ltE h y = true) (hl : y.opl.length ≤ q) : laterF h ((L.take M).drop j) y.opl q = fT h ((L.take M).drop (j - 1)) := by
  obtain ⟨z, h1, h2, h3, h4⟩ := thS_z hj hM hL hLk hy
  rw [h3]; funext k; unfold laterF; rw [fT, if_pos (by rw [ltE_e0 h2, hq]), List.take_of_length_le hl, (e0_ts h2).2.2.2]
theorem gT_no (hj : 0 < j) (hM : j ≤ M) (hL : M ≤ L.length) (hLk : Lk.map e0 = (thS L h M j).map e0) (hy : Lk[j - 1]? = some y) (hq : ltE h y = false) : gT h ((L.take M).drop j) = gT h ((L.take M).drop (j - 1)) := by
  obtain ⟨z, h1, h2, h3, h4⟩ := thS_z hj hM hL hLk hy
  rw [h3, gT, if_neg (by rw [ltE_e0 h2, hq]; simp)]
theorem gT_yes (hj : 0 < j) (hM : j ≤ M) (hL : M ≤ L.length) (hLk : Lk.map e0 = (thS L h M j).map e0) (hy : Lk[j - 1]? = some y) (hq : ltE h y = true) (hl : y.opl.length ≤ q) (hle : q ≤ y.opl.length) : gT h ((L.take M).drop j) + ((q : Int) - ((kpL (fT h ((L.take M).drop j)) (y.opl.take q)).length : Int)) = gT h ((L.take M).drop (j - 1)) := by
  obtain ⟨z, h1, h2, h3, h4⟩ := thS_z hj hM hL hLk hy
  rw [h3, gT, if_pos (by rw [ltE_e0 h2, hq]), List.take_of_length_le hl, (e0_ts h2).2.2.2]
  have : q = y.opl.length := by omega
  rw [this]
theorem cnt_fresh (hd : (l.map (·.1)).Nodup) (ho : l[q]? = some o) : cntK o.1 (l.take q) = 0 := by
  unfold cntK
  rw [show (l.take q).countP (fun x => decide (x.1 = o.1)) = 0 from ?_]; rfl
  rw [List.countP_eq_zero]
  intro x hx
  simp only [decide_eq_true_eq]
  intro e
  obtain ⟨i, hi⟩ := List.getElem?_of_mem hx
  have hl : i < (l.take q).length := (List.getElem?_eq_some_iff.1 hi).1
  rw [List.length_take] at hl
  rw [List.getElem?_take, if_pos (by omega)] at hi
  obtain ⟨h1, rfl⟩ := List.getElem?_eq_some_iff.1 hi
  obtain ⟨h2, rfl⟩ := List.getElem?_eq_some_iff.1 ho
  have := (List.getElem_inj (xs := l.map (·.1)) (h₀ := by simpa using h1) (h₁ := by simpa using h2) hd).1 (by simpa using e)
  omega
theorem later_step (ho : l[q]? = some o) : (fun b => if b = o.1 then laterF h T l q o.1 + 1 else laterF h T l q b) = laterF h T l (q + 1) := by
  funext b
  unfold laterF
  rw [takeE ho]
  unfold cntK
  rw [List.countP_append]
  by_cases e : b = o.1
  · rw [if_pos e, e]; simp; omega
  · rw [if_neg e]; simp [Ne.symm e]
theorem kp_yes (hd : (l.map (·.1)).Nodup) (ho : l[q]? = some o) (h0 : 0 ≤ fT h T o.1) (hb : ¬ laterF h T l q o.1 + 1 > 1) : kpL (fT h T) (l.take q) ++ [o] = kpL (fT h T) (l.take (q + 1)) := by
  unfold laterF at hb
  rw [cnt_fresh hd ho] at hb
  rw [takeE ho]; unfold kpL; rw [List.filter_append]
  simp [show fT h T o.1 = 0 by omega]
theorem kp_no (hd : (l.map (·.1)).Nodup) (ho : l[q]? = some o) (hb : laterF h T l q o.1 + 1 > 1) : kpL (fT h T) (l.take q) = kpL (fT h T) (l.take (q + 1)) := by
  unfold laterF at hb
  rw [cnt_fresh hd ho] at hb
  rw [takeE ho]; unfold kpL; rw [List.filter_append]
  simp [show ¬ fT h T o.1 = 0 by omega]
theorem kp_yes_len (hd : (l.map (·.1)).Nodup) (ho : l[q]? = some o) (h0 : 0 ≤ fT h T o.1) (hb : ¬ laterF h T l q o.1 + 1 > 1) : (kpL (fT h T) (l.take (q + 1))).length = (kpL (fT h T) (l.take q)).length + 1 := by rw [← kp_yes hd ho h0 hb]; simp
theorem kp_no_len (hd : (l.map (·.1)).Nodup) (ho : l[q]? = some o) (hb : laterF h T l q o.1 + 1 > 1) : (kpL (fT h T) (l.take (q + 1))).length = (kpL (fT h T) (l.take q)).length := by rw [← kp_no hd ho hb]
theorem laterF_0 : fT h T = laterF h T l 0 := by funext k; simp [laterF, cntK]
theorem laterF_nn (hT : ∀ e ∈ T, e.opl.length ≤ 20) (hl : T.length ≤ 100) (h2 : l.length ≤ 20) (k : ByteArray) : 0 ≤ laterF h T l q k ∧ laterF h T l q k ≤ 10000 := by
  have h3 := fT_nn h k T hT
  have h4 := cntK_nn k (l.take q)
  rw [List.length_take] at h4
  unfold laterF; omega
theorem thM_eq {n k : Int} (h1 : k ≤ (L.length : Int)) (h2 : 0 ≤ k) (h3 : k = n ∨ k = 0 ∨ k = (L.length : Int)) (h4 : k ≤ n ∨ n ≤ 0 ∧ k = 0) (h5 : n ≤ k ∨ k = (L.length : Int)) : k.toNat = thM L n := by
  unfold thM
  congr 1
  split
  · omega
  · split <;> omega
theorem drop_all20 (hl : ∀ e ∈ L, e.opl.length ≤ 20) : ∀ e ∈ (L.take M).drop j, e.opl.length ≤ 20 := fun e he => hl e (List.mem_of_mem_take (List.mem_of_mem_drop he))
theorem dropM_len (hM : M ≤ L.length) : ((L.take M).drop j).length = M - j := by rw [List.length_drop, List.length_take]; omega
theorem nodup_y (hd : ∀ e ∈ L, (e.opl.map (·.1)).Nodup) (hj : 0 < j) (hM : j ≤ M) (hL : M ≤ L.length) (hLk : Lk.map e0 = (thS L h M j).map e0) (hy : Lk[j - 1]? = some y) : (y.opl.map (·.1)).Nodup := by
  obtain ⟨z, h1, h2, h3, h4⟩ := thS_z hj hM hL hLk hy
  rw [← (e0_ts h2).2.2.2]; exact hd z (List.mem_of_getElem? h1)
theorem kpL_id (l : List OpT) : kpL (fun _ => 0) l = l := List.filter_eq_self.2 (by simp)
theorem kpL_all {p : OpT → Prop} (hp : ∀ o ∈ l, p o) : ∀ o ∈ kpL f l, p o := fun o ho => hp o ((List.mem_filter.1 ho).1)
theorem ltE_t (h1 : ¬ y.ts = 0) (h2 : y.ts ≤ h) : ltE h y = true := decide_eq_true ⟨h1, h2⟩
theorem ltE_f (h1 : y.ts = 0 ∨ ¬ y.ts ≤ h) : ltE h y = false := decide_eq_false (fun q => by omega)
theorem thS_M (h : Int) (hL : M ≤ L.length) : L.map e0 = (thS L h M M).map e0 := by unfold thS; rw [List.drop_eq_nil_of_le (by rw [List.length_take]; omega)]; simp [lT]
theorem thS_0 (h n : Int) : thS L h (thM L n) 0 = thL L h n := by simp [thS, thL]
theorem fT_M : (fun _ => (0 : Int)) = fT h ((L.take M).drop M) := by rw [List.drop_eq_nil_of_le (by rw [List.length_take]; omega)]; funext k; rfl
theorem gT_M : (0 : Int) = gT h ((L.take M).drop M) := by rw [List.drop_eq_nil_of_le (by rw [List.length_take]; omega)]; rfl
theorem thS_nm (h : Int) (hM : j ≤ M) (hL : M ≤ L.length) : (thS L h M j).map nmE = L.map nmE := by
  unfold thS
  have hl : ∀ T : List EntT, (lT h T).map nmE = T.map nmE := fun T => by
    induction T with
    | nil => rfl
    | cons e r ih => simp only [lT, List.map_cons, ih]; split <;> rfl
  rw [List.map_append, List.map_append, hl, ← List.map_append, ← List.map_append]
  congr 1
  rw [show (L.take M).drop j ++ L.drop M = L.drop j from ?_, List.take_append_drop]
  conv => rhs; rw [← List.take_append_drop M L]
  rw [List.drop_append_of_le_length (by rw [List.length_take]; omega)]
end
theorem blk_ne_mapG {K V : Type} {kv : K → Value} [DecidableEq K] {enc : V → Value} {z : V} {w : World} {N B : Nat} {T : TypeId} {cs : Array Value} {g2 : K → V} (hb : Blk w N T cs) (hm : MapG kv enc z w B g2) : N ≠ B := by
  intro e; subst e
  obtain ⟨l, ⟨es, cl, h1, _⟩, _⟩ := hm
  have := hb.symm.trans h1
  cases this
theorem strz (w : World) : (zeroValue 3).run Try.prog w = .ok (intK 0) w := by kernel_rfl
theorem MapG.toE {K V : Type} [DecidableEq K] {kv : K → Value} {enc : V → Value} {z : V} {w : World} {B : Nat} {g g' : K → V} (h : MapG kv enc z w B g) (e : g = g') : MapG kv enc z w B g' := e ▸ h
theorem grown_of_but {w x : World} {N : Nat} (h : But (fun q => q = N) w x) : w.grownBy x (some N) := ⟨h.os, h.tape, h.output, h.size, fun k hk hne => h.block k hk (fun e => hne (by rw [e]))⟩

set_option maxRecDepth 100000 in
theorem hides_any (w0 : World) (Q : Nat → Prop) (k : ByteArray) (v : ByteArray) (d : Bool) (Bx : Nat) (N : Nat) (g : ByteArray → Int) (w : World) (hbw : But Q w0 w) (hSN : Q N ∨ w0.heap.size ≤ N) (hD : Blk w Bx 125 #[.map (some N)]) (hm : MapG strK intK 0 w N g) (hg0 : 0 ≤ g k ∧ g k ≤ 1000000) :
    Calls Try.prog 84 #[.agg #[.string k, .string v, .bool d], pt Bx 0] w fun e w' => e = .returned (.bool (decide (g k + 1 > 1))) ∧ MapG strK intK 0 w' N (fun b => if b = k then g k + 1 else g b) ∧ But (Q) w0 w' := by
 have hB0 := hbw
 have hz0 := hbw.size
 have hl_hD := hD.lt
 have hlm := hm.lt; have hneN := blk_ne_mapG hD hm
 have hz0 := hbw.size
 refine co_enter (n := 14) Try.func84 rfl rfl rfl [(0, .agg #[.string k, .string v, .bool d]), (1, pt Bx 0)] rfl (fun a h0 => ?_)
 refine co_seq ?_
 refine co_reg ?_
 refine pw h0 rfl (op_new (v := fun N => pt N 0) (T := 127) (cs := #[.string k, .string v, .bool d]) (by kernel_rfl) (by kernel_rfl) (by kernel_rfl)) ?_; clear h0
 rintro _ w2 a1 ⟨N3, rfl, hN6, hz7, hk5, hg4⟩ h1
 have hz8 := hg4.size
 try dsimp only at h1
 refine pk0 (v := .bool false) h1 rfl fun a9 h9 => ?_; clear h1
 refine pl_nil ?_
 refine co_then ?_
 refine co_seq ?_
 refine co_reg ?_
 have hk10 := hD.kept hg4 (by simp)
 refine pk (v := .map (some N)) h9 rfl (rn_load1 rfl rfl Try.isAgg125 (hk10.cell rfl)) fun a11 h11 => ?_; clear h9
 refine pk0 (v := pt N3 0) h11 rfl fun a12 h12 => ?_; clear h11
 refine pk (v := .string k) h12 rfl (rn_load1 rfl rfl Try.isAgg9 (hk5.cell rfl)) fun a13 h13 => ?_; clear h12
 have hI14 := hm.kept hg4 (by simp)
 refine pk (v := .int .i64 (g k)) h13 rfl (rn_lookG (a := k) (strKL Try.underlying9) rfl rfl rfl Try.underlying125 strz hI14) fun a15 h15 => ?_; clear h13
 refine pk (v := .int .i64 ((g k) + 1)) h15 rfl (rn_arith rfl rfl rfl rfl rfl rfl (IntWalk.i64_in _ (by omega))) fun a16 h16 => ?_; clear h15
 refine pwD h16 rfl (op_updateG (a := k) (v := ((g k) + 1)) (strKL Try.underlying9) rfl rfl rfl rfl Try.underlying125 hI14) ?_; clear h16
 rintro _ w18 a17 ⟨hm19, hz20, hg21⟩ h17
 have hz22 := hg21.size
 have hl23 := hm19.lt
 refine pl_nil ?_
 refine co_then ?_
 refine co_seq ?_
 refine co_reg ?_
 have hk24 := hk10.kept hg21 (by simp; omega)
 refine pk (v := .map (some N)) h17 rfl (rn_load1 rfl rfl Try.isAgg125 (hk24.cell rfl)) fun a25 h25 => ?_; clear h17
 refine pk0 (v := pt N3 0) h25 rfl fun a26 h26 => ?_; clear h25
 have hk27 := hk5.kept hg21 (by simp; omega)
 refine pk (v := .string k) h26 rfl (rn_load1 rfl rfl Try.isAgg9 (hk27.cell rfl)) fun a28 h28 => ?_; clear h26
 refine pk (v := .int .i64 (if k = k then g k + 1 else g k)) h28 rfl (rn_lookG (a := k) (strKL Try.underlying9) rfl rfl rfl Try.underlying125 strz hm19) fun a29 h29 => ?_; clear h28
 refine pk0 (v := .bool (decide ((if k = k then g k + 1 else g k) > 1))) h29 rfl fun a30 h30 => ?_; clear h29
 refine pk0 (v := .bool (decide ((if k = k then g k + 1 else g k) > 1))) h30 rfl fun a31 h31 => ?_; clear h30
 refine pl_nil ?_
 refine co_then ?_
 refine wp_ret ?_
 refine co_ret1 h31 rfl rfl ?_
 have hB32 := fbU_new hB0 hg4
 have hB33 := fbU_at hB32 hg21 (fun hlt => by rcases hSN with hq | hq; exact hq; omega)
 exact ⟨by simp, hm19, hB33⟩
set_option maxRecDepth 100000 in
set_option maxHeartbeats 1600000 in
theorem lThin_any (w0 : World) (S : Nat → Prop) (b : Nat) (M : Nat) (u : Value) (L : List EntT) (h : Int) (n : Int) (w : World) (hbw : But S w0 w) (hO : LgP S w0.heap.size w b M u L) (hh : 0 ≤ h ∧ h < 18446744073709551616) (hni : -9223372036854775808 ≤ n ∧ n ≤ 9223372036854775807) (hdk : ∀ e ∈ L, (e.opl.map (·.1)).Nodup) :
    Calls Try.prog 35 #[pt b 0, .int .u64 h, .int .i64 n] w fun e w' => ∃ (L' : List EntT), e = .returned (.int .i64 (thG L h n)) ∧ LgP S w0.heap.size w' b M u L' ∧ L'.map e0 = (thL L h n).map e0 ∧ But (S) w0 w' := by
 have hB0 := hbw
 have hz0 := hbw.size
 have hz0 := hbw.size
 have hl3 := hO.blk.lt; obtain ⟨c1, hm2⟩ := hO.map; have hl4 := hm2.lt; have hne5 := blk_ne_mapN hO.blk hm2; have hln6 := hO.len
 refine co_enter (n := 77) Try.func35 rfl rfl rfl [(0, pt b 0), (1, .int .u64 h), (2, .int .i64 n)] rfl (fun a h0 => ?_)
 refine co_seq ?_
 refine co_reg ?_
 refine pk0 (v := .int .i64 0) h0 rfl fun a7 h7 => ?_; clear h0
 refine pl_nil ?_
 refine co_then ?_
 refine co_seq ?_
 refine co_seq ?_
 refine co_reg ?_
 refine pk0 (v := pt b 0) h7 rfl fun a8 h8 => ?_; clear h7
 refine pw h8 rfl (op_call (args := #[pt b 0]) (R := fun res xw => res = .bool false ∧ w = xw) rfl rfl rfl (by kernel_rfl) (by kernel_rfl) (Try.call78 _ _) (lzero_any b M u w hO.blk) (by rintro e x ⟨rfl, rfl⟩; exact ⟨_, rfl, ⟨rfl, rfl⟩⟩)) ?_; clear h8
 rintro _ _ a9 ⟨rfl, rfl⟩ h9
 refine pl_nil ?_
 refine co_then ?_
 refine co_false h9 rfl ?_
 refine wp_skip ?_
 refine co_then ?_
 refine co_seq ?_
 refine co_reg ?_
 refine pw h9 rfl (op_makeG strK intK 0 (by kernel_rfl) (by kernel_rfl) rfl) ?_; clear h9
 rintro _ w13 a12 ⟨B14, rfl, hN15, hz16, hm17, hg18⟩ h12
 have ha19 := row_fresh hO.row hN15
 have hz20 := hg18.size
 have hl21 := hm17.lt
 refine pw h12 rfl (op_new (v := fun N => pt N 0) (T := 125) (cs := #[.map none]) (by kernel_rfl) (by kernel_rfl) (by kernel_rfl)) ?_; clear h12
 rintro _ w23 a22 ⟨N24, rfl, hN27, hz28, hk26, hg25⟩ h22
 have hr30 := row_kept_new hO.row hg18
 have ha29 := row_fresh hr30 hN27
 have hu31 := row_under hr30 hN27
 have hz32 := hg25.size
 try dsimp only at h22
 refine pwD h22 rfl (op_store1 rfl rfl rfl rfl Try.sizeOf125 hk26 rfl) ?_; clear h22
 rintro _ w34 a33 ⟨hk35, hz36, hg37⟩ h33
 have hk35' : Blk w34 N24 125 #[.map (some B14)] := hk35; clear hk35
 have hz38 := hg37.size
 refine pl_nil ?_
 refine co_then ?_
 refine co_seq ?_
 refine co_reg ?_
 refine pk0 (v := .int .i64 0) h33 rfl fun a39 h39 => ?_; clear h33
 refine pl_nil ?_
 refine co_then ?_
 refine co_seq ?_
 refine co_reg ?_
 refine pk0 (v := .func (.func 84) #[] #[pt N24 0]) h39 rfl fun a40 h40 => ?_; clear h39
 refine pk0 (v := .func (.func 84) #[] #[pt N24 0]) h40 rfl fun a41 h41 => ?_; clear h40
 refine pl_nil ?_
 refine co_then ?_
 refine co_seq ?_
 refine co_seq ?_
 refine co_reg ?_
 refine pk0 (v := .int .i64 n) h41 rfl fun a42 h42 => ?_; clear h41
 obtain ⟨kp43, hkp44⟩ : ∃ z : Int, z = (if n < 0 then 0 else n) := ⟨_, rfl⟩
 have hq45 : kp43 ≥ n ∧ kp43 ≥ 0 ∧ (kp43 = n ∨ kp43 = 0) := by rw [hkp44]; split <;> omega
 refine pk (v := .int .i64 kp43) h42 rfl (by rw [hkp44]; kernel_rfl) fun a46 h46 => ?_; clear h42
 refine pk0 (v := pt b 0) h46 rfl fun a47 h47 => ?_; clear h46
 refine pk0 (v := pt b 0) h47 rfl fun a48 h48 => ?_; clear h47
 refine pk0 (v := pt b 1) h48 rfl fun a49 h49 => ?_; clear h48
 have hk50 := hO.blk.kept hg18 (by simp)
 have hk51 := hk50.kept hg25 (by simp)
 have hk52 := hk51.kept hg37 (by simp; omega)
 refine pk (v := u) h49 rfl (rn_load1 rfl rfl Try.isAgg39 (hk52.cell rfl)) fun a53 h53 => ?_; clear h49
 have hr54 := row_kept_new hr30 hg25
 have hr55 := row_kept_at hr54 hg37 (ha29)
 refine pk (v := .int .i64 ((L.length : Nat) : Int)) h53 rfl (rn_lenOwn rfl rfl Try.underlying39 hr55) fun a56 h56 => ?_; clear h53
 obtain ⟨kp57, hkp58⟩ : ∃ z : Int, z = (if ((L.length : Nat) : Int) < kp43 then ((L.length : Nat) : Int) else kp43) := ⟨_, rfl⟩
 have hq59 : kp57 ≤ kp43 ∧ kp57 ≤ ((L.length : Nat) : Int) ∧ (kp57 = kp43 ∨ kp57 = ((L.length : Nat) : Int)) := by rw [hkp58]; split <;> omega
 refine pk (v := .int .i64 kp57) h56 rfl (by rw [hkp58]; kernel_rfl) fun a60 h60 => ?_; clear h56
 refine pk (v := .int .i64 (kp57 - 1)) h60 rfl (rn_arith rfl rfl rfl rfl rfl rfl (IntWalk.i64_in _ (by omega))) fun a61 h61 => ?_; clear h60
 refine pk0 (v := .int .i64 (kp57 - 1)) h61 rfl fun a62 h62 => ?_; clear h61
 refine pl_nil ?_
 refine co_then ?_
 refine wp_block ?_
 obtain ⟨Mn, hMn⟩ : ∃ z : Nat, z = kp57.toNat := ⟨_, rfl⟩
 have h63 : Slots 77 [(0, pt b 0), (1, .int .u64 h), (7, pt N24 0), (8, .int .i64 0), (9, .func (.func 84) #[] #[pt N24 0]), (10, .int .i64 (kp57 - 1))] _ := h62.sub ⟨rfl, rfl, rfl, rfl, rfl, rfl, trivial⟩; clear h62
 refine co_loop (fun mm a x => ∃ (j : Nat) (Lk : List EntT), Slots 77 [(0, pt b 0), (1, .int .u64 h), (7, pt N24 0), (8, .int .i64 (gT h ((L.take Mn).drop j))), (9, .func (.func 84) #[] #[pt N24 0]), (10, .int .i64 (((j : Nat) : Int) - 1))] a ∧ mm = 0 + j ∧ (j ≤ Mn) ∧ (Lk.map e0 = (thS L h Mn j).map e0) ∧ x.ownsRow 0 47 4 u Lk.length (Lk.flatMap entE) ∧ EntsK S w0.heap.size x Lk ∧ MapO arr2K spotV x M (findN L) c1 ∧ MapG strK intK 0 x B14 (fT h ((L.take Mn).drop j)) ∧ But (S) w0 x ∧ Blk x b 67 #[.bool true, u, .map (some M)] ∧ Blk x N24 125 #[.map (some B14)]) (0 + Mn) ?_ ?_
 have hE64 := hO.ents.new hg18
 have hE65 := hE64.new hg25
 have hE66 := hE65.blk hk26 (by decide) hg37
 have hM67 := hm2.kept hg18 (by simp)
 have hM68 := hM67.kept hg25 (by simp)
 have hM69 := hM68.kept hg37 (by simp; omega)
 have hI70 := hm17.kept hg25 (by simp)
 have hI71 := hI70.kept hg37 (by simp; omega)
 have hB72 := fbU_new hB0 hg18
 have hB73 := fbU_new hB72 hg25
 have hB74 := fbU_at hB73 hg37 (fun hlt => absurd hlt (by omega))
 · exact ⟨Mn, L, h63.sub ⟨rfl, rfl, rfl, (slot_eq rfl (congrArg (Value.int .i64) (by first | exact gT_M | (rw [hgj]; exact gT_no (by omega) (by omega) (by omega) (by assumption) (by assumption) hq0) | (rw [hgj]; exact gT_yes (by omega) (by omega) (by omega) (by assumption) (by assumption) hq0 (by omega) (by omega))))), rfl, (slot_eq rfl (congrArg (Value.int .i64) (by first | rfl | omega))), trivial⟩, rfl, by omega, by first | exact thS_M _ (by omega) | exact th_no (by omega) (by omega) (by omega) (by assumption) (by assumption) hq0 | exact th_yes (by omega) (by omega) (by omega) (by assumption) (by assumption) hq0 (by simp only [e0, htk]), hr55, hE66, hM69, (hI71.toE (by first | exact fT_M | exact fT_no (by omega) (by omega) (by omega) hq0 hq0 hq0 | exact fT_yes (by omega) (by omega) (by omega) hq0 hq0 hq0 (by omega))), hB74, hk52, hk35'⟩
 · rintro k75 a76 w77 ⟨j, Lk, h76, rfl, hi78, hi79, hf80, hf81, hf82, hf83, hB84, hk85, hk86⟩
   have hz87 := hB84.size
   have hl88 := hk85.lt
   have hl89 := hk86.lt
   have hl90 := hf82.lt
   have hl91 := hf83.lt
   have hLl : Lk.length = L.length := by have := e0_len (by assumption : Lk.map e0 = (thS L h Mn j).map e0); have h2 := congrArg List.length (thS_nm h (by omega : j ≤ Mn) (by omega : Mn ≤ L.length)); rw [List.length_map, List.length_map] at h2; omega
   have hgb := gT_nn h ((L.take Mn).drop j) (drop_all20 (fun e he => (hO.ents e he).len)); rw [dropM_len (by omega)] at hgb
   obtain ⟨gj, hgj⟩ : ∃ z, z = gT h ((L.take Mn).drop j) := ⟨_, rfl⟩; rw [← hgj] at hgb
   rw [← hgj] at h76
   refine co_seq ?_
   refine co_seq ?_
   refine co_reg ?_
   refine pk0 (v := .int .i64 (((j : Nat) : Int) - 1)) h76 rfl fun a92 h92 => ?_; clear h76
   refine pk0 (v := .bool (decide ((((j : Nat) : Int) - 1) ≥ 0))) h92 rfl fun a93 h93 => ?_; clear h92
   refine pl_nil ?_
   refine co_then ?_
   cases hc94 : (decide ((((j : Nat) : Int) - 1) ≥ 0))
   ·
    rw [hc94] at h93
    have hp95 : ¬ ((((j : Nat) : Int) - 1) ≥ 0) := of_decide_eq_false hc94
    clear hc94
    refine co_false h93 rfl ?_
    refine wp_exit ?_
    refine co_thenX ?_
    refine co_thenX ?_
    refine co_blockX ?_
    refine co_then ?_
    refine co_seq ?_
    refine co_reg ?_
    refine pk0 (v := .int .i64 gj) h93 rfl fun a96 h96 => ?_; clear h93
    refine pk0 (v := .int .i64 gj) h96 rfl fun a97 h97 => ?_; clear h96
    refine pl_nil ?_
    refine co_then ?_
    refine wp_ret ?_
    refine co_ret1 h97 rfl rfl ?_
    have hj0 : j = 0 := by omega
    subst hj0
    have hMe : Mn = thM L n := by rw [hMn]; exact thM_eq (by omega) (by omega) (by omega) (by omega) (by omega)
    have hLe : Lk.map e0 = (thL L h n).map e0 := by rw [← thS_0, ← hMe]; assumption
    have hnm : Lk.map nmE = L.map nmE := by rw [e0_f (f := nmE) (fun _ => rfl) (by assumption : Lk.map e0 = (thS L h Mn 0).map e0)]; exact thS_nm h (by omega) (by omega)
    exact ⟨_, ret_int (by unfold thG; rw [← hMe, hgj, List.drop_zero]), ⟨hk85, ⟨_, hf82.eq ((findN_nm hnm).symm) (Nat.le_refl _)⟩, hf80, hf81, hO.sb, hO.sM, hO.su, (hO.uq.nm hnm), (by have := hO.len; omega)⟩, hLe, hB84⟩
   ·
    rw [hc94] at h93
    have hp98 : (((j : Nat) : Int) - 1) ≥ 0 := of_decide_eq_true hc94
    clear hc94
    refine co_true h93 rfl ?_
    refine wp_skip ?_
    refine co_then ?_
    refine co_seq ?_
    refine wp_block ?_
    refine co_seq ?_
    refine co_reg ?_
    refine pk0 (v := pt b 0) h93 rfl fun a99 h99 => ?_; clear h93
    refine pk0 (v := pt b 0) h99 rfl fun a100 h100 => ?_; clear h99
    refine pk0 (v := pt b 1) h100 rfl fun a101 h101 => ?_; clear h100
    refine pk (v := u) h101 rfl (rn_load1 rfl rfl Try.isAgg39 (hk85.cell rfl)) fun a102 h102 => ?_; clear h101
    refine pk0 (v := .int .i64 (((j : Nat) : Int) - 1)) h102 rfl fun a103 h103 => ?_; clear h102
    obtain ⟨y104, hy104⟩ : ∃ z, Lk[(j - 1)]? = some z := ⟨_, List.getElem?_eq_getElem (by first | omega | (simp; done) | (simp; omega))⟩
    have oky104 := (fun (z : EntT) (_ : z ∈ Lk) => trivial) _ (List.mem_of_getElem? hy104)
    have hy105 := hf81.at hy104
    have hq106 := hy105.ts0; have hq107 := hy105.ts1; have hq108 := hy105.len; have hq109 := wf_i64 hy105.cl; have hq110 := wf_i64 hy105.rq
    refine pk (v := pt (blkOf u) (offOf u + (j - 1) * 4)) h103 rfl (rn_index rfl rfl rfl Try.underlying39 Try.sizeOf47 (row_sl hf80 entE_len) (by omega) (by first | omega | (simp; done) | (simp; omega))) fun a111 h111 => ?_; clear h103
    refine pk0 (v := pt (blkOf u) (offOf u + (j - 1) * 4)) h111 rfl fun a112 h112 => ?_; clear h111
    refine pl_nil ?_
    refine co_then ?_
    refine co_seq ?_
    refine co_seq ?_
    refine co_reg ?_
    refine pk0 (v := pt (blkOf u) (offOf u + (j - 1) * 4)) h112 rfl fun a113 h113 => ?_; clear h112
    refine pk0 (v := pt (blkOf u) (offOf u + (j - 1) * 4)) h113 rfl fun a114 h114 => ?_; clear h113
    refine pk0 (v := pt (blkOf u) (offOf u + (j - 1) * 4 + 3)) h114 rfl fun a115 h115 => ?_; clear h114
    refine pk (v := .int .u64 y104.ts) h115 rfl (rn_load1 rfl rfl Try.isAgg45 ((sl_at (row_sl hf80 entE_len) hy104) 3 _ rfl)) fun a116 h116 => ?_; clear h115
    refine pk0 (v := .bool (y104.ts == 0)) h116 rfl fun a117 h117 => ?_; clear h116
    refine pk0 (v := .bool (y104.ts == 0)) h117 rfl fun a118 h118 => ?_; clear h117
    cases hc119 : (y104.ts == 0)
    ·
     rw [hc119] at h118
     have hp120 : ¬ (y104.ts = 0) := by first | simpa using hc119 | simpa [and_assoc] using hc119
     clear hc119
     refine pk0 (v := pt (blkOf u) (offOf u + (j - 1) * 4)) h118 rfl fun a121 h121 => ?_; clear h118
     refine pk0 (v := pt (blkOf u) (offOf u + (j - 1) * 4)) h121 rfl fun a122 h122 => ?_; clear h121
     refine pk0 (v := pt (blkOf u) (offOf u + (j - 1) * 4 + 3)) h122 rfl fun a123 h123 => ?_; clear h122
     refine pk (v := .int .u64 y104.ts) h123 rfl (rn_load1 rfl rfl Try.isAgg45 ((sl_at (row_sl hf80 entE_len) hy104) 3 _ rfl)) fun a124 h124 => ?_; clear h123
     refine pk0 (v := .int .u64 h) h124 rfl fun a125 h125 => ?_; clear h124
     refine pk0 (v := .bool (decide (y104.ts > h))) h125 rfl fun a126 h126 => ?_; clear h125
     refine pk0 (v := .bool (decide (y104.ts > h))) h126 rfl fun a127 h127 => ?_; clear h126
     refine pl_nil ?_
     refine co_then ?_
     cases hc128 : (decide (y104.ts > h))
     ·
      rw [hc128] at h127
      have hp129 : ¬ (y104.ts > h) := of_decide_eq_false hc128
      clear hc128
      refine co_false h127 rfl ?_
      refine wp_skip ?_
      refine co_then ?_
      refine co_seq ?_
      refine co_reg ?_
      refine pk0 (v := .slice none 0 0) h127 rfl fun a130 h130 => ?_; clear h127
      refine pl_nil ?_
      refine co_then ?_
      refine co_seq ?_
      refine co_seq ?_
      refine co_reg ?_
      refine pk0 (v := pt (blkOf u) (offOf u + (j - 1) * 4)) h130 rfl fun a131 h131 => ?_; clear h130
      refine pk0 (v := pt (blkOf u) (offOf u + (j - 1) * 4)) h131 rfl fun a132 h132 => ?_; clear h131
      refine pk0 (v := pt (blkOf u) (offOf u + (j - 1) * 4)) h132 rfl fun a133 h133 => ?_; clear h132
      refine pk0 (v := pt (blkOf u) (offOf u + (j - 1) * 4 + 2)) h133 rfl fun a134 h134 => ?_; clear h133
      refine pk (v := y104.ops) h134 rfl (rn_load1 rfl rfl Try.isAgg42 ((sl_at (row_sl hf80 entE_len) hy104) 2 _ rfl)) fun a135 h135 => ?_; clear h134
      refine pk (v := .int .i64 ((y104.opl.length : Nat) : Int)) h135 rfl (rn_lenOwn rfl rfl Try.underlying42 hy105.row) fun a136 h136 => ?_; clear h135
      refine pk0 (v := .int .i64 0) h136 rfl fun a137 h137 => ?_; clear h136
      refine pl_nil ?_
      refine co_then ?_
      refine wp_block ?_
      obtain ⟨bs138, hb_bs138⟩ : ∃ b, b = w77.heap.size := ⟨_, rfl⟩
      have hu139 := row_under hf80 hb_bs138
      have hu140 := row_under hy105.row hb_bs138
      have hu141 := EntsK.under hf81 hb_bs138
      have hnd := nodup_y (h := h) hdk (by omega) (by omega) (by omega) (by assumption : Lk.map e0 = (thS L h Mn j).map e0) hy104
      have hw0b : w0.heap.size ≤ bs138 := by omega
      have h142 : Slots 77 [(0, pt b 0), (1, .int .u64 h), (7, pt N24 0), (8, .int .i64 gj), (9, .func (.func 84) #[] #[pt N24 0]), (10, .int .i64 (((j : Nat) : Int) - 1)), (11, pt (blkOf u) (offOf u + (j - 1) * 4)), (12, .slice none 0 0), (55, y104.ops), (56, .int .i64 ((y104.opl.length : Nat) : Int)), (57, .int .i64 0)] _ := h137.sub ⟨rfl, rfl, rfl, rfl, rfl, rfl, rfl, rfl, rfl, rfl, rfl, trivial⟩; clear h137
      refine co_loop (fun mm a x => ∃ (q : Nat) (u2 : Value), Slots 77 [(0, pt b 0), (1, .int .u64 h), (7, pt N24 0), (8, .int .i64 (gj + ((q : Int) - ((kpL (fT h ((L.take Mn).drop j)) (y104.opl.take q)).length : Int)))), (9, .func (.func 84) #[] #[pt N24 0]), (10, .int .i64 (((j : Nat) : Int) - 1)), (11, pt (blkOf u) (offOf u + (j - 1) * 4)), (12, u2), (55, y104.ops), (56, .int .i64 ((y104.opl.length : Nat) : Int)), (57, .int .i64 ((q : Nat) : Int))] a ∧ mm = y104.opl.length - q ∧ (q ≤ y104.opl.length) ∧ (bs138 ≤ x.heap.size) ∧ x.ownsRow 0 47 4 u Lk.length (Lk.flatMap entE) ∧ x.ownsRow 0 127 3 (y104.ops) y104.opl.length (y104.opl.flatMap opE) ∧ EntsK S w0.heap.size x Lk ∧ MapO arr2K spotV x M (findN L) c1 ∧ x.ownsRow bs138 127 3 u2 (kpL (fT h ((L.take Mn).drop j)) (y104.opl.take q)).length ((kpL (fT h ((L.take Mn).drop j)) (y104.opl.take q)).flatMap opE) ∧ MapG strK intK 0 x B14 (laterF h ((L.take Mn).drop j) y104.opl q) ∧ But (S) w0 x ∧ Blk x b 67 #[.bool true, u, .map (some M)] ∧ Blk x N24 125 #[.map (some B14)]) (y104.opl.length - 0) ?_ ?_
      · exact ⟨0, (.slice none 0 0), h142.sub ⟨rfl, rfl, rfl, (slot_eq rfl (congrArg (Value.int .i64) (by first | (simp [kpL]; done) | omega))), rfl, rfl, rfl, rfl, rfl, rfl, (slot_eq rfl (congrArg (Value.int .i64) (by first | rfl | omega))), trivial⟩, rfl, by omega, by omega, hf80, hy105.row, hf81, hf82, (row_nilL _ _ _ _ _), (hf83.toE (laterF_0)), hB84, hk85, hk86⟩
      · rintro k143 a144 w145 ⟨q, u2, h144, rfl, hi146, hi147, hf148, hf149, hf150, hf151, hf152, hf153, hB154, hk155, hk156⟩
        have hz157 := hB154.size
        have hl158 := hk155.lt
        have hl159 := hk156.lt
        have hl160 := hf151.lt
        have hl161 := hf153.lt
        have hkl := kpL_le (fT h ((L.take Mn).drop j)) (y104.opl.take q); rw [List.length_take] at hkl
        refine co_seq ?_
        refine co_reg ?_
        refine pk0 (v := .bool (decide (((q : Nat) : Int) < ((y104.opl.length : Nat) : Int)))) h144 rfl fun a162 h162 => ?_; clear h144
        refine pl_nil ?_
        refine co_then ?_
        refine co_seq ?_
        cases hc163 : (decide (((q : Nat) : Int) < ((y104.opl.length : Nat) : Int)))
        ·
         rw [hc163] at h162
         have hp164 : ¬ (((q : Nat) : Int) < ((y104.opl.length : Nat) : Int)) := of_decide_eq_false hc163
         clear hc163
         refine co_false h162 rfl ?_
         refine wp_exit ?_
         refine co_thenX ?_
         refine co_thenX ?_
         refine co_blockX ?_
         refine co_then ?_
         refine co_reg ?_
         refine pk0 (v := pt (blkOf u) (offOf u + (j - 1) * 4)) h162 rfl fun a165 h165 => ?_; clear h162
         refine pk0 (v := u2) h165 rfl fun a166 h166 => ?_; clear h165
         refine pk0 (v := pt (blkOf u) (offOf u + (j - 1) * 4)) h166 rfl fun a167 h167 => ?_; clear h166
         refine pk0 (v := pt (blkOf u) (offOf u + (j - 1) * 4)) h167 rfl fun a168 h168 => ?_; clear h167
         refine pk0 (v := pt (blkOf u) (offOf u + (j - 1) * 4 + 2)) h168 rfl fun a169 h169 => ?_; clear h168
         refine pwD h169 rfl (op_storeRow (c := (j - 1) * 4 + 2) rfl rfl rfl (row_one hf152) Try.sizeOf42 hf148 (flat_lt entE_len (by first | omega | (simp; omega)) (by omega)) (by first | rfl | omega)) ?_; clear h169
         rintro _ w171 a170 ⟨hr172, hz173, hg174⟩ h170
         have hr172' := row_set (y' := (EntT.mk y104.client y104.req u2 (kpL (fT h ((L.take Mn).drop j)) (y104.opl.take q)) y104.ts)) hr172 entE_len hy104 (by omega) rfl; clear hr172
         have hz175 := hg174.size
         have hE178 := hf150.row hf148 (by decide) hg174
         have hy177 := EntsK.at hE178 hy104
         have hr179 := row_kept_row hf152 hf148 hg174 (by decide)
         have hE176 := EntsK.set (i := (j - 1)) (z := (EntT.mk y104.client y104.req u2 (kpL (fT h ((L.take Mn).drop j)) (y104.opl.take q)) y104.ts)) hE178 ⟨row_lows hr179 (Nat.zero_le _), InS.low hr179 (by omega), Nat.le_trans (kpL_le _ _) (by rw [List.length_take]; omega), kpL_all (fun o ho => hy177.each o (List.mem_of_mem_take ho)), hy177.ts0, hy177.ts1, hy177.cl, hy177.rq⟩
         refine pl_nil ?_
         refine co_blockN ?_
         refine co_then ?_
         refine co_reg ?_
         refine pk0 (v := .int .i64 (((j : Nat) : Int) - 1)) h170 rfl fun a180 h180 => ?_; clear h170
         refine pk (v := .int .i64 ((((j : Nat) : Int) - 1) - 1)) h180 rfl (rn_arith rfl rfl rfl rfl rfl rfl (IntWalk.i64_in _ (by omega))) fun a181 h181 => ?_; clear h180
         refine pk0 (v := .int .i64 ((((j : Nat) : Int) - 1) - 1)) h181 rfl fun a182 h182 => ?_; clear h181
         refine pl_nil ?_
         refine co_then ?_
         refine ⟨(0 + (j - 1)), by omega, ?_⟩
         have hq0 : ltE h y104 = true := ltE_t (by omega) (by omega)
         have htk : List.take q y104.opl = y104.opl := List.take_of_length_le (by omega)
         have hM183 := hf151.kept hg174 (hf151.row hf148)
         have hI184 := hf153.kept hg174 (hf153.row hf148)
         have hB185 := fbU_row hB154 hO.su hg174
         have hk186 := hk155.kept hg174 (own_neT hf148 hk155 (by decide))
         have hk187 := hk156.kept hg174 (ha29)
         exact ⟨(j - 1), (Lk.set (j - 1) (EntT.mk y104.client y104.req u2 (kpL (fT h ((L.take Mn).drop j)) (y104.opl.take q)) y104.ts)), h182.sub ⟨rfl, rfl, rfl, (slot_eq rfl (congrArg (Value.int .i64) (by first | exact gT_M | (rw [hgj]; exact gT_no (by omega) (by omega) (by omega) (by assumption) (by assumption) hq0) | (rw [hgj]; exact gT_yes (by omega) (by omega) (by omega) (by assumption) (by assumption) hq0 (by omega) (by omega))))), rfl, (slot_eq rfl (congrArg (Value.int .i64) (by first | rfl | omega))), trivial⟩, rfl, by omega, by first | exact thS_M _ (by omega) | exact th_no (by omega) (by omega) (by omega) (by assumption) (by assumption) hq0 | exact th_yes (by omega) (by omega) (by omega) (by assumption) (by assumption) hq0 (by simp only [e0, htk]), hr172', hE176, hM183, (hI184.toE (by first | exact fT_M | exact fT_no (by omega) (by omega) (by omega) (by assumption : Lk.map e0 = (thS L h Mn j).map e0) hy104 hq0 | exact fT_yes (by omega) (by omega) (by omega) (by assumption : Lk.map e0 = (thS L h Mn j).map e0) hy104 hq0 (by omega))), hB185, hk186, hk187⟩
        ·
         rw [hc163] at h162
         have hp188 : ((q : Nat) : Int) < ((y104.opl.length : Nat) : Int) := of_decide_eq_true hc163
         clear hc163
         refine co_true h162 rfl ?_
         refine wp_skip ?_
         refine co_then ?_
         refine co_seq ?_
         refine wp_block ?_
         refine co_seq ?_
         refine co_reg ?_
         obtain ⟨y189, hy189⟩ : ∃ z, y104.opl[q]? = some z := ⟨_, List.getElem?_eq_getElem (by first | omega | (simp; done) | (simp; omega))⟩
         refine pk (v := pt (blkOf (y104.ops)) (offOf (y104.ops) + q * 3)) h162 rfl (rn_index rfl rfl rfl Try.underlying42 Try.sizeOf127 (row_sl hf149 opE_len) (by omega) (by first | omega | (simp; done) | (simp; omega))) fun a190 h190 => ?_; clear h162
         refine pk (v := .agg #[.string y189.1, .string y189.2.1, .bool y189.2.2]) h190 rfl (rn_loadN rfl rfl Try.underlying127 rfl (by kernel_rfl) (sl_at (row_sl hf149 opE_len) hy189)) fun a191 h191 => ?_; clear h190
         refine pw h191 rfl (op_new (v := fun N => pt N 0) (T := 127) (cs := #[.string (⟨#[]⟩), .string (⟨#[]⟩), .bool false]) (by kernel_rfl) (by kernel_rfl) (by kernel_rfl)) ?_; clear h191
         rintro _ w193 a192 ⟨N194, rfl, hN197, hz198, hk196, hg195⟩ h192
         have ha199 := row_fresh hf148 hN197
         have hu200 := row_under hf148 hN197
         have ha201 := row_fresh hf149 hN197
         have hu202 := row_under hf149 hN197
         have ha203 := row_fresh hf152 hN197
         have hu204 := row_under hf152 hN197
         have hz205 := hg195.size
         have hu206 := EntsK.under hf150 hN197
         try dsimp only at h192
         refine pwD h192 rfl (op_storeN rfl rfl rfl (by kernel_rfl) (by kernel_rfl) hk196 rfl) ?_; clear h192
         rintro _ w208 a207 ⟨hk209, hz210, hg211⟩ h207
         have hk209' : Blk w208 N194 127 #[.string y189.1, .string y189.2.1, .bool y189.2.2] := hk209; clear hk209
         have hz212 := hg211.size
         refine pl_nil ?_
         refine co_then ?_
         refine co_seq ?_
         refine co_reg ?_
         refine pk0 (v := .func (.func 84) #[] #[pt N24 0]) h207 rfl fun a213 h213 => ?_; clear h207
         refine pk (v := .agg #[.string y189.1, .string y189.2.1, .bool y189.2.2]) h213 rfl (rn_loadN rfl rfl Try.underlying127 rfl (by kernel_rfl) hk209'.all) fun a214 h214 => ?_; clear h213
         have hB217 := fbU_new hB154 hg195
         have hB218 := fbU_at hB217 hg211 (fun hlt => absurd hlt (by omega))
         have hk219 := hk155.kept hg195 (by simp)
         have hk220 := hk219.kept hg211 (by simp; omega)
         have hk221 := hk156.kept hg195 (by simp)
         have hk222 := hk221.kept hg211 (by simp; omega)
         have hr223 := row_kept_new hf148 hg195
         have hr224 := row_kept_at hr223 hg211 (ha199)
         have hr225 := row_kept_new hf149 hg195
         have hr226 := row_kept_at hr225 hg211 (ha201)
         have hE227 := hf150.new hg195
         have hE228 := hE227.atU hu206 hg211
         have hM229 := hf151.kept hg195 (by simp)
         have hM230 := hM229.kept hg211 (by simp; omega)
         have hr231 := row_kept_new hf152 hg195
         have hr232 := row_kept_at hr231 hg211 (ha203)
         have hI233 := hf153.kept hg195 (by simp)
         have hI234 := hI233.kept hg211 (by simp; omega)
         have hk235 : 0 ≤ laterF h ((L.take Mn).drop j) y104.opl q y189.1 ∧ laterF h ((L.take Mn).drop j) y104.opl q y189.1 ≤ 10000 := laterF_nn (drop_all20 (fun e he => (hO.ents e he).len)) (by rw [dropM_len (by omega)]; omega) (by omega) _
         refine pw h214 rfl (op_callV (args := #[.agg #[.string y189.1, .string y189.2.1, .bool y189.2.2], pt N24 0]) (R := fun res xw => res = .bool (decide (laterF h ((L.take Mn).drop j) y104.opl q y189.1 + 1 > 1)) ∧ MapG strK intK 0 xw B14 (fun b => if b = y189.1 then laterF h ((L.take Mn).drop j) y104.opl q y189.1 + 1 else (laterF h ((L.take Mn).drop j) y104.opl q) b) ∧ w208.grownBy xw (some B14)) rfl rfl rfl (by kernel_rfl) (by kernel_rfl) (Try.call84 _ _) (hides_any w208 (fun q => q = B14) y189.1 y189.2.1 y189.2.2 N24 B14 (laterF h ((L.take Mn).drop j) y104.opl q) w208 (But.refl _ _) (.inl rfl) hk222 hI234 (by omega)) (by rintro e x ⟨rfl, h1, h2⟩; exact ⟨_, rfl, rfl, h1, grown_of_but h2⟩)) ?_; clear h214
         rintro _ w216 a215 ⟨rfl, hm236, hg237⟩ h215
         have hz238 := hg237.size
         have hl239 := hm236.lt
         refine pl_nil ?_
         refine co_then ?_
         have hB241 := fbU_at hB218 hg237 (fun hlt => absurd hlt (by omega))
         cases hc240 : (decide (laterF h ((L.take Mn).drop j) y104.opl q y189.1 + 1 > 1))
         ·
          rw [hc240] at h215
          have hp242 : ¬ (laterF h ((L.take Mn).drop j) y104.opl q y189.1 + 1 > 1) := of_decide_eq_false hc240
          clear hc240
          refine co_false h215 rfl ?_
          refine co_reg ?_
          refine pk0 (v := u2) h215 rfl fun a243 h243 => ?_; clear h215
          have hk244 := hk209'.kept hg237 (by simp; omega)
          refine pk (v := .agg #[.string y189.1, .string y189.2.1, .bool y189.2.2]) h243 rfl (rn_loadN rfl rfl Try.underlying127 rfl (by kernel_rfl) hk244.all) fun a245 h245 => ?_; clear h243
          refine pw h245 rfl (op_new (v := fun N => .slice (some ⟨N, 0, none⟩) 1 1) (T := 127) (cs := #[.string y189.1, .string y189.2.1, .bool y189.2.2]) (by kernel_rfl) (by kernel_rfl) (by kernel_rfl)) ?_; clear h245
          rintro _ w247 a246 ⟨N248, rfl, hN251, hz252, hk250, hg249⟩ h246
          have hr254 := row_kept_at hr224 hg237 (ha19)
          have ha253 := row_fresh hr254 hN251
          have hu255 := row_under hr254 hN251
          have hr257 := row_kept_at hr226 hg237 (hI234.row hr226)
          have ha256 := row_fresh hr257 hN251
          have hu258 := row_under hr257 hN251
          have hr260 := row_kept_at hr232 hg237 (hI234.row hr232)
          have ha259 := row_fresh hr260 hN251
          have hu261 := row_under hr260 hN251
          have hz262 := hg249.size
          have hE264 := hE228.mapG hI234 hg237
          have hu263 := EntsK.under hE264 hN251
          try dsimp only at h246
          have hr271 := row_kept_new hr260 hg249
          refine pw h246 rfl (op_append rfl bs138 127 (z := .agg #[.string (⟨#[]⟩), .string (⟨#[]⟩), .bool false]) (size := 3) (bytes := 40) Try.underlying42 (by kernel_rfl) rfl rfl rfl hr271 rfl hk250 rfl (by kernel_rfl) (by first | omega | (simp only [List.length_nil, List.length_append, List.length_cons, List.length_take, List.length_drop]; omega)) (by first | omega | (simp only [List.length_nil, List.length_append, List.length_cons, List.length_take, List.length_drop]; omega)) (by omega)) ?_; clear h246
          rintro v267 w266 a265 ⟨hr268, hg269⟩ h265
          have hr268' : w266.ownsRow bs138 127 3 v267 (((kpL (fT h ((L.take Mn).drop j)) (y104.opl.take q)) ++ [(y189.1, y189.2.1, y189.2.2)]).length) (((kpL (fT h ((L.take Mn).drop j)) (y104.opl.take q)) ++ [(y189.1, y189.2.1, y189.2.2)]).flatMap opE) := row_push (y := (y189.1, y189.2.1, y189.2.2)) hr268 rfl rfl; clear hr268
          have hz272 := hg269.size
          refine pk0 (v := v267) h265 rfl fun a273 h273 => ?_; clear h265
          refine pl_nil ?_
          refine co_blockN ?_
          refine co_then ?_
          refine co_reg ?_
          refine pk (v := .int .i64 ((q + 1 : Nat) : Int)) h273 rfl (rn_arith' rfl rfl rfl rfl rfl rfl (IntWalk.i64_in _ (by omega)) (by omega)) fun a274 h274 => ?_; clear h273
          refine pk0 (v := .int .i64 ((q + 1 : Nat) : Int)) h274 rfl fun a275 h275 => ?_; clear h274
          refine pl_nil ?_
          refine co_then ?_
          refine ⟨(y104.opl.length - (q + 1)), by omega, ?_⟩
          have hkq := kp_yes_len hnd hy189 (fT_nn _ _ _ (drop_all20 (fun e he => (hO.ents e he).len))).1 (by omega)
          have hr276 := row_kept_new hr254 hg249
          have hr277 := row_kept_ap hr276 hr271 hu139 hg269
          have hr278 := row_kept_new hr257 hg249
          have hr279 := row_kept_ap hr278 hr271 hu140 hg269
          have hE280 := hE264.new hg249
          have hE281 := hE280.rowU hu141 hr271 hg269
          have hM282 := hM230.kept hg237 (by simp; omega)
          have hM283 := hM282.kept hg249 (by simp)
          have hM284 := hM283.kept hg269 (hM283.row hr271)
          have hI285 := hm236.kept hg249 (by simp)
          have hI286 := hI285.kept hg269 (hI285.row hr271)
          have hB287 := fbU_new hB241 hg249
          have hB288 := fbU_row hB287 (InS.low hr271 (by omega)) hg269
          have hk289 := hk220.kept hg237 (by simp; omega)
          have hk290 := hk289.kept hg249 (by simp)
          have hk291 := hk290.kept hg269 (own_neT hr271 hk290 (by decide))
          have hk292 := hk222.kept hg237 (by simp; omega)
          have hk293 := hk292.kept hg249 (by simp)
          have hk294 := hk293.kept hg269 (own_neT hr271 hk293 (by decide))
          exact ⟨q + 1, v267, h275.sub ⟨rfl, rfl, rfl, (slot_eq rfl (congrArg (Value.int .i64) (by first | (simp [kpL]; done) | omega))), rfl, rfl, rfl, rfl, rfl, rfl, rfl, trivial⟩, rfl, by omega, by omega, hr277, hr279, hE281, hM284, (row_eq hr268' (by first | rfl | exact kp_yes hnd (by assumption) (fT_nn _ _ _ (drop_all20 (fun e he => (hO.ents e he).len))).1 (by omega) | exact kp_no hnd (by assumption) (by omega))), (hI286.toE (later_step (by assumption))), hB288, hk291, hk294⟩
         ·
          rw [hc240] at h215
          have hp295 : laterF h ((L.take Mn).drop j) y104.opl q y189.1 + 1 > 1 := of_decide_eq_true hc240
          clear hc240
          refine co_true h215 rfl ?_
          refine co_reg ?_
          refine pk0 (v := .int .i64 (gj + ((q : Int) - ((kpL (fT h ((L.take Mn).drop j)) (y104.opl.take q)).length : Int)))) h215 rfl fun a296 h296 => ?_; clear h215
          refine pk (v := .int .i64 ((gj + ((q : Int) - ((kpL (fT h ((L.take Mn).drop j)) (y104.opl.take q)).length : Int))) + 1)) h296 rfl (rn_arith rfl rfl rfl rfl rfl rfl (IntWalk.i64_in _ (by omega))) fun a297 h297 => ?_; clear h296
          refine pk0 (v := .int .i64 ((gj + ((q : Int) - ((kpL (fT h ((L.take Mn).drop j)) (y104.opl.take q)).length : Int))) + 1)) h297 rfl fun a298 h298 => ?_; clear h297
          refine pl_nil ?_
          refine co_blockN ?_
          refine co_then ?_
          refine co_reg ?_
          refine pk (v := .int .i64 ((q + 1 : Nat) : Int)) h298 rfl (rn_arith' rfl rfl rfl rfl rfl rfl (IntWalk.i64_in _ (by omega)) (by omega)) fun a299 h299 => ?_; clear h298
          refine pk0 (v := .int .i64 ((q + 1 : Nat) : Int)) h299 rfl fun a300 h300 => ?_; clear h299
          refine pl_nil ?_
          refine co_then ?_
          refine ⟨(y104.opl.length - (q + 1)), by omega, ?_⟩
          have hkq := kp_no_len hnd hy189 (by omega)
          have hr301 := row_kept_at hr224 hg237 (ha19)
          have hr302 := row_kept_at hr226 hg237 (hI234.row hr226)
          have hE303 := hE228.mapG hI234 hg237
          have hM304 := hM230.kept hg237 (by simp; omega)
          have hr305 := row_kept_at hr232 hg237 (hI234.row hr232)
          have hk306 := hk220.kept hg237 (by simp; omega)
          have hk307 := hk222.kept hg237 (by simp; omega)
          exact ⟨q + 1, u2, h300.sub ⟨rfl, rfl, rfl, (slot_eq rfl (congrArg (Value.int .i64) (by first | (simp [kpL]; done) | omega))), rfl, rfl, rfl, rfl, rfl, rfl, rfl, trivial⟩, rfl, by omega, by omega, hr301, hr302, hE303, hM304, (row_eq hr305 (by first | rfl | exact kp_yes hnd (by assumption) (fT_nn _ _ _ (drop_all20 (fun e he => (hO.ents e he).len))).1 (by omega) | exact kp_no hnd (by assumption) (by omega))), (hm236.toE (later_step (by assumption))), hB241, hk306, hk307⟩
     ·
      rw [hc128] at h127
      have hp308 : y104.ts > h := of_decide_eq_true hc128
      clear hc128
      refine co_true h127 rfl ?_
      refine wp_exit ?_
      refine co_thenX ?_
      refine co_blockX ?_
      refine co_then ?_
      refine co_reg ?_
      refine pk0 (v := .int .i64 (((j : Nat) : Int) - 1)) h127 rfl fun a309 h309 => ?_; clear h127
      refine pk (v := .int .i64 ((((j : Nat) : Int) - 1) - 1)) h309 rfl (rn_arith rfl rfl rfl rfl rfl rfl (IntWalk.i64_in _ (by omega))) fun a310 h310 => ?_; clear h309
      refine pk0 (v := .int .i64 ((((j : Nat) : Int) - 1) - 1)) h310 rfl fun a311 h311 => ?_; clear h310
      refine pl_nil ?_
      refine co_then ?_
      refine ⟨(0 + (j - 1)), by omega, ?_⟩
      have hq0 : ltE h y104 = false := ltE_f (by omega)
      exact ⟨(j - 1), Lk, h311.sub ⟨rfl, rfl, rfl, (slot_eq rfl (congrArg (Value.int .i64) (by first | exact gT_M | (rw [hgj]; exact gT_no (by omega) (by omega) (by omega) (by assumption) (by assumption) hq0) | (rw [hgj]; exact gT_yes (by omega) (by omega) (by omega) (by assumption) (by assumption) hq0 (by omega) (by omega))))), rfl, (slot_eq rfl (congrArg (Value.int .i64) (by first | rfl | omega))), trivial⟩, rfl, by omega, by first | exact thS_M _ (by omega) | exact th_no (by omega) (by omega) (by omega) (by assumption) (by assumption) hq0 | exact th_yes (by omega) (by omega) (by omega) (by assumption) (by assumption) hq0 (by simp only [e0, htk]), hf80, hf81, hf82, (hf83.toE (by first | exact fT_M | exact fT_no (by omega) (by omega) (by omega) (by assumption : Lk.map e0 = (thS L h Mn j).map e0) hy104 hq0 | exact fT_yes (by omega) (by omega) (by omega) (by assumption : Lk.map e0 = (thS L h Mn j).map e0) hy104 hq0 (by omega))), hB84, hk85, hk86⟩
    ·
     rw [hc119] at h118
     have hp312 : y104.ts = 0 := by first | simpa using hc119 | simpa [and_assoc] using hc119
     clear hc119
     refine psk h118 rfl fun a313 h313 => ?_; clear h118
     refine psk h313 rfl fun a314 h314 => ?_; clear h313
     refine psk h314 rfl fun a315 h315 => ?_; clear h314
     refine psk h315 rfl fun a316 h316 => ?_; clear h315
     refine psk h316 rfl fun a317 h317 => ?_; clear h316
     refine psk h317 rfl fun a318 h318 => ?_; clear h317
     refine pk0 (v := .bool true) h318 rfl fun a319 h319 => ?_; clear h318
     refine pl_nil ?_
     refine co_then ?_
     refine co_true h319 rfl ?_
     refine wp_exit ?_
     refine co_thenX ?_
     refine co_blockX ?_
     refine co_then ?_
     refine co_reg ?_
     refine pk0 (v := .int .i64 (((j : Nat) : Int) - 1)) h319 rfl fun a320 h320 => ?_; clear h319
     refine pk (v := .int .i64 ((((j : Nat) : Int) - 1) - 1)) h320 rfl (rn_arith rfl rfl rfl rfl rfl rfl (IntWalk.i64_in _ (by omega))) fun a321 h321 => ?_; clear h320
     refine pk0 (v := .int .i64 ((((j : Nat) : Int) - 1) - 1)) h321 rfl fun a322 h322 => ?_; clear h321
     refine pl_nil ?_
     refine co_then ?_
     refine ⟨(0 + (j - 1)), by omega, ?_⟩
     have hq0 : ltE h y104 = false := ltE_f (by omega)
     exact ⟨(j - 1), Lk, h322.sub ⟨rfl, rfl, rfl, (slot_eq rfl (congrArg (Value.int .i64) (by first | exact gT_M | (rw [hgj]; exact gT_no (by omega) (by omega) (by omega) (by assumption) (by assumption) hq0) | (rw [hgj]; exact gT_yes (by omega) (by omega) (by omega) (by assumption) (by assumption) hq0 (by omega) (by omega))))), rfl, (slot_eq rfl (congrArg (Value.int .i64) (by first | rfl | omega))), trivial⟩, rfl, by omega, by first | exact thS_M _ (by omega) | exact th_no (by omega) (by omega) (by omega) (by assumption) (by assumption) hq0 | exact th_yes (by omega) (by omega) (by omega) (by assumption) (by assumption) hq0 (by simp only [e0, htk]), hf80, hf81, hf82, (hf83.toE (by first | exact fT_M | exact fT_no (by omega) (by omega) (by omega) (by assumption : Lk.map e0 = (thS L h Mn j).map e0) hy104 hq0 | exact fT_yes (by omega) (by omega) (by omega) (by assumption : Lk.map e0 = (thS L h Mn j).map e0) hy104 hq0 (by omega))), hB84, hk85, hk86⟩
end Go.Proofs.Ythmnndbpadegnaa
