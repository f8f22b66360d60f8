/- The document's log: what a later entry hides. Conditions: at most 100 entries, 20 operations each. -/
import Derived.Test.YthmnndbpadegnaaRlgU
namespace Go.Proofs.Ythmnndbpadegnaa
open Go.RowKit Go.PlainAid
set_option linter.unusedVariables false


section
variable {X Mk : List EntT} {h n : Int} {i j M : Nat} {y z : EntT} {k : ByteArray} {l : List OpT} {o : OpT} {q : Nat}
theorem cntK_step (ho : l[q]? = some o) (hne : ¬ o.1 = k) (h0 : cntK k (l.take q) = 0) : cntK k (l.take (q + 1)) = 0 := by
  have h1 : (l.take q).countP (fun o => decide (o.1 = k)) = 0 := by unfold cntK at h0; omega
  rw [takeE ho]; unfold cntK; rw [List.countP_append, h1]; simp [hne]
theorem cntK_hit (ho : l[q]? = some o) (he : o.1 = k) : 0 < cntK k l := by
  unfold cntK
  have : 0 < l.countP fun x => decide (x.1 = k) := List.countP_pos_iff.2 ⟨o, List.mem_of_getElem? ho, by simpa using he⟩
  omega
theorem thM_le (X : List EntT) (n : Int) : thM X n ≤ X.length := by unfold thM; split; simp; split <;> omega
theorem thM_lt (hi : (i : Int) < (X.length : Int)) (hn : (i : Int) < n) : i < thM X n := by unfold thM; rw [if_neg (show ¬ n < 0 by omega)]; split <;> omega
theorem thM_ge (hi : ¬ ((i : Int) < (X.length : Int)) ∨ ¬ ((i : Int) < n)) : thM X n ≤ i := by unfold thM; split; simp; split <;> omega
theorem drop_M (hi : i < M) (hy : X[i]? = some y) : (X.take M).drop i = y :: (X.take M).drop (i + 1) := dropE (by rw [List.getElem?_take, if_pos hi]; exact hy)
/-- What later tells. -/
def latB (X : List EntT) (i : Nat) (k : ByteArray) (h n : Int) : Bool := decide (fT h ((X.take (thM X n)).drop (i + 1)) k ≠ 0)
def LatI (X : List EntT) (i : Nat) (k : ByteArray) (h n : Int) (j : Nat) : Prop := fT h ((X.take (thM X n)).drop (i + 1)) k = fT h ((X.take (thM X n)).drop j) k
theorem lat_no (hI : LatI X i k h n j) (hy : X[j]? = some y) (hj : j < thM X n) (hq : ltE h y = false) : LatI X i k h n (j + 1) := by
  unfold LatI at hI ⊢; rw [hI, drop_M hj hy, fT, if_neg (by rw [hq]; simp)]
theorem lat_none (hI : LatI X i k h n j) (hy : X[j]? = some y) (hj : j < thM X n) (h0 : cntK k (y.opl.take q) = 0) (hq : y.opl.length ≤ q) : LatI X i k h n (j + 1) := by
  rw [List.take_of_length_le hq] at h0
  unfold LatI at hI ⊢; rw [hI, drop_M hj hy, fT]; split <;> omega
theorem lat_hit (h20 : ∀ e ∈ X, e.opl.length ≤ 20) (hI : LatI X i k h n j) (hy : X[j]? = some y) (hj : j < thM X n) (hq : ltE h y = true) (ho : y.opl[q]? = some o) (he : o.1 = k) : true = latB X i k h n := by
  unfold LatI at hI; unfold latB
  rw [hI, drop_M hj hy, fT, if_pos hq]
  have h1 := cntK_hit ho he
  have h2 := fT_nn h k ((X.take (thM X n)).drop (j + 1)) (drop_all20 h20)
  symm; exact decide_eq_true (by omega)
theorem lat_end (hI : LatI X i k h n j) (hj : thM X n ≤ j) : false = latB X i k h n := by
  unfold LatI at hI; unfold latB
  rw [hI, List.drop_eq_nil_of_le (by rw [List.length_take]; omega)]; rfl
/-- The entries behind i rounds of the document's Thin. -/
def rtS (X : List EntT) (h : Int) (M i : Nat) : List EntT := (lT h (X.take M)).take i ++ X.drop i
theorem rtS_0 : rtS X h M 0 = X := by simp [rtS]
theorem lT_at : ∀ {T : List EntT} {i : Nat} {y : EntT}, T[i]? = some y → (lT h T)[i]? = some (if ltE h y = true then { y with opl := kpL (fT h (T.drop (i + 1))) y.opl } else y)
  | [], i, y, hy => by simp at hy
  | e :: r, 0, y, hy => by simp at hy; subst hy; simp [lT]
  | e :: r, i + 1, y, hy => by simp at hy; simp only [lT, List.getElem?_cons_succ, List.drop_succ_cons]; exact lT_at hy
theorem rtS_i (hM : i < M) (hy : X[i]? = some z) : (rtS X h M i)[i]? = some z := by
  unfold rtS
  have hl : i < X.length := (List.getElem?_eq_some_iff.1 hy).1
  rw [List.getElem?_append_right (by rw [List.length_take, lT_len, List.length_take]; omega)]
  rw [List.length_take, lT_len, List.length_take, List.getElem?_drop, show i + (i - min i (min M X.length)) = i by omega]; exact hy
theorem rt_z (hLk : Mk.map e0 = (rtS X h M i).map e0) (hM : i < M) (hX : i < X.length) (hy : Mk[i]? = some y) : ∃ z, X[i]? = some z ∧ e0 z = e0 y := by
  obtain ⟨z, h1, h2⟩ := e0_at hLk hy
  refine ⟨z, ?_, h2⟩
  have := rtS_i (X := X) (h := h) hM (List.getElem?_eq_getElem hX)
  rw [h1] at this
  rw [List.getElem?_eq_getElem hX]; exact this.symm
theorem rt_len (hLk : Mk.map e0 = (rtS X h M i).map e0) (hM : i ≤ M) (hX : M ≤ X.length) : Mk.length = X.length := by
  have := e0_len hLk
  rw [this]; unfold rtS
  rw [List.length_append, List.length_take, lT_len, List.length_take, List.length_drop]; omega
theorem take_lT (hz : X[i]? = some z) (hM : i < M) : (lT h (X.take M)).take (i + 1) = (lT h (X.take M)).take i ++ [if ltE h z = true then { z with opl := kpL (fT h ((X.take M).drop (i + 1))) z.opl } else z] := takeE (lT_at (by rw [List.getElem?_take, if_pos hM]; exact hz))
theorem rt_no (hLk : Mk.map e0 = (rtS X h M i).map e0) (hM : i < M) (hX : i < X.length) (hy : Mk[i]? = some y) (hq : ltE h y = false) : Mk.map e0 = (rtS X h M (i + 1)).map e0 := by
  obtain ⟨z, h1, h2⟩ := rt_z hLk hM hX hy
  rw [hLk]; unfold rtS
  rw [take_lT h1 hM, if_neg (by rw [ltE_e0 h2, hq]; simp), dropE h1]; simp
theorem rt_yes {y' : EntT} (hLk : Mk.map e0 = (rtS X h M i).map e0) (hM : i < M) (hX : i < X.length) (hy : Mk[i]? = some y) (hq : ltE h y = true) (e : e0 y' = e0 { y with opl := kpL (fT h ((X.take M).drop (i + 1))) y.opl }) : (Mk.set i y').map e0 = (rtS X h M (i + 1)).map e0 := by
  obtain ⟨z, h1, h2⟩ := rt_z hLk hM hX hy
  obtain ⟨k1, k2, k3, k4⟩ := e0_ts h2
  rw [List.map_set, hLk, e]; unfold rtS
  rw [take_lT h1 hM, if_pos (by rw [ltE_e0 h2, hq]), dropE h1]
  have hl : ((lT h (X.take M)).take i).length = i := by rw [List.length_take, lT_len, List.length_take]; omega
  simp only [List.map_append, List.map_cons, List.map_nil, List.append_assoc, List.singleton_append]
  rw [List.set_append_right _ _ (by rw [List.length_map, hl]; omega), List.length_map, hl, Nat.sub_self, List.set_cons_zero]
  congr 2
  unfold e0; simp [k1, k2, k3, k4]
def rgD (X : List EntT) (h : Int) (M i : Nat) : Int := gT h (X.take M) - gT h ((X.take M).drop i)
theorem rgD_0 : (0 : Int) = rgD X h M 0 := by simp [rgD]
theorem rgD_no (hLk : Mk.map e0 = (rtS X h M i).map e0) (hM : i < M) (hX : i < X.length) (hy : Mk[i]? = some y) (hq : ltE h y = false) : rgD X h M i = rgD X h M (i + 1) := by
  obtain ⟨z, h1, h2⟩ := rt_z hLk hM hX hy
  unfold rgD; rw [drop_M hM h1, gT, if_neg (by rw [ltE_e0 h2, hq]; simp)]
theorem rgD_yes (hLk : Mk.map e0 = (rtS X h M i).map e0) (hM : i < M) (hX : i < X.length) (hy : Mk[i]? = some y) (hq : ltE h y = true) (hl : y.opl.length ≤ q) (hle : q ≤ y.opl.length) : rgD X h M i + ((q : Int) - ((kpL (fT h ((X.take M).drop (i + 1))) (y.opl.take q)).length : Int)) = rgD X h M (i + 1) := by
  obtain ⟨z, h1, h2⟩ := rt_z hLk hM hX hy
  unfold rgD; rw [drop_M hM h1, gT, if_pos (by rw [ltE_e0 h2, hq]), List.take_of_length_le hl, (e0_ts h2).2.2.2]
  have : q = y.opl.length := by omega
  rw [this]; omega
theorem rgD_end (hM : M ≤ i) : rgD X h M i = gT h (X.take M) := by unfold rgD; rw [List.drop_eq_nil_of_le (by rw [List.length_take]; omega)]; simp [gT]
theorem rgD_nn (h20 : ∀ e ∈ X, e.opl.length ≤ 20) (hX : X.length ≤ 100) : -2000 ≤ rgD X h M i ∧ rgD X h M i ≤ 2000 := by
  have h1 := gT_nn h (X.take M) (fun e he => h20 e (List.mem_of_mem_take he))
  have h2 := gT_nn h ((X.take M).drop i) (drop_all20 h20)
  unfold rgD; rw [List.length_take] at h1; rw [List.length_drop, List.length_take] at h2; omega
theorem rt_end (hM : M ≤ X.length) : rtS X h M M = lT h (X.take M) ++ X.drop M := by unfold rtS; rw [List.take_of_length_le (by rw [lT_len, List.length_take]; omega)]
theorem kq_yes {f : ByteArray → Int} (ho : l[q]? = some o) (hb : decide (f o.1 ≠ 0) = false) : kpL f (l.take q) ++ [o] = kpL f (l.take (q + 1)) := by
  rw [takeE ho]; unfold kpL; rw [List.filter_append]
  have : f o.1 = 0 := by simpa using hb
  simp [this]
theorem kq_no {f : ByteArray → Int} (ho : l[q]? = some o) (hb : decide (f o.1 ≠ 0) = true) : kpL f (l.take q) = kpL f (l.take (q + 1)) := by
  rw [takeE ho]; unfold kpL; rw [List.filter_append]
  have : ¬ f o.1 = 0 := by simpa using hb
  simp [this]
theorem kq_yes_len {f : ByteArray → Int} (ho : l[q]? = some o) (hb : decide (f o.1 ≠ 0) = false) : (kpL f (l.take (q + 1))).length = (kpL f (l.take q)).length + 1 := by rw [← kq_yes ho hb]; simp
theorem kq_no_len {f : ByteArray → Int} (ho : l[q]? = some o) (hb : decide (f o.1 ≠ 0) = true) : (kpL f (l.take (q + 1))).length = (kpL f (l.take q)).length := by rw [← kq_no ho hb]
end


theorem kl_len (x : ByteArray) : x.data.toList.length = x.size := by simp
theorem kl_loop (bs : ByteArray) : ∀ (k i : Nat) (r : List UInt8), bs.size - i = k → ByteArray.toList.loop bs i r = r.reverse ++ bs.data.toList.drop i
  | 0, i, r, h => by
    unfold ByteArray.toList.loop
    rw [if_neg (by omega), List.drop_of_length_le (by rw [kl_len]; omega), List.append_nil]
  | k + 1, i, r, h => by
    unfold ByteArray.toList.loop
    have hi : i < bs.size := by omega
    have hl : i < bs.data.toList.length := by rw [kl_len]; exact hi
    rw [if_pos hi, kl_loop bs k (i + 1) _ (by omega), List.reverse_cons, List.append_assoc, List.drop_eq_getElem_cons hl]
    congr 2
    simp [ByteArray.get!, hi]
theorem kl_data (bs : ByteArray) : bs.toList = bs.data.toList := by
  unfold ByteArray.toList
  rw [kl_loop bs bs.size 0 [] rfl]
  simp
theorem eq_key {a b : ByteArray} (h : (a.toList == b.toList) = true) : a = b := by
  have h1 : a.toList = b.toList := by simpa using h
  rw [kl_data, kl_data] at h1
  exact ByteArray.ext (Array.toList_inj.1 h1)
theorem ne_key {a b : ByteArray} (h : (a.toList == b.toList) = false) : ¬ a = b := fun e => by subst e; simp at h

set_option maxRecDepth 100000 in
theorem rLater_any (b : Nat) (u : Value) (l : List EntT) (i : Nat) (k : ByteArray) (h : Int) (n : Int) (w : World) (hD : Blk w b 41 #[u]) (hs : SliceOf entE 4 w u l) (hok : ∀ z ∈ l, EntOk w z) (hl20 : ∀ z ∈ l, z.opl.length ≤ 20) (hlen : l.length ≤ 100) (hi : i < thM l n) (hh : 0 ≤ h ∧ h < 18446744073709551616) (hni : -9223372036854775808 ≤ n ∧ n ≤ 9223372036854775807) :
    Calls Try.prog 105 #[pt b 0, .int .i64 ((i : Nat) : Int), .string k, .int .u64 h, .int .i64 n] w fun e w' => e = .returned (.bool (latB l i k h n)) ∧ Below w.heap.size w w' := by
 have hML := thM_le l n
 have hB0 := Below.refl w.heap.size w
 have hl_hD := hD.lt
 have hl_hs := sl_len hs
 refine co_enter (n := 79) Try.func105 rfl rfl rfl [(0, pt b 0), (1, .int .i64 ((i : Nat) : Int)), (2, .string k), (3, .int .u64 h), (4, .int .i64 n)] rfl (fun a h0 => ?_)
 refine co_seq ?_
 refine co_reg ?_
 refine pk0 (v := .bool false) h0 rfl fun a1 h1 => ?_; clear h0
 refine pl_nil ?_
 refine co_then ?_
 refine co_seq ?_
 refine co_seq ?_
 refine co_reg ?_
 refine pk0 (v := .int .i64 ((i : Nat) : Int)) h1 rfl fun a2 h2 => ?_; clear h1
 refine pk (v := .int .i64 ((i + 1 : Nat) : Int)) h2 rfl (rn_arith' rfl rfl rfl rfl rfl rfl (IntWalk.i64_in _ (by omega)) (by omega)) fun a3 h3 => ?_; clear h2
 refine pk0 (v := .int .i64 ((i + 1 : Nat) : Int)) h3 rfl fun a4 h4 => ?_; clear h3
 refine pl_nil ?_
 refine co_then ?_
 refine wp_block ?_
 have h5 : Slots 79 [(0, pt b 0), (2, .string k), (3, .int .u64 h), (4, .int .i64 n), (11, .int .i64 ((i + 1 : Nat) : Int))] _ := h4.sub ⟨rfl, rfl, rfl, rfl, rfl, trivial⟩; clear h4
 refine co_loop (fun mm a x => ∃ (j : Nat), Slots 79 [(0, pt b 0), (2, .string k), (3, .int .u64 h), (4, .int .i64 n), (11, .int .i64 ((j : Nat) : Int))] a ∧ mm = l.length - j ∧ (j ≤ thM l n) ∧ (LatI l i k h n j) ∧ Below w.heap.size w x ∧ Blk x b 41 #[u]) (l.length - (i + 1)) ?_ ?_
 · exact ⟨(i + 1), h5.sub ⟨rfl, rfl, rfl, rfl, rfl, trivial⟩, rfl, by omega, by first | rfl | exact hI', hB0, hD⟩
 · rintro k6 a7 w8 ⟨j, h7, rfl, hi9, hi10, hB11, hk12⟩
   have hz13 := hB11.size
   have hl14 := hk12.lt
   have hI : LatI l i k h n j := by assumption
   have hML := thM_le l n
   refine co_seq ?_
   refine co_seq ?_
   refine co_reg ?_
   refine pk0 (v := .int .i64 ((j : Nat) : Int)) h7 rfl fun a15 h15 => ?_; clear h7
   refine pk0 (v := pt b 0) h15 rfl fun a16 h16 => ?_; clear h15
   refine pk0 (v := pt b 0) h16 rfl fun a17 h17 => ?_; clear h16
   refine pk0 (v := pt b 0) h17 rfl fun a18 h18 => ?_; clear h17
   refine pk (v := u) h18 rfl (rn_load1 rfl rfl Try.isAgg39 (hk12.cell rfl)) fun a19 h19 => ?_; clear h18
   refine pk (v := .int .i64 ((l.length : Nat) : Int)) h19 rfl (rn_len rfl rfl Try.underlying39 (hs.below hB11)) fun a20 h20 => ?_; clear h19
   refine pk0 (v := .bool (decide (((j : Nat) : Int) < ((l.length : Nat) : Int)))) h20 rfl fun a21 h21 => ?_; clear h20
   refine pk0 (v := .bool (decide (((j : Nat) : Int) < ((l.length : Nat) : Int)))) h21 rfl fun a22 h22 => ?_; clear h21
   cases hc23 : (decide (((j : Nat) : Int) < ((l.length : Nat) : Int)))
   ·
    rw [hc23] at h22
    have hp24 : ¬ (((j : Nat) : Int) < ((l.length : Nat) : Int)) := of_decide_eq_false hc23
    clear hc23
    refine psk h22 rfl fun a25 h25 => ?_; clear h22
    refine psk h25 rfl fun a26 h26 => ?_; clear h25
    refine psk h26 rfl fun a27 h27 => ?_; clear h26
    refine pk0 (v := .bool false) h27 rfl fun a28 h28 => ?_; clear h27
    refine pl_nil ?_
    refine co_then ?_
    refine co_false h28 rfl ?_
    refine wp_exit ?_
    refine co_thenX ?_
    refine co_thenX ?_
    refine co_blockX ?_
    refine co_then ?_
    refine co_seq ?_
    refine co_reg ?_
    refine pk0 (v := .bool false) h28 rfl fun a29 h29 => ?_; clear h28
    refine pl_nil ?_
    refine co_then ?_
    refine wp_ret ?_
    refine co_ret1 h29 rfl rfl ?_
    exact ⟨ret_bool (lat_end hI (thM_ge (by omega))), hB11⟩
   ·
    rw [hc23] at h22
    have hp30 : ((j : Nat) : Int) < ((l.length : Nat) : Int) := of_decide_eq_true hc23
    clear hc23
    refine pk0 (v := .int .i64 ((j : Nat) : Int)) h22 rfl fun a31 h31 => ?_; clear h22
    refine pk0 (v := .int .i64 n) h31 rfl fun a32 h32 => ?_; clear h31
    refine pk0 (v := .bool (decide (((j : Nat) : Int) < n))) h32 rfl fun a33 h33 => ?_; clear h32
    refine pk0 (v := .bool (decide (((j : Nat) : Int) < n))) h33 rfl fun a34 h34 => ?_; clear h33
    refine pl_nil ?_
    refine co_then ?_
    cases hc35 : (decide (((j : Nat) : Int) < n))
    ·
     rw [hc35] at h34
     have hp36 : ¬ (((j : Nat) : Int) < n) := of_decide_eq_false hc35
     clear hc35
     refine co_false h34 rfl ?_
     refine wp_exit ?_
     refine co_thenX ?_
     refine co_thenX ?_
     refine co_blockX ?_
     refine co_then ?_
     refine co_seq ?_
     refine co_reg ?_
     refine pk0 (v := .bool false) h34 rfl fun a37 h37 => ?_; clear h34
     refine pl_nil ?_
     refine co_then ?_
     refine wp_ret ?_
     refine co_ret1 h37 rfl rfl ?_
     exact ⟨ret_bool (lat_end hI (thM_ge (by omega))), hB11⟩
    ·
     rw [hc35] at h34
     have hp38 : ((j : Nat) : Int) < n := of_decide_eq_true hc35
     clear hc35
     refine co_true h34 rfl ?_
     refine wp_skip ?_
     refine co_then ?_
     refine co_seq ?_
     refine wp_block ?_
     refine co_seq ?_
     refine co_seq ?_
     refine co_reg ?_
     refine pk0 (v := pt b 0) h34 rfl fun a39 h39 => ?_; clear h34
     refine pk0 (v := pt b 0) h39 rfl fun a40 h40 => ?_; clear h39
     refine pk0 (v := pt b 0) h40 rfl fun a41 h41 => ?_; clear h40
     refine pk (v := u) h41 rfl (rn_load1 rfl rfl Try.isAgg39 (hk12.cell rfl)) fun a42 h42 => ?_; clear h41
     refine pk0 (v := .int .i64 ((j : Nat) : Int)) h42 rfl fun a43 h43 => ?_; clear h42
     obtain ⟨y44, hy44⟩ : ∃ z, l[j]? = some z := ⟨_, List.getElem?_eq_getElem (by first | omega | (simp; done) | (simp; omega))⟩
     have oky44 := hok _ (List.mem_of_getElem? hy44)
     have k45 : 0 ≤ y44.ts := oky44.ts0
     have k46 : y44.ts < 18446744073709551616 := oky44.ts1
     have h20y44 := hl20 y44 (List.mem_of_getElem? hy44)
     refine pk (v := pt (blkOf u) (offOf u + j * 4)) h43 rfl (rn_index rfl rfl rfl Try.underlying39 Try.sizeOf47 (hs.below hB11) (by omega) (by first | omega | (simp; done) | (simp; omega))) fun a47 h47 => ?_; clear h43
     refine pk0 (v := pt (blkOf u) (offOf u + j * 4 + 3)) h47 rfl fun a48 h48 => ?_; clear h47
     refine pk (v := .int .u64 y44.ts) h48 rfl (rn_load1 rfl rfl Try.isAgg45 ((sl_at (hs.below hB11) hy44) 3 _ rfl)) fun a49 h49 => ?_; clear h48
     refine pk0 (v := .bool (y44.ts == 0)) h49 rfl fun a50 h50 => ?_; clear h49
     refine pk0 (v := .bool (y44.ts == 0)) h50 rfl fun a51 h51 => ?_; clear h50
     cases hc52 : (y44.ts == 0)
     ·
      rw [hc52] at h51
      have hp53 : ¬ (y44.ts = 0) := by first | simpa using hc52 | simpa [and_assoc] using hc52
      clear hc52
      refine pk0 (v := pt b 0) h51 rfl fun a54 h54 => ?_; clear h51
      refine pk0 (v := pt b 0) h54 rfl fun a55 h55 => ?_; clear h54
      refine pk0 (v := pt b 0) h55 rfl fun a56 h56 => ?_; clear h55
      refine pk (v := u) h56 rfl (rn_load1 rfl rfl Try.isAgg39 (hk12.cell rfl)) fun a57 h57 => ?_; clear h56
      refine pk0 (v := .int .i64 ((j : Nat) : Int)) h57 rfl fun a58 h58 => ?_; clear h57
      refine pk (v := pt (blkOf u) (offOf u + j * 4)) h58 rfl (rn_index rfl rfl rfl Try.underlying39 Try.sizeOf47 (hs.below hB11) (by omega) (by first | omega | (simp; done) | (simp; omega))) fun a59 h59 => ?_; clear h58
      refine pk0 (v := pt (blkOf u) (offOf u + j * 4 + 3)) h59 rfl fun a60 h60 => ?_; clear h59
      refine pk (v := .int .u64 y44.ts) h60 rfl (rn_load1 rfl rfl Try.isAgg45 ((sl_at (hs.below hB11) hy44) 3 _ rfl)) fun a61 h61 => ?_; clear h60
      refine pk0 (v := .int .u64 h) h61 rfl fun a62 h62 => ?_; clear h61
      refine pk0 (v := .bool (decide (y44.ts > h))) h62 rfl fun a63 h63 => ?_; clear h62
      refine pk0 (v := .bool (decide (y44.ts > h))) h63 rfl fun a64 h64 => ?_; clear h63
      refine pl_nil ?_
      refine co_then ?_
      cases hc65 : (decide (y44.ts > h))
      ·
       rw [hc65] at h64
       have hp66 : ¬ (y44.ts > h) := of_decide_eq_false hc65
       clear hc65
       refine co_false h64 rfl ?_
       refine wp_skip ?_
       refine co_then ?_
       refine co_seq ?_
       refine co_reg ?_
       refine pk0 (v := .int .i64 0) h64 rfl fun a67 h67 => ?_; clear h64
       refine pl_nil ?_
       refine co_then ?_
       refine wp_block ?_
       have hjM := thM_lt (X := l) (n := n) (i := j) (by omega) (by omega)
       have h68 : Slots 79 [(0, pt b 0), (2, .string k), (3, .int .u64 h), (4, .int .i64 n), (11, .int .i64 ((j : Nat) : Int)), (12, .int .i64 0)] _ := h67.sub ⟨rfl, rfl, rfl, rfl, rfl, rfl, trivial⟩; clear h67
       refine co_loop (fun mm a x => ∃ (q : Nat), Slots 79 [(0, pt b 0), (2, .string k), (3, .int .u64 h), (4, .int .i64 n), (11, .int .i64 ((j : Nat) : Int)), (12, .int .i64 ((q : Nat) : Int))] a ∧ mm = y44.opl.length - q ∧ (q ≤ y44.opl.length) ∧ (cntK k (y44.opl.take q) = 0) ∧ Below w.heap.size w x ∧ Blk x b 41 #[u]) (y44.opl.length - 0) ?_ ?_
       · exact ⟨0, h68.sub ⟨rfl, rfl, rfl, rfl, rfl, (slot_eq rfl (congrArg (Value.int .i64) (by first | rfl | omega))), trivial⟩, rfl, by omega, by first | exact hc' | rfl, hB11, hk12⟩
       · rintro k69 a70 w71 ⟨q, h70, rfl, hi72, hi73, hB74, hk75⟩
         have hz76 := hB74.size
         have hl77 := hk75.lt
         refine co_seq ?_
         refine co_seq ?_
         refine co_reg ?_
         refine pk0 (v := .int .i64 ((q : Nat) : Int)) h70 rfl fun a78 h78 => ?_; clear h70
         refine pk0 (v := pt b 0) h78 rfl fun a79 h79 => ?_; clear h78
         refine pk0 (v := pt b 0) h79 rfl fun a80 h80 => ?_; clear h79
         refine pk0 (v := pt b 0) h80 rfl fun a81 h81 => ?_; clear h80
         refine pk (v := u) h81 rfl (rn_load1 rfl rfl Try.isAgg39 (hk75.cell rfl)) fun a82 h82 => ?_; clear h81
         refine pk0 (v := .int .i64 ((j : Nat) : Int)) h82 rfl fun a83 h83 => ?_; clear h82
         refine pk (v := pt (blkOf u) (offOf u + j * 4)) h83 rfl (rn_index rfl rfl rfl Try.underlying39 Try.sizeOf47 (hs.below hB74) (by omega) (by first | omega | (simp; done) | (simp; omega))) fun a84 h84 => ?_; clear h83
         refine pk0 (v := pt (blkOf u) (offOf u + j * 4)) h84 rfl fun a85 h85 => ?_; clear h84
         refine pk0 (v := pt (blkOf u) (offOf u + j * 4 + 2)) h85 rfl fun a86 h86 => ?_; clear h85
         refine pk (v := y44.ops) h86 rfl (rn_load1 rfl rfl Try.isAgg42 ((sl_at (hs.below hB74) hy44) 2 _ rfl)) fun a87 h87 => ?_; clear h86
         refine pk (v := .int .i64 ((y44.opl.length : Nat) : Int)) h87 rfl (rn_len rfl rfl Try.underlying42 (oky44.ops.below hB74)) fun a88 h88 => ?_; clear h87
         refine pk0 (v := .bool (decide (((q : Nat) : Int) < ((y44.opl.length : Nat) : Int)))) h88 rfl fun a89 h89 => ?_; clear h88
         refine pl_nil ?_
         refine co_then ?_
         cases hc90 : (decide (((q : Nat) : Int) < ((y44.opl.length : Nat) : Int)))
         ·
          rw [hc90] at h89
          have hp91 : ¬ (((q : Nat) : Int) < ((y44.opl.length : Nat) : Int)) := of_decide_eq_false hc90
          clear hc90
          refine co_false h89 rfl ?_
          refine wp_exit ?_
          refine co_thenX ?_
          refine co_thenX ?_
          refine co_blockX ?_
          refine co_blockN ?_
          refine co_then ?_
          refine co_reg ?_
          refine pk0 (v := .int .i64 ((j : Nat) : Int)) h89 rfl fun a92 h92 => ?_; clear h89
          refine pk (v := .int .i64 ((j + 1 : Nat) : Int)) h92 rfl (rn_arith' rfl rfl rfl rfl rfl rfl (IntWalk.i64_in _ (by omega)) (by omega)) fun a93 h93 => ?_; clear h92
          refine pk0 (v := .int .i64 ((j + 1 : Nat) : Int)) h93 rfl fun a94 h94 => ?_; clear h93
          refine pl_nil ?_
          refine co_then ?_
          refine ⟨(l.length - (j + 1)), by omega, ?_⟩
          have hI' := lat_none hI hy44 (by omega) (by assumption : cntK k (y44.opl.take q) = 0) (by omega)
          exact ⟨j + 1, h94.sub ⟨rfl, rfl, rfl, rfl, rfl, trivial⟩, rfl, by omega, by first | rfl | exact hI', hB74, hk75⟩
         ·
          rw [hc90] at h89
          have hp95 : ((q : Nat) : Int) < ((y44.opl.length : Nat) : Int) := of_decide_eq_true hc90
          clear hc90
          refine co_true h89 rfl ?_
          refine wp_skip ?_
          refine co_then ?_
          refine co_seq ?_
          refine wp_block ?_
          refine co_seq ?_
          refine co_reg ?_
          refine pk0 (v := pt b 0) h89 rfl fun a96 h96 => ?_; clear h89
          refine pk0 (v := pt b 0) h96 rfl fun a97 h97 => ?_; clear h96
          refine pk0 (v := pt b 0) h97 rfl fun a98 h98 => ?_; clear h97
          refine pk (v := u) h98 rfl (rn_load1 rfl rfl Try.isAgg39 (hk75.cell rfl)) fun a99 h99 => ?_; clear h98
          refine pk0 (v := .int .i64 ((j : Nat) : Int)) h99 rfl fun a100 h100 => ?_; clear h99
          refine pk (v := pt (blkOf u) (offOf u + j * 4)) h100 rfl (rn_index rfl rfl rfl Try.underlying39 Try.sizeOf47 (hs.below hB74) (by omega) (by first | omega | (simp; done) | (simp; omega))) fun a101 h101 => ?_; clear h100
          refine pk0 (v := pt (blkOf u) (offOf u + j * 4)) h101 rfl fun a102 h102 => ?_; clear h101
          refine pk0 (v := pt (blkOf u) (offOf u + j * 4 + 2)) h102 rfl fun a103 h103 => ?_; clear h102
          refine pk (v := y44.ops) h103 rfl (rn_load1 rfl rfl Try.isAgg42 ((sl_at (hs.below hB74) hy44) 2 _ rfl)) fun a104 h104 => ?_; clear h103
          refine pk0 (v := .int .i64 ((q : Nat) : Int)) h104 rfl fun a105 h105 => ?_; clear h104
          obtain ⟨y106, hy106⟩ : ∃ z, y44.opl[q]? = some z := ⟨_, List.getElem?_eq_getElem (by first | omega | (simp; done) | (simp; omega))⟩
          refine pk (v := pt (blkOf (y44.ops)) (offOf (y44.ops) + q * 3)) h105 rfl (rn_index rfl rfl rfl Try.underlying42 Try.sizeOf127 (oky44.ops.below hB74) (by omega) (by first | omega | (simp; done) | (simp; omega))) fun a107 h107 => ?_; clear h105
          refine pk0 (v := pt (blkOf (y44.ops)) (offOf (y44.ops) + q * 3)) h107 rfl fun a108 h108 => ?_; clear h107
          refine pk (v := .string y106.1) h108 rfl (rn_load1 rfl rfl Try.isAgg9 ((sl_at (oky44.ops.below hB74) hy106) 0 _ rfl)) fun a109 h109 => ?_; clear h108
          refine pk0 (v := .string k) h109 rfl fun a110 h110 => ?_; clear h109
          refine pk0 (v := .bool (y106.1.toList == k.toList)) h110 rfl fun a111 h111 => ?_; clear h110
          refine pl_nil ?_
          refine co_then ?_
          cases hc112 : (y106.1.toList == k.toList)
          ·
           rw [hc112] at h111
           refine co_false h111 rfl ?_
           refine wp_skip ?_
           refine co_blockN ?_
           refine co_then ?_
           refine co_reg ?_
           refine pk0 (v := .int .i64 ((q : Nat) : Int)) h111 rfl fun a113 h113 => ?_; clear h111
           refine pk (v := .int .i64 ((q + 1 : Nat) : Int)) h113 rfl (rn_arith' rfl rfl rfl rfl rfl rfl (IntWalk.i64_in _ (by omega)) (by omega)) fun a114 h114 => ?_; clear h113
           refine pk0 (v := .int .i64 ((q + 1 : Nat) : Int)) h114 rfl fun a115 h115 => ?_; clear h114
           refine pl_nil ?_
           refine co_then ?_
           refine ⟨(y44.opl.length - (q + 1)), by omega, ?_⟩
           have hc' := cntK_step (k := k) hy106 (ne_key hc112) (by assumption)
           exact ⟨q + 1, h115.sub ⟨rfl, rfl, rfl, rfl, rfl, rfl, trivial⟩, rfl, by omega, by first | exact hc' | rfl, hB74, hk75⟩
          ·
           rw [hc112] at h111
           refine co_true h111 rfl ?_
           refine co_seq ?_
           refine co_reg ?_
           refine pk0 (v := .bool true) h111 rfl fun a116 h116 => ?_; clear h111
           refine pl_nil ?_
           refine co_then ?_
           refine wp_ret ?_
           refine co_blockR ?_
           refine co_thenR ?_
           refine co_thenR ?_
           refine co_blockR ?_
           refine co_blockR ?_
           refine co_thenR ?_
           refine co_thenR ?_
           refine co_blockR ?_
           refine co_thenR ?_
           refine co_ret1 h116 rfl rfl ?_
           exact ⟨ret_bool (lat_hit hl20 hI hy44 (by omega) (ltE_t (h := h) (by omega) (by omega)) hy106 (eq_key hc112)), hB74⟩
      ·
       rw [hc65] at h64
       have hp117 : y44.ts > h := of_decide_eq_true hc65
       clear hc65
       refine co_true h64 rfl ?_
       refine wp_exit ?_
       refine co_thenX ?_
       refine co_blockX ?_
       refine co_then ?_
       refine co_reg ?_
       refine pk0 (v := .int .i64 ((j : Nat) : Int)) h64 rfl fun a118 h118 => ?_; clear h64
       refine pk (v := .int .i64 ((j + 1 : Nat) : Int)) h118 rfl (rn_arith' rfl rfl rfl rfl rfl rfl (IntWalk.i64_in _ (by omega)) (by omega)) fun a119 h119 => ?_; clear h118
       refine pk0 (v := .int .i64 ((j + 1 : Nat) : Int)) h119 rfl fun a120 h120 => ?_; clear h119
       refine pl_nil ?_
       refine co_then ?_
       refine ⟨(l.length - (j + 1)), by omega, ?_⟩
       have hjM := thM_lt (X := l) (n := n) (i := j) (by omega) (by omega)
       have hI' := lat_no hI hy44 hjM (ltE_f (h := h) (y := y44) (by omega))
       exact ⟨j + 1, h120.sub ⟨rfl, rfl, rfl, rfl, rfl, trivial⟩, rfl, by omega, by first | rfl | exact hI', hB11, hk12⟩
     ·
      rw [hc52] at h51
      have hp121 : y44.ts = 0 := by first | simpa using hc52 | simpa [and_assoc] using hc52
      clear hc52
      refine psk h51 rfl fun a122 h122 => ?_; clear h51
      refine psk h122 rfl fun a123 h123 => ?_; clear h122
      refine psk h123 rfl fun a124 h124 => ?_; clear h123
      refine psk h124 rfl fun a125 h125 => ?_; clear h124
      refine psk h125 rfl fun a126 h126 => ?_; clear h125
      refine psk h126 rfl fun a127 h127 => ?_; clear h126
      refine psk h127 rfl fun a128 h128 => ?_; clear h127
      refine psk h128 rfl fun a129 h129 => ?_; clear h128
      refine psk h129 rfl fun a130 h130 => ?_; clear h129
      refine psk h130 rfl fun a131 h131 => ?_; clear h130
      refine pk0 (v := .bool true) h131 rfl fun a132 h132 => ?_; clear h131
      refine pl_nil ?_
      refine co_then ?_
      refine co_true h132 rfl ?_
      refine wp_exit ?_
      refine co_thenX ?_
      refine co_blockX ?_
      refine co_then ?_
      refine co_reg ?_
      refine pk0 (v := .int .i64 ((j : Nat) : Int)) h132 rfl fun a133 h133 => ?_; clear h132
      refine pk (v := .int .i64 ((j + 1 : Nat) : Int)) h133 rfl (rn_arith' rfl rfl rfl rfl rfl rfl (IntWalk.i64_in _ (by omega)) (by omega)) fun a134 h134 => ?_; clear h133
      refine pk0 (v := .int .i64 ((j + 1 : Nat) : Int)) h134 rfl fun a135 h135 => ?_; clear h134
      refine pl_nil ?_
      refine co_then ?_
      refine ⟨(l.length - (j + 1)), by omega, ?_⟩
      have hjM := thM_lt (X := l) (n := n) (i := j) (by omega) (by omega)
      have hI' := lat_no hI hy44 hjM (ltE_f (h := h) (y := y44) (by omega))
      exact ⟨j + 1, h135.sub ⟨rfl, rfl, rfl, rfl, rfl, trivial⟩, rfl, by omega, by first | rfl | exact hI', hB11, hk12⟩
end Go.Proofs.Ythmnndbpadegnaa
