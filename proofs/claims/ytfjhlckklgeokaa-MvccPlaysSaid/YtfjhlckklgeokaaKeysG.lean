/- catenaref05: Next, Check, In; keys.In. Conditions: texts within the form's reach. -/
import Derived.Test.YtfjhlckklgeokaaKeysBn
import Derived.Test.YtfjhlckklgeokaaBytes
import Derived.Lib.ConvBytes
namespace Go.Proofs.Ytfjhlckklgeokaa
open Go.RowKit Go.PlainAid Go.Deep

theorem bytes_conv (w : World) (e : TypeId) (s : ByteArray) : Bytes (Lib.bytesWorld w e s) w.heap.size s.size (fun j => s.data.toList.getD j 0) := by
  intro j hj
  refine ⟨Lib.bytesWorld_cell w e s j hj, ?_⟩
  unfold World.frozen?
  rw [Lib.bytesWorld_at_new]
  have : s.size ≤ (Lib.bytesCells w e s).size := by
    have h := Lib.bytesWorld_cell w e s j hj
    rcases Nat.lt_or_ge ((Lib.bytesCells w e s).size) s.size with h1 | h1
    · have h2 := Lib.bytesWorld_cell w e s (Lib.bytesCells w e s).size h1
      unfold World.cell? at h2
      rw [Lib.bytesWorld_at_new] at h2
      simp at h2
    · exact h1
  simp; omega
theorem bytes_conv_below (w : World) (e : TypeId) (s : ByteArray) : Below w.heap.size w (Lib.bytesWorld w e s) :=
  ⟨rfl, rfl, rfl, by rw [Lib.bytesWorld_size]; omega, fun k hk => Lib.bytesWorld_at_old w e s k hk⟩

set_option maxRecDepth 100000 in
set_option maxHeartbeats 400000 in
theorem rcheck_any (s : ByteArray) (w : World) :
    Calls Try.prog 44 #[.string s] w fun e w' => e = .returned (.int .i64 (checkE s)) ∧ w = w' := by
  by_cases h : 1 ≤ s.size ∧ s.size ≤ 8
  · rw [check_yes h]; obtain ⟨h1, h2⟩ := h
    go_enter Try.func44, Try.ntmps44
    go_wp2
    go_ret
    exact ⟨rfl, rfl⟩
  · rw [check_no h]
    by_cases h1 : 1 ≤ s.size
    · have h2 : 8 < s.size := by omega
      clear h
      go_enter Try.func44, Try.ntmps44
      go_wp2
      go_ret
      exact ⟨rfl, rfl⟩
    · have h2 : s.size < 1 := by omega
      clear h h1
      go_enter Try.func44, Try.ntmps44
      go_wp2
      go_ret
      exact ⟨rfl, rfl⟩
-- left out here











































set_option maxRecDepth 100000 in
set_option maxHeartbeats 800000 in
theorem rin_any (k a b : ByteArray) (w : World) :
    Calls Try.prog 50 #[.string k, .string a, .string b] w fun e w' => e = .returned (.bool (inL k.data.toList a.data.toList b.data.toList)) ∧ w = w' := by
  have t1 := Go.ByteArray.toList_eq k
  have t2 := Go.ByteArray.toList_eq a
  have t3 := Go.ByteArray.toList_eq b
  unfold inL
  cases h1 : Op.bytesLess k.data.toList a.data.toList with
  | true =>
    have h1' : Op.bytesLess k.toList a.toList = true := by rw [t1, t2]; exact h1
    clear t1 t2 t3
    go_enter Try.func50, Try.ntmps50
    go_wp2
    go_ret
    exact ⟨rfl, rfl⟩
  | false =>
    have h1' : Op.bytesLess k.toList a.toList = false := by rw [t1, t2]; exact h1
    cases h2 : (b.data.toList == []) with
    | true =>
      have hb : b = ⟨#[]⟩ := by apply ByteArray.ext; apply Array.toList_inj.1; simpa using h2
      subst hb
      clear t1 t2 t3 h2
      go_enter Try.func50, Try.ntmps50
      go_wp2
      go_ret
      exact ⟨rfl, rfl⟩
    | false =>
      have h2' : (b.toList == []) = false := by rw [t3]; exact h2
      cases h3 : Op.bytesLess k.data.toList b.data.toList with
      | true =>
        have h3' : Op.bytesLess k.toList b.toList = true := by rw [t1, t3]; exact h3
        clear t1 t2 t3
        go_enter Try.func50, Try.ntmps50
        go_wp2
        go_ret
        exact ⟨rfl, rfl⟩
      | false =>
        have h3' : Op.bytesLess k.toList b.toList = false := by rw [t1, t3]; exact h3
        clear t1 t2 t3
        go_enter Try.func50, Try.ntmps50
        go_wp2
        go_ret
        exact ⟨rfl, rfl⟩
/-- The byte at a place, and one more. -/
theorem run_one0 (w : World) (v : Int) (h0 : 0 ≤ v) (h1 : v ≤ 255) :
    (convert 82 9 (.slice (some ⟨w.heap.size, 0, none⟩) 1 1)).run Try.prog (w.alloc (.cells #[.int .u8 v] 5)) = .ok (.string ⟨#[UInt8.ofNat v.toNat]⟩) (w.alloc (.cells #[.int .u8 v] 5)) :=
  run_convert_bytes_back (P := Try.prog) (w.alloc (.cells #[.int .u8 v] 5)) 82 9 5 ⟨w.heap.size, 0, none⟩ 1 [UInt8.ofNat v.toNat] Try.underlying82 Try.underlying5 Try.underlying9
    (by intro j hj; simp at hj; subst hj; rw [Addr.add_lit]; show (w.alloc (.cells #[.int .u8 v] 5)).cell? ⟨w.heap.size, 0 + 0, none⟩ = _; rw [World.cell?_alloc_mark]; simp; omega)

set_option maxRecDepth 100000 in
set_option maxHeartbeats 400000 in
theorem rnext_short (s : ByteArray) (w : World) (hs : s.size < 8) :
    Calls Try.prog 22 #[.string s] w fun e w' => e = .returned (.string ⟨(nextL s.data.toList).toArray⟩) ∧ Below w.heap.size w w' := by
  have e : (⟨(nextL s.data.toList).toArray⟩ : ByteArray) = s ++ { data := #[0] } := by
    unfold nextL
    rw [nx_short 8 _ (by simpa using hs)]
    apply ByteArray.ext; rw [ByteArray.data_append]; apply Array.ext'; simp
  rw [e]; clear e
  have hconv := run_one0 w 0 (by omega) (by omega)
  go_enter Try.func22, Try.ntmps22
  go_wp2
  go_ret
  exact ⟨rfl, ((Below.refl _ _).alloc (Nat.le_refl _) _)⟩
theorem ext_take8 (a : ByteArray) (n : Nat) : (a.extract 0 n).data.toList = a.data.toList.take n := by simp [ByteArray.data_extract]
theorem Bytes.less {w : World} {b n m : Nat} {f : Nat → UInt8} (h : Bytes w b n f) (hm : m ≤ n) : Bytes w b m f := fun j hj => h j (by omega)

set_option maxRecDepth 100000 in
set_option maxHeartbeats 1600000 in
theorem rnext_long (s : ByteArray) (w : World) (hs : 8 ≤ s.size) (hm : s.size ≤ 9223372036854775807) :
    Calls Try.prog 22 #[.string s] w fun e w' => e = .returned (.string ⟨(nextL s.data.toList).toArray⟩) ∧ Below w.heap.size w w' := by
  obtain ⟨F, hF⟩ : ∃ F, F = s.extract 0 8 := ⟨_, rfl⟩
  have hF8 : F.size = 8 := by rw [hF, ByteArray.size_extract]; omega
  have hFl : F.data.toList = s.data.toList.take 8 := by rw [hF]; exact ext_take8 s 8
  have hcv := Lib.run_convert_string_bytes (P := Try.prog) w 9 82 5 F Try.underlying9 Try.underlying82 Try.underlying5
  have HM0 := bytes_conv w 5 F
  have HB0 := Lib.hid (bytes_conv_below w 5 F)
  obtain ⟨gc, hgc⟩ : ∃ gc, gc = grownCap w 8 0 5 := ⟨_, rfl⟩
  have hgc8 : 8 ≤ gc := by rw [hgc]; exact grownCap_ge w 8 0 5
  rw [hF8] at hcv HM0
  rw [← hgc] at hcv
  obtain ⟨W1, hW1⟩ : ∃ W1, W1 = Lib.bytesWorld w 5 F := ⟨_, rfl⟩
  rw [← hW1] at hcv HM0 HB0
  obtain ⟨B, hBe⟩ : ∃ B, B = w.heap.size := ⟨_, rfl⟩
  have hBw : w.heap.size ≤ B := by omega
  rw [← hBe] at hcv HM0
  have HMB := Lib.hid HM0; clear HM0
  have HL8 : Hid (8 ≤ s.data.toList.length) := Lib.hid (by simpa using hs)
  have HFX := Lib.hid hF; have HFL := Lib.hid hFl
  have hsl : (s.extract 0 8) = F := hF.symm
  have hnot : decide ((s.size : Int) < 8) = false := decide_eq_false (by omega)
  clear hF hFl hgc hW1 hBe hF8
  go_enter Try.func22, Try.ntmps22
  go_wp2
  go_loopg [3] 9 (fun g s3 wr => ∃ m : Nat, s3 = .slice (some ⟨B, 0, none⟩) m gc ∧ m ≤ 8 ∧ m + 1 ≤ g ∧ Hid (nx (8 - m) (s.data.toList.drop m) = none) ∧ Hid (Bytes wr B 8 (fun j => F.data.toList.getD j 0)) ∧ Hid (Below w.heap.size w wr))
  case atStart => exact ⟨8, rfl, by omega, by omega, Lib.hid rfl, HMB, HB0⟩
  case round =>
    obtain ⟨m, rfl, hm8, hg, HN, HBY, HB⟩ := hrel
    by_cases h0 : m = 0
    · subst h0
      have HR : Hid (nextL s.data.toList = []) := Lib.hid (by unfold nextL; have := HN.out; rw [List.drop_zero] at this; rw [this]; rfl)
      go_wp2
      go_ret
      exact ⟨by rw [HR.out]; rfl, HB.out⟩
    · obtain ⟨q, rfl⟩ : ∃ q, m = q + 1 := ⟨m - 1, by omega⟩
      have hql : q < s.data.toList.length := by have := HL8.out; omega
      obtain ⟨c, hc⟩ : ∃ c, c = s.data.toList[q] := ⟨_, rfl⟩
      have hFq : F.data.toList.getD q 0 = c := by
        rw [HFL.out, hc]
        simp [List.getD, List.getElem?_take_of_lt (show q < 8 by omega), List.getElem?_eq_getElem hql]
      have hk0 := (HBY.out q (by omega)).1
      have z0 := (HBY.out q (by omega)).2
      simp only [hFq] at hk0
      have hd : s.data.toList.drop q = c :: s.data.toList.drop (q + 1) := by rw [List.drop_eq_getElem_cons hql, hc]
      have hsub : IntKind.i64.wrap (((q + 1 : Nat) : Int) - 1) = (q : Int) := by rw [show ((q + 1 : Nat) : Int) - 1 = (q : Int) by omega]; exact IntWalk.i64_in _ ⟨by omega, by omega⟩
      have hsub' : IntKind.i64.wrap ((q : Int) + 1 - 1) = (q : Int) := by rw [show (q : Int) + 1 - 1 = (q : Int) by omega]; exact IntWalk.i64_in _ ⟨by omega, by omega⟩
      have hpos : decide (0 < (((q + 1 : Nat) : Int))) = true := decide_eq_true (by omega)
      have hpos' : decide (0 < ((q : Int) + 1)) = true := decide_eq_true (by omega)
      have hc255 := c.toNat_lt
      obtain ⟨cn, hcn⟩ : ∃ cn, cn = c.toNat := ⟨_, rfl⟩
      rw [← hcn] at hk0 hc255
      have hDD := Lib.hid hd; have HCN := Lib.hid hcn; have HFQ := Lib.hid hFq
      clear hd hcn hc hFq
      by_cases h255 : cn = 255
      · have HN2 : Hid (nx (8 - q) (s.data.toList.drop q) = none) := Lib.hid (by
          have e : 8 - q = (8 - (q + 1)) + 1 := by omega
          rw [e, hDD.out, nx, HN.out]; simp only; rw [if_neg (by rw [← HCN.out]; omega)])
        have heq : ((cn : Int) == 255) = true := beq_iff_eq.2 (by omega)
        subst h255
        go_wp2
        go_roundg (gk - 1)
        case rel => exact ⟨q, by first | rfl | simp, by omega, by omega, HN2, HBY, HB⟩
        case measure => omega
      · have heq : ((cn : Int) == 255) = false := beq_eq_false_iff_ne.2 (by omega)
        have hne0 : ((((q + 1 : Nat)) : Int) == 0) = false := beq_eq_false_iff_ne.2 (by omega)
        have hne0' : (((q : Int) + 1) == 0) = false := beq_eq_false_iff_ne.2 (by omega)
        obtain ⟨y, hy⟩ : ∃ y : UInt8, y = UInt8.ofNat (cn + 1) := ⟨_, rfl⟩
        have hyn : y.toNat = cn + 1 := by rw [hy, UInt8.toNat_ofNat']; omega
        have hwr : IntKind.u8.wrap ((cn : Int) + 1) = ((y.toNat : Nat) : Int) := by rw [hyn]; simp [IntKind.wrap, IntKind.bits, IntKind.signed]; omega
        have HT := Lib.hid ((HBY.out.set (i := q) (by omega) y).less (m := q + 1) (by omega))
        have hcv2 := HT.out.text (P := Try.prog) (src := 82) (dst := 9) (cap := gc) Try.underlying82 Try.underlying5 Try.underlying9
        have HR : Hid (nextL s.data.toList = (List.range (q + 1)).map (fun j => if j = q then y else F.data.toList.getD j 0)) := Lib.hid (by
          have hn : nx (8 - (q + 1) + 1) (s.data.toList.drop q) = some [y] := by
            rw [hDD.out, nx, HN.out]; simp only; rw [if_pos (by rw [← HCN.out]; omega), hy, HCN.out]
          have hx := nx_drop q (8 - (q + 1) + 1) s.data.toList _ (by omega) hn
          rw [show 8 - (q + 1) + 1 + q = 8 by omega] at hx
          unfold nextL
          rw [hx]
          simp only [Option.getD_some]
          rw [List.range_succ, List.map_append]
          congr 1
          · apply List.ext_getElem
            · simp; have := HL8.out; simp at this; omega
            · intro j h1 h2
              have hj : j < q := by simpa using h2
              rw [List.getElem_take, List.getElem_map, List.getElem_range, if_neg (by omega), HFL.out]
              simp [List.getD, List.getElem?_take_of_lt (show j < 8 by omega), List.getElem?_eq_getElem (show j < s.data.toList.length by omega)]
          · simp)
        obtain ⟨TX, hTX⟩ : ∃ TX : ByteArray, TX = ⟨((List.range (q + 1)).map (fun j => if j = q then y else F.data.toList.getD j 0)).toArray⟩ := ⟨_, rfl⟩
        rw [← hTX] at hcv2
        have HRT : Hid ((⟨(nextL s.data.toList).toArray⟩ : ByteArray) = TX) := Lib.hid (by rw [HR.out, hTX])
        clear hTX
        have HB2 := Lib.hid (HB.out.setCell (p := ⟨B, q, none⟩) hBw (.int .u8 ((y.toNat : Nat) : Int)))
        clear hy hyn hcv
        go_wp2
        go_ret
        exact ⟨by rw [HRT.out]; rfl, HB2.out⟩
theorem rnext_any (s : ByteArray) (w : World) (hm : s.size ≤ 9223372036854775807) :
    Calls Try.prog 22 #[.string s] w fun e w' => e = .returned (.string ⟨(nextL s.data.toList).toArray⟩) ∧ Below w.heap.size w w' := by
  by_cases h : s.size < 8
  · exact rnext_short s w h
  · exact rnext_long s w (by omega) hm
end Go.Proofs.Ytfjhlckklgeokaa
