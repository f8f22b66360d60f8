/- catenalaw05: KeysSets. Conditions: the texts read as l, within the form's reach. -/
import Derived.Test.YtjiipmehgcnaeaaKeysE
namespace Go.Proofs.Ytjiipmehgcnaeaa
open Go.RowKit Go.PlainAid Go.WideMaps Go.Maps Go.Sort Go.Shelf

/-- b tells whether x is in l. -/
def MemB (b : Bool) (x : ByteArray) (l : List ByteArray) : Prop := b = true ↔ x ∈ l
theorem MemB.nil (x : ByteArray) : MemB false x [] := by simp [MemB]
theorem MemB.yes {b : Bool} {x : ByteArray} {l m : List ByteArray} (h : MemB b x l) (hb : b = true ∨ x ∈ m) (hs : ∀ y, y ∈ l → y ∈ m) : MemB true x m := ⟨fun _ => by
  rcases hb with hb | hb
  · exact hs _ (h.1 hb)
  · exact hb, fun _ => rfl⟩
theorem MemB.no {x s : ByteArray} {l m : List ByteArray} (h : MemB false x l) (hsx : s ≠ x) (hm : ∀ y, y ∈ m → y ∈ l ∨ y = s) : MemB false x m := ⟨(fun h => by cases h), fun hx => by
  rcases hm x hx with k | k
  · exact h.2 k
  · exact absurd k.symm hsx⟩
theorem MemB.same {a b : Bool} {x : ByteArray} {l m : List ByteArray} (h : MemB a x l) (k : MemB b x m) (hm : x ∈ m ↔ x ∈ l) : a = b := by
  unfold MemB at h k
  cases a <;> cases b <;> simp_all

set_option maxRecDepth 100000 in
set_option maxHeartbeats 6400000 in
theorem keysSets_any (v : Value) (l : List ByteArray) (x : ByteArray) (w : World) (hs : SliceOf strE 1 w v l) (hl : l.length ≤ 8796093022208) (hsz : ∀ s ∈ l, s.size ≤ 140737488351232) (_ : x.size ≤ 140737488351232) :
    Calls Try.prog 4 #[v, .string x] w fun e w' => e = .returned (.bool true) ∧ Below w.heap.size w w' := by
  obtain ⟨i0, hi, hz0, hz1, hz2⟩ := info_parts info_strK
  have HS := Lib.hid hs; have HZ := Lib.hid hsz; clear hsz
  obtain ⟨ao, cap, rfl, hcap, hcm, _, _⟩ := hs
  by_cases hbig : 60 < l.length
  · have hd : decide (60 < l.length) = true := decide_eq_true hbig
    have hd' : decide ((60 : Int) < (l.length : Int)) = true := decide_eq_true (by omega)
    go_enter Try.func4, Try.ntmps4
    go_wp2_with (go_at_call 15; refine (awake_any _).mono ?_; rintro e w3 ⟨rfl, hb3⟩)
    go_ret
    exact ⟨rfl, hb3⟩
  · have hd : decide (60 < l.length) = false := decide_eq_false hbig
    have hd' : decide ((60 : Int) < (l.length : Int)) = false := decide_eq_false (by omega)
    have hsub0 : IntKind.i64.wrap ((l.length : Int) - 1) = (l.length : Int) - 1 := IntWalk.i64_in _ ⟨by omega, by omega⟩
    go_enter Try.func4, Try.ntmps4
    go_wp2
    go_loopg [5, 6, 7] (l.length + 1) (fun g s5 s6 s7 wr => ∃ (n : Nat) (ts : List ByteArray) (hb : Bool), s7 = .int .i64 ((n : Int) - 1) ∧ s6 = .bool hb ∧ n ≤ l.length ∧ n + 1 ≤ g ∧ ts.length + n = l.length ∧ Hid (MemB hb x (l.drop n)) ∧ Hid (∀ y, y ∈ ts ↔ y ∈ l.drop n) ∧
      Hid (wr.ownsRow w.heap.size 9 1 s5 ts.length (ts.flatMap strE)) ∧ Hid (Below w.heap.size w wr))
    case atStart => exact ⟨l.length, [], false, rfl, rfl, by omega, by omega, by simp, Lib.hid (by rw [List.drop_length]; exact MemB.nil x), Lib.hid (by simp), Lib.hid (World.ownsRow_nil _ _ _ _), Lib.hid (Below.refl _ _)⟩
    case round =>
      obtain ⟨n, ts, hb, rfl, rfl, hn, hg, htl, HB1, HM, HO, HB⟩ := hrel
      by_cases h0 : n = 0
      · subst h0
        have hc : decide ((0 : Int) ≤ ((0 : Nat) : Int) - 1) = false := by decide
        have hc2 : decide ((0 : Int) ≤ -1) = false := by decide
        have HHB : Hid (MemB hb x l) := Lib.hid (by simpa using HB1.out)
        have HMM : Hid (∀ y, y ∈ ts ↔ y ∈ l) := Lib.hid (by simpa using HM.out)
        have htl60 : ts.length ≤ 60 := by omega
        clear HB1 HM
        go_wp2_with (go_at_call 25; refine (set_any _ l _ (HS.out.below HB.out) hl HZ.out).mono ?_; rintro e w2 ⟨g2, c2, ys, rfl, hset, hyl, hown, hb2⟩)
        have HSET := Lib.hid hset; have HOW := Lib.hid hown
        have HB2 := Lib.hid (HB.out.trans (hb2.mono HB.out.size))
        have HO2 := Lib.hid (row_below HO.out hb2)
        have hyl60 : ys.length ≤ 60 := by omega
        clear hset hown hb2
        have HSL := Lib.hid (SliceOf.own (enc := strE) HOW.out (fun _ _ => rfl))
        go_loopg [9, 10] (ys.length + 1) (fun g s9 s10 wr2 => ∃ (i : Nat) (ha : Bool), s10 = .int .i64 i ∧ s9 = .bool ha ∧ i ≤ ys.length ∧ ys.length + 1 ≤ i + g ∧ Hid (MemB ha x (ys.take i)) ∧ Hid (Below w2.heap.size w2 wr2))
        case atStart => exact ⟨0, false, rfl, rfl, by omega, by omega, Lib.hid (MemB.nil x), Lib.hid (Below.refl _ _)⟩
        case round =>
          obtain ⟨i, ha, rfl, rfl, hi4, hg4, HA, HB4⟩ := hrel
          by_cases hlt : i < ys.length
          · obtain ⟨b, off, e1, k1⟩ := strAt (HSL.out.below HB4.out) i hlt
            have HT : Hid (ys.take (i + 1) = ys.take i ++ [ys[i]]) := Lib.hid (by rw [List.take_add_one, List.getElem?_eq_getElem hlt]; rfl)
            obtain ⟨s, hsv⟩ : ∃ s, s = ys[i] := ⟨_, rfl⟩
            rw [← hsv] at k1 HT
            simp only [Option.some.injEq, Addr.mk.injEq, and_true] at e1
            obtain ⟨rfl, rfl⟩ := e1
            have hd1 : decide ((i : Int) < (ys.length : Int)) = true := decide_eq_true (by omega)
            clear hsv
            rw [Nat.zero_add] at k1
            have hsub2 : ∀ y, y ∈ ys.take i → y ∈ ys.take (i + 1) := fun y hy => by rw [HT.out]; exact List.mem_append_left _ hy
            have HSUB := Lib.hid hsub2; clear hsub2
            cases ha with
            | true =>
              have HA2 : Hid (MemB true x (ys.take (i + 1))) := Lib.hid (HA.out.yes (.inl rfl) HSUB.out)
              go_wp2
              go_roundg (gk - 1)
              case rel => exact ⟨i + 1, true, by go_num, rfl, by omega, by omega, HA2, HB4⟩
              case measure => omega
            | false =>
              by_cases hsx : s = x
              · subst hsx
                have HA2 : Hid (MemB true s (ys.take (i + 1))) := Lib.hid (HA.out.yes (.inr (by rw [HT.out]; simp)) HSUB.out)
                go_wp2
                go_roundg (gk - 1)
                case rel => exact ⟨i + 1, true, by go_num, rfl, by omega, by omega, HA2, HB4⟩
                case measure => omega
              · obtain ⟨f4, f5⟩ := eq_facts hsx
                have HA2 : Hid (MemB false x (ys.take (i + 1))) := Lib.hid (HA.out.no hsx (fun y hy => by
                  rw [HT.out] at hy
                  rcases List.mem_append.1 hy with h | h
                  · exact .inl h
                  · exact .inr (by simpa using h)))
                clear hsx
                go_wp2
                go_roundg (gk - 1)
                case rel => exact ⟨i + 1, false, by go_num, rfl, by omega, by omega, HA2, HB4⟩
                case measure => omega
          · obtain rfl : i = ys.length := by omega
            have hd1 : decide ((ys.length : Int) < (ys.length : Int)) = false := decide_eq_false (by omega)
            rw [List.take_length] at HA
            have hab : hb = ha := HHB.out.same HA.out (HSET.out.mem x)
            subst hab
            have hbb : (hb == hb) = true := by cases hb <;> rfl
            have HSL4 := Lib.hid (HSL.out.below HB4.out)
            have HO4 := Lib.hid (row_below HO2.out HB4.out)
            have HST := Lib.hid (SliceOf.own (enc := strE) HO4.out (fun _ _ => rfl))
            have HB5 := Lib.hid (HB2.out.trans (HB4.out.mono HB2.out.size))
            obtain ⟨a5, c5, rfl, hc5, hm5, _, _⟩ := HST.out
            have HYZ : Hid (∀ s ∈ ys, s.size ≤ 140737488351232) := Lib.hid (fun s hs => HZ.out s ((HSET.out.mem s).1 hs))
            have HTZ : Hid (∀ s ∈ ts, s.size ≤ 140737488351232) := Lib.hid (fun s hs => HZ.out s ((HMM.out s).1 hs))
            have HST2 : Hid (SetOf ys ts) := Lib.hid (HSET.out.congr (fun y => (HMM.out y).symm))
            clear HOW HO2 HO HA HHB
            go_wp2_with fail
            refine (sorted_any _ ys _ HSL4.out).mono ?_
            rintro e w6 ⟨bs, rfl, hbs, hb6⟩
            obtain rfl : bs = true := hbs.2 HSET.out.up
            have HB6 := Lib.hid hb6; clear hb6 hbs
            go_wp2_with fail
            refine (set_any _ ys _ (HSL4.out.below HB6.out) (by omega) HYZ.out).mono ?_
            rintro e w7 ⟨g7, c7, zs, rfl, hset7, _, hown7, hb7⟩
            obtain rfl : zs = ys := hset7.uniq HSET.out.self
            have HB7 := Lib.hid (HB6.out.trans (hb7.mono HB6.out.size))
            have HS7 := Lib.hid (SliceOf.own (enc := strE) hown7 (fun _ _ => rfl))
            clear hset7 hown7 hb7
            go_wp2_with fail
            refine (same_any _ _ zs _ HS7.out (HSL4.out.below HB7.out)).mono ?_
            rintro e w8 ⟨rfl, hb8⟩
            have HB8 := Lib.hid (HB7.out.trans (hb8.mono HB7.out.size)); clear hb8
            go_wp2_with fail
            refine (set_any _ ts _ (HST.out.below HB8.out) (by omega) HTZ.out).mono ?_
            rintro e w9 ⟨g9, c9, us, rfl, hset9, _, hown9, hb9⟩
            obtain rfl : us = zs := hset9.uniq HST2.out
            have HB9 := Lib.hid (HB8.out.trans (hb9.mono HB8.out.size))
            have HS9 := Lib.hid (SliceOf.own (enc := strE) hown9 (fun _ _ => rfl))
            clear hset9 hown9 hb9
            go_wp2_with fail
            refine (same_any _ _ us _ HS9.out (HSL4.out.below HB9.out)).mono ?_
            rintro e w10 ⟨rfl, hb10⟩
            have HB10 := Lib.hid (HB9.out.trans (hb10.mono HB9.out.size)); clear hb10
            go_wp2_with (go_at_call 15; refine (awake_any _).mono ?_; rintro e w11 ⟨rfl, hb11⟩)
            go_ret
            exact ⟨rfl, HB5.out.trans (Below.mono (HB10.out.trans (hb11.mono HB10.out.size)) HB5.out.size)⟩
      · obtain ⟨m, rfl⟩ : ∃ m, n = m + 1 := ⟨n - 1, by omega⟩
        have hcst : (((m + 1 : Nat) : Int)) - 1 = (m : Int) := by omega
        simp only [hcst]
        have hml : m < l.length := by omega
        obtain ⟨b, off, rfl, k0⟩ := strAt HS.out m hml
        have k1 := cell_below HB.out k0
        have k0 := Lib.hid k0
        have HT : Hid (l.drop m = l[m] :: l.drop (m + 1)) := Lib.hid (List.drop_eq_getElem_cons hml)
        obtain ⟨s, hsv⟩ : ∃ s, s = l[m] := ⟨_, rfl⟩
        rw [← hsv] at k1 HT k0
        have hbl := World.block_lt_of_cell? wr _ k1
        have hsub : IntKind.i64.wrap ((m : Int) - 1) = (m : Int) - 1 := IntWalk.i64_in _ ⟨by omega, by omega⟩
        have htl60 : ts.length ≤ 60 := by omega
        have hszr := HB.out.size
        clear hsv hcst hd hd'
        have HM2 : Hid (∀ y, y ∈ ts ++ [s] ↔ y ∈ l.drop m) := Lib.hid (fun y => by rw [HT.out, List.mem_append, List.mem_cons, HM.out y]; simp [or_comm])
        have HSUB : Hid (∀ y, y ∈ l.drop (m + 1) → y ∈ l.drop m) := Lib.hid (fun y hy => by rw [HT.out]; exact List.mem_cons_of_mem _ hy)
        cases hb with
        | true =>
          have HA2 : Hid (MemB true x (l.drop m)) := Lib.hid (HB1.out.yes (.inl rfl) HSUB.out)
          go_wp2_with (at_builtin; go_loud (refine wpList_append_lies _ rfl (.tmp 22) (.tmp 27) 22 rfl w.heap.size 9 i0 (.string ⟨#[]⟩) 1 16 Try.underlying22 hi hz0 hz1 hz2 rfl (by decide) _ ts.length _ rfl (HO.out.alloc _) ⟨wr.heap.size, 0, none⟩ 1 1 [.string s] rfl rfl (World.news_of_block (alloc_at _ _)) (by simp [Value.oneCell']) (by omega) (by unfold maxLen; omega) (by omega) (by simp; omega) (wr.heap.size + 1) (by simp) ?_); intro g1 cp1 w3 hown3 hgr3 hg3 hg3s; have HO3 : Hid (w3.ownsRow w.heap.size 9 1 (.slice (some ⟨g1, 0, none⟩) (ts.length + 1) cp1) (ts ++ [s]).length ((ts ++ [s]).flatMap strE)) := Lib.hid (by rw [List.flatMap_append, List.length_append]; exact hown3); have HB3 := Lib.hid ((HB.out.alloc hszr (.cells #[.string s] 9)).grown hgr3 (by simp; omega) (fun j hj => (HO.out.lt j hj).1)); have k3 : w3.cell? ⟨b, off + m, none⟩ = some (.string s) := cell_below HB3.out k0.out; have HL3 : Hid ((ts ++ [s]).length = ts.length + 1) := Lib.hid (by simp); clear hown3 hgr3)
          go_roundg (gk - 1)
          case rel => exact ⟨m, ts ++ [s], true, by go_num, rfl, by omega, by omega, by rw [HL3.out]; omega, HA2, HM2, HO3, HB3⟩
          case measure => omega
        | false =>
          by_cases hsx : s = x
          · subst hsx
            have HA2 : Hid (MemB true s (l.drop m)) := Lib.hid (HB1.out.yes (.inr (by rw [HT.out]; simp)) HSUB.out)
            go_wp2_with (at_builtin; go_loud (refine wpList_append_lies _ rfl (.tmp 22) (.tmp 27) 22 rfl w.heap.size 9 i0 (.string ⟨#[]⟩) 1 16 Try.underlying22 hi hz0 hz1 hz2 rfl (by decide) _ ts.length _ rfl (HO.out.alloc _) ⟨wr.heap.size, 0, none⟩ 1 1 [.string s] rfl rfl (World.news_of_block (alloc_at _ _)) (by simp [Value.oneCell']) (by omega) (by unfold maxLen; omega) (by omega) (by simp; omega) (wr.heap.size + 1) (by simp) ?_); intro g1 cp1 w3 hown3 hgr3 hg3 hg3s; have HO3 : Hid (w3.ownsRow w.heap.size 9 1 (.slice (some ⟨g1, 0, none⟩) (ts.length + 1) cp1) (ts ++ [s]).length ((ts ++ [s]).flatMap strE)) := Lib.hid (by rw [List.flatMap_append, List.length_append]; exact hown3); have HB3 := Lib.hid ((HB.out.alloc hszr (.cells #[.string s] 9)).grown hgr3 (by simp; omega) (fun j hj => (HO.out.lt j hj).1)); have k3 : w3.cell? ⟨b, off + m, none⟩ = some (.string s) := cell_below HB3.out k0.out; have HL3 : Hid ((ts ++ [s]).length = ts.length + 1) := Lib.hid (by simp); clear hown3 hgr3)
            go_roundg (gk - 1)
            case rel => exact ⟨m, ts ++ [s], true, by go_num, rfl, by omega, by omega, by rw [HL3.out]; omega, HA2, HM2, HO3, HB3⟩
            case measure => omega
          · obtain ⟨f4, f5⟩ := eq_facts hsx
            have HA2 : Hid (MemB false x (l.drop m)) := Lib.hid (HB1.out.no hsx (fun y hy => by
              rw [HT.out] at hy
              rcases List.mem_cons.1 hy with h | h
              · exact .inr h
              · exact .inl h))
            clear hsx
            go_wp2_with (at_builtin; go_loud (refine wpList_append_lies _ rfl (.tmp 22) (.tmp 27) 22 rfl w.heap.size 9 i0 (.string ⟨#[]⟩) 1 16 Try.underlying22 hi hz0 hz1 hz2 rfl (by decide) _ ts.length _ rfl (HO.out.alloc _) ⟨wr.heap.size, 0, none⟩ 1 1 [.string s] rfl rfl (World.news_of_block (alloc_at _ _)) (by simp [Value.oneCell']) (by omega) (by unfold maxLen; omega) (by omega) (by simp; omega) (wr.heap.size + 1) (by simp) ?_); intro g1 cp1 w3 hown3 hgr3 hg3 hg3s; have HO3 : Hid (w3.ownsRow w.heap.size 9 1 (.slice (some ⟨g1, 0, none⟩) (ts.length + 1) cp1) (ts ++ [s]).length ((ts ++ [s]).flatMap strE)) := Lib.hid (by rw [List.flatMap_append, List.length_append]; exact hown3); have HB3 := Lib.hid ((HB.out.alloc hszr (.cells #[.string s] 9)).grown hgr3 (by simp; omega) (fun j hj => (HO.out.lt j hj).1)); have k3 : w3.cell? ⟨b, off + m, none⟩ = some (.string s) := cell_below HB3.out k0.out; have HL3 : Hid ((ts ++ [s]).length = ts.length + 1) := Lib.hid (by simp); clear hown3 hgr3)
            go_roundg (gk - 1)
            case rel => exact ⟨m, ts ++ [s], false, by go_num, rfl, by omega, by omega, by rw [HL3.out]; omega, HA2, HM2, HO3, HB3⟩
            case measure => omega
end Go.Proofs.Ytjiipmehgcnaeaa
