/- Configurations: members, places. Conditions: none. -/
import Derived.Test.YtcnahhobppnbbaaSl
import Derived.Laws.StructEq
import Derived.Laws.Pointers
import Derived.Deep.QuietTactic
import Derived.BigQuiet
namespace Go.Proofs.Ytcnahhobppnbbaa
open Go.RowKit Go.PlainAid

/-- A member: Id, Serial. -/
abbrev MemT := Int × Int
def memE (m : MemT) : List Value := [.int .i64 m.1, .int .i64 m.2]
def memV (m : MemT) : Value := .agg #[.int .i64 m.1, .int .i64 m.2]
def memOk (m : MemT) : Prop := (-9223372036854775808 ≤ m.1 ∧ m.1 ≤ 9223372036854775807) ∧ (-9223372036854775808 ≤ m.2 ∧ m.2 ≤ 9223372036854775807)
structure ConfT where
  ep : Int
  mv : Value
  ms : List MemT
  fl : Int
instance : Inhabited ConfT := ⟨⟨0, .slice none 0 0, [], 0⟩⟩
def confE (c : ConfT) : List Value := [.int .i64 c.ep, c.mv, .int .u64 c.fl]
def confV (c : ConfT) : Value := .agg #[.int .i64 c.ep, c.mv, .int .u64 c.fl]
structure ConfOk (w : World) (c : ConfT) : Prop where
  ms : SliceOf memE 2 w c.mv c.ms
  each : ∀ m ∈ c.ms, memOk m
  e0 : -9223372036854775808 ≤ c.ep
  e1 : c.ep ≤ 9223372036854775807
  f0 : 0 ≤ c.fl
  f1 : c.fl < 18446744073709551616
theorem ConfOk.below {w w' : World} {c : ConfT} (h : ConfOk w c) (hb : Below w.heap.size w w') : ConfOk w' c := ⟨h.ms.below hb, h.each, h.e0, h.e1, h.f0, h.f1⟩
/-- The place of the first member of which P holds. -/
def fndF (P : MemT → Bool) : List MemT → Nat → Int
  | [], _ => -1
  | m :: r, i => if P m then (i : Int) else fndF P r (i + 1)
theorem fndF_cons {P : MemT → Bool} {l : List MemT} {i : Nat} (h : i < l.length) : fndF P (l.drop i) i = if P l[i] then (i : Int) else fndF P (l.drop (i + 1)) (i + 1) := by
  rw [List.drop_eq_getElem_cons h]; rfl
theorem fndF_end {P : MemT → Bool} {l : List MemT} {i : Nat} (h : l.length ≤ i) : fndF P (l.drop i) i = -1 := by
  rw [List.drop_eq_nil_of_le h]; rfl
def fnd (P : MemT → Bool) (l : List MemT) : Int := fndF P l 0
theorem fndF_bd (P : MemT → Bool) (l : List MemT) : ∀ i, fndF P l i = -1 ∨ ((i : Int) ≤ fndF P l i ∧ fndF P l i < i + l.length) := by
  induction l with
  | nil => intro i; exact Or.inl rfl
  | cons m r ih =>
    intro i
    unfold fndF
    split
    · right; simp only [List.length_cons]; omega
    · rcases ih (i + 1) with h | h
      · exact Or.inl h
      · right; simp only [List.length_cons]; omega
theorem fnd_bd (P : MemT → Bool) (l : List MemT) : fnd P l = -1 ∨ (0 ≤ fnd P l ∧ fnd P l < l.length) := by
  have := fndF_bd P l 0; unfold fnd; simpa using this
theorem eq_mem (a b : MemT) (w : World) : (binOp .eql 114 (memV a) (memV b)).run Try.prog w = .ok (.bool (a == b)) w := by
  have u := Try.underlying3
  have hS : Try.prog.underlying 114 = some (.struct (Try.prog.fieldsOf 114)) := by kernel_rfl
  have hp : Try.prog.stoodInHeld 114 = false := by kernel_rfl
  obtain ⟨a1, a2⟩ := a
  obtain ⟨b1, b2⟩ := b
  unfold memV
  rw [run_eql_struct, show (10000 : Nat) = 9999 + 1 from rfl, run_equalIn_agg w 9999 114 _ _ hS hp]
  simp only [Program.fieldsOf, Try.underlying114]
  go_simp
  by_cases h1 : a1 = b1 <;> by_cases h2 : a2 = b2 <;> simp [h1, h2]
theorem neq_mem (a b : MemT) (w : World) : (binOp .neq 114 (memV a) (memV b)).run Try.prog w = .ok (.bool (!(a == b))) w := by
  have u := Try.underlying3
  have hS : Try.prog.underlying 114 = some (.struct (Try.prog.fieldsOf 114)) := by kernel_rfl
  have hp : Try.prog.stoodInHeld 114 = false := by kernel_rfl
  obtain ⟨a1, a2⟩ := a
  obtain ⟨b1, b2⟩ := b
  unfold memV
  rw [run_neq_struct, show (10000 : Nat) = 9999 + 1 from rfl, run_equalIn_agg w 9999 114 _ _ hS hp]
  simp only [Program.fieldsOf, Try.underlying114]
  go_simp
  by_cases h1 : a1 = b1 <;> by_cases h2 : a2 = b2 <;> simp [h1, h2]
set_option maxRecDepth 100000 in
set_option maxHeartbeats 1600000 in
theorem first_any (F : FuncId) (p : Value) (P : MemT → Bool) (v : Value) (l : List MemT) (w : World) (hs : SliceOf memE 2 w v l)
    (hF : ∀ (x : Value) (u : World), Sem.run Try.prog (callFunc F #[x, p]) u = .ok (.enter F #[x, p]) u)
    (hc : ∀ (m : MemT) (u : World), Below w.heap.size w u → Calls Try.prog F #[memV m, p] u fun e u' => e = .returned (.bool (P m)) ∧ Below u.heap.size u u') :
    Calls Try.prog 121 #[v, .func (.func F) #[] #[p]] w fun e w' => e = .returned (.int .i64 (fnd P l)) ∧ Below w.heap.size w w' := by
  obtain ⟨ao, cap, rfl, hcap, hcm, _, hcell⟩ := hs
  have HC := Lib.hid hcell; have HCC := Lib.hid hc; have HFF := Lib.hid hF
  clear hcell hc hF
  have hF := HFF.out
  go_enter Try.func121, Try.ntmps121
  go_wp2
  go_loopg [9] (l.length + 1) (fun g s9 wr => ∃ i : Nat, s9 = .int .i64 i ∧ i ≤ l.length ∧ l.length + 1 ≤ i + g ∧ fnd P l = fndF P (l.drop i) i ∧ Below w.heap.size w wr)
  case atStart => exact ⟨0, rfl, by omega, by omega, rfl, Below.refl _ _⟩
  case round =>
    obtain ⟨i, rfl, hi, hg, hf, hbel⟩ := hrel
    have HB := Lib.hid hbel; have hsz := hbel.size; have HFD := Lib.hid hf
    clear hbel hf
    by_cases hlt : i < l.length
    · obtain ⟨b, off, rfl, hr⟩ := HC.out i hlt
      have hr1 : wr.rangeAt b (off + i * 2) (memE l[i]) := fun j u hu => cell_below HB.out (hr j u hu)
      have HS := Lib.hid (fndF_cons (P := P) hlt)
      obtain ⟨m, hm⟩ : ∃ m, m = l[i] := ⟨_, rfl⟩
      rw [← hm] at hr1 HS
      have HR := Lib.hid hr1
      clear hr hr1 hm
      have HB1 := Lib.hid (HB.out.alloc hsz (.cells #[.int .i64 m.1, .int .i64 m.2] 114))
      by_cases hP : P m = true
      · have HS2 : Hid (fnd P l = i) := Lib.hid (by rw [HFD.out, HS.out, if_pos hP])
        go_wp2_with (refine wpList_load_mid rfl 114 (.tmp 12) rfl b (off + i * 2) rfl (memE m) _ HR.out Try.underlying114 rfl (by kernel_rfl) ?_; unfold memE)
        refine (HCC.out m _ HB1.out).mono ?_
        rintro e w2 ⟨rfl, hb⟩
        have HB2 := Lib.hid (HB1.out.trans (hb.mono HB1.out.size))
        clear hb
        rw [hP]
        go_wp2
        go_ret
        exact ⟨ret_int HS2.out.symm, HB2.out⟩
      · have hP2 : P m = false := by simpa using hP
        have HS2 : Hid (fnd P l = fndF P (l.drop (i + 1)) (i + 1)) := Lib.hid (by rw [HFD.out, HS.out, if_neg hP])
        clear hP
        go_wp2_with (refine wpList_load_mid rfl 114 (.tmp 12) rfl b (off + i * 2) rfl (memE m) _ HR.out Try.underlying114 rfl (by kernel_rfl) ?_; unfold memE)
        refine (HCC.out m _ HB1.out).mono ?_
        rintro e w2 ⟨rfl, hb⟩
        have HB2 := Lib.hid (HB1.out.trans (hb.mono HB1.out.size))
        clear hb
        rw [hP2]
        go_wp2
        go_roundg (gk - 1)
        case rel => exact ⟨i + 1, by go_num, by omega, by omega, HS2.out, HB2.out⟩
        case measure => omega
    · have HS2 : Hid (fnd P l = -1) := Lib.hid (by rw [HFD.out, fndF_end (by omega)])
      go_wp2
      go_ret
      exact ⟨ret_int HS2.out.symm, HB.out⟩

/-- A box that holds a member. -/
def Box (w : World) (p : Value) (m : MemT) : Prop := ∃ b, p = .pointer (some ⟨b, 0, none⟩) ∧ w.cell? ⟨b, 0, none⟩ = some (.int .i64 m.1) ∧ w.cell? ⟨b, 1, none⟩ = some (.int .i64 m.2)
-- left out here










set_option maxRecDepth 100000 in
set_option maxHeartbeats 1600000 in
theorem hasId (b : Nat) (m o : MemT) (w : World) (h0 : w.cell? ⟨b, 0, none⟩ = some (.int .i64 m.1)) (h1 : w.cell? ⟨b, 1, none⟩ = some (.int .i64 m.2)) :
    Calls Try.prog 120 #[memV o, .pointer (some ⟨b, 0, none⟩)] w fun e w' => e = .returned (.bool (o.1 == m.1)) ∧ Below w.heap.size w w' := by
  have hbs : b < w.heap.size := World.block_lt_of_cell? w _ h0
  unfold memV
  go_enter Try.func120, Try.ntmps120
  go_wp2
  go_ret
  exact ⟨rfl, (Below.refl _ _).alloc (Nat.le_refl _) _⟩
-- left out here






















end Go.Proofs.Ytcnahhobppnbbaa
