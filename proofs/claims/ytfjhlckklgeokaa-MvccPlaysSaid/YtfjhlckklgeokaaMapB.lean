/- Keys of maps: ints, texts, and structs or arrays that are compared part by part. Conditions: none. -/
import Derived.Test.YtfjhlckklgeokaaMap
import Derived.Laws.StructEq
namespace Go.Proofs.Ytfjhlckklgeokaa
open Go.RowKit

theorem findNow_keys {K : Type} [DecidableEq K] {kv : K → Value} {d : TypeDesc} (h : ∀ a b, Instr.sameNow d (kv a) (kv b) = some (decide (a = b))) (a : K) : ∀ (es : List MapEntry) (l : List (K × Value)) (i : Nat), es.map (fun e => (e.key, e.val)) = l.map (fun p => (kv p.1, p.2)) → Instr.findNow d (kv a) es i = some (lookK a l i)
  | [], [], _, _ => rfl
  | [], p :: r, _, h => by simp at h
  | e :: es, [], _, h => by simp at h
  | e :: es, p :: r, i, he => by
    simp only [List.map_cons, List.cons.injEq, Prod.mk.injEq] at he
    obtain ⟨⟨h1, h2⟩, h3⟩ := he
    unfold Instr.findNow lookK
    rw [h1, h a p.1, h2]
    by_cases e1 : a = p.1
    · simp [e1]
    · simp only [e1, decide_false, if_false]
      exact findNow_keys h a es r (i + 1) h3
theorem findAsking_keys {P : Program} {kt : TypeId} {K : Type} [DecidableEq K] {kv : K → Value} (h : ∀ a b (w : World), (Op.equal kt (kv a) (kv b)).run P w = .ok (decide (a = b)) w) (a : K) (w : World) : ∀ (es : List MapEntry) (l : List (K × Value)) (i : Nat), es.map (fun e => (e.key, e.val)) = l.map (fun p => (kv p.1, p.2)) → (Instr.findAsking kt (kv a) es i).run P w = .ok (lookK a l i) w
  | [], [], _, _ => rfl
  | [], p :: r, _, h => by simp at h
  | e :: es, [], _, h => by simp at h
  | e :: es, p :: r, i, he => by
    simp only [List.map_cons, List.cons.injEq, Prod.mk.injEq] at he
    obtain ⟨⟨h1, h2⟩, h3⟩ := he
    unfold Instr.findAsking lookK
    simp only [Sem.run_bind, h1, h a p.1 w, Result.andThen_ok]
    by_cases e1 : a = p.1
    · simp [e1, h2]
    · simp only [e1, decide_false, if_false]
      exact findAsking_keys h a w es r (i + 1) h3
theorem plainKL {P : Program} {kt : TypeId} {K : Type} [DecidableEq K] {kv : K → Value} {d : TypeDesc} (ht : P.underlying kt = some d) (h : ∀ a b, Instr.sameNow d (kv a) (kv b) = some (decide (a = b))) (hc : ∀ (w : World) em a, (Instr.checkKey em 10000 kt (kv a)).run P w = .ok () w) (hb : ∀ a, Instr.sameBits 10000 (kv a) (kv a) = true) : KL P kt kv where
  chk := hc
  fnd w a es l hl := by
    simp only [Instr.findKey, Sem.run_bind, run_underlying ht, Result.andThen_ok, findNow_keys h a es l 0 hl, Sem.run_pure]
  bits := hb
theorem aggKL {P : Program} {kt : TypeId} {K : Type} [DecidableEq K] {kv : K → Value} {d : TypeDesc} (ht : P.underlying kt = some d) (h : ∀ a b, Instr.sameNow d (kv a) (kv b) = none) (hq : ∀ a b (w : World), (Op.equal kt (kv a) (kv b)).run P w = .ok (decide (a = b)) w) (hc : ∀ (w : World) em a, (Instr.checkKey em 10000 kt (kv a)).run P w = .ok () w) (hb : ∀ a, Instr.sameBits 10000 (kv a) (kv a) = true) : KL P kt kv where
  chk := hc
  fnd w a es l hl := by
    cases es with
    | nil =>
      cases l with
      | nil => simp only [Instr.findKey, Sem.run_bind, run_underlying ht, Result.andThen_ok, Instr.findNow, Sem.run_pure]; rfl
      | cons p r => simp at hl
    | cons e es =>
      cases l with
      | nil => simp at hl
      | cons p r =>
        have h0 := hl
        simp only [List.map_cons, List.cons.injEq, Prod.mk.injEq] at hl
        have hn : Instr.findNow d (kv a) (e :: es) 0 = none := by unfold Instr.findNow; rw [hl.1.1, h a p.1]
        simp only [Instr.findKey, Sem.run_bind, run_underlying ht, Result.andThen_ok, hn]
        exact findAsking_keys hq a w (e :: es) (p :: r) 0 h0
  bits := hb
def intK (n : Int) : Value := .int .i64 n
theorem intKL {P : Program} {kt : TypeId} (ht : P.underlying kt = some (.int .i64)) : KL P kt intK :=
  plainKL ht (fun a b => by simp [Instr.sameNow, intK]; rfl) (fun w em a => (show ∀ d, (Instr.checkKey em (d + 1) kt (intK a)).run P w = .ok () w from fun d => by
    simp only [Instr.checkKey, Sem.run_bind, run_underlying ht, Result.andThen_ok, intK, Sem.run_pure]) 9999) (fun a => (show ∀ d, Instr.sameBits (d + 1) (intK a) (intK a) = true from fun d => by simp [Instr.sameBits, intK]) 9999)
def strK (s : ByteArray) : Value := .string s
theorem beq_bytes (a b : ByteArray) : (a == b) = decide (a = b) := by
  rw [beq_toListBytes, Go.ByteArray.toList_eq, Go.ByteArray.toList_eq]
  by_cases h : a = b
  · subst h; simp
  · rw [decide_eq_false h, beq_eq_false_iff_ne]
    intro e; exact h (by apply ByteArray.ext; exact Array.toList_inj.1 e)
theorem strKL {P : Program} {kt : TypeId} (ht : P.underlying kt = some .string) : KL P kt strK :=
  plainKL ht (fun a b => by simp only [Instr.sameNow, strK]; rw [beq_bytes]) (fun w em a => (show ∀ d, (Instr.checkKey em (d + 1) kt (strK a)).run P w = .ok () w from fun d => by
    simp only [Instr.checkKey, Sem.run_bind, run_underlying ht, Result.andThen_ok, strK, Sem.run_pure]) 9999) (fun a => (show ∀ d, Instr.sameBits (d + 1) (strK a) (strK a) = true from fun d => by simp only [Instr.sameBits, strK]; rw [beq_bytes]; simp) 9999)
def arr2K (p : Int × Int) : Value := .agg #[.int .i64 p.1, .int .i64 p.2]
theorem arr2KL {P : Program} {kt E : TypeId} (ht : P.underlying kt = some (.array 2 E)) (hE : P.underlying E = some (.int .i64)) (hs : ∀ w : World, (sizeOf E).run P w = .ok 1 w) (hg : ∀ w : World, (isAgg E).run P w = .ok false w) : KL P kt arr2K := by
  have hp : ∀ (w : World) (a b : Int) (i : Nat), i < 2 → (part E #[.int .i64 a, .int .i64 b] (i * 1)).run P w = .ok (.int .i64 (if i = 0 then a else b)) w := by
    intro w a b i hi
    match i, hi with
    | 0, _ => simp [part, Sem.run_bind, hg, hs]
    | 1, _ => simp [part, Sem.run_bind, hg, hs]
  have q2 : ∀ (d : Nat) (a b : Int × Int) (w : World), (Op.equalIn (d + 1 + 1) kt (arr2K a) (arr2K b)).run P w = .ok (decide (a = b)) w := by
    intro d a b w
    have e1 : ∀ (w : World) (x y : Int), (Op.equalIn (d + 1) E (.int .i64 x) (.int .i64 y)).run P w = .ok (x == y) w := fun w x y => by
      simp [Op.equalIn, Sem.run_bind, run_underlying hE]
    have h00 := fun w => hp w a.1 a.2 0 (by omega); have h01 := fun w => hp w a.1 a.2 1 (by omega)
    have h10 := fun w => hp w b.1 b.2 0 (by omega); have h11 := fun w => hp w b.1 b.2 1 (by omega)
    simp only [Nat.zero_mul, Nat.one_mul, if_true, Nat.one_ne_zero, if_false] at h00 h01 h10 h11
    obtain ⟨a1, a2⟩ := a
    obtain ⟨b1, b2⟩ := b
    rw [Op.equalIn]
    simp only [Sem.run_bind, run_underlying ht, Result.andThen_ok, arr2K, hs]
    simp [Std.Legacy.Range.forIn_eq_forIn_range', List.range', Sem.run_bind, h00, h01, h10, h11, e1, Sem.run_ite, hs]
    by_cases h1 : a1 = b1 <;> by_cases h2 : a2 = b2 <;> simp [h1, h2]
  have c2 : ∀ (d : Nat) (w : World) (em : Bool) (a : Int × Int), (Instr.checkKey em (d + 1 + 1) kt (arr2K a)).run P w = .ok () w := by
    intro d w em a
    have e1 : ∀ (w : World) (x : Int), (Instr.checkKey em (d + 1) E (.int .i64 x)).run P w = .ok () w := fun w x => by
      simp [Instr.checkKey, Sem.run_bind, run_underlying hE]
    have h00 := fun w => hp w a.1 a.2 0 (by omega); have h01 := fun w => hp w a.1 a.2 1 (by omega)
    simp only [Nat.zero_mul, Nat.one_mul, if_true, Nat.one_ne_zero, if_false] at h00 h01
    rw [Instr.checkKey]
    simp only [Sem.run_bind, run_underlying ht, Result.andThen_ok, arr2K, hs]
    simp [Std.Legacy.Range.forIn_eq_forIn_range', List.range', Sem.run_bind, h00, h01, e1, hs]
  have b2 : ∀ (d : Nat) (a : Int × Int), Instr.sameBits (d + 1 + 1) (arr2K a) (arr2K a) = true := fun d a => by simp [Instr.sameBits, arr2K]
  exact aggKL ht (fun a b => rfl) (fun a b w => q2 9998 a b w) (fun w em a => c2 9998 w em a) (fun a => b2 9998 a)
end Go.Proofs.Ytfjhlckklgeokaa
