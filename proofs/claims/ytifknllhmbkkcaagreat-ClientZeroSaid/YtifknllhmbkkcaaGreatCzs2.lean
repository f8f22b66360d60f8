/- Put together: ItemACzq, PexS0Czq, PexSCzq, MessACzq, MessBCzq, MessCCzq, MessECzq, MessFCzq, MessGCzq, ConfAzCzq, ConfDzCzq, PexTCzq, MapRCzq, MapOCzq, PexUCzq, EntRCzq, MeACzq, AskACzq, CliACzq. Conditions: as each says. -/
import Derived.Test.YtifknllhmbkkcaaGreatCzs1
import Derived.Maps.RangeRun
import Derived.Laws.RangeString
import Derived.Laws.Strings
import Derived.MapKept
import Derived.Laws.StructEq
import Derived.Laws.Pointers
import Derived.Deep.QuietTactic
import Derived.BigQuiet
import Derived.Deep.RegionHeld3
import Derived.OwnWalk
import Derived.Laws.BytesArg
import Derived.PlainAid
import Derived.SliceStrings
import Derived.SizedLaws
import Derived.Deep.AppendSrc
import Derived.Laws.AppendOwn
/- Package item: Check, Put, Same, Twins, Of of both. Conditions: none. -/
namespace Go.Proofs.YtifknllhmbkkcaaGreat
open Go.RowKit Go.PlainAid
set_option linter.unusedVariables false


theorem putB_small {c r : Int} {l : List OpT} : (putB c r l).size ≤ 200 := by
  by_cases h : chkB c r l = 0
  · obtain ⟨_, _, hl, _⟩ := chkB_ok h
    have hok := chkB_all h
    rw [putB_ok h]
    show (putH c r l ++ putOs l).length ≤ _
    have h1 := putL_le c; have h2 := putL_le r; have h3 := putL_le ((l.length : Nat) : Int)
    have h4 : ∀ l : List OpT, (∀ z ∈ l, OpOk z) → (putOs l).length ≤ 40 * l.length := fun l => by
      induction l with
      | nil => intro _; simp [putOs]
      | cons z r ih =>
        intro hz
        have := ih (fun y hy => hz y (List.mem_cons_of_mem _ hy))
        obtain ⟨⟨_, k1⟩, k2, _⟩ := hz z (by simp)
        have k3 := putL_le (z.1.size : Int); have k4 := putL_le (z.2.1.size : Int)
        have e : putOs (z :: r) = putO1 z ++ putOs r := by simp [putOs]
        rw [e, List.length_append, List.length_cons]
        have : (putO1 z).length ≤ 40 := by unfold putO1; simp only [List.length_append, List.length_singleton, Array.length_toList, ByteArray.size_data]; omega
        omega
    have h5 := h4 l hok
    unfold putH; simp only [List.length_append]; omega
  · rw [putB_err h]; decide
/-- The bytes of an entry; what is read. -/
def putEL (c r : Int) (l : List OpT) (ts : Int) : List UInt8 := putL ts ++ (putL ((putB c r l).size : Int) ++ (putB c r l).data.toList)
def putE (c r : Int) (l : List OpT) (ts : Int) : ByteArray := if chkB c r l = 0 then ⟨(putEL c r l ts).toArray⟩ else ⟨#[]⟩
theorem putE_ok {c r ts : Int} {l : List OpT} (h : chkB c r l = 0) : putE c r l ts = ⟨(putEL c r l ts).toArray⟩ := by unfold putE; rw [if_pos h]
theorem putE_err {c r ts : Int} {l : List OpT} (h : chkB c r l ≠ 0) : putE c r l ts = ⟨#[]⟩ := by unfold putE; rw [if_neg h]
theorem putE_small {c r ts : Int} {l : List OpT} : (putE c r l ts).size ≤ 220 := by
  by_cases h : chkB c r l = 0
  · rw [putE_ok h]
    show (putEL c r l ts).length ≤ _
    have h1 := putL_le ts; have h2 := putL_le ((putB c r l).size : Int); have h3 := putB_small (c := c) (r := r) (l := l)
    unfold putEL; simp only [List.length_append, Array.length_toList, ByteArray.size_data]; omega
  · rw [putE_err h]; decide
theorem MapG.eq {K V : Type} [DecidableEq K] {kv : K → Value} {enc : V → Value} {z : V} {w : World} {B : Nat} {g g' : K → V} (h : MapG kv enc z w B g) (e : g = g') : MapG kv enc z w B g' := e ▸ h

set_option maxRecDepth 100000 in
theorem itemCheck_any (c : Int) (r : Int) (v : Value) (l : List OpT) (ts : Int) (w : World) (hs : SliceOf opE 3 w v l) :
    Calls Tryz.prog 156 #[.agg #[.int .i64 c, .int .i64 r, v, .int .u64 ts]] w fun e w' => e = .returned (.int .i64 (chkB c r l)) ∧ Below w.heap.size w w' := by
 have hB0 := Below.refl w.heap.size w;have hl_hs := sl_len hs;refine co_enter (n := 6) Tryz.func156 rfl rfl rfl [(0, .agg #[.int .i64 c, .int .i64 r, v, .int .u64 ts])] rfl (fun a s => ?_);refine q2 ?_;refine pw s rfl (op_new (v := fun N => pt N 0) (T := 190) (cs := #[.int .i64 c, .int .i64 r, v, .int .u64 ts]) (by kernel_rfl) (by kernel_rfl) (by kernel_rfl)) ?_;rintro _ w2 a1 ⟨N3, rfl, hN6, hz7, hk5, hg4⟩ s;have hz8 := hg4.size
 try dsimp only at s
 refine pk0 (v := .int .i64 0) s rfl fun _ s => q3 ?_;refine pk0 (v := pt N3 0) s rfl fun _ s => ?_;refine pk (v := .agg #[.int .i64 c, .int .i64 r, v]) s rfl (rn_loadN rfl rfl Tryz.underlying61 rfl (by kernel_rfl) (blk_part hk5 0 (by rfl))) fun _ s => ?_;have hB14 := hb_new hB0 hg4;refine pw s rfl (op_call (args := #[.agg #[.int .i64 c, .int .i64 r, v]]) (R := fun res xw => res = .int .i64 (chkB c r l) ∧ Below w2.heap.size w2 xw) rfl rfl rfl (by kernel_rfl) (by kernel_rfl) (Tryz.call86 _ _) (opsCheck_any c r v l w2 (hs.below hB14)) (by rintro e x ⟨rfl, hb15⟩; exact ⟨_, rfl, ⟨rfl, hb15⟩⟩)) ?_;rintro _ w13 a12 ⟨rfl, hb15⟩ s;have hz16 := hb15.size;refine pk0 (v := .int .i64 (chkB c r l)) s rfl fun _ s => q4 ?_;refine co_ret1 s rfl rfl ?_;have hB18 := hb_call hB14 hb15;exact ⟨rfl, hB18⟩
set_option maxRecDepth 100000 in
theorem itemPut_any (c : Int) (r : Int) (v : Value) (l : List OpT) (ts : Int) (w : World) (hs : SliceOf opE 3 w v l) (hts : 0 ≤ ts ∧ ts < 18446744073709551616) :
    Calls Tryz.prog 138 #[.agg #[.int .i64 c, .int .i64 r, v, .int .u64 ts]] w fun e w' => e = .returned (.tuple #[.string (putE c r l ts), .int .i64 (chkB c r l)]) ∧ Below w.heap.size w w' := by
 have hsm := putB_small (c := c) (r := r) (l := l);have hB0 := Below.refl w.heap.size w;have hl_hs := sl_len hs;refine co_enter (n := 24) Tryz.func138 rfl rfl rfl [(0, .agg #[.int .i64 c, .int .i64 r, v, .int .u64 ts])] rfl (fun a s => ?_);refine q2 ?_;refine pw s rfl (op_new (v := fun N => pt N 0) (T := 190) (cs := #[.int .i64 c, .int .i64 r, v, .int .u64 ts]) (by kernel_rfl) (by kernel_rfl) (by kernel_rfl)) ?_;rintro _ w2 a1 ⟨N3, rfl, hN6, hz7, hk5, hg4⟩ s;have hz8 := hg4.size
 try dsimp only at s
 refine pk0 (v := .string (⟨#[]⟩)) s rfl fun _ s => ?_;refine pk0 (v := .int .i64 0) s rfl fun _ s => q3 ?_;refine pk0 (v := pt N3 0) s rfl fun _ s => ?_;refine pk (v := .agg #[.int .i64 c, .int .i64 r, v]) s rfl (rn_loadN rfl rfl Tryz.underlying61 rfl (by kernel_rfl) (blk_part hk5 0 (by rfl))) fun _ s => ?_;have hB15 := hb_new hB0 hg4;refine pw s rfl (op_call (args := #[.agg #[.int .i64 c, .int .i64 r, v]]) (R := fun res xw => res = .tuple #[.string (putB c r l), .int .i64 (chkB c r l)] ∧ Below w2.heap.size w2 xw) rfl rfl rfl (by kernel_rfl) (by kernel_rfl) (Tryz.call137 _ _) (opsPut_any c r v l w2 (hs.below hB15)) (by rintro e x ⟨rfl, hb16⟩; exact ⟨_, rfl, ⟨rfl, hb16⟩⟩)) ?_;rintro _ w14 a13 ⟨rfl, hb16⟩ s;have hz17 := hb16.size;refine pk0 (v := .tuple #[.string (putB c r l), .int .i64 (chkB c r l)]) s rfl fun _ s => ?_;refine pk0 (v := .string (putB c r l)) s rfl fun _ s => ?_;refine pk0 (v := .int .i64 (chkB c r l)) s rfl fun _ s => ?_;refine pk0 (v := .string (putB c r l)) s rfl fun _ s => ?_;refine pk0 (v := .int .i64 (chkB c r l)) s rfl fun _ s => q6 ?_;refine pk0 (v := .int .i64 (chkB c r l)) s rfl fun _ s => ?_;refine pk0 (v := .bool (chkB c r l != 0)) s rfl fun _ s => q1 ?_;have hB26 := hb_call hB15 hb16;cases hc25 : (chkB c r l != 0)
 ·
  rw [hc25] at s;have hp27 : ¬ (chkB c r l ≠ 0) := by first | simpa using hc25 | simpa [and_assoc] using hc25
  refine co_false s rfl <| q0 <| co_seq ?_;refine dr_gen (fun x => Below w.heap.size w x ∧ Blk x N3 190 #[.int .i64 c, .int .i64 r, v, .int .u64 ts]) (by kernel_rfl) (fun w28 hg29 => ?_) (fun w28 hg29 => ?_)
  ·
   have hz30 := hg29.size;have hB31 := hb_new hB26 hg29;have hk32 := hk5.below hb16;have hk33 := hk32.kept hg29 (by simp);exact ⟨hB31, hk33⟩
  have hz34 := hg29.size;have hB35 := hb_new hB26 hg29;have hk36 := hk5.below hb16;have hk37 := hk36.kept hg29 (by simp);refine dk0 1 (v := pt N3 3) s rfl rfl ⟨hB35, hk37⟩ fun _ s => ?_;refine dk 2 (v := .int .u64 ts) s rfl rfl ⟨hB35, hk37⟩ (fun x hx => (rn_load1 rfl rfl Tryz.isAgg32 (hx.2.cell rfl))) fun _ s => ?_;refine dk0 4 (v := .string (putB c r l)) s rfl rfl ⟨hB35, hk37⟩ fun _ s => ?_;refine d1 0 s rfl rfl (op_call (args := #[]) (R := fun res xw => ∃ b : Nat, res = pt b 0 ∧ b = w28.heap.size ∧ OW b [] 0 xw ∧ Below w28.heap.size w28 xw) rfl rfl rfl (by kernel_rfl) (by kernel_rfl) (Tryz.call90 _ _) (ow_new w28) (by rintro e x ⟨b, rfl, h0, h1, h2⟩; exact ⟨_, rfl, b, rfl, h0, h1, h2⟩)) ?_ ?_
  ·
   rintro _ w42 ⟨b43, rfl, hN44, ho45, hb46⟩;have hz47 := hb46.size;have hl48 := ho45.lt;have hB49 := hb_call hB35 hb46;have hk50 := hk37.below hb46;exact ⟨hB49, hk50⟩
  rintro _ w42 a41 ⟨b43, rfl, hN44, ho45, hb46⟩ s;have hz47 := hb46.size;have hl48 := ho45.lt;have hB49 := hb_call hB35 hb46;have hk50 := hk37.below hb46;refine d1 3 s rfl rfl (op_call (args := #[pt b43 0, .int .u64 ts]) (R := fun res xw => res = pt b43 0 ∧ OW b43 (([] : List UInt8) ++ putL ts) (0 + 9) xw ∧ But (Rw w42 b43) w42 xw) rfl rfl rfl (by kernel_rfl) (by kernel_rfl) (Tryz.call134 _ _) (ow_big b43 ([]) 0 ts w42 ho45 (by omega) (by omega) (by omega)) (by rintro e x ⟨rfl, h1, h2⟩; exact ⟨_, rfl, rfl, h1, h2⟩)) ?_ ?_
  ·
   rintro _ w52 ⟨rfl, ho53, hx54⟩;have hz55 := hx54.size;have hl56 := ho53.lt;have hB57 := hb_wr hB49 ho45 (by omega) hx54;have hk58 := blk_wr hk50 ho45 (by decide) (by omega) hx54;exact ⟨hB57, hk58⟩
  rintro _ w52 a51 ⟨rfl, ho53, hx54⟩ s;have hz55 := hx54.size;have hl56 := ho53.lt;have hB57 := hb_wr hB49 ho45 (by omega) hx54;have hk58 := blk_wr hk50 ho45 (by decide) (by omega) hx54;refine d1 5 s rfl rfl (op_call (args := #[pt b43 0, .string (putB c r l)]) (R := fun res xw => res = pt b43 0 ∧ OW b43 ((([] : List UInt8) ++ putL ts) ++ (putL ((putB c r l : ByteArray).size : Int) ++ (putB c r l : ByteArray).data.toList)) (0 + 9 + (9 + (putB c r l : ByteArray).size)) xw ∧ But (Rw w52 b43) w52 xw) rfl rfl rfl (by kernel_rfl) (by kernel_rfl) (Tryz.call135 _ _) (ow_text b43 (([] : List UInt8) ++ putL ts) (0 + 9) (putB c r l) w52 ho53 (by first | omega | (simp; done) | (simp; omega))) (by rintro e x ⟨rfl, h1, h2⟩; exact ⟨_, rfl, rfl, h1, h2⟩)) ?_ ?_
  ·
   rintro _ w60 ⟨rfl, ho61, hx62⟩;have hz63 := hx62.size;have hl64 := ho61.lt;have hB65 := hb_wr hB57 ho53 (by omega) hx62;have hk66 := blk_wr hk58 ho53 (by decide) (by omega) hx62;exact ⟨hB65, hk66⟩
  rintro _ w60 a59 ⟨rfl, ho61, hx62⟩ s;have hz63 := hx62.size;have hl64 := ho61.lt;have hB65 := hb_wr hB57 ho53 (by omega) hx62;have hk66 := blk_wr hk58 ho53 (by decide) (by omega) hx62;refine d1 6 s rfl rfl (op_call (args := #[pt b43 0]) (R := fun res xw => res = .tuple #[.string (⟨((([] : List UInt8) ++ putL ts) ++ (putL ((putB c r l : ByteArray).size : Int) ++ (putB c r l : ByteArray).data.toList)).toArray⟩), .int .i64 0] ∧ Below w60.heap.size w60 xw) rfl rfl rfl (by kernel_rfl) (by kernel_rfl) (Tryz.call93 _ _) (ow_done b43 ((([] : List UInt8) ++ putL ts) ++ (putL ((putB c r l : ByteArray).size : Int) ++ (putB c r l : ByteArray).data.toList)) (0 + 9 + (9 + (putB c r l : ByteArray).size)) w60 ho61) (by rintro e x ⟨rfl, h2⟩; exact ⟨_, rfl, rfl, h2⟩)) ?_ ?_
  ·
   rintro _ w68 ⟨rfl, hb69⟩;have hz70 := hb69.size;have hB71 := hb_call hB65 hb69;have hk72 := hk66.below hb69;exact ⟨hB71, hk72⟩
  rintro _ w68 a67 ⟨rfl, hb69⟩ s;have hz70 := hb69.size;have hB71 := hb_call hB65 hb69;have hk72 := hk66.below hb69;refine dk0 7 (v := .string (⟨((([] : List UInt8) ++ putL ts) ++ (putL ((putB c r l : ByteArray).size : Int) ++ (putB c r l : ByteArray).data.toList)).toArray⟩)) s rfl rfl ⟨hB71, hk72⟩ fun _ s => ?_;refine dk0 8 (v := .int .i64 0) s rfl rfl ⟨hB71, hk72⟩ fun _ s => ?_;refine dk0 9 (v := .string (⟨((([] : List UInt8) ++ putL ts) ++ (putL ((putB c r l : ByteArray).size : Int) ++ (putB c r l : ByteArray).data.toList)).toArray⟩)) s rfl rfl ⟨hB71, hk72⟩ fun _ s => ?_;refine dk0 10 (v := .int .i64 0) s rfl rfl ⟨hB71, hk72⟩ fun _ s => ?_;refine dr_done (by kernel_rfl) ?_;refine co_then <| wp_ret ?_;refine co_ret2 s rfl rfl rfl ?_;exact ⟨by rw [putE_ok (by omega), show chkB c r l = 0 by omega]; simp [putEL], hB71⟩
 rw [hc25] at s;have hp77 : chkB c r l ≠ 0 := by first | simpa using hc25 | simpa [and_assoc] using hc25
 refine co_true s rfl <| q2 ?_;refine pk0 (v := .int .i64 (chkB c r l)) s rfl fun _ s => ?_;refine pk0 (v := .string (⟨#[]⟩)) s rfl fun _ s => ?_;refine pk0 (v := .int .i64 (chkB c r l)) s rfl fun _ s => q5 ?_;refine co_ret2 s rfl rfl rfl ?_;exact ⟨by rw [putE_err (by assumption)], hB26⟩
end Go.Proofs.YtifknllhmbkkcaaGreat

/- A text's bytes, by the index. Conditions: none. -/
namespace Go.Proofs.YtifknllhmbkkcaaGreat
open Go.RowKit Go.PlainAid Go.ChangeMaps
def byteAt (s : ByteArray) (i : Nat) : Int := ((s.data[i]?.getD 0).toNat : Int)
section
variable {P : Program} {n : Nat} {m : List (Nat × Value)} {w x : World} {o : Oper} {r pos : Nat} {s : ByteArray} {q : Operand} {t : TypeId}
end
end Go.Proofs.YtifknllhmbkkcaaGreat

/- A range over a text: the call's own place among its bytes. Conditions: the bytes are below 128. -/
namespace Go.Proofs.YtifknllhmbkkcaaGreat
open Go.RowKit Go.PlainAid Go.ChangeMaps
def SIt (w : World) (r : Nat) (s : ByteArray) (pos : Nat) : Prop := w.heap[r]? = some (.stringIter s pos)
def Ascii (s : ByteArray) : Prop := ∀ i (h : i < s.size), (s[i]'h).toNat < 128
section
variable {P : Program} {n : Nat} {m : List (Nat × Value)} {w x : World} {o : Oper} {r pos : Nat} {s : ByteArray} {q : Operand} {t : TypeId}
theorem SIt.lt (h : SIt w r s pos) : r < w.heap.size := (Array.getElem?_eq_some_iff.1 (show w.heap[r]? = _ from h)).1
theorem SIt.kept {row : Option Nat} (h : SIt w r s pos) (hg : w.grownBy x row) (h2 : row ≠ some r) : SIt x r s pos := by
  unfold SIt; rw [hg.block r h.lt (fun e => h2 e.symm)]; exact h
theorem SIt.row {B' : Nat} {T : TypeId} {sz k : Nat} {v : Value} {xs : List Value} (h : SIt w r s pos) (hr : w.ownsRow B' T sz v k xs) : v.ownBlock ≠ some r := by
  intro e
  obtain ⟨_, h2⟩ := hr
  rcases h2 with h2 | ⟨g, cap, cur, hv, hg, hh, _⟩
  · rw [h2.1] at e; simp [Value.ownBlock] at e
  · rw [hv] at e
    simp only [Value.ownBlock, Option.some.injEq] at e
    subst e
    rw [show w.heap[g]? = _ from h] at hh; cases hh
theorem SIt.but {S : Nat → Prop} (h : SIt w r s pos) (hb : But S w x) (hn : ¬ S r) : SIt x r s pos := by
  unfold SIt; rw [hb.block r h.lt hn]; exact h
theorem op_rangeS (ho : o.op = .range t q) (hq : ev m q = some (.string s)) (ht : P.underlying t = some .string) :
    Op1 P n m o w (fun u x => ∃ r, u = .pointer (some ⟨r, 0, none⟩) ∧ r = w.heap.size ∧ SIt x r s 0 ∧ x.heap.size = r + 1 ∧ w.grownBy x none) := by
  intro ac ha N Q hN
  unfold Oper.wp execOp
  simp only [ho, ha.ev hq, Sem.run_bind, run_range_string w t s ht, Result.andThen_ok, Sem.run_pure]
  have hgr := World.grownBy_alloc w (.stringIter s 0) none
  refine hN _ _ ⟨w.heap.size, rfl, rfl, w.iter_heap s 0, ?_, hgr⟩
  show (w.heap.push _).size = _
  rw [Array.size_push]
theorem op_nextS (ho : o.op = .next q true) (hq : ev m q = some (.pointer (some ⟨r, 0, none⟩))) (h : SIt w r s pos) (ha : Ascii s) :
    Op1 P n m o w (fun u x => (s.size ≤ pos ∧ u = .tuple #[.bool false] ∧ w = x) ∨
      (pos < s.size ∧ u = .tuple #[.bool true, .int .i64 ((pos : Nat) : Int), .int .i32 (byteAt s pos)] ∧ SIt x r s (pos + 1) ∧ x.heap.size = w.heap.size ∧ w.grownBy x (some r))) := by
  intro ac hac N Q hN
  have hr : w.heap[r]? = some (.stringIter s pos) := h
  unfold Oper.wp execOp
  simp only [ho, hac.ev hq, Sem.run_bind]
  have hg : (getObj r).run P w = .ok (.stringIter s pos) w := by simp [getObj, Sem.run, hr]
  by_cases hp : pos < s.size
  · have hset := Go.MapKept.heap_set (o' := .stringIter s (pos + 1)) hr
    have hb : byteAt s pos = ((s[pos]'hp).toNat : Int) := by
      unfold byteAt
      have : s.data[pos]? = some (s[pos]'hp) := Array.getElem?_eq_getElem hp
      rw [this]; rfl
    have hrun : (Instr.next (.pointer (some ⟨r, 0, none⟩)) true o.type).run P w = .ok (.tuple #[.bool true, .int .i64 ((pos : Nat) : Int), .int .i32 (byteAt s pos)]) (setBlock w r (.stringIter s (pos + 1))) := by
      rw [hb]
      simp only [Instr.next, Sem.run_bind, hg, Result.andThen_ok, hp, if_true, decode_ascii s pos hp (ha pos hp)]
      simp [goInt, setObj, Sem.run, setBlock, hr]
    simp only [hrun, Result.andThen_ok, Sem.run_pure]
    have hgr : w.grownBy (setBlock w r (.stringIter s (pos + 1))) (some r) := ⟨rfl, rfl, rfl, by simp [setBlock], fun k _ hk => hset.2 k (fun e1 => hk (by rw [e1]))⟩
    exact hN _ _ (.inr ⟨hp, rfl, hset.1, by simp [setBlock], hgr⟩)
  · have hrun : (Instr.next (.pointer (some ⟨r, 0, none⟩)) true o.type).run P w = .ok (.tuple #[.bool false]) w := by
      simp only [Instr.next, Sem.run_bind, hg, Result.andThen_ok, hp, if_false]
      simp [Sem.run]
    simp only [hrun, Result.andThen_ok, Sem.run_pure]
    exact hN _ _ (.inl ⟨by omega, rfl, rfl⟩)
end
end Go.Proofs.YtifknllhmbkkcaaGreat

/- Package mess: parts, numbers, lists checked. Conditions: none. -/
namespace Go.Proofs.YtifknllhmbkkcaaGreat
open Go.RowKit Go.PlainAid
set_option linter.unusedVariables false


abbrev PrT := ByteArray × ByteArray
def prE (y : PrT) : List Value := [.string y.1, .string y.2]
/-- A message, without where its lists lie. -/
structure MsgD where
  k : Int
  ep : Int
  rq : Int
  sr : Int
  fg : Bool
  at_ : Int
  la : Int
  n : Int
  m : Int
  p : Int
  e : Int
  key : ByteArray
  to_ : ByteArray
  cep : Int
  cms : List MemT
  cfl : Int
  bc : Int
  br : Int
  bl : List OpT
  en : List EntT
  st : List Int
  pr : List PrT
/-- What is known of a message that may be. -/
structure MsgR (d : MsgD) : Prop where
  mem : ∀ m ∈ d.cms, memOk m
  rng : (-9223372036854775808 ≤ d.cep ∧ d.cep ≤ 9223372036854775807) ∧ (0 ≤ d.cfl ∧ d.cfl < 18446744073709551616) ∧ (0 ≤ d.at_ ∧ d.at_ < 18446744073709551616) ∧ (0 ≤ d.la ∧ d.la < 18446744073709551616)
  st : ∀ t ∈ d.st, 0 ≤ t ∧ t < 18446744073709551616
/-- The parts of a kind, by the program's letters; by the document's. -/
def ptL (k : Int) : List UInt8 := if k = 1 then [67, 97] else if k = 2 then [101, 115, 102, 97, 108] else if k = 3 then [101, 110, 109, 112, 113, 97, 76] else if k = 4 then [101, 110, 109, 112, 83] else if k = 5 then [101, 66] else if k = 6 ∨ k = 11 then [113, 97] else if k = 7 then [113, 120, 101, 110] else if k = 8 then [113, 107, 97] else if k = 9 then [113, 107, 116, 97, 110] else if k = 10 then [113, 107, 97, 102, 82] else if k = 12 ∨ k = 13 ∨ k = 14 then [113, 110] else []
def pstr (k : Int) : ByteArray := ⟨(ptL k).toArray⟩
def numP (d : MsgD) (p : Int) : Int := if p = 101 then d.ep else if p = 115 then d.sr else if p = 113 then d.rq else if p = 110 then d.n else if p = 109 then d.m else if p = 112 then d.p else d.e
theorem np_1 {d : MsgD} {p : Int} (h : p = 101) : d.ep = numP d p := by unfold numP; rw [if_pos h]
theorem np_2 {d : MsgD} {p : Int} (h : p = 115) : d.sr = numP d p := by unfold numP; rw [if_neg (by omega), if_pos h]
theorem np_3 {d : MsgD} {p : Int} (h : p = 113) : d.rq = numP d p := by unfold numP; rw [if_neg (by omega), if_neg (by omega), if_pos h]
theorem np_4 {d : MsgD} {p : Int} (h : p = 110) : d.n = numP d p := by unfold numP; rw [if_neg (by omega), if_neg (by omega), if_neg (by omega), if_pos h]
theorem np_5 {d : MsgD} {p : Int} (h : p = 109) : d.m = numP d p := by unfold numP; rw [if_neg (by omega), if_neg (by omega), if_neg (by omega), if_neg (by omega), if_pos h]
theorem np_6 {d : MsgD} {p : Int} (h : p = 112) : d.p = numP d p := by unfold numP; rw [if_neg (by omega), if_neg (by omega), if_neg (by omega), if_neg (by omega), if_neg (by omega), if_pos h]
theorem np_7 {d : MsgD} {p : Int} (h : ¬ (p = 101 ∨ p = 115 ∨ p = 113 ∨ p = 110 ∨ p = 109 ∨ p = 112)) : d.e = numP d p := by unfold numP; rw [if_neg (by omega), if_neg (by omega), if_neg (by omega), if_neg (by omega), if_neg (by omega), if_neg (by omega)]
def chkF {α : Type} (f : α → Int) : List α → Int
  | [] => 0
  | x :: r => if f x ≠ 0 then f x else chkF f r
def chkLs {α : Type} (most : Int) (f : α → Int) (l : List α) : Int := if (l.length : Int) > most then 6 else chkF f l
theorem dropM {α : Type} {l : List α} {i : Nat} {y : α} (h : l[i]? = some y) : l.drop i = y :: l.drop (i + 1) := by
  obtain ⟨hi, rfl⟩ := List.getElem?_eq_some_iff.1 h
  exact List.drop_eq_getElem_cons hi
theorem cF_step {α : Type} {f : α → Int} {l : List α} {i : Nat} {y : α} {z : Int} (h : chkF f (l.drop i) = z) (hy : l[i]? = some y) (hc : f y = 0) : chkF f (l.drop (i + 1)) = z := by
  rw [dropM hy] at h; unfold chkF at h; rw [if_neg (by omega)] at h; exact h
theorem cF_bad {α : Type} {f : α → Int} {l : List α} {i : Nat} {y : α} {z : Int} (h : chkF f (l.drop i) = z) (hy : l[i]? = some y) (hc : f y ≠ 0) : f y = z := by
  rw [dropM hy] at h; unfold chkF at h; rwa [if_pos hc] at h
theorem cF_end {α : Type} {f : α → Int} {l : List α} {i : Nat} {z : Int} (h : chkF f (l.drop i) = z) (hi : l.length ≤ i) : 0 = z := by
  rw [List.drop_eq_nil_of_le hi] at h; simpa [chkF] using h
def chkPair (y : PrT) : Int := if keyC y.1 ≠ 0 then keyC y.1 else if (y.2.size : Int) > 8 then 3 else 0
def chkEn (e : EntT) : Int := chkB e.client e.req e.opl
def chkSt (_ : Int) : Int := 0
def numL (p : Int) : Prop := p = 101 ∨ p = 115 ∨ p = 113 ∨ p = 110 ∨ p = 109 ∨ p = 112
instance (p : Int) : Decidable (numL p) := by unfold numL; infer_instance
def chkP (d : MsgD) (p : Int) : Int :=
  if p = 120 then (if d.e < 0 ∨ d.e > 21 then 1 else 0)
  else if numL p then (if numP d p < 0 ∨ numP d p > 1073741824 then 5 else 0)
  else if p = 107 then (if (d.key.size : Int) > 8 then 3 else 0)
  else if p = 116 then (if (d.to_.size : Int) > 8 then 3 else 0)
  else if p = 67 then chkC d.cep d.cms
  else if p = 66 then chkB d.bc d.br d.bl
  else if p = 76 then chkLs 4 chkEn d.en
  else if p = 83 then chkLs 8 chkSt d.st
  else if p = 82 then chkLs 32 chkPair d.pr else 0

set_option maxRecDepth 100000 in
theorem mKnown_any (k : Int) (w : World)  :
    Calls Tryz.prog 70 #[.int .i64 k] w fun e w' => e = .returned (.bool (decide (1 ≤ k ∧ k ≤ 15))) ∧ Below w.heap.size w w' := by
 have hB0 := Below.refl w.heap.size w;refine co_enter (n := 9) Tryz.func70 rfl rfl rfl [(0, .int .i64 k)] rfl (fun a s => ?_);refine q2 ?_;refine pk0 (v := .bool false) s rfl fun _ s => q3 ?_;refine pk0 (v := .int .i64 k) s rfl fun _ s => ?_;refine pk0 (v := .bool (decide (k ≥ 1))) s rfl fun _ s => ?_;refine pk0 (v := .bool (decide (k ≥ 1))) s rfl fun _ s => ?_;cases hc5 : (decide (k ≥ 1))
 ·
  rw [hc5] at s;have hp6 : ¬ (k ≥ 1) := of_decide_eq_false hc5;refine psk s rfl fun _ s => ?_;refine psk s rfl fun _ s => ?_;refine pk0 (v := .bool false) s rfl fun _ s => ?_;refine pk0 (v := .bool false) s rfl fun _ s => q4 ?_;refine co_ret1 s rfl rfl ?_;exact ⟨ret_bool (by first | rfl | exact (decide_eq_true (by omega)).symm | exact (decide_eq_false (by omega)).symm | (rw [Bool.eq_iff_iff]; simp; omega)), hB0⟩
 rw [hc5] at s;have hp11 : k ≥ 1 := of_decide_eq_true hc5;refine pk0 (v := .int .i64 k) s rfl fun _ s => ?_;refine pk0 (v := .bool (decide (k ≤ 15))) s rfl fun _ s => ?_;refine pk0 (v := .bool (decide (k ≤ 15))) s rfl fun _ s => ?_;refine pk0 (v := .bool (decide (k ≤ 15))) s rfl fun _ s => q4 ?_;refine co_ret1 s rfl rfl ?_;exact ⟨ret_bool (by first | rfl | exact (decide_eq_true (by omega)).symm | exact (decide_eq_false (by omega)).symm | (rw [Bool.eq_iff_iff]; simp; omega)), hB0⟩
set_option maxRecDepth 100000 in
theorem mParts_any (k : Int) (w : World)  :
    Calls Tryz.prog 71 #[.int .i64 k] w fun e w' => e = .returned (.string (pstr k)) ∧ Below w.heap.size w w' := by
 have hB0 := Below.refl w.heap.size w;refine co_enter (n := 29) Tryz.func71 rfl rfl rfl [(0, .int .i64 k)] rfl (fun a s => ?_);refine q2 ?_;refine pk0 (v := .string (⟨#[]⟩)) s rfl fun _ s => q6 ?_;refine pk0 (v := .int .i64 k) s rfl fun _ s => q1 <| wp_block <| q2 ?_;refine pk0 (v := .bool (k == 1)) s rfl fun _ s => ?_;refine pk0 (v := .bool (k == 1)) s rfl fun _ s => q1 ?_;cases hc5 : (k == 1)
 ·
  rw [hc5] at s;have hp6 : ¬ (k = 1) := by first | simpa using hc5 | simpa [and_assoc] using hc5
  refine co_false s rfl <| q2 ?_;refine pk0 (v := .bool (k == 2)) s rfl fun _ s => ?_;refine pk0 (v := .bool (k == 2)) s rfl fun _ s => q1 ?_;cases hc9 : (k == 2)
  ·
   rw [hc9] at s;have hp10 : ¬ (k = 2) := by first | simpa using hc9 | simpa [and_assoc] using hc9
   refine co_false s rfl <| q2 ?_;refine pk0 (v := .bool (k == 3)) s rfl fun _ s => ?_;refine pk0 (v := .bool (k == 3)) s rfl fun _ s => q1 ?_;cases hc13 : (k == 3)
   ·
    rw [hc13] at s;have hp14 : ¬ (k = 3) := by first | simpa using hc13 | simpa [and_assoc] using hc13
    refine co_false s rfl <| q2 ?_;refine pk0 (v := .bool (k == 4)) s rfl fun _ s => ?_;refine pk0 (v := .bool (k == 4)) s rfl fun _ s => q1 ?_;cases hc17 : (k == 4)
    ·
     rw [hc17] at s;have hp18 : ¬ (k = 4) := by first | simpa using hc17 | simpa [and_assoc] using hc17
     refine co_false s rfl <| q2 ?_;refine pk0 (v := .bool (k == 5)) s rfl fun _ s => ?_;refine pk0 (v := .bool (k == 5)) s rfl fun _ s => q1 ?_;cases hc21 : (k == 5)
     ·
      rw [hc21] at s;have hp22 : ¬ (k = 5) := by first | simpa using hc21 | simpa [and_assoc] using hc21
      refine co_false s rfl <| q9 ?_;refine pk0 (v := .bool (k == 6)) s rfl fun _ s => ?_;refine pk0 (v := .bool (k == 6)) s rfl fun _ s => q1 ?_;cases hc25 : (k == 6)
      ·
       rw [hc25] at s;have hp26 : ¬ (k = 6) := by first | simpa using hc25 | simpa [and_assoc] using hc25
       refine co_false s rfl <| co_reg ?_;refine pk0 (v := .bool (k == 11)) s rfl fun _ s => ?_;refine pk0 (v := .bool (k == 11)) s rfl fun _ s => q1 ?_;cases hc29 : (k == 11)
       ·
        rw [hc29] at s;have hp30 : ¬ (k = 11) := by first | simpa using hc29 | simpa [and_assoc] using hc29
        refine co_false s rfl <| q2 ?_;refine pk0 (v := .bool (k == 7)) s rfl fun _ s => ?_;refine pk0 (v := .bool (k == 7)) s rfl fun _ s => q1 ?_;cases hc33 : (k == 7)
        ·
         rw [hc33] at s;have hp34 : ¬ (k = 7) := by first | simpa using hc33 | simpa [and_assoc] using hc33
         refine co_false s rfl <| q2 ?_;refine pk0 (v := .bool (k == 8)) s rfl fun _ s => ?_;refine pk0 (v := .bool (k == 8)) s rfl fun _ s => q1 ?_;cases hc37 : (k == 8)
         ·
          rw [hc37] at s;have hp38 : ¬ (k = 8) := by first | simpa using hc37 | simpa [and_assoc] using hc37
          refine co_false s rfl <| q2 ?_;refine pk0 (v := .bool (k == 9)) s rfl fun _ s => ?_;refine pk0 (v := .bool (k == 9)) s rfl fun _ s => q1 ?_;cases hc41 : (k == 9)
          ·
           rw [hc41] at s;have hp42 : ¬ (k = 9) := by first | simpa using hc41 | simpa [and_assoc] using hc41
           refine co_false s rfl <| q2 ?_;refine pk0 (v := .bool (k == 10)) s rfl fun _ s => ?_;refine pk0 (v := .bool (k == 10)) s rfl fun _ s => q1 ?_;cases hc45 : (k == 10)
           ·
            rw [hc45] at s;have hp46 : ¬ (k = 10) := by first | simpa using hc45 | simpa [and_assoc] using hc45
            refine co_false s rfl <| q9 ?_;refine pk0 (v := .bool (k == 12)) s rfl fun _ s => ?_;refine pk0 (v := .bool (k == 12)) s rfl fun _ s => q1 ?_;cases hc49 : (k == 12)
            ·
             rw [hc49] at s;have hp50 : ¬ (k = 12) := by first | simpa using hc49 | simpa [and_assoc] using hc49
             refine co_false s rfl <| q2 ?_;refine pk0 (v := .bool (k == 13)) s rfl fun _ s => ?_;refine pk0 (v := .bool (k == 13)) s rfl fun _ s => q1 ?_;cases hc53 : (k == 13)
             ·
              rw [hc53] at s;have hp54 : ¬ (k = 13) := by first | simpa using hc53 | simpa [and_assoc] using hc53
              refine co_false s rfl <| co_reg ?_;refine pk0 (v := .bool (k == 14)) s rfl fun _ s => ?_;refine pk0 (v := .bool (k == 14)) s rfl fun _ s => q1 ?_;cases hc57 : (k == 14)
              ·
               rw [hc57] at s;have hp58 : ¬ (k = 14) := by first | simpa using hc57 | simpa [and_assoc] using hc57
               refine co_false s rfl <| wp_skip <| co_blockN <| co_then <| q2 ?_;refine pk0 (v := .string (⟨#[]⟩)) s rfl fun _ s => q4 ?_;refine co_ret1 s rfl rfl ?_;exact ⟨by rw [show pstr k = ⟨#[]⟩ by unfold pstr ptL; first | (rw [if_pos (by omega)]; done) | (simp (config := {decide := true}) only [show ¬ k = 1 by omega, if_false]; simp_all; done) | (repeat (first | rw [if_pos (by omega)] | rw [if_neg (by omega)]))], hB0⟩
              rw [hc57] at s;have hp60 : k = 14 := by first | simpa using hc57 | simpa [and_assoc] using hc57
              refine co_true s rfl <| q2 ?_;refine pk0 (v := .string (⟨#[113, 110]⟩)) s rfl fun _ s => q4 <| qr ?_;refine co_ret1 s rfl rfl ?_;exact ⟨by rw [show pstr k = ⟨#[113, 110]⟩ by unfold pstr ptL; first | (rw [if_pos (by omega)]; done) | (simp (config := {decide := true}) only [show ¬ k = 1 by omega, if_false]; simp_all; done) | (repeat (first | rw [if_pos (by omega)] | rw [if_neg (by omega)]))], hB0⟩
             rw [hc53] at s;have hp62 : k = 13 := by first | simpa using hc53 | simpa [and_assoc] using hc53
             refine co_true s rfl <| q0 ?_;refine co_true s rfl <| q2 ?_;refine pk0 (v := .string (⟨#[113, 110]⟩)) s rfl fun _ s => q4 <| qr ?_;refine co_ret1 s rfl rfl ?_;exact ⟨by rw [show pstr k = ⟨#[113, 110]⟩ by unfold pstr ptL; first | (rw [if_pos (by omega)]; done) | (simp (config := {decide := true}) only [show ¬ k = 1 by omega, if_false]; simp_all; done) | (repeat (first | rw [if_pos (by omega)] | rw [if_neg (by omega)]))], hB0⟩
            rw [hc49] at s;have hp64 : k = 12 := by first | simpa using hc49 | simpa [and_assoc] using hc49
            refine co_true s rfl <| q0 ?_;refine co_true s rfl <| q2 ?_;refine pk0 (v := .string (⟨#[113, 110]⟩)) s rfl fun _ s => q4 <| qr ?_;refine co_ret1 s rfl rfl ?_;exact ⟨by rw [show pstr k = ⟨#[113, 110]⟩ by unfold pstr ptL; first | (rw [if_pos (by omega)]; done) | (simp (config := {decide := true}) only [show ¬ k = 1 by omega, if_false]; simp_all; done) | (repeat (first | rw [if_pos (by omega)] | rw [if_neg (by omega)]))], hB0⟩
           rw [hc45] at s;have hp66 : k = 10 := by first | simpa using hc45 | simpa [and_assoc] using hc45
           refine co_true s rfl <| q2 ?_;refine pk0 (v := .string (⟨#[113, 107, 97, 102, 82]⟩)) s rfl fun _ s => q4 <| qr ?_;refine co_ret1 s rfl rfl ?_;exact ⟨by rw [show pstr k = ⟨#[113, 107, 97, 102, 82]⟩ by unfold pstr ptL; first | (rw [if_pos (by omega)]; done) | (simp (config := {decide := true}) only [show ¬ k = 1 by omega, if_false]; simp_all; done) | (repeat (first | rw [if_pos (by omega)] | rw [if_neg (by omega)]))], hB0⟩
          rw [hc41] at s;have hp68 : k = 9 := by first | simpa using hc41 | simpa [and_assoc] using hc41
          refine co_true s rfl <| q2 ?_;refine pk0 (v := .string (⟨#[113, 107, 116, 97, 110]⟩)) s rfl fun _ s => q4 <| qr ?_;refine co_ret1 s rfl rfl ?_;exact ⟨by rw [show pstr k = ⟨#[113, 107, 116, 97, 110]⟩ by unfold pstr ptL; first | (rw [if_pos (by omega)]; done) | (simp (config := {decide := true}) only [show ¬ k = 1 by omega, if_false]; simp_all; done) | (repeat (first | rw [if_pos (by omega)] | rw [if_neg (by omega)]))], hB0⟩
         rw [hc37] at s;have hp70 : k = 8 := by first | simpa using hc37 | simpa [and_assoc] using hc37
         refine co_true s rfl <| q2 ?_;refine pk0 (v := .string (⟨#[113, 107, 97]⟩)) s rfl fun _ s => q4 <| qr ?_;refine co_ret1 s rfl rfl ?_;exact ⟨by rw [show pstr k = ⟨#[113, 107, 97]⟩ by unfold pstr ptL; first | (rw [if_pos (by omega)]; done) | (simp (config := {decide := true}) only [show ¬ k = 1 by omega, if_false]; simp_all; done) | (repeat (first | rw [if_pos (by omega)] | rw [if_neg (by omega)]))], hB0⟩
        rw [hc33] at s;have hp72 : k = 7 := by first | simpa using hc33 | simpa [and_assoc] using hc33
        refine co_true s rfl <| q2 ?_;refine pk0 (v := .string (⟨#[113, 120, 101, 110]⟩)) s rfl fun _ s => q4 <| qr ?_;refine co_ret1 s rfl rfl ?_;exact ⟨by rw [show pstr k = ⟨#[113, 120, 101, 110]⟩ by unfold pstr ptL; first | (rw [if_pos (by omega)]; done) | (simp (config := {decide := true}) only [show ¬ k = 1 by omega, if_false]; simp_all; done) | (repeat (first | rw [if_pos (by omega)] | rw [if_neg (by omega)]))], hB0⟩
       rw [hc29] at s;have hp74 : k = 11 := by first | simpa using hc29 | simpa [and_assoc] using hc29
       refine co_true s rfl <| q2 ?_;refine pk0 (v := .string (⟨#[113, 97]⟩)) s rfl fun _ s => q4 <| qr ?_;refine co_ret1 s rfl rfl ?_;exact ⟨by rw [show pstr k = ⟨#[113, 97]⟩ by unfold pstr ptL; first | (rw [if_pos (by omega)]; done) | (simp (config := {decide := true}) only [show ¬ k = 1 by omega, if_false]; simp_all; done) | (repeat (first | rw [if_pos (by omega)] | rw [if_neg (by omega)]))], hB0⟩
      rw [hc25] at s;have hp76 : k = 6 := by first | simpa using hc25 | simpa [and_assoc] using hc25
      refine co_true s rfl <| q0 ?_;refine co_true s rfl <| q2 ?_;refine pk0 (v := .string (⟨#[113, 97]⟩)) s rfl fun _ s => q4 <| qr ?_;refine co_ret1 s rfl rfl ?_;exact ⟨by rw [show pstr k = ⟨#[113, 97]⟩ by unfold pstr ptL; first | (rw [if_pos (by omega)]; done) | (simp (config := {decide := true}) only [show ¬ k = 1 by omega, if_false]; simp_all; done) | (repeat (first | rw [if_pos (by omega)] | rw [if_neg (by omega)]))], hB0⟩
     rw [hc21] at s;have hp78 : k = 5 := by first | simpa using hc21 | simpa [and_assoc] using hc21
     refine co_true s rfl <| q2 ?_;refine pk0 (v := .string (⟨#[101, 66]⟩)) s rfl fun _ s => q4 <| qr ?_;refine co_ret1 s rfl rfl ?_;exact ⟨by rw [show pstr k = ⟨#[101, 66]⟩ by unfold pstr ptL; first | (rw [if_pos (by omega)]; done) | (simp (config := {decide := true}) only [show ¬ k = 1 by omega, if_false]; simp_all; done) | (repeat (first | rw [if_pos (by omega)] | rw [if_neg (by omega)]))], hB0⟩
    rw [hc17] at s;have hp80 : k = 4 := by first | simpa using hc17 | simpa [and_assoc] using hc17
    refine co_true s rfl <| q2 ?_;refine pk0 (v := .string (⟨#[101, 110, 109, 112, 83]⟩)) s rfl fun _ s => q4 <| qr ?_;refine co_ret1 s rfl rfl ?_;exact ⟨by rw [show pstr k = ⟨#[101, 110, 109, 112, 83]⟩ by unfold pstr ptL; first | (rw [if_pos (by omega)]; done) | (simp (config := {decide := true}) only [show ¬ k = 1 by omega, if_false]; simp_all; done) | (repeat (first | rw [if_pos (by omega)] | rw [if_neg (by omega)]))], hB0⟩
   rw [hc13] at s;have hp82 : k = 3 := by first | simpa using hc13 | simpa [and_assoc] using hc13
   refine co_true s rfl <| q2 ?_;refine pk0 (v := .string (⟨#[101, 110, 109, 112, 113, 97, 76]⟩)) s rfl fun _ s => q4 <| qr ?_;refine co_ret1 s rfl rfl ?_;exact ⟨by rw [show pstr k = ⟨#[101, 110, 109, 112, 113, 97, 76]⟩ by unfold pstr ptL; first | (rw [if_pos (by omega)]; done) | (simp (config := {decide := true}) only [show ¬ k = 1 by omega, if_false]; simp_all; done) | (repeat (first | rw [if_pos (by omega)] | rw [if_neg (by omega)]))], hB0⟩
  rw [hc9] at s;have hp84 : k = 2 := by first | simpa using hc9 | simpa [and_assoc] using hc9
  refine co_true s rfl <| q2 ?_;refine pk0 (v := .string (⟨#[101, 115, 102, 97, 108]⟩)) s rfl fun _ s => q4 <| qr ?_;refine co_ret1 s rfl rfl ?_;exact ⟨by rw [show pstr k = ⟨#[101, 115, 102, 97, 108]⟩ by unfold pstr ptL; first | (rw [if_pos (by omega)]; done) | (simp (config := {decide := true}) only [show ¬ k = 1 by omega, if_false]; simp_all; done) | (repeat (first | rw [if_pos (by omega)] | rw [if_neg (by omega)]))], hB0⟩
 rw [hc5] at s;have hp86 : k = 1 := by first | simpa using hc5 | simpa [and_assoc] using hc5
 refine co_true s rfl <| q2 ?_;refine pk0 (v := .string (⟨#[67, 97]⟩)) s rfl fun _ s => q4 <| qr ?_;refine co_ret1 s rfl rfl ?_;exact ⟨by rw [show pstr k = ⟨#[67, 97]⟩ by unfold pstr ptL; first | (rw [if_pos (by omega)]; done) | (simp (config := {decide := true}) only [show ¬ k = 1 by omega, if_false]; simp_all; done) | (repeat (first | rw [if_pos (by omega)] | rw [if_neg (by omega)]))], hB0⟩
set_option maxRecDepth 100000 in
theorem mNumber_any (B : Nat) (d : MsgD) (mv : Value) (bv : Value) (ev : Value) (sv : Value) (pv : Value) (p : Int) (w : World) (hB : Blk w B 65 #[.int .i64 d.k, .int .i64 d.ep, .int .i64 d.rq, .int .i64 d.sr, .bool d.fg, .int .u64 d.at_, .int .u64 d.la, .int .i64 d.n, .int .i64 d.m, .int .i64 d.p, .int .i64 d.e, .string d.key, .string d.to_, .int .i64 d.cep, mv, .int .u64 d.cfl, .int .i64 d.bc, .int .i64 d.br, bv, ev, sv, pv]) (hm : SliceOf memE 2 w mv d.cms) (hb : SliceOf opE 3 w bv d.bl) (he : SliceOf entE 4 w ev d.en) (ht : SliceOf (intE .u64) 1 w sv d.st) (hp : SliceOf prE 2 w pv d.pr) :
    Calls Tryz.prog 139 #[pt B 0, .int .i32 p] w fun e w' => e = .returned (.int .i64 (numP d p)) ∧ Below w.heap.size w w' := by
 have hB0 := Below.refl w.heap.size w;have hl_hB := hB.lt;have hl_hm := sl_len hm;have hl_hb := sl_len hb;have hl_he := sl_len he;have hl_ht := sl_len ht;have hl_hp := sl_len hp;refine co_enter (n := 46) Tryz.func139 rfl rfl rfl [(0, pt B 0), (1, .int .i32 p)] rfl (fun a s => ?_);refine q2 ?_;refine pk0 (v := .int .i64 0) s rfl fun _ s => q6 ?_;refine pk0 (v := .int .i32 p) s rfl fun _ s => q1 <| wp_block <| q2 ?_;refine pk0 (v := .bool (p == 101)) s rfl fun _ s => ?_;refine pk0 (v := .bool (p == 101)) s rfl fun _ s => q1 ?_;cases hc5 : (p == 101)
 ·
  rw [hc5] at s;have hp6 : ¬ (p = 101) := by first | simpa using hc5 | simpa [and_assoc] using hc5
  refine co_false s rfl <| q2 ?_;refine pk0 (v := .bool (p == 115)) s rfl fun _ s => ?_;refine pk0 (v := .bool (p == 115)) s rfl fun _ s => q1 ?_;cases hc9 : (p == 115)
  ·
   rw [hc9] at s;have hp10 : ¬ (p = 115) := by first | simpa using hc9 | simpa [and_assoc] using hc9
   refine co_false s rfl <| q2 ?_;refine pk0 (v := .bool (p == 113)) s rfl fun _ s => ?_;refine pk0 (v := .bool (p == 113)) s rfl fun _ s => q1 ?_;cases hc13 : (p == 113)
   ·
    rw [hc13] at s;have hp14 : ¬ (p = 113) := by first | simpa using hc13 | simpa [and_assoc] using hc13
    refine co_false s rfl <| q2 ?_;refine pk0 (v := .bool (p == 110)) s rfl fun _ s => ?_;refine pk0 (v := .bool (p == 110)) s rfl fun _ s => q1 ?_;cases hc17 : (p == 110)
    ·
     rw [hc17] at s;have hp18 : ¬ (p = 110) := by first | simpa using hc17 | simpa [and_assoc] using hc17
     refine co_false s rfl <| q2 ?_;refine pk0 (v := .bool (p == 109)) s rfl fun _ s => ?_;refine pk0 (v := .bool (p == 109)) s rfl fun _ s => q1 ?_;cases hc21 : (p == 109)
     ·
      rw [hc21] at s;have hp22 : ¬ (p = 109) := by first | simpa using hc21 | simpa [and_assoc] using hc21
      refine co_false s rfl <| q2 ?_;refine pk0 (v := .bool (p == 112)) s rfl fun _ s => ?_;refine pk0 (v := .bool (p == 112)) s rfl fun _ s => q1 ?_;cases hc25 : (p == 112)
      ·
       rw [hc25] at s;have hp26 : ¬ (p = 112) := by first | simpa using hc25 | simpa [and_assoc] using hc25
       refine co_false s rfl <| wp_skip <| co_blockN <| co_then <| q2 ?_;refine pk0 (v := pt B 0) s rfl fun _ s => ?_;refine pk0 (v := pt B 0) s rfl fun _ s => ?_;refine pk0 (v := pt B 10) s rfl fun _ s => ?_;refine pk (v := .int .i64 d.e) s rfl (rn_load1 rfl rfl Tryz.isAgg26 (hB.cell rfl)) fun _ s => ?_;refine pk0 (v := .int .i64 d.e) s rfl fun _ s => q4 ?_;refine co_ret1 s rfl rfl ?_;exact ⟨ret_int (np_7 (by omega)), hB0⟩
      rw [hc25] at s;have hp32 : p = 112 := by first | simpa using hc25 | simpa [and_assoc] using hc25
      refine co_true s rfl <| q2 ?_;refine pk0 (v := pt B 0) s rfl fun _ s => ?_;refine pk0 (v := pt B 0) s rfl fun _ s => ?_;refine pk0 (v := pt B 9) s rfl fun _ s => ?_;refine pk (v := .int .i64 d.p) s rfl (rn_load1 rfl rfl Tryz.isAgg3 (hB.cell rfl)) fun _ s => ?_;refine pk0 (v := .int .i64 d.p) s rfl fun _ s => q4 <| qr ?_;refine co_ret1 s rfl rfl ?_;exact ⟨ret_int (np_6 (by omega)), hB0⟩
     rw [hc21] at s;have hp38 : p = 109 := by first | simpa using hc21 | simpa [and_assoc] using hc21
     refine co_true s rfl <| q2 ?_;refine pk0 (v := pt B 0) s rfl fun _ s => ?_;refine pk0 (v := pt B 0) s rfl fun _ s => ?_;refine pk0 (v := pt B 8) s rfl fun _ s => ?_;refine pk (v := .int .i64 d.m) s rfl (rn_load1 rfl rfl Tryz.isAgg3 (hB.cell rfl)) fun _ s => ?_;refine pk0 (v := .int .i64 d.m) s rfl fun _ s => q4 <| qr ?_;refine co_ret1 s rfl rfl ?_;exact ⟨ret_int (np_5 (by omega)), hB0⟩
    rw [hc17] at s;have hp44 : p = 110 := by first | simpa using hc17 | simpa [and_assoc] using hc17
    refine co_true s rfl <| q2 ?_;refine pk0 (v := pt B 0) s rfl fun _ s => ?_;refine pk0 (v := pt B 0) s rfl fun _ s => ?_;refine pk0 (v := pt B 7) s rfl fun _ s => ?_;refine pk (v := .int .i64 d.n) s rfl (rn_load1 rfl rfl Tryz.isAgg3 (hB.cell rfl)) fun _ s => ?_;refine pk0 (v := .int .i64 d.n) s rfl fun _ s => q4 <| qr ?_;refine co_ret1 s rfl rfl ?_;exact ⟨ret_int (np_4 (by omega)), hB0⟩
   rw [hc13] at s;have hp50 : p = 113 := by first | simpa using hc13 | simpa [and_assoc] using hc13
   refine co_true s rfl <| q2 ?_;refine pk0 (v := pt B 0) s rfl fun _ s => ?_;refine pk0 (v := pt B 0) s rfl fun _ s => ?_;refine pk0 (v := pt B 2) s rfl fun _ s => ?_;refine pk (v := .int .i64 d.rq) s rfl (rn_load1 rfl rfl Tryz.isAgg3 (hB.cell rfl)) fun _ s => ?_;refine pk0 (v := .int .i64 d.rq) s rfl fun _ s => q4 <| qr ?_;refine co_ret1 s rfl rfl ?_;exact ⟨ret_int (np_3 (by omega)), hB0⟩
  rw [hc9] at s;have hp56 : p = 115 := by first | simpa using hc9 | simpa [and_assoc] using hc9
  refine co_true s rfl <| q2 ?_;refine pk0 (v := pt B 0) s rfl fun _ s => ?_;refine pk0 (v := pt B 0) s rfl fun _ s => ?_;refine pk0 (v := pt B 3) s rfl fun _ s => ?_;refine pk (v := .int .i64 d.sr) s rfl (rn_load1 rfl rfl Tryz.isAgg3 (hB.cell rfl)) fun _ s => ?_;refine pk0 (v := .int .i64 d.sr) s rfl fun _ s => q4 <| qr ?_;refine co_ret1 s rfl rfl ?_;exact ⟨ret_int (np_2 (by omega)), hB0⟩
 rw [hc5] at s;have hp62 : p = 101 := by first | simpa using hc5 | simpa [and_assoc] using hc5
 refine co_true s rfl <| q2 ?_;refine pk0 (v := pt B 0) s rfl fun _ s => ?_;refine pk0 (v := pt B 0) s rfl fun _ s => ?_;refine pk0 (v := pt B 1) s rfl fun _ s => ?_;refine pk (v := .int .i64 d.ep) s rfl (rn_load1 rfl rfl Tryz.isAgg3 (hB.cell rfl)) fun _ s => ?_;refine pk0 (v := .int .i64 d.ep) s rfl fun _ s => q4 <| qr ?_;refine co_ret1 s rfl rfl ?_;exact ⟨ret_int (np_1 (by omega)), hB0⟩
set_option maxRecDepth 100000 in
theorem mPair_any (y : PrT) (w : World)  :
    Calls Tryz.prog 160 #[.agg #[.string y.1, .string y.2]] w fun e w' => e = .returned (.int .i64 (chkPair y)) ∧ Below w.heap.size w w' := by
 have hB0 := Below.refl w.heap.size w;refine co_enter (n := 14) Tryz.func160 rfl rfl rfl [(0, .agg #[.string y.1, .string y.2])] rfl (fun a s => ?_);refine q2 ?_;refine pw s rfl (op_new (v := fun N => pt N 0) (T := 140) (cs := #[.string y.1, .string y.2]) (by kernel_rfl) (by kernel_rfl) (by kernel_rfl)) ?_;rintro _ w2 a1 ⟨N3, rfl, hN6, hz7, hk5, hg4⟩ s;have hz8 := hg4.size
 try dsimp only at s
 refine pk0 (v := .int .i64 0) s rfl fun _ s => q6 ?_;refine pk0 (v := pt N3 0) s rfl fun _ s => ?_;refine pk (v := .string y.1) s rfl (rn_load1 rfl rfl Tryz.isAgg9 (hk5.cell rfl)) fun _ s => ?_;refine pw s rfl (op_call (args := #[.string y.1]) (R := fun res xw => res = .int .i64 (keyC y.1) ∧ Below w2.heap.size w2 xw) rfl rfl rfl (by kernel_rfl) (by kernel_rfl) (Tryz.call88 _ _) (pKey_any y.1 w2 ) (by rintro e x ⟨rfl, hb14⟩; exact ⟨_, rfl, ⟨rfl, hb14⟩⟩)) ?_;rintro _ w13 a12 ⟨rfl, hb14⟩ s;have hz15 := hb14.size;refine pk0 (v := .int .i64 (keyC y.1)) s rfl fun _ s => q3 ?_;refine pk0 (v := .int .i64 (keyC y.1)) s rfl fun _ s => ?_;refine pk0 (v := .bool (keyC y.1 != 0)) s rfl fun _ s => q1 ?_;have hB20 := hb_new hB0 hg4;have hB21 := hb_call hB20 hb14;cases hc19 : (keyC y.1 != 0)
 ·
  rw [hc19] at s;have hp22 : ¬ (keyC y.1 ≠ 0) := by first | simpa using hc19 | simpa [and_assoc] using hc19
  refine co_false s rfl <| q8 ?_;refine pk0 (v := pt N3 1) s rfl fun _ s => ?_;have hk24 := hk5.below hb14;refine pk (v := .string y.2) s rfl (rn_load1 rfl rfl Tryz.isAgg9 (hk24.cell rfl)) fun _ s => ?_;refine pk (v := .int .i64 (y.2.size : Int)) s rfl (rn_lenStr rfl rfl Tryz.underlying9) fun _ s => ?_;refine pk0 (v := .bool (decide ((y.2.size : Int) > 8))) s rfl fun _ s => q1 ?_;cases hc28 : (decide ((y.2.size : Int) > 8))
  ·
   rw [hc28] at s;have hp29 : ¬ ((y.2.size : Int) > 8) := of_decide_eq_false hc28;refine co_false s rfl <| q7 ?_;refine pk0 (v := .int .i64 0) s rfl fun _ s => q4 ?_;refine co_ret1 s rfl rfl ?_;exact ⟨ret_int (by unfold chkPair; first | rw [if_pos (by assumption)] | (rw [if_neg (by omega), if_pos (by omega)]) | (rw [if_neg (by omega), if_neg (by omega)])), hB21⟩
  rw [hc28] at s;have hp31 : (y.2.size : Int) > 8 := of_decide_eq_true hc28;refine co_true s rfl <| q2 ?_;refine pk0 (v := .int .i64 3) s rfl fun _ s => q5 ?_;refine co_ret1 s rfl rfl ?_;exact ⟨ret_int (by unfold chkPair; first | rw [if_pos (by assumption)] | (rw [if_neg (by omega), if_pos (by omega)]) | (rw [if_neg (by omega), if_neg (by omega)])), hB21⟩
 rw [hc19] at s;have hp33 : keyC y.1 ≠ 0 := by first | simpa using hc19 | simpa [and_assoc] using hc19
 refine co_true s rfl <| q2 ?_;refine pk0 (v := .int .i64 (keyC y.1)) s rfl fun _ s => ?_;refine pk0 (v := .int .i64 (keyC y.1)) s rfl fun _ s => q5 ?_;refine co_ret1 s rfl rfl ?_;exact ⟨ret_int (by unfold chkPair; first | rw [if_pos (by assumption)] | (rw [if_neg (by omega), if_pos (by omega)]) | (rw [if_neg (by omega), if_neg (by omega)])), hB21⟩
set_option maxRecDepth 100000 in
theorem mStamp_any (y : Int) (w : World)  :
    Calls Tryz.prog 158 #[.int .u64 y] w fun e w' => e = .returned (.int .i64 (chkSt y)) ∧ Below w.heap.size w w' := by
 have hB0 := Below.refl w.heap.size w;refine co_enter (n := 3) Tryz.func158 rfl rfl rfl [(0, .int .u64 y)] rfl (fun a s => ?_);refine q2 ?_;refine pk0 (v := .int .i64 0) s rfl fun _ s => q3 ?_;refine pk0 (v := .int .i64 0) s rfl fun _ s => q4 ?_;refine co_ret1 s rfl rfl ?_;exact ⟨rfl, hB0⟩
set_option maxRecDepth 100000 in
theorem mListP_any (v : Value) (l : List PrT) (w : World) (hs : SliceOf prE 2 w v l) :
    Calls Tryz.prog 159 #[v, .int .i64 32, .func (.func 160) #[] #[]] w fun e w' => e = .returned (.int .i64 (chkLs 32 chkPair l)) ∧ Below w.heap.size w w' := by
 have hB0 := Below.refl w.heap.size w;have hl_hs := sl_len hs;refine co_enter (n := 27) Tryz.func159 rfl rfl rfl [(0, v), (1, .int .i64 32), (2, .func (.func 160) #[] #[])] rfl (fun a s => ?_);refine q2 ?_;refine pk0 (v := .int .i64 0) s rfl fun _ s => q6 ?_;refine pk0 (v := v) s rfl fun _ s => ?_;refine pk (v := .int .i64 (l.length : Int)) s rfl (rn_len rfl rfl Tryz.underlying48 hs) fun _ s => ?_;refine pk0 (v := .int .i64 32) s rfl fun _ s => ?_;refine pk0 (v := .bool (decide ((l.length : Int) > 32))) s rfl fun _ s => q1 ?_;cases hc6 : (decide ((l.length : Int) > 32))
 ·
  rw [hc6] at s;have hp7 : ¬ ((l.length : Int) > 32) := of_decide_eq_false hc6;refine co_false s rfl <| q8 ?_;refine pk0 (v := v) s rfl fun _ s => ?_;refine pk (v := .int .i64 (l.length : Int)) s rfl (rn_len rfl rfl Tryz.underlying48 hs) fun _ s => ?_;refine pk0 (v := .int .i64 0) s rfl fun _ s => q1 <| wp_block ?_;have s : Slots 27 [(0, v), (1, .int .i64 32), (2, .func (.func 160) #[] #[]), (6, .int .i64 0), (14, v), (15, .int .i64 (l.length : Int)), (16, .int .i64 0)] _ := s.sub ⟨rfl, rfl, rfl, rfl, rfl, rfl, rfl, trivial⟩;refine co_loop (fun mm a x => ∃ (i : Nat), Slots 27 [(0, v), (1, .int .i64 32), (2, .func (.func 160) #[] #[]), (6, .int .i64 0), (14, v), (15, .int .i64 (l.length : Int)), (16, .int .i64 (i : Int))] a ∧ mm = l.length - i ∧ (i ≤ l.length) ∧ (chkF chkPair (l.drop i) = chkF chkPair l) ∧ Below w.heap.size w x) (l.length - 0) ?_ ?_
  · exact ⟨0, s.sub ⟨rfl, rfl, rfl, rfl, rfl, rfl, (slot_eq rfl (congrArg (Value.int .i64) (by first | rfl | omega))), trivial⟩, rfl, by omega, by first | rfl | exact hL', hB0⟩
  · rintro k12 a13 w14 ⟨i, s, rfl, hi15, hi16, hB17⟩
    have hz18 := hB17.size;have hL : chkF chkPair (l.drop i) = chkF chkPair l := by assumption
    refine q2 ?_;refine pk0 (v := .bool (decide ((i : Int) < (l.length : Int)))) s rfl fun _ s => q1 <| co_seq ?_;cases hc20 : (decide ((i : Int) < (l.length : Int)))
    ·
     rw [hc20] at s;have hp21 : ¬ ((i : Int) < (l.length : Int)) := of_decide_eq_false hc20;refine co_false s rfl <| wp_exit <| co_thenX <| co_thenX <| qx <| q2 ?_;refine pk0 (v := .int .i64 0) s rfl fun _ s => q4 ?_;refine co_ret1 s rfl rfl ?_;exact ⟨ret_int (by unfold chkLs; rw [if_neg (by omega)]; exact cF_end (i := i) hL (by omega)), hB17⟩
    rw [hc20] at s;have hp23 : (i : Int) < (l.length : Int) := of_decide_eq_true hc20;refine co_true s rfl <| q0 <| co_seq <| wp_block <| q2 ?_;obtain ⟨y24, hy24⟩ : ∃ z, l[i]? = some z := ⟨_, List.getElem?_eq_getElem (by first | omega | (simp; done) | (simp; omega))⟩;refine pk (v := pt (blkOf v) (offOf v + i * 2)) s rfl (rn_index rfl rfl rfl Tryz.underlying48 Tryz.sizeOf140 (hs.below hB17) (by omega) (by first | omega | (simp; done) | (simp; omega))) fun _ s => ?_;refine pk (v := .agg #[.string y24.1, .string y24.2]) s rfl (rn_loadN rfl rfl Tryz.underlying140 rfl (by kernel_rfl) (sl_at (hs.below hB17) hy24)) fun _ s => ?_;refine pw s rfl (op_new (v := fun N => pt N 0) (T := 140) (cs := #[.string (⟨#[]⟩), .string (⟨#[]⟩)]) (by kernel_rfl) (by kernel_rfl) (by kernel_rfl)) ?_;rintro _ w28 a27 ⟨N29, rfl, hN32, hz33, hk31, hg30⟩ s;have hz34 := hg30.size
    try dsimp only at s
    refine pwD s rfl (op_storeN rfl rfl rfl (by kernel_rfl) (by kernel_rfl) hk31 rfl) ?_;rintro _ w36 a35 ⟨hk37, hz38, hg39⟩ s;have hk37' : Blk w36 N29 140 #[.string y24.1, .string y24.2] := hk37;have hz40 := hg39.size;refine q3 ?_;refine pk0 (v := .func (.func 160) #[] #[]) s rfl fun _ s => ?_;refine pk (v := .agg #[.string y24.1, .string y24.2]) s rfl (rn_loadN rfl rfl Tryz.underlying140 rfl (by kernel_rfl) hk37'.all) fun _ s => ?_;refine pw s rfl (op_call (args := #[.agg #[.string y24.1, .string y24.2]]) (R := fun res xw => res = .int .i64 (chkPair y24) ∧ Below w36.heap.size w36 xw) rfl rfl rfl (by kernel_rfl) (by kernel_rfl) (Tryz.call160 _ _) (mPair_any y24 w36 ) (by rintro e x ⟨rfl, hb45⟩; exact ⟨_, rfl, ⟨rfl, hb45⟩⟩)) ?_;rintro _ w44 a43 ⟨rfl, hb45⟩ s;have hz46 := hb45.size;refine pk0 (v := .int .i64 (chkPair y24)) s rfl fun _ s => q3 ?_;refine pk0 (v := .int .i64 (chkPair y24)) s rfl fun _ s => ?_;refine pk0 (v := .bool (chkPair y24 != 0)) s rfl fun _ s => q1 ?_;have hB51 := hb_new hB17 hg30;have hB52 := hb_at hB51 hg39 (by omega);have hB53 := hb_call hB52 hb45;cases hc50 : (chkPair y24 != 0)
    ·
     rw [hc50] at s;have hp54 : ¬ (chkPair y24 ≠ 0) := by first | simpa using hc50 | simpa [and_assoc] using hc50
     refine co_false s rfl <| wp_skip <| co_blockN <| co_then <| co_reg ?_;refine pk (v := .int .i64 ((i + 1 : Nat) : Int)) s rfl (rn_arith' rfl rfl rfl rfl rfl rfl (IntWalk.i64_in _ (by omega)) (by omega)) fun _ s => ?_;refine pk0 (v := .int .i64 ((i + 1 : Nat) : Int)) s rfl fun _ s => q1 ?_;refine ⟨(l.length - (i + 1)), by omega, ?_⟩;have hL' := cF_step (f := chkPair) hL hy24 (by first | omega | (unfold chkEn; omega));exact ⟨i + 1, s.sub ⟨rfl, rfl, rfl, rfl, rfl, rfl, rfl, trivial⟩, rfl, by omega, by first | rfl | exact hL', hB53⟩
    rw [hc50] at s;have hp57 : chkPair y24 ≠ 0 := by first | simpa using hc50 | simpa [and_assoc] using hc50
    refine co_true s rfl <| q2 ?_;refine pk0 (v := .int .i64 (chkPair y24)) s rfl fun _ s => ?_;refine pk0 (v := .int .i64 (chkPair y24)) s rfl fun _ s => q4 <| qr <| co_thenR <| qr ?_;refine co_ret1 s rfl rfl ?_;exact ⟨ret_int (by unfold chkLs; rw [if_neg (by omega)]; exact cF_bad (f := chkPair) (i := i) hL hy24 (by first | omega | (unfold chkEn; omega))), hB53⟩
 rw [hc6] at s;have hp60 : (l.length : Int) > 32 := of_decide_eq_true hc6;refine co_true s rfl <| q2 ?_;refine pk0 (v := .int .i64 6) s rfl fun _ s => q5 ?_;refine co_ret1 s rfl rfl ?_;exact ⟨ret_int (by unfold chkLs; rw [if_pos (by omega)]), hB0⟩
set_option maxRecDepth 100000 in
theorem mListS_any (v : Value) (l : List Int) (w : World) (hs : SliceOf (intE .u64) 1 w v l) (hok : ∀ z ∈ l, (fun t : Int => 0 ≤ t ∧ t < 18446744073709551616) z) :
    Calls Tryz.prog 157 #[v, .int .i64 8, .func (.func 158) #[] #[]] w fun e w' => e = .returned (.int .i64 (chkLs 8 chkSt l)) ∧ Below w.heap.size w w' := by
 have hB0 := Below.refl w.heap.size w;have hl_hs := sl_len hs;refine co_enter (n := 27) Tryz.func157 rfl rfl rfl [(0, v), (1, .int .i64 8), (2, .func (.func 158) #[] #[])] rfl (fun a s => ?_);refine q2 ?_;refine pk0 (v := .int .i64 0) s rfl fun _ s => q6 ?_;refine pk0 (v := v) s rfl fun _ s => ?_;refine pk (v := .int .i64 (l.length : Int)) s rfl (rn_len rfl rfl Tryz.underlying63 hs) fun _ s => ?_;refine pk0 (v := .int .i64 8) s rfl fun _ s => ?_;refine pk0 (v := .bool (decide ((l.length : Int) > 8))) s rfl fun _ s => q1 ?_;cases hc6 : (decide ((l.length : Int) > 8))
 ·
  rw [hc6] at s;have hp7 : ¬ ((l.length : Int) > 8) := of_decide_eq_false hc6;refine co_false s rfl <| q8 ?_;refine pk0 (v := v) s rfl fun _ s => ?_;refine pk (v := .int .i64 (l.length : Int)) s rfl (rn_len rfl rfl Tryz.underlying63 hs) fun _ s => ?_;refine pk0 (v := .int .i64 0) s rfl fun _ s => q1 <| wp_block ?_;have s : Slots 27 [(0, v), (1, .int .i64 8), (2, .func (.func 158) #[] #[]), (6, .int .i64 0), (14, v), (15, .int .i64 (l.length : Int)), (16, .int .i64 0)] _ := s.sub ⟨rfl, rfl, rfl, rfl, rfl, rfl, rfl, trivial⟩;refine co_loop (fun mm a x => ∃ (i : Nat), Slots 27 [(0, v), (1, .int .i64 8), (2, .func (.func 158) #[] #[]), (6, .int .i64 0), (14, v), (15, .int .i64 (l.length : Int)), (16, .int .i64 (i : Int))] a ∧ mm = l.length - i ∧ (i ≤ l.length) ∧ (chkF chkSt (l.drop i) = chkF chkSt l) ∧ Below w.heap.size w x) (l.length - 0) ?_ ?_
  · exact ⟨0, s.sub ⟨rfl, rfl, rfl, rfl, rfl, rfl, (slot_eq rfl (congrArg (Value.int .i64) (by first | rfl | omega))), trivial⟩, rfl, by omega, by first | rfl | exact hL', hB0⟩
  · rintro k12 a13 w14 ⟨i, s, rfl, hi15, hi16, hB17⟩
    have hz18 := hB17.size;have hL : chkF chkSt (l.drop i) = chkF chkSt l := by assumption
    refine q2 ?_;refine pk0 (v := .bool (decide ((i : Int) < (l.length : Int)))) s rfl fun _ s => q1 <| co_seq ?_;cases hc20 : (decide ((i : Int) < (l.length : Int)))
    ·
     rw [hc20] at s;have hp21 : ¬ ((i : Int) < (l.length : Int)) := of_decide_eq_false hc20;refine co_false s rfl <| wp_exit <| co_thenX <| co_thenX <| qx <| q2 ?_;refine pk0 (v := .int .i64 0) s rfl fun _ s => q4 ?_;refine co_ret1 s rfl rfl ?_;exact ⟨ret_int (by unfold chkLs; rw [if_neg (by omega)]; exact cF_end (i := i) hL (by omega)), hB17⟩
    rw [hc20] at s;have hp23 : (i : Int) < (l.length : Int) := of_decide_eq_true hc20;refine co_true s rfl <| q0 <| co_seq <| wp_block <| q2 ?_;obtain ⟨y24, hy24⟩ : ∃ z, l[i]? = some z := ⟨_, List.getElem?_eq_getElem (by first | omega | (simp; done) | (simp; omega))⟩;have oky24 := hok _ (List.mem_of_getElem? hy24);have k25 : 0 ≤ y24 ∧ y24 < 18446744073709551616 := oky24;refine pk (v := pt (blkOf v) (offOf v + i * 1)) s rfl (rn_index rfl rfl rfl Tryz.underlying63 Tryz.sizeOf32 (hs.below hB17) (by omega) (by first | omega | (simp; done) | (simp; omega))) fun _ s => ?_;refine pk (v := .int .u64 y24) s rfl (rn_load1 rfl rfl Tryz.isAgg32 ((sl_at (hs.below hB17) hy24) 0 _ rfl)) fun _ s => ?_;refine pk0 (v := .int .u64 y24) s rfl fun _ s => q3 ?_;refine pk0 (v := .func (.func 158) #[] #[]) s rfl fun _ s => ?_;refine pk0 (v := .int .u64 y24) s rfl fun _ s => ?_;refine pw s rfl (op_call (args := #[.int .u64 y24]) (R := fun res xw => res = .int .i64 (chkSt y24) ∧ Below w14.heap.size w14 xw) rfl rfl rfl (by kernel_rfl) (by kernel_rfl) (Tryz.call158 _ _) (mStamp_any y24 w14 ) (by rintro e x ⟨rfl, hb33⟩; exact ⟨_, rfl, ⟨rfl, hb33⟩⟩)) ?_;rintro _ w32 a31 ⟨rfl, hb33⟩ s;have hz34 := hb33.size;refine pk0 (v := .int .i64 (chkSt y24)) s rfl fun _ s => q3 ?_;refine pk0 (v := .int .i64 (chkSt y24)) s rfl fun _ s => ?_;refine pk0 (v := .bool (chkSt y24 != 0)) s rfl fun _ s => q1 ?_;have hB39 := hb_call hB17 hb33;cases hc38 : (chkSt y24 != 0)
    ·
     rw [hc38] at s;have hp40 : ¬ (chkSt y24 ≠ 0) := by first | simpa using hc38 | simpa [and_assoc] using hc38
     refine co_false s rfl <| wp_skip <| co_blockN <| co_then <| co_reg ?_;refine pk (v := .int .i64 ((i + 1 : Nat) : Int)) s rfl (rn_arith' rfl rfl rfl rfl rfl rfl (IntWalk.i64_in _ (by omega)) (by omega)) fun _ s => ?_;refine pk0 (v := .int .i64 ((i + 1 : Nat) : Int)) s rfl fun _ s => q1 ?_;refine ⟨(l.length - (i + 1)), by omega, ?_⟩;have hL' := cF_step (f := chkSt) hL hy24 (by first | omega | (unfold chkEn; omega));exact ⟨i + 1, s.sub ⟨rfl, rfl, rfl, rfl, rfl, rfl, rfl, trivial⟩, rfl, by omega, by first | rfl | exact hL', hB39⟩
    rw [hc38] at s;have hp43 : chkSt y24 ≠ 0 := by first | simpa using hc38 | simpa [and_assoc] using hc38
    refine co_true s rfl <| q2 ?_;refine pk0 (v := .int .i64 (chkSt y24)) s rfl fun _ s => ?_;refine pk0 (v := .int .i64 (chkSt y24)) s rfl fun _ s => q4 <| qr <| co_thenR <| qr ?_;refine co_ret1 s rfl rfl ?_;exact ⟨ret_int (by unfold chkLs; rw [if_neg (by omega)]; exact cF_bad (f := chkSt) (i := i) hL hy24 (by first | omega | (unfold chkEn; omega))), hB39⟩
 rw [hc6] at s;have hp46 : (l.length : Int) > 8 := of_decide_eq_true hc6;refine co_true s rfl <| q2 ?_;refine pk0 (v := .int .i64 6) s rfl fun _ s => q5 ?_;refine co_ret1 s rfl rfl ?_;exact ⟨ret_int (by unfold chkLs; rw [if_pos (by omega)]), hB0⟩
end Go.Proofs.YtifknllhmbkkcaaGreat

/- Package mess: Check. Conditions: none. -/
namespace Go.Proofs.YtifknllhmbkkcaaGreat
open Go.RowKit Go.PlainAid
set_option linter.unusedVariables false


theorem byteAt_pstr {k : Int} {i : Nat} (h : i < (pstr k).size) : ∃ c, (ptL k)[i]? = some c ∧ byteAt (pstr k) i = ((c.toNat : Nat) : Int) := by
  have h' : i < (ptL k).length := by simpa [pstr, ByteArray.size] using h
  refine ⟨(ptL k)[i], List.getElem?_eq_getElem h', ?_⟩
  unfold byteAt pstr
  simp [h']
theorem pstr_len (k : Int) : (pstr k).size = (ptL k).length := by simp [pstr, ByteArray.size]
theorem ptL_all (k : Int) : (ptL k).all (fun c => decide (c.toNat < 128)) = true := by
  unfold ptL
  repeat' split
  all_goals rfl
theorem ptL_ascii (k : Int) : ∀ c ∈ ptL k, c.toNat < 128 := fun c hc => of_decide_eq_true (List.all_eq_true.1 (ptL_all k) c hc)
theorem pstr_ascii (k : Int) : Ascii (pstr k) := by
  intro i h
  have h' : i < (ptL k).length := by rw [← pstr_len]; exact h
  have e : (pstr k)[i]'h = ((ptL k).toArray)[i]'(by simpa using h') := rfl
  rw [e, List.getElem_toArray]
  exact ptL_ascii k _ (List.getElem_mem h')
def cP (d : MsgD) (c : UInt8) : Int := chkP d (c.toNat : Int)
def chkMg (d : MsgD) : Int := if 1 ≤ d.k ∧ d.k ≤ 15 then chkF (cP d) (ptL d.k) else 11
theorem cp_x {d : MsgD} {p : Int} (h : p = 120) : chkP d p = if d.e < 0 ∨ d.e > 21 then 1 else 0 := by unfold chkP; rw [if_pos h]
theorem cp_n {d : MsgD} {p : Int} (h : p = 101 ∨ p = 115 ∨ p = 113 ∨ p = 110 ∨ p = 109 ∨ p = 112) : chkP d p = if numP d p < 0 ∨ numP d p > 1073741824 then 5 else 0 := by unfold chkP; rw [if_neg (by omega), if_pos (show numL p from h)]
theorem nn {p : Int} (h : ¬ (p = 101 ∨ p = 115 ∨ p = 113 ∨ p = 110 ∨ p = 109 ∨ p = 112)) : ¬ numL p := h
theorem cp_k {d : MsgD} {p : Int} (h : p = 107) : chkP d p = if (d.key.size : Int) > 8 then 3 else 0 := by unfold chkP; rw [if_neg (by omega), if_neg (nn (by omega)), if_pos h]
theorem cp_t {d : MsgD} {p : Int} (h : p = 116) : chkP d p = if (d.to_.size : Int) > 8 then 3 else 0 := by unfold chkP; rw [if_neg (by omega), if_neg (nn (by omega)), if_neg (by omega), if_pos h]
theorem cp_C {d : MsgD} {p : Int} (h : p = 67) : chkP d p = chkC d.cep d.cms := by unfold chkP; rw [if_neg (by omega), if_neg (nn (by omega)), if_neg (by omega), if_neg (by omega), if_pos h]
theorem cp_B {d : MsgD} {p : Int} (h : p = 66) : chkP d p = chkB d.bc d.br d.bl := by unfold chkP; rw [if_neg (by omega), if_neg (nn (by omega)), if_neg (by omega), if_neg (by omega), if_neg (by omega), if_pos h]
theorem cp_L {d : MsgD} {p : Int} (h : p = 76) : chkP d p = chkLs 4 chkEn d.en := by unfold chkP; rw [if_neg (by omega), if_neg (nn (by omega)), if_neg (by omega), if_neg (by omega), if_neg (by omega), if_neg (by omega), if_pos h]
theorem cp_S {d : MsgD} {p : Int} (h : p = 83) : chkP d p = chkLs 8 chkSt d.st := by unfold chkP; rw [if_neg (by omega), if_neg (nn (by omega)), if_neg (by omega), if_neg (by omega), if_neg (by omega), if_neg (by omega), if_neg (by omega), if_pos h]
theorem cp_R {d : MsgD} {p : Int} (h : p = 82) : chkP d p = chkLs 32 chkPair d.pr := by unfold chkP; rw [if_neg (by omega), if_neg (nn (by omega)), if_neg (by omega), if_neg (by omega), if_neg (by omega), if_neg (by omega), if_neg (by omega), if_neg (by omega), if_pos h]
theorem cp_0 {d : MsgD} {p : Int} (h : ¬ (p = 120 ∨ (p = 101 ∨ p = 115 ∨ p = 113 ∨ p = 110 ∨ p = 109 ∨ p = 112) ∨ p = 107 ∨ p = 116 ∨ p = 67 ∨ p = 66 ∨ p = 76 ∨ p = 83 ∨ p = 82)) : chkP d p = 0 := by unfold chkP; rw [if_neg (by omega), if_neg (nn (by omega)), if_neg (by omega), if_neg (by omega), if_neg (by omega), if_neg (by omega), if_neg (by omega), if_neg (by omega), if_neg (by omega)]

set_option maxRecDepth 100000 in
theorem mListE_any (v : Value) (l : List EntT) (w : World) (hs : SliceOf entE 4 w v l) (hok : ∀ z ∈ l, EntOk w z) :
    Calls Tryz.prog 155 #[v, .int .i64 4, .func (.func 156) #[] #[]] w fun e w' => e = .returned (.int .i64 (chkLs 4 chkEn l)) ∧ Below w.heap.size w w' := by
 have hB0 := Below.refl w.heap.size w;have hl_hs := sl_len hs;refine co_enter (n := 27) Tryz.func155 rfl rfl rfl [(0, v), (1, .int .i64 4), (2, .func (.func 156) #[] #[])] rfl (fun a s => ?_);refine q2 ?_;refine pk0 (v := .int .i64 0) s rfl fun _ s => q6 ?_;refine pk0 (v := v) s rfl fun _ s => ?_;refine pk (v := .int .i64 (l.length : Int)) s rfl (rn_len rfl rfl Tryz.underlying62 hs) fun _ s => ?_;refine pk0 (v := .int .i64 4) s rfl fun _ s => ?_;refine pk0 (v := .bool (decide ((l.length : Int) > 4))) s rfl fun _ s => q1 ?_;cases hc6 : (decide ((l.length : Int) > 4))
 ·
  rw [hc6] at s;have hp7 : ¬ ((l.length : Int) > 4) := of_decide_eq_false hc6;refine co_false s rfl <| q8 ?_;refine pk0 (v := v) s rfl fun _ s => ?_;refine pk (v := .int .i64 (l.length : Int)) s rfl (rn_len rfl rfl Tryz.underlying62 hs) fun _ s => ?_;refine pk0 (v := .int .i64 0) s rfl fun _ s => q1 <| wp_block ?_;have s : Slots 27 [(0, v), (1, .int .i64 4), (2, .func (.func 156) #[] #[]), (6, .int .i64 0), (14, v), (15, .int .i64 (l.length : Int)), (16, .int .i64 0)] _ := s.sub ⟨rfl, rfl, rfl, rfl, rfl, rfl, rfl, trivial⟩;refine co_loop (fun mm a x => ∃ (i : Nat), Slots 27 [(0, v), (1, .int .i64 4), (2, .func (.func 156) #[] #[]), (6, .int .i64 0), (14, v), (15, .int .i64 (l.length : Int)), (16, .int .i64 (i : Int))] a ∧ mm = l.length - i ∧ (i ≤ l.length) ∧ (chkF chkEn (l.drop i) = chkF chkEn l) ∧ Below w.heap.size w x) (l.length - 0) ?_ ?_
  · exact ⟨0, s.sub ⟨rfl, rfl, rfl, rfl, rfl, rfl, (slot_eq rfl (congrArg (Value.int .i64) (by first | rfl | omega))), trivial⟩, rfl, by omega, by first | rfl | exact hL', hB0⟩
  · rintro k12 a13 w14 ⟨i, s, rfl, hi15, hi16, hB17⟩
    have hz18 := hB17.size;have hL : chkF chkEn (l.drop i) = chkF chkEn l := by assumption
    refine q2 ?_;refine pk0 (v := .bool (decide ((i : Int) < (l.length : Int)))) s rfl fun _ s => q1 <| co_seq ?_;cases hc20 : (decide ((i : Int) < (l.length : Int)))
    ·
     rw [hc20] at s;have hp21 : ¬ ((i : Int) < (l.length : Int)) := of_decide_eq_false hc20;refine co_false s rfl <| wp_exit <| co_thenX <| co_thenX <| qx <| q2 ?_;refine pk0 (v := .int .i64 0) s rfl fun _ s => q4 ?_;refine co_ret1 s rfl rfl ?_;exact ⟨ret_int (by unfold chkLs; rw [if_neg (by omega)]; exact cF_end (i := i) hL (by omega)), hB17⟩
    rw [hc20] at s;have hp23 : (i : Int) < (l.length : Int) := of_decide_eq_true hc20;refine co_true s rfl <| q0 <| co_seq <| wp_block <| q2 ?_;obtain ⟨y24, hy24⟩ : ∃ z, l[i]? = some z := ⟨_, List.getElem?_eq_getElem (by first | omega | (simp; done) | (simp; omega))⟩;have oky24 := hok _ (List.mem_of_getElem? hy24);have k25 : 0 ≤ y24.ts := oky24.ts0;have k26 : y24.ts < 18446744073709551616 := oky24.ts1;refine pk (v := pt (blkOf v) (offOf v + i * 4)) s rfl (rn_index rfl rfl rfl Tryz.underlying62 Tryz.sizeOf190 (hs.below hB17) (by omega) (by first | omega | (simp; done) | (simp; omega))) fun _ s => ?_;refine pk (v := .agg #[.int .i64 y24.client, .int .i64 y24.req, y24.ops, .int .u64 y24.ts]) s rfl (rn_loadN rfl rfl Tryz.underlying190 rfl (by kernel_rfl) (sl_at (hs.below hB17) hy24)) fun _ s => ?_;refine pw s rfl (op_new (v := fun N => pt N 0) (T := 190) (cs := #[.int .i64 0, .int .i64 0, .slice none 0 0, .int .u64 0]) (by kernel_rfl) (by kernel_rfl) (by kernel_rfl)) ?_;rintro _ w30 a29 ⟨N31, rfl, hN34, hz35, hk33, hg32⟩ s;have hz36 := hg32.size
    try dsimp only at s
    have hB42 := hb_new hB17 hg32;refine pwD s rfl (op_storeN rfl rfl rfl (all_cons rfl (all_cons rfl (all_cons (sl_one (oky24.ops.below hB42)) (all_cons rfl all_nil)))) (by kernel_rfl) hk33 rfl) ?_;rintro _ w38 a37 ⟨hk39, hz40, hg41⟩ s;have hk39' : Blk w38 N31 190 #[.int .i64 y24.client, .int .i64 y24.req, y24.ops, .int .u64 y24.ts] := hk39;have hz43 := hg41.size;refine q3 ?_;refine pk0 (v := .func (.func 156) #[] #[]) s rfl fun _ s => ?_;refine pk (v := .agg #[.int .i64 y24.client, .int .i64 y24.req, y24.ops, .int .u64 y24.ts]) s rfl (rn_loadN rfl rfl Tryz.underlying190 rfl (by kernel_rfl) hk39'.all) fun _ s => ?_;have hB48 := hb_at hB42 hg41 (by omega);refine pw s rfl (op_call (args := #[.agg #[.int .i64 y24.client, .int .i64 y24.req, y24.ops, .int .u64 y24.ts]]) (R := fun res xw => res = .int .i64 (chkB y24.client y24.req y24.opl) ∧ Below w38.heap.size w38 xw) rfl rfl rfl (by kernel_rfl) (by kernel_rfl) (Tryz.call156 _ _) (itemCheck_any y24.client y24.req y24.ops y24.opl y24.ts w38 (oky24.ops.below hB48)) (by rintro e x ⟨rfl, hb49⟩; exact ⟨_, rfl, ⟨rfl, hb49⟩⟩)) ?_;rintro _ w47 a46 ⟨rfl, hb49⟩ s;have hz50 := hb49.size;refine pk0 (v := .int .i64 (chkB y24.client y24.req y24.opl)) s rfl fun _ s => q3 ?_;refine pk0 (v := .int .i64 (chkB y24.client y24.req y24.opl)) s rfl fun _ s => ?_;refine pk0 (v := .bool (chkB y24.client y24.req y24.opl != 0)) s rfl fun _ s => q1 ?_;have hB55 := hb_call hB48 hb49;cases hc54 : (chkB y24.client y24.req y24.opl != 0)
    ·
     rw [hc54] at s;have hp56 : ¬ (chkB y24.client y24.req y24.opl ≠ 0) := by first | simpa using hc54 | simpa [and_assoc] using hc54
     refine co_false s rfl <| wp_skip <| co_blockN <| co_then <| co_reg ?_;refine pk (v := .int .i64 ((i + 1 : Nat) : Int)) s rfl (rn_arith' rfl rfl rfl rfl rfl rfl (IntWalk.i64_in _ (by omega)) (by omega)) fun _ s => ?_;refine pk0 (v := .int .i64 ((i + 1 : Nat) : Int)) s rfl fun _ s => q1 ?_;refine ⟨(l.length - (i + 1)), by omega, ?_⟩;have hL' := cF_step (f := chkEn) hL hy24 (by first | omega | (unfold chkEn; omega));exact ⟨i + 1, s.sub ⟨rfl, rfl, rfl, rfl, rfl, rfl, rfl, trivial⟩, rfl, by omega, by first | rfl | exact hL', hB55⟩
    rw [hc54] at s;have hp59 : chkB y24.client y24.req y24.opl ≠ 0 := by first | simpa using hc54 | simpa [and_assoc] using hc54
    refine co_true s rfl <| q2 ?_;refine pk0 (v := .int .i64 (chkB y24.client y24.req y24.opl)) s rfl fun _ s => ?_;refine pk0 (v := .int .i64 (chkB y24.client y24.req y24.opl)) s rfl fun _ s => q4 <| qr <| co_thenR <| qr ?_;refine co_ret1 s rfl rfl ?_;exact ⟨ret_int (by unfold chkLs; rw [if_neg (by omega)]; exact cF_bad (f := chkEn) (i := i) hL hy24 (by first | omega | (unfold chkEn; omega))), hB55⟩
 rw [hc6] at s;have hp62 : (l.length : Int) > 4 := of_decide_eq_true hc6;refine co_true s rfl <| q2 ?_;refine pk0 (v := .int .i64 6) s rfl fun _ s => q5 ?_;refine co_ret1 s rfl rfl ?_;exact ⟨ret_int (by unfold chkLs; rw [if_pos (by omega)]), hB0⟩
set_option maxRecDepth 100000 in
theorem mTextK_any (B : Nat) (p : Int) (w : World) (hp : p = 107) :
    Calls Tryz.prog 108 #[pt B 0, .int .i32 p] w fun e w' => e = .returned (pt B 11) ∧ Below w.heap.size w w' := by
 have hB0 := Below.refl w.heap.size w;refine co_enter (n := 13) Tryz.func108 rfl rfl rfl [(0, pt B 0), (1, .int .i32 p)] rfl (fun a s => ?_);refine q2 ?_;refine pk0 (v := .pointer none) s rfl fun _ s => q6 ?_;refine pk0 (v := .int .i32 p) s rfl fun _ s => ?_;refine pk0 (v := .bool (p == 107)) s rfl fun _ s => q1 ?_;have hc4 : (p == 107) = true := by first | (simp; done) | (simp; omega)
 rw [hc4] at s;refine co_true s rfl <| q2 ?_;refine pk0 (v := pt B 0) s rfl fun _ s => ?_;refine pk0 (v := pt B 0) s rfl fun _ s => ?_;refine pk0 (v := pt B 11) s rfl fun _ s => ?_;refine pk0 (v := pt B 11) s rfl fun _ s => q5 ?_;refine co_ret1 s rfl rfl ?_;exact ⟨rfl, hB0⟩
set_option maxRecDepth 100000 in
theorem mTextT_any (B : Nat) (p : Int) (w : World) (hp : p = 116) :
    Calls Tryz.prog 108 #[pt B 0, .int .i32 p] w fun e w' => e = .returned (pt B 12) ∧ Below w.heap.size w w' := by
 have hB0 := Below.refl w.heap.size w;refine co_enter (n := 13) Tryz.func108 rfl rfl rfl [(0, pt B 0), (1, .int .i32 p)] rfl (fun a s => ?_);refine q2 ?_;refine pk0 (v := .pointer none) s rfl fun _ s => q6 ?_;refine pk0 (v := .int .i32 p) s rfl fun _ s => ?_;refine pk0 (v := .bool (p == 107)) s rfl fun _ s => q1 ?_;have hc4 : (p == 107) = false := by first | (simp; done) | (simp; omega)
 rw [hc4] at s;refine co_false s rfl <| q7 ?_;refine pk0 (v := pt B 0) s rfl fun _ s => ?_;refine pk0 (v := pt B 0) s rfl fun _ s => ?_;refine pk0 (v := pt B 12) s rfl fun _ s => ?_;refine pk0 (v := pt B 12) s rfl fun _ s => q4 ?_;refine co_ret1 s rfl rfl ?_;exact ⟨rfl, hB0⟩
set_option maxRecDepth 100000 in
theorem mBigA_any (B : Nat) (p : Int) (w : World) (hp : p = 97) :
    Calls Tryz.prog 106 #[pt B 0, .int .i32 p] w fun e w' => e = .returned (pt B 5) ∧ Below w.heap.size w w' := by
 have hB0 := Below.refl w.heap.size w;refine co_enter (n := 13) Tryz.func106 rfl rfl rfl [(0, pt B 0), (1, .int .i32 p)] rfl (fun a s => ?_);refine q2 ?_;refine pk0 (v := .pointer none) s rfl fun _ s => q6 ?_;refine pk0 (v := .int .i32 p) s rfl fun _ s => ?_;refine pk0 (v := .bool (p == 97)) s rfl fun _ s => q1 ?_;have hc4 : (p == 97) = true := by first | (simp; done) | (simp; omega)
 rw [hc4] at s;refine co_true s rfl <| q2 ?_;refine pk0 (v := pt B 0) s rfl fun _ s => ?_;refine pk0 (v := pt B 0) s rfl fun _ s => ?_;refine pk0 (v := pt B 5) s rfl fun _ s => ?_;refine pk0 (v := pt B 5) s rfl fun _ s => q5 ?_;refine co_ret1 s rfl rfl ?_;exact ⟨rfl, hB0⟩
set_option maxRecDepth 100000 in
theorem mBigL_any (B : Nat) (p : Int) (w : World) (hp : p = 108) :
    Calls Tryz.prog 106 #[pt B 0, .int .i32 p] w fun e w' => e = .returned (pt B 6) ∧ Below w.heap.size w w' := by
 have hB0 := Below.refl w.heap.size w;refine co_enter (n := 13) Tryz.func106 rfl rfl rfl [(0, pt B 0), (1, .int .i32 p)] rfl (fun a s => ?_);refine q2 ?_;refine pk0 (v := .pointer none) s rfl fun _ s => q6 ?_;refine pk0 (v := .int .i32 p) s rfl fun _ s => ?_;refine pk0 (v := .bool (p == 97)) s rfl fun _ s => q1 ?_;have hc4 : (p == 97) = false := by first | (simp; done) | (simp; omega)
 rw [hc4] at s;refine co_false s rfl <| q7 ?_;refine pk0 (v := pt B 0) s rfl fun _ s => ?_;refine pk0 (v := pt B 0) s rfl fun _ s => ?_;refine pk0 (v := pt B 6) s rfl fun _ s => ?_;refine pk0 (v := pt B 6) s rfl fun _ s => q4 ?_;refine co_ret1 s rfl rfl ?_;exact ⟨rfl, hB0⟩
set_option maxRecDepth 100000 in
theorem mCheckP_any (B : Nat) (d : MsgD) (mv : Value) (bv : Value) (ev : Value) (sv : Value) (pv : Value) (p : Int) (w : World) (hB : Blk w B 65 #[.int .i64 d.k, .int .i64 d.ep, .int .i64 d.rq, .int .i64 d.sr, .bool d.fg, .int .u64 d.at_, .int .u64 d.la, .int .i64 d.n, .int .i64 d.m, .int .i64 d.p, .int .i64 d.e, .string d.key, .string d.to_, .int .i64 d.cep, mv, .int .u64 d.cfl, .int .i64 d.bc, .int .i64 d.br, bv, ev, sv, pv]) (hm : SliceOf memE 2 w mv d.cms) (hb : SliceOf opE 3 w bv d.bl) (he : SliceOf entE 4 w ev d.en) (ht : SliceOf (intE .u64) 1 w sv d.st) (hp : SliceOf prE 2 w pv d.pr) (hok : ∀ z ∈ d.en, EntOk w z) (hR : MsgR d) :
    Calls Tryz.prog 116 #[pt B 0, .int .i32 p] w fun e w' => e = .returned (.int .i64 (chkP d p)) ∧ Below w.heap.size w w' := by
 have hrng := hR.rng;have hnp := np_7 (d := d) (p := p);have hB0 := Below.refl w.heap.size w;have hl_hB := hB.lt;have hl_hm := sl_len hm;have hl_hb := sl_len hb;have hl_he := sl_len he;have hl_ht := sl_len ht;have hl_hp := sl_len hp;refine co_enter (n := 74) Tryz.func116 rfl rfl rfl [(0, pt B 0), (1, .int .i32 p)] rfl (fun a s => ?_);refine q2 ?_;refine pk0 (v := .int .i64 0) s rfl fun _ s => q3 ?_;refine pk0 (v := .int .i64 1073741824) s rfl fun _ s => ?_;refine pk0 (v := .int .i64 5) s rfl fun _ s => q6 ?_;refine pk0 (v := .int .i32 p) s rfl fun _ s => q1 <| wp_block <| co_seq <| wp_block <| co_seq <| wp_block <| co_seq <| wp_block <| co_seq <| wp_block <| co_seq <| wp_block <| co_seq <| wp_block <| co_seq <| wp_block <| co_seq <| wp_block <| co_seq <| q9 ?_;refine pk0 (v := .bool (p == 120)) s rfl fun _ s => ?_;refine pk0 (v := .bool (p == 120)) s rfl fun _ s => q1 ?_;cases hc7 : (p == 120)
 ·
  rw [hc7] at s;have hp8 : ¬ (p = 120) := by first | simpa using hc7 | simpa [and_assoc] using hc7
  refine co_false s rfl <| q0 <| co_seq <| q9 ?_;refine pk0 (v := .bool (p == 101)) s rfl fun _ s => ?_;refine pk0 (v := .bool (p == 101)) s rfl fun _ s => q1 ?_;cases hc11 : (p == 101)
  ·
   rw [hc11] at s;have hp12 : ¬ (p = 101) := by first | simpa using hc11 | simpa [and_assoc] using hc11
   refine co_false s rfl <| q2 ?_;refine pk0 (v := .bool (p == 115)) s rfl fun _ s => ?_;refine pk0 (v := .bool (p == 115)) s rfl fun _ s => q1 ?_;cases hc15 : (p == 115)
   ·
    rw [hc15] at s;have hp16 : ¬ (p = 115) := by first | simpa using hc15 | simpa [and_assoc] using hc15
    refine co_false s rfl <| q2 ?_;refine pk0 (v := .bool (p == 113)) s rfl fun _ s => ?_;refine pk0 (v := .bool (p == 113)) s rfl fun _ s => q1 ?_;cases hc19 : (p == 113)
    ·
     rw [hc19] at s;have hp20 : ¬ (p = 113) := by first | simpa using hc19 | simpa [and_assoc] using hc19
     refine co_false s rfl <| q2 ?_;refine pk0 (v := .bool (p == 110)) s rfl fun _ s => ?_;refine pk0 (v := .bool (p == 110)) s rfl fun _ s => q1 ?_;cases hc23 : (p == 110)
     ·
      rw [hc23] at s;have hp24 : ¬ (p = 110) := by first | simpa using hc23 | simpa [and_assoc] using hc23
      refine co_false s rfl <| q2 ?_;refine pk0 (v := .bool (p == 109)) s rfl fun _ s => ?_;refine pk0 (v := .bool (p == 109)) s rfl fun _ s => q1 ?_;cases hc27 : (p == 109)
      ·
       rw [hc27] at s;have hp28 : ¬ (p = 109) := by first | simpa using hc27 | simpa [and_assoc] using hc27
       refine co_false s rfl <| co_reg ?_;refine pk0 (v := .bool (p == 112)) s rfl fun _ s => ?_;refine pk0 (v := .bool (p == 112)) s rfl fun _ s => q1 ?_;cases hc31 : (p == 112)
       ·
        rw [hc31] at s;have hp32 : ¬ (p = 112) := by first | simpa using hc31 | simpa [and_assoc] using hc31
        refine co_false s rfl <| q0 <| co_seq <| q9 ?_;refine pk0 (v := .bool (p == 107)) s rfl fun _ s => ?_;refine pk0 (v := .bool (p == 107)) s rfl fun _ s => q1 ?_;cases hc35 : (p == 107)
        ·
         rw [hc35] at s;have hp36 : ¬ (p = 107) := by first | simpa using hc35 | simpa [and_assoc] using hc35
         refine co_false s rfl <| co_reg ?_;refine pk0 (v := .bool (p == 116)) s rfl fun _ s => ?_;refine pk0 (v := .bool (p == 116)) s rfl fun _ s => q1 ?_;cases hc39 : (p == 116)
         ·
          rw [hc39] at s;have hp40 : ¬ (p = 116) := by first | simpa using hc39 | simpa [and_assoc] using hc39
          refine co_false s rfl <| q8 ?_;refine pk0 (v := .bool (p == 67)) s rfl fun _ s => ?_;refine pk0 (v := .bool (p == 67)) s rfl fun _ s => q1 ?_;cases hc43 : (p == 67)
          ·
           rw [hc43] at s;have hp44 : ¬ (p = 67) := by first | simpa using hc43 | simpa [and_assoc] using hc43
           refine co_false s rfl <| q8 ?_;refine pk0 (v := .bool (p == 66)) s rfl fun _ s => ?_;refine pk0 (v := .bool (p == 66)) s rfl fun _ s => q1 ?_;cases hc47 : (p == 66)
           ·
            rw [hc47] at s;have hp48 : ¬ (p = 66) := by first | simpa using hc47 | simpa [and_assoc] using hc47
            refine co_false s rfl <| q8 ?_;refine pk0 (v := .bool (p == 76)) s rfl fun _ s => ?_;refine pk0 (v := .bool (p == 76)) s rfl fun _ s => q1 ?_;cases hc51 : (p == 76)
            ·
             rw [hc51] at s;have hp52 : ¬ (p = 76) := by first | simpa using hc51 | simpa [and_assoc] using hc51
             refine co_false s rfl <| q8 ?_;refine pk0 (v := .bool (p == 83)) s rfl fun _ s => ?_;refine pk0 (v := .bool (p == 83)) s rfl fun _ s => q1 ?_;cases hc55 : (p == 83)
             ·
              rw [hc55] at s;have hp56 : ¬ (p = 83) := by first | simpa using hc55 | simpa [and_assoc] using hc55
              refine co_false s rfl <| q7 ?_;refine pk0 (v := .bool (p == 82)) s rfl fun _ s => ?_;refine pk0 (v := .bool (p == 82)) s rfl fun _ s => q1 ?_;cases hc59 : (p == 82)
              ·
               rw [hc59] at s;have hp60 : ¬ (p = 82) := by first | simpa using hc59 | simpa [and_assoc] using hc59
               refine co_false s rfl <| q0 <| wp_exit ?_;refine co_blockY (by decide) ?_;refine co_thenX ?_;refine co_blockY (by decide) ?_;refine co_thenX ?_;refine co_blockY (by decide) ?_;refine co_thenX ?_;refine co_blockY (by decide) ?_;refine co_thenX ?_;refine co_blockY (by decide) ?_;refine co_thenX ?_;refine co_blockY (by decide) ?_;refine co_thenX ?_;refine co_blockY (by decide) ?_;refine co_thenX ?_;refine co_blockY (by decide) ?_;refine co_thenX <| qx <| q2 ?_;refine pk0 (v := .int .i64 0) s rfl fun _ s => q4 ?_;refine co_ret1 s rfl rfl ?_;exact ⟨ret_int (by rw [cp_0 (by omega)]), hB0⟩
              rw [hc59] at s;have hp62 : p = 82 := by first | simpa using hc59 | simpa [and_assoc] using hc59
              refine co_true s rfl <| wp_exit <| co_thenX ?_;refine co_blockY (by decide) ?_;refine co_thenX ?_;refine co_blockY (by decide) ?_;refine co_thenX ?_;refine co_blockY (by decide) ?_;refine co_thenX ?_;refine co_blockY (by decide) ?_;refine co_thenX ?_;refine co_blockY (by decide) ?_;refine co_thenX ?_;refine co_blockY (by decide) ?_;refine co_thenX ?_;refine co_blockY (by decide) ?_;refine co_thenX <| qx <| q9 ?_;refine pk0 (v := pt B 0) s rfl fun _ s => ?_;refine pk0 (v := pt B 0) s rfl fun _ s => ?_;refine pk0 (v := pt B 21) s rfl fun _ s => ?_;refine pk (v := pv) s rfl (rn_load1 rfl rfl Tryz.isAgg48 (hB.cell rfl)) fun _ s => ?_;refine pw s rfl (op_call (args := #[pv, .int .i64 32, .func (.func 160) #[] #[]]) (R := fun res xw => res = .int .i64 (chkLs 32 chkPair d.pr) ∧ Below w.heap.size w xw) rfl rfl rfl (by kernel_rfl) (by kernel_rfl) (Tryz.call159 _ _) (mListP_any pv d.pr w hp) (by rintro e x ⟨rfl, hb69⟩; exact ⟨_, rfl, ⟨rfl, hb69⟩⟩)) ?_;rintro _ w68 a67 ⟨rfl, hb69⟩ s;have hz70 := hb69.size;refine pk0 (v := .int .i64 (chkLs 32 chkPair d.pr)) s rfl fun _ s => q5 <| qr ?_;refine co_ret1 s rfl rfl ?_;have hB72 := hb_call hB0 hb69;exact ⟨ret_int (by rw [cp_R (by omega)]), hB72⟩
             rw [hc55] at s;have hp73 : p = 83 := by first | simpa using hc55 | simpa [and_assoc] using hc55
             refine co_true s rfl <| wp_exit <| co_thenX <| co_thenX ?_;refine co_blockY (by decide) ?_;refine co_thenX ?_;refine co_blockY (by decide) ?_;refine co_thenX ?_;refine co_blockY (by decide) ?_;refine co_thenX ?_;refine co_blockY (by decide) ?_;refine co_thenX ?_;refine co_blockY (by decide) ?_;refine co_thenX ?_;refine co_blockY (by decide) ?_;refine co_thenX <| qx <| q9 ?_;refine pk0 (v := pt B 0) s rfl fun _ s => ?_;refine pk0 (v := pt B 0) s rfl fun _ s => ?_;refine pk0 (v := pt B 20) s rfl fun _ s => ?_;refine pk (v := sv) s rfl (rn_load1 rfl rfl Tryz.isAgg63 (hB.cell rfl)) fun _ s => ?_;refine pw s rfl (op_call (args := #[sv, .int .i64 8, .func (.func 158) #[] #[]]) (R := fun res xw => res = .int .i64 (chkLs 8 chkSt d.st) ∧ Below w.heap.size w xw) rfl rfl rfl (by kernel_rfl) (by kernel_rfl) (Tryz.call157 _ _) (mListS_any sv d.st w ht (hR.st)) (by rintro e x ⟨rfl, hb80⟩; exact ⟨_, rfl, ⟨rfl, hb80⟩⟩)) ?_;rintro _ w79 a78 ⟨rfl, hb80⟩ s;have hz81 := hb80.size;refine pk0 (v := .int .i64 (chkLs 8 chkSt d.st)) s rfl fun _ s => q5 <| qr <| qr ?_;refine co_ret1 s rfl rfl ?_;have hB83 := hb_call hB0 hb80;exact ⟨ret_int (by rw [cp_S (by omega)]), hB83⟩
            rw [hc51] at s;have hp84 : p = 76 := by first | simpa using hc51 | simpa [and_assoc] using hc51
            refine co_true s rfl <| wp_exit <| co_thenX <| co_thenX ?_;refine co_blockY (by decide) ?_;refine co_thenX ?_;refine co_blockY (by decide) ?_;refine co_thenX ?_;refine co_blockY (by decide) ?_;refine co_thenX ?_;refine co_blockY (by decide) ?_;refine co_thenX ?_;refine co_blockY (by decide) ?_;refine co_thenX <| qx <| q9 ?_;refine pk0 (v := pt B 0) s rfl fun _ s => ?_;refine pk0 (v := pt B 0) s rfl fun _ s => ?_;refine pk0 (v := pt B 19) s rfl fun _ s => ?_;refine pk (v := ev) s rfl (rn_load1 rfl rfl Tryz.isAgg62 (hB.cell rfl)) fun _ s => ?_;refine pw s rfl (op_call (args := #[ev, .int .i64 4, .func (.func 156) #[] #[]]) (R := fun res xw => res = .int .i64 (chkLs 4 chkEn d.en) ∧ Below w.heap.size w xw) rfl rfl rfl (by kernel_rfl) (by kernel_rfl) (Tryz.call155 _ _) (mListE_any ev d.en w he hok) (by rintro e x ⟨rfl, hb91⟩; exact ⟨_, rfl, ⟨rfl, hb91⟩⟩)) ?_;rintro _ w90 a89 ⟨rfl, hb91⟩ s;have hz92 := hb91.size;refine pk0 (v := .int .i64 (chkLs 4 chkEn d.en)) s rfl fun _ s => q5 <| qr <| qr <| qr ?_;refine co_ret1 s rfl rfl ?_;have hB94 := hb_call hB0 hb91;exact ⟨ret_int (by rw [cp_L (by omega)]), hB94⟩
           rw [hc47] at s;have hp95 : p = 66 := by first | simpa using hc47 | simpa [and_assoc] using hc47
           refine co_true s rfl <| wp_exit <| co_thenX <| co_thenX ?_;refine co_blockY (by decide) ?_;refine co_thenX ?_;refine co_blockY (by decide) ?_;refine co_thenX ?_;refine co_blockY (by decide) ?_;refine co_thenX ?_;refine co_blockY (by decide) ?_;refine co_thenX <| qx <| q9 ?_;refine pk0 (v := pt B 0) s rfl fun _ s => ?_;refine pk0 (v := pt B 0) s rfl fun _ s => ?_;refine pk0 (v := pt B 16) s rfl fun _ s => ?_;refine pk (v := .agg #[.int .i64 d.bc, .int .i64 d.br, bv]) s rfl (rn_loadN rfl rfl Tryz.underlying61 rfl (by kernel_rfl) (blk_part hB 16 (by rfl))) fun _ s => ?_;refine pw s rfl (op_call (args := #[.agg #[.int .i64 d.bc, .int .i64 d.br, bv]]) (R := fun res xw => res = .int .i64 (chkB d.bc d.br d.bl) ∧ Below w.heap.size w xw) rfl rfl rfl (by kernel_rfl) (by kernel_rfl) (Tryz.call86 _ _) (opsCheck_any d.bc d.br bv d.bl w hb) (by rintro e x ⟨rfl, hb102⟩; exact ⟨_, rfl, ⟨rfl, hb102⟩⟩)) ?_;rintro _ w101 a100 ⟨rfl, hb102⟩ s;have hz103 := hb102.size;refine pk0 (v := .int .i64 (chkB d.bc d.br d.bl)) s rfl fun _ s => q5 <| qr <| qr <| qr <| qr ?_;refine co_ret1 s rfl rfl ?_;have hB105 := hb_call hB0 hb102;exact ⟨ret_int (by rw [cp_B (by omega)]), hB105⟩
          rw [hc43] at s;have hp106 : p = 67 := by first | simpa using hc43 | simpa [and_assoc] using hc43
          refine co_true s rfl <| wp_exit <| co_thenX <| co_thenX ?_;refine co_blockY (by decide) ?_;refine co_thenX ?_;refine co_blockY (by decide) ?_;refine co_thenX ?_;refine co_blockY (by decide) ?_;refine co_thenX <| qx <| q9 ?_;refine pk0 (v := pt B 0) s rfl fun _ s => ?_;refine pk0 (v := pt B 0) s rfl fun _ s => ?_;refine pk0 (v := pt B 13) s rfl fun _ s => ?_;refine pk (v := .agg #[.int .i64 d.cep, mv, .int .u64 d.cfl]) s rfl (rn_loadN rfl rfl Tryz.underlying59 rfl (by kernel_rfl) (blk_part hB 13 (by rfl))) fun _ s => ?_;refine pw s rfl (op_call (args := #[.agg #[.int .i64 d.cep, mv, .int .u64 d.cfl]]) (R := fun res xw => res = .int .i64 (chkC d.cep d.cms) ∧ Below w.heap.size w xw) rfl rfl rfl (by kernel_rfl) (by kernel_rfl) (Tryz.call152 _ _) (wcheck_any d.cep mv d.cms d.cfl w hm hR.mem (by omega) (by omega)) (by rintro e x ⟨rfl, hb113⟩; exact ⟨_, rfl, ⟨rfl, hb113⟩⟩)) ?_;rintro _ w112 a111 ⟨rfl, hb113⟩ s;have hz114 := hb113.size;refine pk0 (v := .int .i64 (chkC d.cep d.cms)) s rfl fun _ s => q5 <| qr <| qr <| qr <| qr <| qr ?_;refine co_ret1 s rfl rfl ?_;have hB116 := hb_call hB0 hb113;exact ⟨ret_int (by rw [cp_C (by omega)]), hB116⟩
         rw [hc39] at s;have hp117 : p = 116 := by first | simpa using hc39 | simpa [and_assoc] using hc39
         refine co_true s rfl <| wp_exit <| co_thenX <| co_thenX ?_;refine co_blockY (by decide) ?_;refine co_thenX ?_;refine co_blockY (by decide) ?_;refine co_thenX <| qx <| q9 ?_;refine pk0 (v := pt B 0) s rfl fun _ s => ?_;refine pk0 (v := .int .i32 p) s rfl fun _ s => ?_;refine pw s rfl (op_call (args := #[pt B 0, .int .i32 p]) (R := fun res xw => res = pt B 12 ∧ Below w.heap.size w xw) rfl rfl rfl (by kernel_rfl) (by kernel_rfl) (Tryz.call108 _ _) (mTextT_any B p w (by omega)) (by rintro e x ⟨rfl, hb122⟩; exact ⟨_, rfl, ⟨rfl, hb122⟩⟩)) ?_;rintro _ w121 a120 ⟨rfl, hb122⟩ s;have hz123 := hb122.size;refine pk0 (v := pt B 12) s rfl fun _ s => ?_;have hk125 := hB.below hb122;refine pk (v := .string d.to_) s rfl (rn_load1 rfl rfl Tryz.isAgg9 (hk125.cell rfl)) fun _ s => ?_;refine pk (v := .int .i64 (d.to_.size : Int)) s rfl (rn_lenStr rfl rfl Tryz.underlying9) fun _ s => ?_;refine pk0 (v := .bool (decide ((d.to_.size : Int) > 8))) s rfl fun _ s => q1 ?_;have hB130 := hb_call hB0 hb122;cases hc129 : (decide ((d.to_.size : Int) > 8))
         ·
          rw [hc129] at s;have hp131 : ¬ ((d.to_.size : Int) > 8) := of_decide_eq_false hc129;refine co_false s rfl <| q0 <| wp_exit ?_;refine co_blockY (by decide) ?_;refine co_thenX ?_;refine co_blockY (by decide) ?_;refine co_thenX ?_;refine co_blockY (by decide) ?_;refine co_thenX ?_;refine co_blockY (by decide) ?_;refine co_thenX ?_;refine co_blockY (by decide) ?_;refine co_thenX <| qx <| q2 ?_;refine pk0 (v := .int .i64 0) s rfl fun _ s => q4 ?_;refine co_ret1 s rfl rfl ?_;exact ⟨ret_int (by rw [cp_t (by omega)]; first | rw [if_pos (by omega)] | rw [if_neg (by omega)]), hB130⟩
         rw [hc129] at s;have hp133 : (d.to_.size : Int) > 8 := of_decide_eq_true hc129;refine co_true s rfl <| q2 ?_;refine pk0 (v := .int .i64 3) s rfl fun _ s => q5 <| qr <| qr <| qr <| qr <| qr <| qr ?_;refine co_ret1 s rfl rfl ?_;exact ⟨ret_int (by rw [cp_t (by omega)]; first | rw [if_pos (by omega)] | rw [if_neg (by omega)]), hB130⟩
        rw [hc35] at s;have hp135 : p = 107 := by first | simpa using hc35 | simpa [and_assoc] using hc35
        refine co_true s rfl <| q0 ?_;refine co_true s rfl <| wp_exit <| co_thenX <| co_thenX ?_;refine co_blockY (by decide) ?_;refine co_thenX ?_;refine co_blockY (by decide) ?_;refine co_thenX <| qx <| q9 ?_;refine pk0 (v := pt B 0) s rfl fun _ s => ?_;refine pk0 (v := .int .i32 p) s rfl fun _ s => ?_;refine pw s rfl (op_call (args := #[pt B 0, .int .i32 p]) (R := fun res xw => res = pt B 11 ∧ Below w.heap.size w xw) rfl rfl rfl (by kernel_rfl) (by kernel_rfl) (Tryz.call108 _ _) (mTextK_any B p w (by omega)) (by rintro e x ⟨rfl, hb140⟩; exact ⟨_, rfl, ⟨rfl, hb140⟩⟩)) ?_;rintro _ w139 a138 ⟨rfl, hb140⟩ s;have hz141 := hb140.size;refine pk0 (v := pt B 11) s rfl fun _ s => ?_;have hk143 := hB.below hb140;refine pk (v := .string d.key) s rfl (rn_load1 rfl rfl Tryz.isAgg9 (hk143.cell rfl)) fun _ s => ?_;refine pk (v := .int .i64 (d.key.size : Int)) s rfl (rn_lenStr rfl rfl Tryz.underlying9) fun _ s => ?_;refine pk0 (v := .bool (decide ((d.key.size : Int) > 8))) s rfl fun _ s => q1 ?_;have hB148 := hb_call hB0 hb140;cases hc147 : (decide ((d.key.size : Int) > 8))
        ·
         rw [hc147] at s;have hp149 : ¬ ((d.key.size : Int) > 8) := of_decide_eq_false hc147;refine co_false s rfl <| q0 <| wp_exit ?_;refine co_blockY (by decide) ?_;refine co_thenX ?_;refine co_blockY (by decide) ?_;refine co_thenX ?_;refine co_blockY (by decide) ?_;refine co_thenX ?_;refine co_blockY (by decide) ?_;refine co_thenX ?_;refine co_blockY (by decide) ?_;refine co_thenX <| qx <| q2 ?_;refine pk0 (v := .int .i64 0) s rfl fun _ s => q4 ?_;refine co_ret1 s rfl rfl ?_;exact ⟨ret_int (by rw [cp_k (by omega)]; first | rw [if_pos (by omega)] | rw [if_neg (by omega)]), hB148⟩
        rw [hc147] at s;have hp151 : (d.key.size : Int) > 8 := of_decide_eq_true hc147;refine co_true s rfl <| q2 ?_;refine pk0 (v := .int .i64 3) s rfl fun _ s => q5 <| qr <| qr <| qr <| qr <| qr <| qr ?_;refine co_ret1 s rfl rfl ?_;exact ⟨ret_int (by rw [cp_k (by omega)]; first | rw [if_pos (by omega)] | rw [if_neg (by omega)]), hB148⟩
       rw [hc31] at s;have hp153 : p = 112 := by first | simpa using hc31 | simpa [and_assoc] using hc31
       refine co_true s rfl <| wp_exit <| co_thenX <| co_thenX ?_;refine co_blockY (by decide) ?_;refine co_thenX <| qx <| q9 ?_;refine pk0 (v := pt B 0) s rfl fun _ s => ?_;refine pk0 (v := .int .i32 p) s rfl fun _ s => ?_;refine pw s rfl (op_call (args := #[pt B 0, .int .i32 p]) (R := fun res xw => res = .int .i64 (numP d p) ∧ Below w.heap.size w xw) rfl rfl rfl (by kernel_rfl) (by kernel_rfl) (Tryz.call139 _ _) (mNumber_any B d mv bv ev sv pv p w hB hm hb he ht hp) (by rintro e x ⟨rfl, hb158⟩; exact ⟨_, rfl, ⟨rfl, hb158⟩⟩)) ?_;rintro _ w157 a156 ⟨rfl, hb158⟩ s;have hz159 := hb158.size;refine pk0 (v := .int .i64 (numP d p)) s rfl fun _ s => q3 ?_;refine pk0 (v := .int .i64 (numP d p)) s rfl fun _ s => ?_;refine pk0 (v := .bool (decide (numP d p < 0))) s rfl fun _ s => ?_;refine pk0 (v := .bool (decide (numP d p < 0))) s rfl fun _ s => ?_;have hB165 := hb_call hB0 hb158;cases hc164 : (decide (numP d p < 0))
       ·
        rw [hc164] at s;have hp166 : ¬ (numP d p < 0) := of_decide_eq_false hc164;refine pk0 (v := .int .i64 (numP d p)) s rfl fun _ s => ?_;refine pk0 (v := .int .i64 1073741824) s rfl fun _ s => ?_;refine pk0 (v := .bool (decide (numP d p > 1073741824))) s rfl fun _ s => ?_;refine pk0 (v := .bool (decide (numP d p > 1073741824))) s rfl fun _ s => q1 ?_;cases hc171 : (decide (numP d p > 1073741824))
        ·
         rw [hc171] at s;have hp172 : ¬ (numP d p > 1073741824) := of_decide_eq_false hc171;refine co_false s rfl <| q0 <| wp_exit ?_;refine co_blockY (by decide) ?_;refine co_thenX ?_;refine co_blockY (by decide) ?_;refine co_thenX ?_;refine co_blockY (by decide) ?_;refine co_thenX ?_;refine co_blockY (by decide) ?_;refine co_thenX ?_;refine co_blockY (by decide) ?_;refine co_thenX ?_;refine co_blockY (by decide) ?_;refine co_thenX <| qx <| q2 ?_;refine pk0 (v := .int .i64 0) s rfl fun _ s => q4 ?_;refine co_ret1 s rfl rfl ?_;exact ⟨ret_int (by rw [cp_n (by omega)]; first | rw [if_pos (by omega)] | rw [if_neg (by omega)]), hB165⟩
        rw [hc171] at s;have hp174 : numP d p > 1073741824 := of_decide_eq_true hc171;refine co_true s rfl <| q2 ?_;refine pk0 (v := .int .i64 5) s rfl fun _ s => ?_;refine pk0 (v := .int .i64 5) s rfl fun _ s => q5 <| qr <| qr <| qr <| qr <| qr <| qr <| qr ?_;refine co_ret1 s rfl rfl ?_;exact ⟨ret_int (by rw [cp_n (by omega)]; first | rw [if_pos (by omega)] | rw [if_neg (by omega)]), hB165⟩
       rw [hc164] at s;have hp177 : numP d p < 0 := of_decide_eq_true hc164;refine psk s rfl fun _ s => ?_;refine psk s rfl fun _ s => ?_;refine psk s rfl fun _ s => ?_;refine pk0 (v := .bool true) s rfl fun _ s => q1 ?_;refine co_true s rfl <| q2 ?_;refine pk0 (v := .int .i64 5) s rfl fun _ s => ?_;refine pk0 (v := .int .i64 5) s rfl fun _ s => q5 <| qr <| qr <| qr <| qr <| qr <| qr <| qr ?_;refine co_ret1 s rfl rfl ?_;exact ⟨ret_int (by rw [cp_n (by omega)]; first | rw [if_pos (by omega)] | rw [if_neg (by omega)]), hB165⟩
      rw [hc27] at s;have hp184 : p = 109 := by first | simpa using hc27 | simpa [and_assoc] using hc27
      refine co_true s rfl <| q0 ?_;refine co_true s rfl <| wp_exit <| co_thenX <| co_thenX ?_;refine co_blockY (by decide) ?_;refine co_thenX <| qx <| q9 ?_;refine pk0 (v := pt B 0) s rfl fun _ s => ?_;refine pk0 (v := .int .i32 p) s rfl fun _ s => ?_;refine pw s rfl (op_call (args := #[pt B 0, .int .i32 p]) (R := fun res xw => res = .int .i64 (numP d p) ∧ Below w.heap.size w xw) rfl rfl rfl (by kernel_rfl) (by kernel_rfl) (Tryz.call139 _ _) (mNumber_any B d mv bv ev sv pv p w hB hm hb he ht hp) (by rintro e x ⟨rfl, hb189⟩; exact ⟨_, rfl, ⟨rfl, hb189⟩⟩)) ?_;rintro _ w188 a187 ⟨rfl, hb189⟩ s;have hz190 := hb189.size;refine pk0 (v := .int .i64 (numP d p)) s rfl fun _ s => q3 ?_;refine pk0 (v := .int .i64 (numP d p)) s rfl fun _ s => ?_;refine pk0 (v := .bool (decide (numP d p < 0))) s rfl fun _ s => ?_;refine pk0 (v := .bool (decide (numP d p < 0))) s rfl fun _ s => ?_;have hB196 := hb_call hB0 hb189;cases hc195 : (decide (numP d p < 0))
      ·
       rw [hc195] at s;have hp197 : ¬ (numP d p < 0) := of_decide_eq_false hc195;refine pk0 (v := .int .i64 (numP d p)) s rfl fun _ s => ?_;refine pk0 (v := .int .i64 1073741824) s rfl fun _ s => ?_;refine pk0 (v := .bool (decide (numP d p > 1073741824))) s rfl fun _ s => ?_;refine pk0 (v := .bool (decide (numP d p > 1073741824))) s rfl fun _ s => q1 ?_;cases hc202 : (decide (numP d p > 1073741824))
       ·
        rw [hc202] at s;have hp203 : ¬ (numP d p > 1073741824) := of_decide_eq_false hc202;refine co_false s rfl <| q0 <| wp_exit ?_;refine co_blockY (by decide) ?_;refine co_thenX ?_;refine co_blockY (by decide) ?_;refine co_thenX ?_;refine co_blockY (by decide) ?_;refine co_thenX ?_;refine co_blockY (by decide) ?_;refine co_thenX ?_;refine co_blockY (by decide) ?_;refine co_thenX ?_;refine co_blockY (by decide) ?_;refine co_thenX <| qx <| q2 ?_;refine pk0 (v := .int .i64 0) s rfl fun _ s => q4 ?_;refine co_ret1 s rfl rfl ?_;exact ⟨ret_int (by rw [cp_n (by omega)]; first | rw [if_pos (by omega)] | rw [if_neg (by omega)]), hB196⟩
       rw [hc202] at s;have hp205 : numP d p > 1073741824 := of_decide_eq_true hc202;refine co_true s rfl <| q2 ?_;refine pk0 (v := .int .i64 5) s rfl fun _ s => ?_;refine pk0 (v := .int .i64 5) s rfl fun _ s => q5 <| qr <| qr <| qr <| qr <| qr <| qr <| qr ?_;refine co_ret1 s rfl rfl ?_;exact ⟨ret_int (by rw [cp_n (by omega)]; first | rw [if_pos (by omega)] | rw [if_neg (by omega)]), hB196⟩
      rw [hc195] at s;have hp208 : numP d p < 0 := of_decide_eq_true hc195;refine psk s rfl fun _ s => ?_;refine psk s rfl fun _ s => ?_;refine psk s rfl fun _ s => ?_;refine pk0 (v := .bool true) s rfl fun _ s => q1 ?_;refine co_true s rfl <| q2 ?_;refine pk0 (v := .int .i64 5) s rfl fun _ s => ?_;refine pk0 (v := .int .i64 5) s rfl fun _ s => q5 <| qr <| qr <| qr <| qr <| qr <| qr <| qr ?_;refine co_ret1 s rfl rfl ?_;exact ⟨ret_int (by rw [cp_n (by omega)]; first | rw [if_pos (by omega)] | rw [if_neg (by omega)]), hB196⟩
     rw [hc23] at s;have hp215 : p = 110 := by first | simpa using hc23 | simpa [and_assoc] using hc23
     refine co_true s rfl <| q0 ?_;refine co_true s rfl <| wp_exit <| co_thenX <| co_thenX ?_;refine co_blockY (by decide) ?_;refine co_thenX <| qx <| q9 ?_;refine pk0 (v := pt B 0) s rfl fun _ s => ?_;refine pk0 (v := .int .i32 p) s rfl fun _ s => ?_;refine pw s rfl (op_call (args := #[pt B 0, .int .i32 p]) (R := fun res xw => res = .int .i64 (numP d p) ∧ Below w.heap.size w xw) rfl rfl rfl (by kernel_rfl) (by kernel_rfl) (Tryz.call139 _ _) (mNumber_any B d mv bv ev sv pv p w hB hm hb he ht hp) (by rintro e x ⟨rfl, hb220⟩; exact ⟨_, rfl, ⟨rfl, hb220⟩⟩)) ?_;rintro _ w219 a218 ⟨rfl, hb220⟩ s;have hz221 := hb220.size;refine pk0 (v := .int .i64 (numP d p)) s rfl fun _ s => q3 ?_;refine pk0 (v := .int .i64 (numP d p)) s rfl fun _ s => ?_;refine pk0 (v := .bool (decide (numP d p < 0))) s rfl fun _ s => ?_;refine pk0 (v := .bool (decide (numP d p < 0))) s rfl fun _ s => ?_;have hB227 := hb_call hB0 hb220;cases hc226 : (decide (numP d p < 0))
     ·
      rw [hc226] at s;have hp228 : ¬ (numP d p < 0) := of_decide_eq_false hc226;refine pk0 (v := .int .i64 (numP d p)) s rfl fun _ s => ?_;refine pk0 (v := .int .i64 1073741824) s rfl fun _ s => ?_;refine pk0 (v := .bool (decide (numP d p > 1073741824))) s rfl fun _ s => ?_;refine pk0 (v := .bool (decide (numP d p > 1073741824))) s rfl fun _ s => q1 ?_;cases hc233 : (decide (numP d p > 1073741824))
      ·
       rw [hc233] at s;have hp234 : ¬ (numP d p > 1073741824) := of_decide_eq_false hc233;refine co_false s rfl <| q0 <| wp_exit ?_;refine co_blockY (by decide) ?_;refine co_thenX ?_;refine co_blockY (by decide) ?_;refine co_thenX ?_;refine co_blockY (by decide) ?_;refine co_thenX ?_;refine co_blockY (by decide) ?_;refine co_thenX ?_;refine co_blockY (by decide) ?_;refine co_thenX ?_;refine co_blockY (by decide) ?_;refine co_thenX <| qx <| q2 ?_;refine pk0 (v := .int .i64 0) s rfl fun _ s => q4 ?_;refine co_ret1 s rfl rfl ?_;exact ⟨ret_int (by rw [cp_n (by omega)]; first | rw [if_pos (by omega)] | rw [if_neg (by omega)]), hB227⟩
      rw [hc233] at s;have hp236 : numP d p > 1073741824 := of_decide_eq_true hc233;refine co_true s rfl <| q2 ?_;refine pk0 (v := .int .i64 5) s rfl fun _ s => ?_;refine pk0 (v := .int .i64 5) s rfl fun _ s => q5 <| qr <| qr <| qr <| qr <| qr <| qr <| qr ?_;refine co_ret1 s rfl rfl ?_;exact ⟨ret_int (by rw [cp_n (by omega)]; first | rw [if_pos (by omega)] | rw [if_neg (by omega)]), hB227⟩
     rw [hc226] at s;have hp239 : numP d p < 0 := of_decide_eq_true hc226;refine psk s rfl fun _ s => ?_;refine psk s rfl fun _ s => ?_;refine psk s rfl fun _ s => ?_;refine pk0 (v := .bool true) s rfl fun _ s => q1 ?_;refine co_true s rfl <| q2 ?_;refine pk0 (v := .int .i64 5) s rfl fun _ s => ?_;refine pk0 (v := .int .i64 5) s rfl fun _ s => q5 <| qr <| qr <| qr <| qr <| qr <| qr <| qr ?_;refine co_ret1 s rfl rfl ?_;exact ⟨ret_int (by rw [cp_n (by omega)]; first | rw [if_pos (by omega)] | rw [if_neg (by omega)]), hB227⟩
    rw [hc19] at s;have hp246 : p = 113 := by first | simpa using hc19 | simpa [and_assoc] using hc19
    refine co_true s rfl <| q0 ?_;refine co_true s rfl <| wp_exit <| co_thenX <| co_thenX ?_;refine co_blockY (by decide) ?_;refine co_thenX <| qx <| q9 ?_;refine pk0 (v := pt B 0) s rfl fun _ s => ?_;refine pk0 (v := .int .i32 p) s rfl fun _ s => ?_;refine pw s rfl (op_call (args := #[pt B 0, .int .i32 p]) (R := fun res xw => res = .int .i64 (numP d p) ∧ Below w.heap.size w xw) rfl rfl rfl (by kernel_rfl) (by kernel_rfl) (Tryz.call139 _ _) (mNumber_any B d mv bv ev sv pv p w hB hm hb he ht hp) (by rintro e x ⟨rfl, hb251⟩; exact ⟨_, rfl, ⟨rfl, hb251⟩⟩)) ?_;rintro _ w250 a249 ⟨rfl, hb251⟩ s;have hz252 := hb251.size;refine pk0 (v := .int .i64 (numP d p)) s rfl fun _ s => q3 ?_;refine pk0 (v := .int .i64 (numP d p)) s rfl fun _ s => ?_;refine pk0 (v := .bool (decide (numP d p < 0))) s rfl fun _ s => ?_;refine pk0 (v := .bool (decide (numP d p < 0))) s rfl fun _ s => ?_;have hB258 := hb_call hB0 hb251;cases hc257 : (decide (numP d p < 0))
    ·
     rw [hc257] at s;have hp259 : ¬ (numP d p < 0) := of_decide_eq_false hc257;refine pk0 (v := .int .i64 (numP d p)) s rfl fun _ s => ?_;refine pk0 (v := .int .i64 1073741824) s rfl fun _ s => ?_;refine pk0 (v := .bool (decide (numP d p > 1073741824))) s rfl fun _ s => ?_;refine pk0 (v := .bool (decide (numP d p > 1073741824))) s rfl fun _ s => q1 ?_;cases hc264 : (decide (numP d p > 1073741824))
     ·
      rw [hc264] at s;have hp265 : ¬ (numP d p > 1073741824) := of_decide_eq_false hc264;refine co_false s rfl <| q0 <| wp_exit ?_;refine co_blockY (by decide) ?_;refine co_thenX ?_;refine co_blockY (by decide) ?_;refine co_thenX ?_;refine co_blockY (by decide) ?_;refine co_thenX ?_;refine co_blockY (by decide) ?_;refine co_thenX ?_;refine co_blockY (by decide) ?_;refine co_thenX ?_;refine co_blockY (by decide) ?_;refine co_thenX <| qx <| q2 ?_;refine pk0 (v := .int .i64 0) s rfl fun _ s => q4 ?_;refine co_ret1 s rfl rfl ?_;exact ⟨ret_int (by rw [cp_n (by omega)]; first | rw [if_pos (by omega)] | rw [if_neg (by omega)]), hB258⟩
     rw [hc264] at s;have hp267 : numP d p > 1073741824 := of_decide_eq_true hc264;refine co_true s rfl <| q2 ?_;refine pk0 (v := .int .i64 5) s rfl fun _ s => ?_;refine pk0 (v := .int .i64 5) s rfl fun _ s => q5 <| qr <| qr <| qr <| qr <| qr <| qr <| qr ?_;refine co_ret1 s rfl rfl ?_;exact ⟨ret_int (by rw [cp_n (by omega)]; first | rw [if_pos (by omega)] | rw [if_neg (by omega)]), hB258⟩
    rw [hc257] at s;have hp270 : numP d p < 0 := of_decide_eq_true hc257;refine psk s rfl fun _ s => ?_;refine psk s rfl fun _ s => ?_;refine psk s rfl fun _ s => ?_;refine pk0 (v := .bool true) s rfl fun _ s => q1 ?_;refine co_true s rfl <| q2 ?_;refine pk0 (v := .int .i64 5) s rfl fun _ s => ?_;refine pk0 (v := .int .i64 5) s rfl fun _ s => q5 <| qr <| qr <| qr <| qr <| qr <| qr <| qr ?_;refine co_ret1 s rfl rfl ?_;exact ⟨ret_int (by rw [cp_n (by omega)]; first | rw [if_pos (by omega)] | rw [if_neg (by omega)]), hB258⟩
   rw [hc15] at s;have hp277 : p = 115 := by first | simpa using hc15 | simpa [and_assoc] using hc15
   refine co_true s rfl <| q0 ?_;refine co_true s rfl <| wp_exit <| co_thenX <| co_thenX ?_;refine co_blockY (by decide) ?_;refine co_thenX <| qx <| q9 ?_;refine pk0 (v := pt B 0) s rfl fun _ s => ?_;refine pk0 (v := .int .i32 p) s rfl fun _ s => ?_;refine pw s rfl (op_call (args := #[pt B 0, .int .i32 p]) (R := fun res xw => res = .int .i64 (numP d p) ∧ Below w.heap.size w xw) rfl rfl rfl (by kernel_rfl) (by kernel_rfl) (Tryz.call139 _ _) (mNumber_any B d mv bv ev sv pv p w hB hm hb he ht hp) (by rintro e x ⟨rfl, hb282⟩; exact ⟨_, rfl, ⟨rfl, hb282⟩⟩)) ?_;rintro _ w281 a280 ⟨rfl, hb282⟩ s;have hz283 := hb282.size;refine pk0 (v := .int .i64 (numP d p)) s rfl fun _ s => q3 ?_;refine pk0 (v := .int .i64 (numP d p)) s rfl fun _ s => ?_;refine pk0 (v := .bool (decide (numP d p < 0))) s rfl fun _ s => ?_;refine pk0 (v := .bool (decide (numP d p < 0))) s rfl fun _ s => ?_;have hB289 := hb_call hB0 hb282;cases hc288 : (decide (numP d p < 0))
   ·
    rw [hc288] at s;have hp290 : ¬ (numP d p < 0) := of_decide_eq_false hc288;refine pk0 (v := .int .i64 (numP d p)) s rfl fun _ s => ?_;refine pk0 (v := .int .i64 1073741824) s rfl fun _ s => ?_;refine pk0 (v := .bool (decide (numP d p > 1073741824))) s rfl fun _ s => ?_;refine pk0 (v := .bool (decide (numP d p > 1073741824))) s rfl fun _ s => q1 ?_;cases hc295 : (decide (numP d p > 1073741824))
    ·
     rw [hc295] at s;have hp296 : ¬ (numP d p > 1073741824) := of_decide_eq_false hc295;refine co_false s rfl <| q0 <| wp_exit ?_;refine co_blockY (by decide) ?_;refine co_thenX ?_;refine co_blockY (by decide) ?_;refine co_thenX ?_;refine co_blockY (by decide) ?_;refine co_thenX ?_;refine co_blockY (by decide) ?_;refine co_thenX ?_;refine co_blockY (by decide) ?_;refine co_thenX ?_;refine co_blockY (by decide) ?_;refine co_thenX <| qx <| q2 ?_;refine pk0 (v := .int .i64 0) s rfl fun _ s => q4 ?_;refine co_ret1 s rfl rfl ?_;exact ⟨ret_int (by rw [cp_n (by omega)]; first | rw [if_pos (by omega)] | rw [if_neg (by omega)]), hB289⟩
    rw [hc295] at s;have hp298 : numP d p > 1073741824 := of_decide_eq_true hc295;refine co_true s rfl <| q2 ?_;refine pk0 (v := .int .i64 5) s rfl fun _ s => ?_;refine pk0 (v := .int .i64 5) s rfl fun _ s => q5 <| qr <| qr <| qr <| qr <| qr <| qr <| qr ?_;refine co_ret1 s rfl rfl ?_;exact ⟨ret_int (by rw [cp_n (by omega)]; first | rw [if_pos (by omega)] | rw [if_neg (by omega)]), hB289⟩
   rw [hc288] at s;have hp301 : numP d p < 0 := of_decide_eq_true hc288;refine psk s rfl fun _ s => ?_;refine psk s rfl fun _ s => ?_;refine psk s rfl fun _ s => ?_;refine pk0 (v := .bool true) s rfl fun _ s => q1 ?_;refine co_true s rfl <| q2 ?_;refine pk0 (v := .int .i64 5) s rfl fun _ s => ?_;refine pk0 (v := .int .i64 5) s rfl fun _ s => q5 <| qr <| qr <| qr <| qr <| qr <| qr <| qr ?_;refine co_ret1 s rfl rfl ?_;exact ⟨ret_int (by rw [cp_n (by omega)]; first | rw [if_pos (by omega)] | rw [if_neg (by omega)]), hB289⟩
  rw [hc11] at s;have hp308 : p = 101 := by first | simpa using hc11 | simpa [and_assoc] using hc11
  refine co_true s rfl <| q0 ?_;refine co_true s rfl <| wp_exit <| co_thenX <| co_thenX ?_;refine co_blockY (by decide) ?_;refine co_thenX <| qx <| q9 ?_;refine pk0 (v := pt B 0) s rfl fun _ s => ?_;refine pk0 (v := .int .i32 p) s rfl fun _ s => ?_;refine pw s rfl (op_call (args := #[pt B 0, .int .i32 p]) (R := fun res xw => res = .int .i64 (numP d p) ∧ Below w.heap.size w xw) rfl rfl rfl (by kernel_rfl) (by kernel_rfl) (Tryz.call139 _ _) (mNumber_any B d mv bv ev sv pv p w hB hm hb he ht hp) (by rintro e x ⟨rfl, hb313⟩; exact ⟨_, rfl, ⟨rfl, hb313⟩⟩)) ?_;rintro _ w312 a311 ⟨rfl, hb313⟩ s;have hz314 := hb313.size;refine pk0 (v := .int .i64 (numP d p)) s rfl fun _ s => q3 ?_;refine pk0 (v := .int .i64 (numP d p)) s rfl fun _ s => ?_;refine pk0 (v := .bool (decide (numP d p < 0))) s rfl fun _ s => ?_;refine pk0 (v := .bool (decide (numP d p < 0))) s rfl fun _ s => ?_;have hB320 := hb_call hB0 hb313;cases hc319 : (decide (numP d p < 0))
  ·
   rw [hc319] at s;have hp321 : ¬ (numP d p < 0) := of_decide_eq_false hc319;refine pk0 (v := .int .i64 (numP d p)) s rfl fun _ s => ?_;refine pk0 (v := .int .i64 1073741824) s rfl fun _ s => ?_;refine pk0 (v := .bool (decide (numP d p > 1073741824))) s rfl fun _ s => ?_;refine pk0 (v := .bool (decide (numP d p > 1073741824))) s rfl fun _ s => q1 ?_;cases hc326 : (decide (numP d p > 1073741824))
   ·
    rw [hc326] at s;have hp327 : ¬ (numP d p > 1073741824) := of_decide_eq_false hc326;refine co_false s rfl <| q0 <| wp_exit ?_;refine co_blockY (by decide) ?_;refine co_thenX ?_;refine co_blockY (by decide) ?_;refine co_thenX ?_;refine co_blockY (by decide) ?_;refine co_thenX ?_;refine co_blockY (by decide) ?_;refine co_thenX ?_;refine co_blockY (by decide) ?_;refine co_thenX ?_;refine co_blockY (by decide) ?_;refine co_thenX <| qx <| q2 ?_;refine pk0 (v := .int .i64 0) s rfl fun _ s => q4 ?_;refine co_ret1 s rfl rfl ?_;exact ⟨ret_int (by rw [cp_n (by omega)]; first | rw [if_pos (by omega)] | rw [if_neg (by omega)]), hB320⟩
   rw [hc326] at s;have hp329 : numP d p > 1073741824 := of_decide_eq_true hc326;refine co_true s rfl <| q2 ?_;refine pk0 (v := .int .i64 5) s rfl fun _ s => ?_;refine pk0 (v := .int .i64 5) s rfl fun _ s => q5 <| qr <| qr <| qr <| qr <| qr <| qr <| qr ?_;refine co_ret1 s rfl rfl ?_;exact ⟨ret_int (by rw [cp_n (by omega)]; first | rw [if_pos (by omega)] | rw [if_neg (by omega)]), hB320⟩
  rw [hc319] at s;have hp332 : numP d p < 0 := of_decide_eq_true hc319;refine psk s rfl fun _ s => ?_;refine psk s rfl fun _ s => ?_;refine psk s rfl fun _ s => ?_;refine pk0 (v := .bool true) s rfl fun _ s => q1 ?_;refine co_true s rfl <| q2 ?_;refine pk0 (v := .int .i64 5) s rfl fun _ s => ?_;refine pk0 (v := .int .i64 5) s rfl fun _ s => q5 <| qr <| qr <| qr <| qr <| qr <| qr <| qr ?_;refine co_ret1 s rfl rfl ?_;exact ⟨ret_int (by rw [cp_n (by omega)]; first | rw [if_pos (by omega)] | rw [if_neg (by omega)]), hB320⟩
 rw [hc7] at s;have hp339 : p = 120 := by first | simpa using hc7 | simpa [and_assoc] using hc7
 refine co_true s rfl <| wp_exit <| co_thenX <| co_thenX <| qx <| co_reg ?_;refine pk0 (v := .int .i64 21) s rfl fun _ s => ?_;refine pk0 (v := .int .i64 1) s rfl fun _ s => pl_nil <| co_blockN <| co_then <| q9 ?_;refine pk0 (v := pt B 0) s rfl fun _ s => ?_;refine pk0 (v := .int .i32 p) s rfl fun _ s => ?_;refine pw s rfl (op_call (args := #[pt B 0, .int .i32 p]) (R := fun res xw => res = .int .i64 (numP d p) ∧ Below w.heap.size w xw) rfl rfl rfl (by kernel_rfl) (by kernel_rfl) (Tryz.call139 _ _) (mNumber_any B d mv bv ev sv pv p w hB hm hb he ht hp) (by rintro e x ⟨rfl, hb346⟩; exact ⟨_, rfl, ⟨rfl, hb346⟩⟩)) ?_;rintro _ w345 a344 ⟨rfl, hb346⟩ s;have hz347 := hb346.size;refine pk0 (v := .int .i64 (numP d p)) s rfl fun _ s => q3 ?_;refine pk0 (v := .int .i64 (numP d p)) s rfl fun _ s => ?_;refine pk0 (v := .bool (decide (numP d p < 0))) s rfl fun _ s => ?_;refine pk0 (v := .bool (decide (numP d p < 0))) s rfl fun _ s => ?_;have hB353 := hb_call hB0 hb346;cases hc352 : (decide (numP d p < 0))
 ·
  rw [hc352] at s;have hp354 : ¬ (numP d p < 0) := of_decide_eq_false hc352;refine pk0 (v := .int .i64 (numP d p)) s rfl fun _ s => ?_;refine pk0 (v := .int .i64 21) s rfl fun _ s => ?_;refine pk0 (v := .bool (decide (numP d p > 21))) s rfl fun _ s => ?_;refine pk0 (v := .bool (decide (numP d p > 21))) s rfl fun _ s => q1 ?_;cases hc359 : (decide (numP d p > 21))
  ·
   rw [hc359] at s;have hp360 : ¬ (numP d p > 21) := of_decide_eq_false hc359;refine co_false s rfl <| q0 <| wp_exit ?_;refine co_blockY (by decide) ?_;refine co_thenX ?_;refine co_blockY (by decide) ?_;refine co_thenX ?_;refine co_blockY (by decide) ?_;refine co_thenX ?_;refine co_blockY (by decide) ?_;refine co_thenX ?_;refine co_blockY (by decide) ?_;refine co_thenX ?_;refine co_blockY (by decide) ?_;refine co_thenX <| qx <| q2 ?_;refine pk0 (v := .int .i64 0) s rfl fun _ s => q4 ?_;refine co_ret1 s rfl rfl ?_;exact ⟨ret_int (by have hn := np_7 (d := d) (p := p) (by omega); rw [cp_x (by omega)]; first | rw [if_pos (by omega)] | rw [if_neg (by omega)]), hB353⟩
  rw [hc359] at s;have hp362 : numP d p > 21 := of_decide_eq_true hc359;refine co_true s rfl <| q2 ?_;refine pk0 (v := .int .i64 1) s rfl fun _ s => ?_;refine pk0 (v := .int .i64 1) s rfl fun _ s => q5 <| qr <| qr <| qr <| qr <| qr <| qr <| qr ?_;refine co_ret1 s rfl rfl ?_;exact ⟨ret_int (by have hn := np_7 (d := d) (p := p) (by omega); rw [cp_x (by omega)]; first | rw [if_pos (by omega)] | rw [if_neg (by omega)]), hB353⟩
 rw [hc352] at s;have hp365 : numP d p < 0 := of_decide_eq_true hc352;refine psk s rfl fun _ s => ?_;refine psk s rfl fun _ s => ?_;refine psk s rfl fun _ s => ?_;refine pk0 (v := .bool true) s rfl fun _ s => q1 ?_;refine co_true s rfl <| q2 ?_;refine pk0 (v := .int .i64 1) s rfl fun _ s => ?_;refine pk0 (v := .int .i64 1) s rfl fun _ s => q5 <| qr <| qr <| qr <| qr <| qr <| qr <| qr ?_;refine co_ret1 s rfl rfl ?_;exact ⟨ret_int (by have hn := np_7 (d := d) (p := p) (by omega); rw [cp_x (by omega)]; first | rw [if_pos (by omega)] | rw [if_neg (by omega)]), hB353⟩
set_option maxRecDepth 100000 in
theorem mCheck_any (d : MsgD) (mv : Value) (bv : Value) (ev : Value) (sv : Value) (pv : Value) (w : World) (hm : SliceOf memE 2 w mv d.cms) (hb : SliceOf opE 3 w bv d.bl) (he : SliceOf entE 4 w ev d.en) (ht : SliceOf (intE .u64) 1 w sv d.st) (hp : SliceOf prE 2 w pv d.pr) (hok : ∀ z ∈ d.en, EntOk w z) (hR : MsgR d) :
    Calls Tryz.prog 74 #[.agg #[.int .i64 d.k, .int .i64 d.ep, .int .i64 d.rq, .int .i64 d.sr, .bool d.fg, .int .u64 d.at_, .int .u64 d.la, .int .i64 d.n, .int .i64 d.m, .int .i64 d.p, .int .i64 d.e, .string d.key, .string d.to_, .int .i64 d.cep, mv, .int .u64 d.cfl, .int .i64 d.bc, .int .i64 d.br, bv, ev, sv, pv]] w fun e w' => e = .returned (.int .i64 (chkMg d)) ∧ Below w.heap.size w w' := by
 have hrng := hR.rng;have hB0 := Below.refl w.heap.size w;have hl_hm := sl_len hm;have hl_hb := sl_len hb;have hl_he := sl_len he;have hl_ht := sl_len ht;have hl_hp := sl_len hp;refine co_enter (n := 22) Tryz.func74 rfl rfl rfl [(0, .agg #[.int .i64 d.k, .int .i64 d.ep, .int .i64 d.rq, .int .i64 d.sr, .bool d.fg, .int .u64 d.at_, .int .u64 d.la, .int .i64 d.n, .int .i64 d.m, .int .i64 d.p, .int .i64 d.e, .string d.key, .string d.to_, .int .i64 d.cep, mv, .int .u64 d.cfl, .int .i64 d.bc, .int .i64 d.br, bv, ev, sv, pv])] rfl (fun a s => ?_);refine q2 ?_;refine pw s rfl (op_new (v := fun N => pt N 0) (T := 65) (cs := #[.int .i64 d.k, .int .i64 d.ep, .int .i64 d.rq, .int .i64 d.sr, .bool d.fg, .int .u64 d.at_, .int .u64 d.la, .int .i64 d.n, .int .i64 d.m, .int .i64 d.p, .int .i64 d.e, .string d.key, .string d.to_, .int .i64 d.cep, mv, .int .u64 d.cfl, .int .i64 d.bc, .int .i64 d.br, bv, ev, sv, pv]) (by kernel_rfl) (by kernel_rfl) (by kernel_rfl)) ?_;rintro _ w2 a1 ⟨N3, rfl, hN6, hz7, hk5, hg4⟩ s;have hz8 := hg4.size
 try dsimp only at s
 refine pk0 (v := .int .i64 0) s rfl fun _ s => q6 ?_;refine pk0 (v := pt N3 0) s rfl fun _ s => ?_;refine pk (v := .int .i64 d.k) s rfl (rn_load1 rfl rfl Tryz.isAgg3 (hk5.cell rfl)) fun _ s => ?_;refine pw s rfl (op_call (args := #[.int .i64 d.k]) (R := fun res xw => res = .bool (decide (1 ≤ d.k ∧ d.k ≤ 15)) ∧ Below w2.heap.size w2 xw) rfl rfl rfl (by kernel_rfl) (by kernel_rfl) (Tryz.call70 _ _) (mKnown_any d.k w2 ) (by rintro e x ⟨rfl, hb14⟩; exact ⟨_, rfl, ⟨rfl, hb14⟩⟩)) ?_;rintro _ w13 a12 ⟨rfl, hb14⟩ s;have hz15 := hb14.size;have hB17 := hb_new hB0 hg4;have hB18 := hb_call hB17 hb14;cases hc16 : (decide (1 ≤ d.k ∧ d.k ≤ 15))
 ·
  rw [hc16] at s;have hp19 : ¬ (1 ≤ d.k ∧ d.k ≤ 15) := of_decide_eq_false hc16;refine pk0 (v := .bool true) s rfl fun _ s => q1 ?_;refine co_true s rfl <| q2 ?_;refine pk0 (v := .int .i64 11) s rfl fun _ s => q5 ?_;refine co_ret1 s rfl rfl ?_;exact ⟨ret_int (by unfold chkMg; rw [if_neg (by omega)]), hB18⟩
 rw [hc16] at s;have hp22 : 1 ≤ d.k ∧ d.k ≤ 15 := of_decide_eq_true hc16;refine pk0 (v := .bool false) s rfl fun _ s => q1 ?_;refine co_false s rfl <| q8 ?_;refine pk0 (v := pt N3 0) s rfl fun _ s => ?_;have hk25 := hk5.below hb14;refine pk (v := .int .i64 d.k) s rfl (rn_load1 rfl rfl Tryz.isAgg3 (hk25.cell rfl)) fun _ s => ?_;refine pw s rfl (op_call (args := #[.int .i64 d.k]) (R := fun res xw => res = .string (pstr d.k) ∧ Below w13.heap.size w13 xw) rfl rfl rfl (by kernel_rfl) (by kernel_rfl) (Tryz.call71 _ _) (mParts_any d.k w13 ) (by rintro e x ⟨rfl, hb29⟩; exact ⟨_, rfl, ⟨rfl, hb29⟩⟩)) ?_;rintro _ w28 a27 ⟨rfl, hb29⟩ s;have hz30 := hb29.size;refine pw s rfl (op_rangeS rfl rfl Tryz.underlying9) ?_;rintro _ w32 a31 ⟨r33, rfl, hN34, hI35, hz36, hg37⟩ s;have hz38 := hg37.size;have hl39 := hI35.lt;refine q1 <| wp_block ?_;have s : Slots 22 [(1, pt N3 0), (2, .int .i64 0), (12, .string (pstr d.k)), (13, pt r33 0)] _ := s.sub ⟨rfl, rfl, rfl, rfl, trivial⟩;refine co_loop (fun mm a x => ∃ (i : Nat), Slots 22 [(1, pt N3 0), (2, .int .i64 0), (12, .string (pstr d.k)), (13, pt r33 0)] a ∧ mm = (pstr d.k).size - i ∧ (i ≤ (pstr d.k).size) ∧ (chkF (cP d) ((ptL d.k).drop i) = chkF (cP d) (ptL d.k)) ∧ SIt x r33 (pstr d.k) i ∧ Below w.heap.size w x ∧ Blk x N3 65 #[.int .i64 d.k, .int .i64 d.ep, .int .i64 d.rq, .int .i64 d.sr, .bool d.fg, .int .u64 d.at_, .int .u64 d.la, .int .i64 d.n, .int .i64 d.m, .int .i64 d.p, .int .i64 d.e, .string d.key, .string d.to_, .int .i64 d.cep, mv, .int .u64 d.cfl, .int .i64 d.bc, .int .i64 d.br, bv, ev, sv, pv]) ((pstr d.k).size - 0) ?_ ?_;have hB41 := hb_call hB18 hb29;have hB42 := hb_new hB41 hg37;have hk43 := hk25.below hb29;have hk44 := hk43.kept hg37 (by simp)
 · exact ⟨0, s.sub ⟨rfl, rfl, rfl, rfl, trivial⟩, rfl, by omega, by first | rfl | exact hL', hI35, hB42, hk44⟩
 · rintro k45 a46 w47 ⟨i, s, rfl, hi48, hi49, hf50, hB51, hk52⟩
   have hz53 := hB51.size;have hl54 := hk52.lt;have hl55 := hf50.lt;have hL : chkF (cP d) ((ptL d.k).drop i) = chkF (cP d) (ptL d.k) := by assumption
   refine q2 ?_;refine pl_want s rfl rfl rfl (op_nextS rfl rfl hf50 (pstr_ascii _)) ?_;rintro _ w57 a56 (⟨hend58, rfl, rfl⟩ | ⟨hlt59, rfl, hI60, hz61, hg62⟩) s
   ·
    refine pk0 (v := .bool false) s rfl fun _ s => q1 <| co_seq ?_;refine co_false s rfl <| wp_exit <| co_thenX <| co_thenX <| qx <| q2 ?_;refine pk0 (v := .int .i64 0) s rfl fun _ s => q4 ?_;refine co_ret1 s rfl rfl ?_;have hpl := pstr_len d.k;exact ⟨ret_int (by unfold chkMg; rw [if_pos (by omega)]; exact cF_end (i := i) hL (by omega)), hB51⟩
   have hz65 := hg62.size;have hl66 := hI60.lt;refine pk0 (v := .bool true) s rfl fun _ s => q1 <| co_seq ?_;refine co_true s rfl <| q0 <| wp_block <| q2 ?_;refine pk0 (v := .int .i32 (byteAt (pstr d.k) i)) s rfl fun _ s => ?_;refine pk0 (v := .int .i32 (byteAt (pstr d.k) i)) s rfl fun _ s => q3 ?_;refine pk0 (v := .int .i32 (byteAt (pstr d.k) i)) s rfl fun _ s => ?_;have hB73 := hb_at hB51 hg62 (by omega);have hk74 := hk52.kept hg62 (by simp; omega);refine pw s rfl (op_call (args := #[pt N3 0, .int .i32 (byteAt (pstr d.k) i)]) (R := fun res xw => res = .int .i64 (chkP d (byteAt (pstr d.k) i)) ∧ Below w57.heap.size w57 xw) rfl rfl rfl (by kernel_rfl) (by kernel_rfl) (Tryz.call116 _ _) (mCheckP_any N3 d mv bv ev sv pv (byteAt (pstr d.k) i) w57 hk74 (hm.below hB73) (hb.below hB73) (he.below hB73) (ht.below hB73) (hp.below hB73) (fun z hz => (hok z hz).below hB73) hR) (by rintro e x ⟨rfl, hb75⟩; exact ⟨_, rfl, ⟨rfl, hb75⟩⟩)) ?_;rintro _ w72 a71 ⟨rfl, hb75⟩ s;have hz76 := hb75.size;refine pk0 (v := .int .i64 (chkP d (byteAt (pstr d.k) i))) s rfl fun _ s => q3 ?_;refine pk0 (v := .int .i64 (chkP d (byteAt (pstr d.k) i))) s rfl fun _ s => ?_;refine pk0 (v := .bool (chkP d (byteAt (pstr d.k) i) != 0)) s rfl fun _ s => q1 ?_;have hB81 := hb_call hB73 hb75;cases hc80 : (chkP d (byteAt (pstr d.k) i) != 0)
   ·
    rw [hc80] at s;have hp82 : ¬ (chkP d (byteAt (pstr d.k) i) ≠ 0) := by first | simpa using hc80 | simpa [and_assoc] using hc80
    refine co_false s rfl <| wp_skip <| co_blockN <| co_then ?_;refine ⟨((pstr d.k).size - (i + 1)), by omega, ?_⟩;obtain ⟨c, hc, hcb⟩ := byteAt_pstr (k := d.k) (i := i) (by omega);have hL' := cF_step (f := cP d) hL hc (by show chkP d _ = 0; rw [← hcb]; omega);have hI83 := hI60.kept (below_grown hb75) (by simp);have hk84 := hk74.below hb75;exact ⟨i + 1, s.sub ⟨rfl, rfl, rfl, rfl, trivial⟩, rfl, by omega, by first | rfl | exact hL', hI83, hB81, hk84⟩
   rw [hc80] at s;have hp85 : chkP d (byteAt (pstr d.k) i) ≠ 0 := by first | simpa using hc80 | simpa [and_assoc] using hc80
   refine co_true s rfl <| q2 ?_;refine pk0 (v := .int .i64 (chkP d (byteAt (pstr d.k) i))) s rfl fun _ s => ?_;refine pk0 (v := .int .i64 (chkP d (byteAt (pstr d.k) i))) s rfl fun _ s => q4 <| qr <| qr ?_;refine co_ret1 s rfl rfl ?_;obtain ⟨c, hc, hcb⟩ := byteAt_pstr (k := d.k) (i := i) (by omega);exact ⟨ret_int (by unfold chkMg; rw [if_pos (by omega), hcb]; exact cF_bad (f := cP d) (i := i) hL hc (by show chkP d _ ≠ 0; rw [← hcb]; omega)), hB81⟩
end Go.Proofs.YtifknllhmbkkcaaGreat

/- The document's own messages: what is wrong with a part. Conditions: none. -/
namespace Go.Proofs.YtifknllhmbkkcaaGreat
open Go.RowKit Go.PlainAid
set_option linter.unusedVariables false


theorem ptL_small (k : Int) : (ptL k).length ≤ 7 := by
  unfold ptL
  repeat' split
  all_goals decide
end Go.Proofs.YtifknllhmbkkcaaGreat

/- Writers that were handed in; the document's own messages: a part is written. Conditions: none. -/
namespace Go.Proofs.YtifknllhmbkkcaaGreat
open Go.RowKit Go.PlainAid
set_option linter.unusedVariables false
set_option linter.unusedSimpArgs false


/-- What a call on a writer, block b, may turn: b, and bytes that lie behind it. -/
def Ru (w : World) (b : Nat) (k : Nat) : Prop := k = b ∨ (b < k ∧ ∃ cs, w.heap[k]? = some (.cells cs 5 (0, 0)))
section
variable {w x w0 : World} {b N m : Nat} {l : List UInt8}
theorem ow_ru (h : OW b l m w) {k : Nat} (hk : Rw w b k) : Ru w b k := by
  rcases h.wr.only hk with h1 | h1
  · exact Or.inl h1
  · rcases hk with h2 | h2
    · exact Or.inl h2
    · exact Or.inr ⟨h1, h.wr.row_is h2⟩
theorem fb_ru (h0 : But (Ru w0 b) w0 w) (h : OW b l m w) (hb : But (Rw w b) w x) : But (Ru w0 b) w0 x :=
  h0.trans' hb (fun i hi hk => by
    rcases Classical.em (Ru w0 b i) with h1 | h1
    · exact h1
    · rcases ow_ru h hk with h2 | ⟨h2, cs, h3⟩
      · exact Or.inl h2
      · rw [h0.block i hi h1] at h3; exact Or.inr ⟨h2, cs, h3⟩)
theorem ru_below (hwb : w0.heap.size ≤ b) (h0 : Below w0.heap.size w0 w) (hb : But (Ru w b) w x) : Below w0.heap.size w0 x :=
  hb_foot h0 hb (fun i _ hi => by rcases hi with h1 | h1 <;> omega)
theorem blk_ru {T : TypeId} {cs : Array Value} (hk : Blk w N T cs) (hT : T ≠ 5) (hne : N ≠ b) (hb : But (Ru w b) w x) : Blk x N T cs :=
  hk.but hb (by
    rintro (h1 | ⟨_, c, h2⟩)
    · exact hne h1
    · unfold Blk at hk; rw [hk] at h2; injection h2 with h2; injection h2 with h2 h3; exact hT h3)
theorem sit_ru {r pos : Nat} {s : ByteArray} (h : SIt w r s pos) (hne : r ≠ b) (hb : But (Ru w b) w x) : SIt x r s pos :=
  h.but hb (by
    rintro (h1 | ⟨_, c, h2⟩)
    · exact hne h1
    · rw [show w.heap[r]? = _ from h] at h2; cases h2)
theorem OW.sit {r pos : Nat} {s : ByteArray} (h : OW b l m w) (hs : SIt w r s pos) (hne : b ≠ r) (hg : w.grownBy x (some r)) : OW b l m x :=
  ⟨h.wr.keep (grown_but hg) (fun e1 => hne (Option.some.inj e1).symm) (fun k hk' e1 => by
    obtain ⟨c, h1⟩ := h.wr.row_is hk'
    rw [← Option.some.inj e1, show w.heap[r]? = _ from hs] at h1; cases h1), h.len⟩
end
/-- The letters that a message's parts have. -/
def LetP (p : Int) : Prop := p = 101 ∨ p = 115 ∨ p = 113 ∨ p = 110 ∨ p = 109 ∨ p = 112 ∨ p = 120 ∨ p = 97 ∨ p = 108 ∨ p = 102 ∨ p = 107 ∨ p = 116 ∨ p = 67 ∨ p = 66 ∨ p = 76 ∨ p = 83 ∨ p = 82


/-- A text, with its length. -/
def txM (s : ByteArray) : List UInt8 := putL (s.size : Int) ++ s.data.toList
def putEn (e : EntT) : List UInt8 := txM (putE e.client e.req e.opl e.ts)
def putPr (y : PrT) : List UInt8 := txM y.1 ++ txM y.2
/-- The bytes of a part, by the program's letter. -/
def putP (d : MsgD) (p : Int) : List UInt8 :=
  if p = 102 then [flagB d.fg] else if p = 97 then putL d.at_ else if p = 108 then putL d.la
  else if p = 107 then txM d.key else if p = 116 then txM d.to_
  else if p = 67 then txM (putCf d.cep d.cms d.cfl) else if p = 66 then txM (putB d.bc d.br d.bl)
  else if p = 76 then putL ((d.en.length : Nat) : Int) ++ d.en.flatMap putEn
  else if p = 83 then putL ((d.st.length : Nat) : Int) ++ d.st.flatMap putL
  else if p = 82 then putL ((d.pr.length : Nat) : Int) ++ d.pr.flatMap putPr
  else putL (numP d p)
theorem pp_f {d : MsgD} {p : Int} (h : p = 102) : putP d p = [flagB d.fg] := by unfold putP; rw [if_pos h]
theorem pp_a {d : MsgD} {p : Int} (h : p = 97) : putP d p = putL d.at_ := by unfold putP; rw [if_neg (by omega), if_pos h]
theorem pp_l {d : MsgD} {p : Int} (h : p = 108) : putP d p = putL d.la := by unfold putP; rw [if_neg (by omega), if_neg (by omega), if_pos h]
theorem pp_k {d : MsgD} {p : Int} (h : p = 107) : putP d p = txM d.key := by unfold putP; rw [if_neg (by omega), if_neg (by omega), if_neg (by omega), if_pos h]
theorem pp_t {d : MsgD} {p : Int} (h : p = 116) : putP d p = txM d.to_ := by unfold putP; rw [if_neg (by omega), if_neg (by omega), if_neg (by omega), if_neg (by omega), if_pos h]
theorem pp_C {d : MsgD} {p : Int} (h : p = 67) : putP d p = txM (putCf d.cep d.cms d.cfl) := by unfold putP; rw [if_neg (by omega), if_neg (by omega), if_neg (by omega), if_neg (by omega), if_neg (by omega), if_pos h]
theorem pp_B {d : MsgD} {p : Int} (h : p = 66) : putP d p = txM (putB d.bc d.br d.bl) := by unfold putP; rw [if_neg (by omega), if_neg (by omega), if_neg (by omega), if_neg (by omega), if_neg (by omega), if_neg (by omega), if_pos h]
theorem pp_L {d : MsgD} {p : Int} (h : p = 76) : putP d p = putL ((d.en.length : Nat) : Int) ++ d.en.flatMap putEn := by unfold putP; rw [if_neg (by omega), if_neg (by omega), if_neg (by omega), if_neg (by omega), if_neg (by omega), if_neg (by omega), if_neg (by omega), if_pos h]
theorem pp_S {d : MsgD} {p : Int} (h : p = 83) : putP d p = putL ((d.st.length : Nat) : Int) ++ d.st.flatMap putL := by unfold putP; rw [if_neg (by omega), if_neg (by omega), if_neg (by omega), if_neg (by omega), if_neg (by omega), if_neg (by omega), if_neg (by omega), if_neg (by omega), if_pos h]
theorem pp_R {d : MsgD} {p : Int} (h : p = 82) : putP d p = putL ((d.pr.length : Nat) : Int) ++ d.pr.flatMap putPr := by unfold putP; rw [if_neg (by omega), if_neg (by omega), if_neg (by omega), if_neg (by omega), if_neg (by omega), if_neg (by omega), if_neg (by omega), if_neg (by omega), if_neg (by omega), if_pos h]
theorem pp_n {d : MsgD} {p : Int} (h : (p = 101 ∨ p = 115 ∨ p = 113 ∨ p = 110 ∨ p = 109 ∨ p = 112) ∨ p = 120) : putP d p = putL (numP d p) := by unfold putP; rw [if_neg (by omega), if_neg (by omega), if_neg (by omega), if_neg (by omega), if_neg (by omega), if_neg (by omega), if_neg (by omega), if_neg (by omega), if_neg (by omega), if_neg (by omega)]
theorem takeM {α : Type} {l : List α} {i : Nat} {y : α} (h : l[i]? = some y) : l.take (i + 1) = l.take i ++ [y] := by rw [List.take_add_one, h]; rfl
theorem cLs_len {α : Type} {m : Int} {f : α → Int} {l : List α} (h : chkLs m f l = 0) : (l.length : Int) ≤ m := by
  unfold chkLs at h; split at h
  · omega
  · omega
theorem cF_all {α : Type} {f : α → Int} : ∀ {l : List α}, chkF f l = 0 → ∀ y ∈ l, f y = 0
  | [], _, _, h => by cases h
  | x :: r, h, y, hy => by
    unfold chkF at h
    split at h
    · omega
    · rcases List.mem_cons.1 hy with rfl | hy
      · omega
      · exact cF_all h y hy
theorem cPair_ok {y : PrT} (h : chkPair y = 0) : y.1.size ≤ 8 ∧ y.2.size ≤ 8 := by
  unfold chkPair keyC at h
  repeat' split at h
  all_goals omega
theorem pr_small {d : MsgD} (h : chkLs 32 chkPair d.pr = 0) : ∀ y ∈ d.pr, y.1.size ≤ 8 ∧ y.2.size ≤ 8 := by
  have hl := cLs_len h
  unfold chkLs at h; rw [if_neg (by omega)] at h
  exact fun y hy => cPair_ok (cF_all h y hy)
/-- What a part that may be has. -/
theorem part_ok {d : MsgD} {p : Int} (h : chkP d p = 0) : (p = 120 → 0 ≤ d.e ∧ d.e ≤ 21) ∧ ((p = 101 ∨ p = 115 ∨ p = 113 ∨ p = 110 ∨ p = 109 ∨ p = 112) → 0 ≤ numP d p ∧ numP d p ≤ 1073741824) ∧ (p = 107 → d.key.size ≤ 8) ∧ (p = 116 → d.to_.size ≤ 8) ∧ (p = 76 → d.en.length ≤ 4) ∧ (p = 83 → d.st.length ≤ 8) ∧ (p = 82 → d.pr.length ≤ 32) := by
  refine ⟨fun e => ?_, fun e => ?_, fun e => ?_, fun e => ?_, fun e => ?_, fun e => ?_, fun e => ?_⟩
  · rw [cp_x e] at h; split at h <;> omega
  · rw [cp_n e] at h; split at h <;> omega
  · rw [cp_k e] at h; split at h <;> omega
  · rw [cp_t e] at h; split at h <;> omega
  · rw [cp_L e] at h; have := cLs_len h; omega
  · rw [cp_S e] at h; have := cLs_len h; omega
  · rw [cp_R e] at h; have := cLs_len h; omega
end Go.Proofs.YtifknllhmbkkcaaGreat

/- Package mess: a part is written. Conditions: none. -/
namespace Go.Proofs.YtifknllhmbkkcaaGreat
open Go.RowKit Go.PlainAid
set_option linter.unusedVariables false
set_option linter.unusedSimpArgs false


theorem part_n {d : MsgD} {p : Int} (h : chkP d p = 0) (hp : (p = 101 ∨ p = 115 ∨ p = 113 ∨ p = 110 ∨ p = 109 ∨ p = 112) ∨ p = 120) : 0 ≤ numP d p ∧ numP d p ≤ 1073741824 := by
  rcases hp with hp | hp
  · exact (part_ok h).2.1 hp
  · have h1 := (part_ok h).1 hp
    have h2 := np_7 (d := d) (p := p) (by omega)
    omega

set_option maxRecDepth 100000 in
set_option maxHeartbeats 3200000 in
theorem mWrite_any (w0 : World) (b : Nat) (l0 : List UInt8) (m0 : Nat) (B : Nat) (d : MsgD) (mv : Value) (bv : Value) (ev : Value) (sv : Value) (pv : Value) (p : Int) (w : World) (hbw : Below w0.heap.size w0 w) (hwb : w0.heap.size ≤ b) (ho : OW b l0 m0 w) (hB : Blk w B 65 #[.int .i64 d.k, .int .i64 d.ep, .int .i64 d.rq, .int .i64 d.sr, .bool d.fg, .int .u64 d.at_, .int .u64 d.la, .int .i64 d.n, .int .i64 d.m, .int .i64 d.p, .int .i64 d.e, .string d.key, .string d.to_, .int .i64 d.cep, mv, .int .u64 d.cfl, .int .i64 d.bc, .int .i64 d.br, bv, ev, sv, pv]) (hm : SliceOf memE 2 w0 mv d.cms) (hb : SliceOf opE 3 w0 bv d.bl) (he : SliceOf entE 4 w0 ev d.en) (ht : SliceOf (intE .u64) 1 w0 sv d.st) (hp : SliceOf prE 2 w0 pv d.pr) (hok : ∀ z ∈ d.en, EntOk w0 z) (hR : MsgR d) (hc : LetP p) (hck : chkP d p = 0) (hm0 : m0 ≤ 100000) (hbB : b ≠ B) :
    Calls Tryz.prog 92 #[pt b 0, pt B 0, .int .i32 p] w fun e w' => e = .returned (.tuple #[]) ∧ OW b (l0 ++ putP d p) (m0 + 4000) w' ∧ But (Ru w b) w w' := by
 have hrng := hR.rng;have hnp := np_7 (d := d) (p := p);have hB0 := But.refl (Ru w b) w;have hl_ho := ho.lt;have hl_hB := hB.lt;have hl_hm := sl_len hm;have hl_hb := sl_len hb;have hl_he := sl_len he;have hl_ht := sl_len ht;have hl_hp := sl_len hp;refine co_enter (n := 153) Tryz.func92 rfl rfl rfl [(0, pt b 0), (1, pt B 0), (2, .int .i32 p)] rfl (fun a s => ?_);refine q2 ?_;refine pk0 (v := .int .i32 p) s rfl fun _ s => q1 <| wp_block <| q2 ?_;refine pk0 (v := .bool (p == 102)) s rfl fun _ s => ?_;refine pk0 (v := .bool (p == 102)) s rfl fun _ s => q1 ?_;cases hc4 : (p == 102)
 ·
  rw [hc4] at s;have hp5 : ¬ (p = 102) := by first | simpa using hc4 | simpa [and_assoc] using hc4
  refine co_false s rfl <| q9 ?_;refine pk0 (v := .bool (p == 97)) s rfl fun _ s => ?_;refine pk0 (v := .bool (p == 97)) s rfl fun _ s => q1 ?_;cases hc8 : (p == 97)
  ·
   rw [hc8] at s;have hp9 : ¬ (p = 97) := by first | simpa using hc8 | simpa [and_assoc] using hc8
   refine co_false s rfl <| co_reg ?_;refine pk0 (v := .bool (p == 108)) s rfl fun _ s => ?_;refine pk0 (v := .bool (p == 108)) s rfl fun _ s => q1 ?_;cases hc12 : (p == 108)
   ·
    rw [hc12] at s;have hp13 : ¬ (p = 108) := by first | simpa using hc12 | simpa [and_assoc] using hc12
    refine co_false s rfl <| q9 ?_;refine pk0 (v := .bool (p == 107)) s rfl fun _ s => ?_;refine pk0 (v := .bool (p == 107)) s rfl fun _ s => q1 ?_;cases hc16 : (p == 107)
    ·
     rw [hc16] at s;have hp17 : ¬ (p = 107) := by first | simpa using hc16 | simpa [and_assoc] using hc16
     refine co_false s rfl <| co_reg ?_;refine pk0 (v := .bool (p == 116)) s rfl fun _ s => ?_;refine pk0 (v := .bool (p == 116)) s rfl fun _ s => q1 ?_;cases hc20 : (p == 116)
     ·
      rw [hc20] at s;have hp21 : ¬ (p = 116) := by first | simpa using hc20 | simpa [and_assoc] using hc20
      refine co_false s rfl <| q2 ?_;refine pk0 (v := .bool (p == 67)) s rfl fun _ s => ?_;refine pk0 (v := .bool (p == 67)) s rfl fun _ s => q1 ?_;cases hc24 : (p == 67)
      ·
       rw [hc24] at s;have hp25 : ¬ (p = 67) := by first | simpa using hc24 | simpa [and_assoc] using hc24
       refine co_false s rfl <| q2 ?_;refine pk0 (v := .bool (p == 66)) s rfl fun _ s => ?_;refine pk0 (v := .bool (p == 66)) s rfl fun _ s => q1 ?_;cases hc28 : (p == 66)
       ·
        rw [hc28] at s;have hp29 : ¬ (p = 66) := by first | simpa using hc28 | simpa [and_assoc] using hc28
        refine co_false s rfl <| q2 ?_;refine pk0 (v := .bool (p == 76)) s rfl fun _ s => ?_;refine pk0 (v := .bool (p == 76)) s rfl fun _ s => q1 ?_;cases hc32 : (p == 76)
        ·
         rw [hc32] at s;have hp33 : ¬ (p = 76) := by first | simpa using hc32 | simpa [and_assoc] using hc32
         refine co_false s rfl <| q2 ?_;refine pk0 (v := .bool (p == 83)) s rfl fun _ s => ?_;refine pk0 (v := .bool (p == 83)) s rfl fun _ s => q1 ?_;cases hc36 : (p == 83)
         ·
          rw [hc36] at s;have hp37 : ¬ (p = 83) := by first | simpa using hc36 | simpa [and_assoc] using hc36
          refine co_false s rfl <| q2 ?_;refine pk0 (v := .bool (p == 82)) s rfl fun _ s => ?_;refine pk0 (v := .bool (p == 82)) s rfl fun _ s => q1 ?_;cases hc40 : (p == 82)
          ·
           rw [hc40] at s;have hp41 : ¬ (p = 82) := by first | simpa using hc40 | simpa [and_assoc] using hc40
           refine co_false s rfl <| co_reg ?_;refine pk0 (v := pt b 0) s rfl fun _ s => ?_;refine pk0 (v := pt B 0) s rfl fun _ s => ?_;refine pk0 (v := .int .i32 p) s rfl fun _ s => ?_;refine pw s rfl (op_call (args := #[pt B 0, .int .i32 p]) (R := fun res xw => res = .int .i64 (numP d p) ∧ Below w.heap.size w xw) rfl rfl rfl (by kernel_rfl) (by kernel_rfl) (Tryz.call139 _ _) (mNumber_any B d mv bv ev sv pv p w hB (hm.below (ru_below hwb hbw hB0)) (hb.below (ru_below hwb hbw hB0)) (he.below (ru_below hwb hbw hB0)) (ht.below (ru_below hwb hbw hB0)) (hp.below (ru_below hwb hbw hB0))) (by rintro e x ⟨rfl, hb47⟩; exact ⟨_, rfl, ⟨rfl, hb47⟩⟩)) ?_;rintro _ w46 a45 ⟨rfl, hb47⟩ s;have hz48 := hb47.size;have hcn : (p = 101 ∨ p = 115 ∨ p = 113 ∨ p = 110 ∨ p = 109 ∨ p = 112) ∨ p = 120 := by have hcc := hc; unfold LetP at hcc; omega
           have hpn := part_n hck hcn;have ho53 := ho.below hb47;refine pw s rfl (op_call (args := #[pt b 0, .int .i64 (numP d p)]) (R := fun res xw => res = pt b 0 ∧ OW b (l0 ++ putL (numP d p)) (m0 + 9) xw ∧ But (Rw w46 b) w46 xw) rfl rfl rfl (by kernel_rfl) (by kernel_rfl) (Tryz.call91 _ _) (ow_num b l0 m0 (numP d p) w46 ho53 (by omega) (by omega) (by omega)) (by rintro e x ⟨rfl, h1, h2⟩; exact ⟨_, rfl, rfl, h1, h2⟩)) ?_;rintro _ w50 a49 ⟨rfl, ho51, hx52⟩ s;have hz54 := hx52.size;have hl55 := ho51.lt;refine pl_nil <| co_blockN ?_;refine co_ret0n s rfl ?_;have hB56 := fb_call hB0 hb47;have hB57 := fb_ru hB56 ho53 hx52;have hpp := pp_n (d := d) (p := p) (by omega);exact ⟨rfl, ho51.eq (by rw [hpp] <;> simp [txM]) (by omega), hB57⟩
          rw [hc40] at s;have hp58 : p = 82 := by first | simpa using hc40 | simpa [and_assoc] using hc40
          refine co_true s rfl <| q2 ?_;refine pk0 (v := pt b 0) s rfl fun _ s => ?_;refine pk0 (v := pt B 0) s rfl fun _ s => ?_;refine pk0 (v := pt B 0) s rfl fun _ s => ?_;refine pk0 (v := pt B 21) s rfl fun _ s => ?_;refine pk (v := pv) s rfl (rn_load1 rfl rfl Tryz.isAgg48 (hB.cell rfl)) fun _ s => ?_;refine pk (v := .int .i64 (d.pr.length : Int)) s rfl (rn_len rfl rfl Tryz.underlying48 (hp.below (ru_below hwb hbw hB0))) fun _ s => ?_;have hpo67 := (part_ok hck).2.2.2.2.2.2 (by omega);refine pw s rfl (op_call (args := #[pt b 0, .int .i64 (d.pr.length : Int)]) (R := fun res xw => res = pt b 0 ∧ OW b (l0 ++ putL (d.pr.length : Int)) (m0 + 9) xw ∧ But (Rw w b) w xw) rfl rfl rfl (by kernel_rfl) (by kernel_rfl) (Tryz.call91 _ _) (ow_num b l0 m0 (d.pr.length : Int) w ho (by omega) (by omega) (by omega)) (by rintro e x ⟨rfl, h1, h2⟩; exact ⟨_, rfl, rfl, h1, h2⟩)) ?_;rintro _ w66 a65 ⟨rfl, ho68, hx69⟩ s;have hz70 := hx69.size;have hl71 := ho68.lt;refine q3 ?_;refine pk0 (v := pt B 0) s rfl fun _ s => ?_;refine pk0 (v := pt B 0) s rfl fun _ s => ?_;refine pk0 (v := pt B 21) s rfl fun _ s => ?_;have hk75 := blk_wr hB ho (by decide) (by omega) hx69;refine pk (v := pv) s rfl (rn_load1 rfl rfl Tryz.isAgg48 (hk75.cell rfl)) fun _ s => ?_;have hB77 := fb_ru hB0 ho hx69;refine pk (v := .int .i64 (d.pr.length : Int)) s rfl (rn_len rfl rfl Tryz.underlying48 (hp.below (ru_below hwb hbw hB77))) fun _ s => ?_;refine pk0 (v := .int .i64 0) s rfl fun _ s => q1 <| wp_block ?_;have hps := pr_small (d := d) (by rw [← cp_R (d := d) (p := p) (by omega)]; exact hck);have s : Slots 153 [(0, pt b 0), (1, pt B 0), (2, .int .i32 p), (139, pv), (140, .int .i64 (d.pr.length : Int)), (141, .int .i64 0)] _ := s.sub ⟨rfl, rfl, rfl, rfl, rfl, rfl, trivial⟩;refine co_loop (fun mm a x => ∃ (i : Nat), Slots 153 [(0, pt b 0), (1, pt B 0), (2, .int .i32 p), (139, pv), (140, .int .i64 (d.pr.length : Int)), (141, .int .i64 (i : Int))] a ∧ mm = d.pr.length - i ∧ (i ≤ d.pr.length) ∧ OW b ((l0 ++ putL (d.pr.length : Int)) ++ (d.pr.take i).flatMap putPr) ((m0 + 9) + 40 * i) x ∧ But (Ru w b) w x ∧ Blk x B 65 #[.int .i64 d.k, .int .i64 d.ep, .int .i64 d.rq, .int .i64 d.sr, .bool d.fg, .int .u64 d.at_, .int .u64 d.la, .int .i64 d.n, .int .i64 d.m, .int .i64 d.p, .int .i64 d.e, .string d.key, .string d.to_, .int .i64 d.cep, mv, .int .u64 d.cfl, .int .i64 d.bc, .int .i64 d.br, bv, ev, sv, pv]) (d.pr.length - 0) ?_ ?_
          · exact ⟨0, s.sub ⟨rfl, rfl, rfl, rfl, rfl, (slot_eq rfl (congrArg (Value.int .i64) (by first | rfl | omega))), trivial⟩, rfl, by omega, (ho68.eq (by first | (simp; done) | (rw [takeM (by assumption)]; simp [putPr, txM])) (by first | omega | (simp; done) | (simp; omega))), hB77, hk75⟩
          · rintro k81 a82 w83 ⟨i, s, rfl, hi84, hf85, hB86, hk87⟩
            have hz88 := hB86.size;have hl89 := hk87.lt;have hl90 := hf85.lt;refine q2 ?_;refine pk0 (v := .bool (decide ((i : Int) < (d.pr.length : Int)))) s rfl fun _ s => q1 <| co_seq ?_;cases hc92 : (decide ((i : Int) < (d.pr.length : Int)))
            ·
             rw [hc92] at s;have hp93 : ¬ ((i : Int) < (d.pr.length : Int)) := of_decide_eq_false hc92;refine co_false s rfl <| wp_exit <| co_thenX <| co_thenX <| co_blockX <| co_blockN ?_;refine co_ret0n s rfl ?_;have hpp := pp_R (d := d) (p := p) (by omega);have hta : d.pr.take i = d.pr := List.take_of_length_le (by omega);exact ⟨rfl, hf85.eq (by rw [hpp] <;> simp [txM, hta]) (by omega), hB86⟩
            rw [hc92] at s;have hp94 : (i : Int) < (d.pr.length : Int) := of_decide_eq_true hc92;refine co_true s rfl <| q0 <| co_seq <| wp_block <| q2 ?_;obtain ⟨y95, hy95⟩ : ∃ z, d.pr[i]? = some z := ⟨_, List.getElem?_eq_getElem (by first | omega | (simp; done) | (simp; omega))⟩;have oky95 := hps _ (List.mem_of_getElem? hy95);have k96 : y95.1.size ≤ 8 := oky95.1;have k97 : y95.2.size ≤ 8 := oky95.2;refine pk (v := pt (blkOf pv) (offOf pv + i * 2)) s rfl (rn_index rfl rfl rfl Tryz.underlying48 Tryz.sizeOf140 (hp.below (ru_below hwb hbw hB86)) (by omega) (by first | omega | (simp; done) | (simp; omega))) fun _ s => ?_;refine pk (v := .agg #[.string y95.1, .string y95.2]) s rfl (rn_loadN rfl rfl Tryz.underlying140 rfl (by kernel_rfl) (sl_at (hp.below (ru_below hwb hbw hB86)) hy95)) fun _ s => ?_;refine pw s rfl (op_new (v := fun N => pt N 0) (T := 140) (cs := #[.string (⟨#[]⟩), .string (⟨#[]⟩)]) (by kernel_rfl) (by kernel_rfl) (by kernel_rfl)) ?_;rintro _ w101 a100 ⟨N102, rfl, hN105, hz106, hk104, hg103⟩ s;have hz107 := hg103.size
            try dsimp only at s
            refine pwD s rfl (op_storeN rfl rfl rfl (by kernel_rfl) (by kernel_rfl) hk104 rfl) ?_;rintro _ w109 a108 ⟨hk110, hz111, hg112⟩ s;have hk110' : Blk w109 N102 140 #[.string y95.1, .string y95.2] := hk110;have hz113 := hg112.size;refine q1 ?_;refine dr_gen (fun x => But (Ru w b) w x ∧ Blk x N102 140 #[.string y95.1, .string y95.2]) (by kernel_rfl) (fun w114 hg115 => ?_) (fun w114 hg115 => ?_)
            ·
             have hz116 := hg115.size;have hB117 := fb_new hB86 hg103;have hB118 := fb_at hB117 hg112 (fun hlt => by first | (exfalso; omega) | (simp; done) | simp_all);have hB119 := fb_new hB118 hg115;have hk120 := hk110'.kept hg115 (by simp);exact ⟨hB119, hk120⟩
            have hz121 := hg115.size;have hB122 := fb_new hB86 hg103;have hB123 := fb_at hB122 hg112 (fun hlt => by first | (exfalso; omega) | (simp; done) | simp_all);have hB124 := fb_new hB123 hg115;have hk125 := hk110'.kept hg115 (by simp);refine dk0 0 (v := pt b 0) s rfl rfl ⟨hB124, hk125⟩ fun _ s => ?_;refine dk0 1 (v := pt N102 0) s rfl rfl ⟨hB124, hk125⟩ fun _ s => ?_;refine dk 2 (v := .string y95.1) s rfl rfl ⟨hB124, hk125⟩ (fun x hx => (rn_load1 rfl rfl Tryz.isAgg9 (hx.2.cell rfl))) fun _ s => ?_;refine dk0 4 (v := pt N102 1) s rfl rfl ⟨hB124, hk125⟩ fun _ s => ?_;refine dk 5 (v := .string y95.2) s rfl rfl ⟨hB124, hk125⟩ (fun x hx => (rn_load1 rfl rfl Tryz.isAgg9 (hx.2.cell rfl))) fun _ s => ?_;have ho135 := hf85.new hg103;have ho136 := ho135.at hk104 (by decide) (by omega) hg112;have ho137 := ho136.new hg115;refine d1 3 s rfl rfl (op_call (args := #[pt b 0, .string y95.1]) (R := fun res xw => res = pt b 0 ∧ OW b (((l0 ++ putL (d.pr.length : Int)) ++ (d.pr.take i).flatMap putPr) ++ (putL (y95.1.size : Int) ++ y95.1.data.toList)) ((m0 + 9) + 40 * i + (9 + y95.1.size)) xw ∧ But (Rw w114 b) w114 xw) rfl rfl rfl (by kernel_rfl) (by kernel_rfl) (Tryz.call135 _ _) (ow_text b ((l0 ++ putL (d.pr.length : Int)) ++ (d.pr.take i).flatMap putPr) ((m0 + 9) + 40 * i) y95.1 w114 ho137 (by first | omega | (simp; done) | (simp; omega))) (by rintro e x ⟨rfl, h1, h2⟩; exact ⟨_, rfl, rfl, h1, h2⟩)) ?_ ?_
            ·
             rintro _ w132 ⟨rfl, ho133, hx134⟩;have hz138 := hx134.size;have hl139 := ho133.lt;have hB140 := fb_ru hB124 ho137 hx134;have hk141 := blk_wr hk125 ho137 (by decide) (by omega) hx134;exact ⟨hB140, hk141⟩
            rintro _ w132 a131 ⟨rfl, ho133, hx134⟩ s;have hz138 := hx134.size;have hl139 := ho133.lt;have hB140 := fb_ru hB124 ho137 hx134;have hk141 := blk_wr hk125 ho137 (by decide) (by omega) hx134;refine d1 6 s rfl rfl (op_call (args := #[pt b 0, .string y95.2]) (R := fun res xw => res = pt b 0 ∧ OW b ((((l0 ++ putL (d.pr.length : Int)) ++ (d.pr.take i).flatMap putPr) ++ (putL (y95.1.size : Int) ++ y95.1.data.toList)) ++ (putL (y95.2.size : Int) ++ y95.2.data.toList)) ((m0 + 9) + 40 * i + (9 + y95.1.size) + (9 + y95.2.size)) xw ∧ But (Rw w132 b) w132 xw) rfl rfl rfl (by kernel_rfl) (by kernel_rfl) (Tryz.call135 _ _) (ow_text b (((l0 ++ putL (d.pr.length : Int)) ++ (d.pr.take i).flatMap putPr) ++ (putL (y95.1.size : Int) ++ y95.1.data.toList)) ((m0 + 9) + 40 * i + (9 + y95.1.size)) y95.2 w132 ho133 (by first | omega | (simp; done) | (simp; omega))) (by rintro e x ⟨rfl, h1, h2⟩; exact ⟨_, rfl, rfl, h1, h2⟩)) ?_ ?_
            ·
             rintro _ w143 ⟨rfl, ho144, hx145⟩;have hz146 := hx145.size;have hl147 := ho144.lt;have hB148 := fb_ru hB140 ho133 hx145;have hk149 := blk_wr hk141 ho133 (by decide) (by omega) hx145;exact ⟨hB148, hk149⟩
            rintro _ w143 a142 ⟨rfl, ho144, hx145⟩ s;have hz146 := hx145.size;have hl147 := ho144.lt;refine dr_done (by kernel_rfl) ?_;refine co_blockN <| co_then <| co_reg ?_;refine pk (v := .int .i64 ((i + 1 : Nat) : Int)) s rfl (rn_arith' rfl rfl rfl rfl rfl rfl (IntWalk.i64_in _ (by omega)) (by omega)) fun _ s => ?_;refine pk0 (v := .int .i64 ((i + 1 : Nat) : Int)) s rfl fun _ s => q1 ?_;refine ⟨(d.pr.length - (i + 1)), by omega, ?_⟩;have hB150 := fb_ru hB140 ho133 hx145;have hk151 := hk87.kept hg103 (by simp);have hk152 := hk151.kept hg112 (by simp; omega);have hk153 := hk152.kept hg115 (by simp);have hk154 := blk_wr hk153 ho137 (by decide) (by omega) hx134;have hk155 := blk_wr hk154 ho133 (by decide) (by omega) hx145;exact ⟨i + 1, s.sub ⟨rfl, rfl, rfl, rfl, rfl, rfl, trivial⟩, rfl, by omega, (ho144.eq (by first | (simp; done) | (rw [takeM (by assumption)]; simp [putPr, txM])) (by first | omega | (simp; done) | (simp; omega))), hB150, hk155⟩
         rw [hc36] at s;have hp156 : p = 83 := by first | simpa using hc36 | simpa [and_assoc] using hc36
         refine co_true s rfl <| q2 ?_;refine pk0 (v := pt b 0) s rfl fun _ s => ?_;refine pk0 (v := pt B 0) s rfl fun _ s => ?_;refine pk0 (v := pt B 0) s rfl fun _ s => ?_;refine pk0 (v := pt B 20) s rfl fun _ s => ?_;refine pk (v := sv) s rfl (rn_load1 rfl rfl Tryz.isAgg63 (hB.cell rfl)) fun _ s => ?_;refine pk (v := .int .i64 (d.st.length : Int)) s rfl (rn_len rfl rfl Tryz.underlying63 (ht.below (ru_below hwb hbw hB0))) fun _ s => ?_;have hpo165 := (part_ok hck).2.2.2.2.2.1 (by omega);refine pw s rfl (op_call (args := #[pt b 0, .int .i64 (d.st.length : Int)]) (R := fun res xw => res = pt b 0 ∧ OW b (l0 ++ putL (d.st.length : Int)) (m0 + 9) xw ∧ But (Rw w b) w xw) rfl rfl rfl (by kernel_rfl) (by kernel_rfl) (Tryz.call91 _ _) (ow_num b l0 m0 (d.st.length : Int) w ho (by omega) (by omega) (by omega)) (by rintro e x ⟨rfl, h1, h2⟩; exact ⟨_, rfl, rfl, h1, h2⟩)) ?_;rintro _ w164 a163 ⟨rfl, ho166, hx167⟩ s;have hz168 := hx167.size;have hl169 := ho166.lt;refine q3 ?_;refine pk0 (v := pt B 0) s rfl fun _ s => ?_;refine pk0 (v := pt B 0) s rfl fun _ s => ?_;refine pk0 (v := pt B 20) s rfl fun _ s => ?_;have hk173 := blk_wr hB ho (by decide) (by omega) hx167;refine pk (v := sv) s rfl (rn_load1 rfl rfl Tryz.isAgg63 (hk173.cell rfl)) fun _ s => ?_;have hB175 := fb_ru hB0 ho hx167;refine pk (v := .int .i64 (d.st.length : Int)) s rfl (rn_len rfl rfl Tryz.underlying63 (ht.below (ru_below hwb hbw hB175))) fun _ s => ?_;refine pk0 (v := .int .i64 0) s rfl fun _ s => q1 <| wp_block ?_;have s : Slots 153 [(0, pt b 0), (1, pt B 0), (2, .int .i32 p), (117, sv), (118, .int .i64 (d.st.length : Int)), (119, .int .i64 0)] _ := s.sub ⟨rfl, rfl, rfl, rfl, rfl, rfl, trivial⟩;refine co_loop (fun mm a x => ∃ (i : Nat), Slots 153 [(0, pt b 0), (1, pt B 0), (2, .int .i32 p), (117, sv), (118, .int .i64 (d.st.length : Int)), (119, .int .i64 (i : Int))] a ∧ mm = d.st.length - i ∧ (i ≤ d.st.length) ∧ OW b ((l0 ++ putL (d.st.length : Int)) ++ (d.st.take i).flatMap putL) ((m0 + 9) + 9 * i) x ∧ But (Ru w b) w x ∧ Blk x B 65 #[.int .i64 d.k, .int .i64 d.ep, .int .i64 d.rq, .int .i64 d.sr, .bool d.fg, .int .u64 d.at_, .int .u64 d.la, .int .i64 d.n, .int .i64 d.m, .int .i64 d.p, .int .i64 d.e, .string d.key, .string d.to_, .int .i64 d.cep, mv, .int .u64 d.cfl, .int .i64 d.bc, .int .i64 d.br, bv, ev, sv, pv]) (d.st.length - 0) ?_ ?_
         · exact ⟨0, s.sub ⟨rfl, rfl, rfl, rfl, rfl, (slot_eq rfl (congrArg (Value.int .i64) (by first | rfl | omega))), trivial⟩, rfl, by omega, (ho166.eq (by first | (simp; done) | (rw [takeM (by assumption)]; simp [putL, txM])) (by first | omega | (simp; done) | (simp; omega))), hB175, hk173⟩
         · rintro k179 a180 w181 ⟨i, s, rfl, hi182, hf183, hB184, hk185⟩
           have hz186 := hB184.size;have hl187 := hk185.lt;have hl188 := hf183.lt;refine q2 ?_;refine pk0 (v := .bool (decide ((i : Int) < (d.st.length : Int)))) s rfl fun _ s => q1 <| co_seq ?_;cases hc190 : (decide ((i : Int) < (d.st.length : Int)))
           ·
            rw [hc190] at s;have hp191 : ¬ ((i : Int) < (d.st.length : Int)) := of_decide_eq_false hc190;refine co_false s rfl <| wp_exit <| co_thenX <| co_thenX <| co_blockX <| co_blockN ?_;refine co_ret0n s rfl ?_;have hpp := pp_S (d := d) (p := p) (by omega);have hta : d.st.take i = d.st := List.take_of_length_le (by omega);exact ⟨rfl, hf183.eq (by rw [hpp] <;> simp [txM, hta]) (by omega), hB184⟩
           rw [hc190] at s;have hp192 : (i : Int) < (d.st.length : Int) := of_decide_eq_true hc190;refine co_true s rfl <| q0 <| co_seq <| wp_block <| q2 ?_;obtain ⟨y193, hy193⟩ : ∃ z, d.st[i]? = some z := ⟨_, List.getElem?_eq_getElem (by first | omega | (simp; done) | (simp; omega))⟩;have oky193 := hR.st _ (List.mem_of_getElem? hy193);have k194 : 0 ≤ y193 := oky193.1;have k195 : y193 < 18446744073709551616 := oky193.2;refine pk (v := pt (blkOf sv) (offOf sv + i * 1)) s rfl (rn_index rfl rfl rfl Tryz.underlying63 Tryz.sizeOf32 (ht.below (ru_below hwb hbw hB184)) (by omega) (by first | omega | (simp; done) | (simp; omega))) fun _ s => ?_;refine pk (v := .int .u64 y193) s rfl (rn_load1 rfl rfl Tryz.isAgg32 ((sl_at (ht.below (ru_below hwb hbw hB184)) hy193) 0 _ rfl)) fun _ s => ?_;refine pk0 (v := .int .u64 y193) s rfl fun _ s => q1 <| co_reg ?_;refine pk0 (v := pt b 0) s rfl fun _ s => ?_;refine pk0 (v := .int .u64 y193) s rfl fun _ s => ?_;refine pw s rfl (op_call (args := #[pt b 0, .int .u64 y193]) (R := fun res xw => res = pt b 0 ∧ OW b (((l0 ++ putL (d.st.length : Int)) ++ (d.st.take i).flatMap putL) ++ putL y193) ((m0 + 9) + 9 * i + 9) xw ∧ But (Rw w181 b) w181 xw) rfl rfl rfl (by kernel_rfl) (by kernel_rfl) (Tryz.call134 _ _) (ow_big b ((l0 ++ putL (d.st.length : Int)) ++ (d.st.take i).flatMap putL) ((m0 + 9) + 9 * i) y193 w181 hf183 (by omega) (by omega) (by omega)) (by rintro e x ⟨rfl, h1, h2⟩; exact ⟨_, rfl, rfl, h1, h2⟩)) ?_;rintro _ w202 a201 ⟨rfl, ho203, hx204⟩ s;have hz205 := hx204.size;have hl206 := ho203.lt;refine pl_nil <| co_blockN <| co_then <| co_reg ?_;refine pk (v := .int .i64 ((i + 1 : Nat) : Int)) s rfl (rn_arith' rfl rfl rfl rfl rfl rfl (IntWalk.i64_in _ (by omega)) (by omega)) fun _ s => ?_;refine pk0 (v := .int .i64 ((i + 1 : Nat) : Int)) s rfl fun _ s => q1 ?_;refine ⟨(d.st.length - (i + 1)), by omega, ?_⟩;have hB209 := fb_ru hB184 hf183 hx204;have hk210 := blk_wr hk185 hf183 (by decide) (by omega) hx204;exact ⟨i + 1, s.sub ⟨rfl, rfl, rfl, rfl, rfl, rfl, trivial⟩, rfl, by omega, (ho203.eq (by first | (simp; done) | (rw [takeM (by assumption)]; simp [putL, txM])) (by first | omega | (simp; done) | (simp; omega))), hB209, hk210⟩
        rw [hc32] at s;have hp211 : p = 76 := by first | simpa using hc32 | simpa [and_assoc] using hc32
        refine co_true s rfl <| q2 ?_;refine pk0 (v := pt b 0) s rfl fun _ s => ?_;refine pk0 (v := pt B 0) s rfl fun _ s => ?_;refine pk0 (v := pt B 0) s rfl fun _ s => ?_;refine pk0 (v := pt B 19) s rfl fun _ s => ?_;refine pk (v := ev) s rfl (rn_load1 rfl rfl Tryz.isAgg62 (hB.cell rfl)) fun _ s => ?_;refine pk (v := .int .i64 (d.en.length : Int)) s rfl (rn_len rfl rfl Tryz.underlying62 (he.below (ru_below hwb hbw hB0))) fun _ s => ?_;have hpo220 := (part_ok hck).2.2.2.2.1 (by omega);refine pw s rfl (op_call (args := #[pt b 0, .int .i64 (d.en.length : Int)]) (R := fun res xw => res = pt b 0 ∧ OW b (l0 ++ putL (d.en.length : Int)) (m0 + 9) xw ∧ But (Rw w b) w xw) rfl rfl rfl (by kernel_rfl) (by kernel_rfl) (Tryz.call91 _ _) (ow_num b l0 m0 (d.en.length : Int) w ho (by omega) (by omega) (by omega)) (by rintro e x ⟨rfl, h1, h2⟩; exact ⟨_, rfl, rfl, h1, h2⟩)) ?_;rintro _ w219 a218 ⟨rfl, ho221, hx222⟩ s;have hz223 := hx222.size;have hl224 := ho221.lt;refine q3 ?_;refine pk0 (v := pt B 0) s rfl fun _ s => ?_;refine pk0 (v := pt B 0) s rfl fun _ s => ?_;refine pk0 (v := pt B 19) s rfl fun _ s => ?_;have hk228 := blk_wr hB ho (by decide) (by omega) hx222;refine pk (v := ev) s rfl (rn_load1 rfl rfl Tryz.isAgg62 (hk228.cell rfl)) fun _ s => ?_;have hB230 := fb_ru hB0 ho hx222;refine pk (v := .int .i64 (d.en.length : Int)) s rfl (rn_len rfl rfl Tryz.underlying62 (he.below (ru_below hwb hbw hB230))) fun _ s => ?_;refine pk0 (v := .int .i64 0) s rfl fun _ s => q1 <| wp_block ?_;have s : Slots 153 [(0, pt b 0), (1, pt B 0), (2, .int .i32 p), (90, ev), (91, .int .i64 (d.en.length : Int)), (92, .int .i64 0)] _ := s.sub ⟨rfl, rfl, rfl, rfl, rfl, rfl, trivial⟩;refine co_loop (fun mm a x => ∃ (i : Nat), Slots 153 [(0, pt b 0), (1, pt B 0), (2, .int .i32 p), (90, ev), (91, .int .i64 (d.en.length : Int)), (92, .int .i64 (i : Int))] a ∧ mm = d.en.length - i ∧ (i ≤ d.en.length) ∧ OW b ((l0 ++ putL (d.en.length : Int)) ++ (d.en.take i).flatMap putEn) ((m0 + 9) + 300 * i) x ∧ But (Ru w b) w x ∧ Blk x B 65 #[.int .i64 d.k, .int .i64 d.ep, .int .i64 d.rq, .int .i64 d.sr, .bool d.fg, .int .u64 d.at_, .int .u64 d.la, .int .i64 d.n, .int .i64 d.m, .int .i64 d.p, .int .i64 d.e, .string d.key, .string d.to_, .int .i64 d.cep, mv, .int .u64 d.cfl, .int .i64 d.bc, .int .i64 d.br, bv, ev, sv, pv]) (d.en.length - 0) ?_ ?_
        · exact ⟨0, s.sub ⟨rfl, rfl, rfl, rfl, rfl, (slot_eq rfl (congrArg (Value.int .i64) (by first | rfl | omega))), trivial⟩, rfl, by omega, (ho221.eq (by first | (simp; done) | (rw [takeM (by assumption)]; simp [putEn, txM])) (by first | omega | (simp; done) | (simp; omega))), hB230, hk228⟩
        · rintro k234 a235 w236 ⟨i, s, rfl, hi237, hf238, hB239, hk240⟩
          have hz241 := hB239.size;have hl242 := hk240.lt;have hl243 := hf238.lt;refine q2 ?_;refine pk0 (v := .bool (decide ((i : Int) < (d.en.length : Int)))) s rfl fun _ s => q1 <| co_seq ?_;cases hc245 : (decide ((i : Int) < (d.en.length : Int)))
          ·
           rw [hc245] at s;have hp246 : ¬ ((i : Int) < (d.en.length : Int)) := of_decide_eq_false hc245;refine co_false s rfl <| wp_exit <| co_thenX <| co_thenX <| co_blockX <| co_blockN ?_;refine co_ret0n s rfl ?_;have hpp := pp_L (d := d) (p := p) (by omega);have hta : d.en.take i = d.en := List.take_of_length_le (by omega);exact ⟨rfl, hf238.eq (by rw [hpp] <;> simp [txM, hta]) (by omega), hB239⟩
          rw [hc245] at s;have hp247 : (i : Int) < (d.en.length : Int) := of_decide_eq_true hc245;refine co_true s rfl <| q0 <| co_seq <| wp_block <| q2 ?_;obtain ⟨y248, hy248⟩ : ∃ z, d.en[i]? = some z := ⟨_, List.getElem?_eq_getElem (by first | omega | (simp; done) | (simp; omega))⟩;have oky248 := hok _ (List.mem_of_getElem? hy248);have k249 : 0 ≤ y248.ts := oky248.ts0;have k250 : y248.ts < 18446744073709551616 := oky248.ts1;refine pk (v := pt (blkOf ev) (offOf ev + i * 4)) s rfl (rn_index rfl rfl rfl Tryz.underlying62 Tryz.sizeOf190 (he.below (ru_below hwb hbw hB239)) (by omega) (by first | omega | (simp; done) | (simp; omega))) fun _ s => ?_;refine pk (v := .agg #[.int .i64 y248.client, .int .i64 y248.req, y248.ops, .int .u64 y248.ts]) s rfl (rn_loadN rfl rfl Tryz.underlying190 rfl (by kernel_rfl) (sl_at (he.below (ru_below hwb hbw hB239)) hy248)) fun _ s => ?_;refine pw s rfl (op_new (v := fun N => pt N 0) (T := 190) (cs := #[.int .i64 0, .int .i64 0, .slice none 0 0, .int .u64 0]) (by kernel_rfl) (by kernel_rfl) (by kernel_rfl)) ?_;rintro _ w254 a253 ⟨N255, rfl, hN258, hz259, hk257, hg256⟩ s;have hz260 := hg256.size
          try dsimp only at s
          have hB266 := fb_new hB239 hg256;refine pwD s rfl (op_storeN rfl rfl rfl (all_cons rfl (all_cons rfl (all_cons (sl_one (oky248.ops.below (ru_below hwb hbw hB266))) (all_cons rfl all_nil)))) (by kernel_rfl) hk257 rfl) ?_;rintro _ w262 a261 ⟨hk263, hz264, hg265⟩ s;have hk263' : Blk w262 N255 190 #[.int .i64 y248.client, .int .i64 y248.req, y248.ops, .int .u64 y248.ts] := hk263;have hz267 := hg265.size;refine q3 ?_;refine pk (v := .agg #[.int .i64 y248.client, .int .i64 y248.req, y248.ops, .int .u64 y248.ts]) s rfl (rn_loadN rfl rfl Tryz.underlying190 rfl (by kernel_rfl) hk263'.all) fun _ s => ?_;have hB271 := fb_at hB266 hg265 (fun hlt => by first | (exfalso; omega) | (simp; done) | simp_all);refine pw s rfl (op_call (args := #[.agg #[.int .i64 y248.client, .int .i64 y248.req, y248.ops, .int .u64 y248.ts]]) (R := fun res xw => res = .tuple #[.string (putE y248.client y248.req y248.opl y248.ts), .int .i64 (chkB y248.client y248.req y248.opl)] ∧ Below w262.heap.size w262 xw) rfl rfl rfl (by kernel_rfl) (by kernel_rfl) (Tryz.call138 _ _) (itemPut_any y248.client y248.req y248.ops y248.opl y248.ts w262 (oky248.ops.below (ru_below hwb hbw hB271)) (by omega)) (by rintro e x ⟨rfl, hb272⟩; exact ⟨_, rfl, ⟨rfl, hb272⟩⟩)) ?_;rintro _ w270 a269 ⟨rfl, hb272⟩ s;have hz273 := hb272.size;refine pk0 (v := .tuple #[.string (putE y248.client y248.req y248.opl y248.ts), .int .i64 (chkB y248.client y248.req y248.opl)]) s rfl fun _ s => ?_;refine pk0 (v := .string (putE y248.client y248.req y248.opl y248.ts)) s rfl fun _ s => ?_;refine pk0 (v := .int .i64 (chkB y248.client y248.req y248.opl)) s rfl fun _ s => ?_;refine pk0 (v := .string (putE y248.client y248.req y248.opl y248.ts)) s rfl fun _ s => ?_;refine pk0 (v := .int .i64 (chkB y248.client y248.req y248.opl)) s rfl fun _ s => q1 <| co_reg ?_;refine pk0 (v := pt b 0) s rfl fun _ s => ?_;refine pk0 (v := .string (putE y248.client y248.req y248.opl y248.ts)) s rfl fun _ s => ?_;have hsm283 : (putE y248.client y248.req y248.opl y248.ts : ByteArray).size ≤ 220 := putE_small;have ho286 := hf238.new hg256;have ho287 := ho286.at hk257 (by decide) (by omega) hg265;have ho288 := ho287.below hb272;refine pw s rfl (op_call (args := #[pt b 0, .string (putE y248.client y248.req y248.opl y248.ts)]) (R := fun res xw => res = pt b 0 ∧ OW b (((l0 ++ putL (d.en.length : Int)) ++ (d.en.take i).flatMap putEn) ++ (putL ((putE y248.client y248.req y248.opl y248.ts : ByteArray).size : Int) ++ (putE y248.client y248.req y248.opl y248.ts : ByteArray).data.toList)) ((m0 + 9) + 300 * i + (9 + (putE y248.client y248.req y248.opl y248.ts : ByteArray).size)) xw ∧ But (Rw w270 b) w270 xw) rfl rfl rfl (by kernel_rfl) (by kernel_rfl) (Tryz.call135 _ _) (ow_text b ((l0 ++ putL (d.en.length : Int)) ++ (d.en.take i).flatMap putEn) ((m0 + 9) + 300 * i) (putE y248.client y248.req y248.opl y248.ts) w270 ho288 (by first | omega | (simp; done) | (simp; omega))) (by rintro e x ⟨rfl, h1, h2⟩; exact ⟨_, rfl, rfl, h1, h2⟩)) ?_;rintro _ w282 a281 ⟨rfl, ho284, hx285⟩ s;have hz289 := hx285.size;have hl290 := ho284.lt;refine pl_nil <| co_blockN <| co_then <| co_reg ?_;refine pk (v := .int .i64 ((i + 1 : Nat) : Int)) s rfl (rn_arith' rfl rfl rfl rfl rfl rfl (IntWalk.i64_in _ (by omega)) (by omega)) fun _ s => ?_;refine pk0 (v := .int .i64 ((i + 1 : Nat) : Int)) s rfl fun _ s => q1 ?_;refine ⟨(d.en.length - (i + 1)), by omega, ?_⟩;have hB293 := fb_call hB271 hb272;have hB294 := fb_ru hB293 ho288 hx285;have hk295 := hk240.kept hg256 (by simp);have hk296 := hk295.kept hg265 (by simp; omega);have hk297 := hk296.below hb272;have hk298 := blk_wr hk297 ho288 (by decide) (by omega) hx285;exact ⟨i + 1, s.sub ⟨rfl, rfl, rfl, rfl, rfl, rfl, trivial⟩, rfl, by omega, (ho284.eq (by first | (simp; done) | (rw [takeM (by assumption)]; simp [putEn, txM])) (by first | omega | (simp; done) | (simp; omega))), hB294, hk298⟩
       rw [hc28] at s;have hp299 : p = 66 := by first | simpa using hc28 | simpa [and_assoc] using hc28
       refine co_true s rfl <| q2 ?_;refine pk0 (v := pt B 0) s rfl fun _ s => ?_;refine pk0 (v := pt B 0) s rfl fun _ s => ?_;refine pk0 (v := pt B 16) s rfl fun _ s => ?_;refine pk (v := .agg #[.int .i64 d.bc, .int .i64 d.br, bv]) s rfl (rn_loadN rfl rfl Tryz.underlying61 rfl (by kernel_rfl) (blk_part hB 16 (by rfl))) fun _ s => ?_;refine pw s rfl (op_call (args := #[.agg #[.int .i64 d.bc, .int .i64 d.br, bv]]) (R := fun res xw => res = .tuple #[.string (putB d.bc d.br d.bl), .int .i64 (chkB d.bc d.br d.bl)] ∧ Below w.heap.size w xw) rfl rfl rfl (by kernel_rfl) (by kernel_rfl) (Tryz.call137 _ _) (opsPut_any d.bc d.br bv d.bl w (hb.below (ru_below hwb hbw hB0))) (by rintro e x ⟨rfl, hb306⟩; exact ⟨_, rfl, ⟨rfl, hb306⟩⟩)) ?_;rintro _ w305 a304 ⟨rfl, hb306⟩ s;have hz307 := hb306.size;refine pk0 (v := .tuple #[.string (putB d.bc d.br d.bl), .int .i64 (chkB d.bc d.br d.bl)]) s rfl fun _ s => ?_;refine pk0 (v := .string (putB d.bc d.br d.bl)) s rfl fun _ s => ?_;refine pk0 (v := .int .i64 (chkB d.bc d.br d.bl)) s rfl fun _ s => ?_;refine pk0 (v := .string (putB d.bc d.br d.bl)) s rfl fun _ s => ?_;refine pk0 (v := .int .i64 (chkB d.bc d.br d.bl)) s rfl fun _ s => q1 <| co_reg ?_;refine pk0 (v := pt b 0) s rfl fun _ s => ?_;refine pk0 (v := .string (putB d.bc d.br d.bl)) s rfl fun _ s => ?_;have hsm317 := putB_small (c := d.bc) (r := d.br) (l := d.bl);have ho320 := ho.below hb306;refine pw s rfl (op_call (args := #[pt b 0, .string (putB d.bc d.br d.bl)]) (R := fun res xw => res = pt b 0 ∧ OW b (l0 ++ (putL ((putB d.bc d.br d.bl : ByteArray).size : Int) ++ (putB d.bc d.br d.bl : ByteArray).data.toList)) (m0 + (9 + (putB d.bc d.br d.bl : ByteArray).size)) xw ∧ But (Rw w305 b) w305 xw) rfl rfl rfl (by kernel_rfl) (by kernel_rfl) (Tryz.call135 _ _) (ow_text b l0 m0 (putB d.bc d.br d.bl) w305 ho320 (by first | omega | (simp; done) | (simp; omega))) (by rintro e x ⟨rfl, h1, h2⟩; exact ⟨_, rfl, rfl, h1, h2⟩)) ?_;rintro _ w316 a315 ⟨rfl, ho318, hx319⟩ s;have hz321 := hx319.size;have hl322 := ho318.lt;refine pl_nil <| co_blockN ?_;refine co_ret0n s rfl ?_;have hB323 := fb_call hB0 hb306;have hB324 := fb_ru hB323 ho320 hx319;have hpp := pp_B (d := d) (p := p) (by omega);exact ⟨rfl, ho318.eq (by rw [hpp] <;> simp [txM]) (by omega), hB324⟩
      rw [hc24] at s;have hp325 : p = 67 := by first | simpa using hc24 | simpa [and_assoc] using hc24
      refine co_true s rfl <| q2 ?_;refine pk0 (v := pt B 0) s rfl fun _ s => ?_;refine pk0 (v := pt B 0) s rfl fun _ s => ?_;refine pk0 (v := pt B 13) s rfl fun _ s => ?_;refine pk (v := .agg #[.int .i64 d.cep, mv, .int .u64 d.cfl]) s rfl (rn_loadN rfl rfl Tryz.underlying59 rfl (by kernel_rfl) (blk_part hB 13 (by rfl))) fun _ s => ?_;refine pw s rfl (op_call (args := #[.agg #[.int .i64 d.cep, mv, .int .u64 d.cfl]]) (R := fun res xw => res = .tuple #[.string (putCf d.cep d.cms d.cfl), .int .i64 (chkC d.cep d.cms)] ∧ Below w.heap.size w xw) rfl rfl rfl (by kernel_rfl) (by kernel_rfl) (Tryz.call136 _ _) (cPut_any d.cep mv d.cms d.cfl w (hm.below (ru_below hwb hbw hB0)) hR.mem (by omega) (by omega)) (by rintro e x ⟨rfl, hb332⟩; exact ⟨_, rfl, ⟨rfl, hb332⟩⟩)) ?_;rintro _ w331 a330 ⟨rfl, hb332⟩ s;have hz333 := hb332.size;refine pk0 (v := .tuple #[.string (putCf d.cep d.cms d.cfl), .int .i64 (chkC d.cep d.cms)]) s rfl fun _ s => ?_;refine pk0 (v := .string (putCf d.cep d.cms d.cfl)) s rfl fun _ s => ?_;refine pk0 (v := .int .i64 (chkC d.cep d.cms)) s rfl fun _ s => ?_;refine pk0 (v := .string (putCf d.cep d.cms d.cfl)) s rfl fun _ s => ?_;refine pk0 (v := .int .i64 (chkC d.cep d.cms)) s rfl fun _ s => q1 <| co_reg ?_;refine pk0 (v := pt b 0) s rfl fun _ s => ?_;refine pk0 (v := .string (putCf d.cep d.cms d.cfl)) s rfl fun _ s => ?_;have hsm343 := putCf_small (ep := d.cep) (ms := d.cms) (fl := d.cfl);have ho346 := ho.below hb332;refine pw s rfl (op_call (args := #[pt b 0, .string (putCf d.cep d.cms d.cfl)]) (R := fun res xw => res = pt b 0 ∧ OW b (l0 ++ (putL ((putCf d.cep d.cms d.cfl : ByteArray).size : Int) ++ (putCf d.cep d.cms d.cfl : ByteArray).data.toList)) (m0 + (9 + (putCf d.cep d.cms d.cfl : ByteArray).size)) xw ∧ But (Rw w331 b) w331 xw) rfl rfl rfl (by kernel_rfl) (by kernel_rfl) (Tryz.call135 _ _) (ow_text b l0 m0 (putCf d.cep d.cms d.cfl) w331 ho346 (by first | omega | (simp; done) | (simp; omega))) (by rintro e x ⟨rfl, h1, h2⟩; exact ⟨_, rfl, rfl, h1, h2⟩)) ?_;rintro _ w342 a341 ⟨rfl, ho344, hx345⟩ s;have hz347 := hx345.size;have hl348 := ho344.lt;refine pl_nil <| co_blockN ?_;refine co_ret0n s rfl ?_;have hB349 := fb_call hB0 hb332;have hB350 := fb_ru hB349 ho346 hx345;have hpp := pp_C (d := d) (p := p) (by omega);exact ⟨rfl, ho344.eq (by rw [hpp] <;> simp [txM]) (by omega), hB350⟩
     rw [hc20] at s;have hp351 : p = 116 := by first | simpa using hc20 | simpa [and_assoc] using hc20
     refine co_true s rfl <| co_reg ?_;refine pk0 (v := pt b 0) s rfl fun _ s => ?_;refine pk0 (v := pt B 0) s rfl fun _ s => ?_;refine pk0 (v := .int .i32 p) s rfl fun _ s => ?_;refine pw s rfl (op_call (args := #[pt B 0, .int .i32 p]) (R := fun res xw => res = pt B 12 ∧ Below w.heap.size w xw) rfl rfl rfl (by kernel_rfl) (by kernel_rfl) (Tryz.call108 _ _) (mTextT_any B p w (by omega)) (by rintro e x ⟨rfl, hb357⟩; exact ⟨_, rfl, ⟨rfl, hb357⟩⟩)) ?_;rintro _ w356 a355 ⟨rfl, hb357⟩ s;have hz358 := hb357.size;refine pk0 (v := pt B 12) s rfl fun _ s => ?_;have hk360 := hB.below hb357;refine pk (v := .string d.to_) s rfl (rn_load1 rfl rfl Tryz.isAgg9 (hk360.cell rfl)) fun _ s => ?_;have hpo364 := (part_ok hck).2.2.2.1 (by omega);have ho367 := ho.below hb357;refine pw s rfl (op_call (args := #[pt b 0, .string d.to_]) (R := fun res xw => res = pt b 0 ∧ OW b (l0 ++ (putL (d.to_.size : Int) ++ d.to_.data.toList)) (m0 + (9 + d.to_.size)) xw ∧ But (Rw w356 b) w356 xw) rfl rfl rfl (by kernel_rfl) (by kernel_rfl) (Tryz.call135 _ _) (ow_text b l0 m0 d.to_ w356 ho367 (by first | omega | (simp; done) | (simp; omega))) (by rintro e x ⟨rfl, h1, h2⟩; exact ⟨_, rfl, rfl, h1, h2⟩)) ?_;rintro _ w363 a362 ⟨rfl, ho365, hx366⟩ s;have hz368 := hx366.size;have hl369 := ho365.lt;refine pl_nil <| co_blockN ?_;refine co_ret0n s rfl ?_;have hB370 := fb_call hB0 hb357;have hB371 := fb_ru hB370 ho367 hx366;have hpp := pp_t (d := d) (p := p) (by omega);exact ⟨rfl, ho365.eq (by rw [hpp] <;> simp [txM]) (by omega), hB371⟩
    rw [hc16] at s;have hp372 : p = 107 := by first | simpa using hc16 | simpa [and_assoc] using hc16
    refine co_true s rfl <| q0 ?_;refine co_true s rfl <| co_reg ?_;refine pk0 (v := pt b 0) s rfl fun _ s => ?_;refine pk0 (v := pt B 0) s rfl fun _ s => ?_;refine pk0 (v := .int .i32 p) s rfl fun _ s => ?_;refine pw s rfl (op_call (args := #[pt B 0, .int .i32 p]) (R := fun res xw => res = pt B 11 ∧ Below w.heap.size w xw) rfl rfl rfl (by kernel_rfl) (by kernel_rfl) (Tryz.call108 _ _) (mTextK_any B p w (by omega)) (by rintro e x ⟨rfl, hb378⟩; exact ⟨_, rfl, ⟨rfl, hb378⟩⟩)) ?_;rintro _ w377 a376 ⟨rfl, hb378⟩ s;have hz379 := hb378.size;refine pk0 (v := pt B 11) s rfl fun _ s => ?_;have hk381 := hB.below hb378;refine pk (v := .string d.key) s rfl (rn_load1 rfl rfl Tryz.isAgg9 (hk381.cell rfl)) fun _ s => ?_;have hpo385 := (part_ok hck).2.2.1 (by omega);have ho388 := ho.below hb378;refine pw s rfl (op_call (args := #[pt b 0, .string d.key]) (R := fun res xw => res = pt b 0 ∧ OW b (l0 ++ (putL (d.key.size : Int) ++ d.key.data.toList)) (m0 + (9 + d.key.size)) xw ∧ But (Rw w377 b) w377 xw) rfl rfl rfl (by kernel_rfl) (by kernel_rfl) (Tryz.call135 _ _) (ow_text b l0 m0 d.key w377 ho388 (by first | omega | (simp; done) | (simp; omega))) (by rintro e x ⟨rfl, h1, h2⟩; exact ⟨_, rfl, rfl, h1, h2⟩)) ?_;rintro _ w384 a383 ⟨rfl, ho386, hx387⟩ s;have hz389 := hx387.size;have hl390 := ho386.lt;refine pl_nil <| co_blockN ?_;refine co_ret0n s rfl ?_;have hB391 := fb_call hB0 hb378;have hB392 := fb_ru hB391 ho388 hx387;have hpp := pp_k (d := d) (p := p) (by omega);exact ⟨rfl, ho386.eq (by rw [hpp] <;> simp [txM]) (by omega), hB392⟩
   rw [hc12] at s;have hp393 : p = 108 := by first | simpa using hc12 | simpa [and_assoc] using hc12
   refine co_true s rfl <| co_reg ?_;refine pk0 (v := pt b 0) s rfl fun _ s => ?_;refine pk0 (v := pt B 0) s rfl fun _ s => ?_;refine pk0 (v := .int .i32 p) s rfl fun _ s => ?_;refine pw s rfl (op_call (args := #[pt B 0, .int .i32 p]) (R := fun res xw => res = pt B 6 ∧ Below w.heap.size w xw) rfl rfl rfl (by kernel_rfl) (by kernel_rfl) (Tryz.call106 _ _) (mBigL_any B p w (by omega)) (by rintro e x ⟨rfl, hb399⟩; exact ⟨_, rfl, ⟨rfl, hb399⟩⟩)) ?_;rintro _ w398 a397 ⟨rfl, hb399⟩ s;have hz400 := hb399.size;refine pk0 (v := pt B 6) s rfl fun _ s => ?_;have hk402 := hB.below hb399;refine pk (v := .int .u64 d.la) s rfl (rn_load1 rfl rfl Tryz.isAgg32 (hk402.cell rfl)) fun _ s => ?_;have ho408 := ho.below hb399;refine pw s rfl (op_call (args := #[pt b 0, .int .u64 d.la]) (R := fun res xw => res = pt b 0 ∧ OW b (l0 ++ putL d.la) (m0 + 9) xw ∧ But (Rw w398 b) w398 xw) rfl rfl rfl (by kernel_rfl) (by kernel_rfl) (Tryz.call134 _ _) (ow_big b l0 m0 d.la w398 ho408 (by omega) (by omega) (by omega)) (by rintro e x ⟨rfl, h1, h2⟩; exact ⟨_, rfl, rfl, h1, h2⟩)) ?_;rintro _ w405 a404 ⟨rfl, ho406, hx407⟩ s;have hz409 := hx407.size;have hl410 := ho406.lt;refine pl_nil <| co_blockN ?_;refine co_ret0n s rfl ?_;have hB411 := fb_call hB0 hb399;have hB412 := fb_ru hB411 ho408 hx407;have hpp := pp_l (d := d) (p := p) (by omega);exact ⟨rfl, ho406.eq (by rw [hpp] <;> simp [txM]) (by omega), hB412⟩
  rw [hc8] at s;have hp413 : p = 97 := by first | simpa using hc8 | simpa [and_assoc] using hc8
  refine co_true s rfl <| q0 ?_;refine co_true s rfl <| co_reg ?_;refine pk0 (v := pt b 0) s rfl fun _ s => ?_;refine pk0 (v := pt B 0) s rfl fun _ s => ?_;refine pk0 (v := .int .i32 p) s rfl fun _ s => ?_;refine pw s rfl (op_call (args := #[pt B 0, .int .i32 p]) (R := fun res xw => res = pt B 5 ∧ Below w.heap.size w xw) rfl rfl rfl (by kernel_rfl) (by kernel_rfl) (Tryz.call106 _ _) (mBigA_any B p w (by omega)) (by rintro e x ⟨rfl, hb419⟩; exact ⟨_, rfl, ⟨rfl, hb419⟩⟩)) ?_;rintro _ w418 a417 ⟨rfl, hb419⟩ s;have hz420 := hb419.size;refine pk0 (v := pt B 5) s rfl fun _ s => ?_;have hk422 := hB.below hb419;refine pk (v := .int .u64 d.at_) s rfl (rn_load1 rfl rfl Tryz.isAgg32 (hk422.cell rfl)) fun _ s => ?_;have ho428 := ho.below hb419;refine pw s rfl (op_call (args := #[pt b 0, .int .u64 d.at_]) (R := fun res xw => res = pt b 0 ∧ OW b (l0 ++ putL d.at_) (m0 + 9) xw ∧ But (Rw w418 b) w418 xw) rfl rfl rfl (by kernel_rfl) (by kernel_rfl) (Tryz.call134 _ _) (ow_big b l0 m0 d.at_ w418 ho428 (by omega) (by omega) (by omega)) (by rintro e x ⟨rfl, h1, h2⟩; exact ⟨_, rfl, rfl, h1, h2⟩)) ?_;rintro _ w425 a424 ⟨rfl, ho426, hx427⟩ s;have hz429 := hx427.size;have hl430 := ho426.lt;refine pl_nil <| co_blockN ?_;refine co_ret0n s rfl ?_;have hB431 := fb_call hB0 hb419;have hB432 := fb_ru hB431 ho428 hx427;have hpp := pp_a (d := d) (p := p) (by omega);exact ⟨rfl, ho426.eq (by rw [hpp] <;> simp [txM]) (by omega), hB432⟩
 rw [hc4] at s;have hp433 : p = 102 := by first | simpa using hc4 | simpa [and_assoc] using hc4
 refine co_true s rfl <| co_reg ?_;refine pk0 (v := pt b 0) s rfl fun _ s => ?_;refine pk0 (v := pt B 0) s rfl fun _ s => ?_;refine pk0 (v := pt B 0) s rfl fun _ s => ?_;refine pk0 (v := pt B 4) s rfl fun _ s => ?_;refine pk (v := .bool d.fg) s rfl (rn_load1 rfl rfl Tryz.isAgg4 (hB.cell rfl)) fun _ s => ?_;refine pw s rfl (op_call (args := #[pt b 0, .bool d.fg]) (R := fun res xw => res = pt b 0 ∧ OW b (l0 ++ [flagB d.fg]) (m0 + 1) xw ∧ But (Rw w b) w xw) rfl rfl rfl (by kernel_rfl) (by kernel_rfl) (Tryz.call133 _ _) (ow_flag b l0 m0 d.fg w ho (by omega)) (by rintro e x ⟨rfl, h1, h2⟩; exact ⟨_, rfl, rfl, h1, h2⟩)) ?_;rintro _ w440 a439 ⟨rfl, ho441, hx442⟩ s;have hz443 := hx442.size;have hl444 := ho441.lt;refine pl_nil <| co_blockN ?_;refine co_ret0n s rfl ?_;have hB445 := fb_ru hB0 ho hx442;have hpp := pp_f (d := d) (p := p) (by omega);exact ⟨rfl, ho441.eq (by rw [hpp] <;> simp [txM]) (by omega), hB445⟩
end Go.Proofs.YtifknllhmbkkcaaGreat

/- Package mess and the document's own: Put. Conditions: none. -/
namespace Go.Proofs.YtifknllhmbkkcaaGreat
open Go.RowKit Go.PlainAid
set_option linter.unusedVariables false
set_option linter.unusedSimpArgs false


def qP (d : MsgD) (c : UInt8) : List UInt8 := putP d (c.toNat : Int)
/-- The bytes of a message that may be put. -/
def putML (d : MsgD) : List UInt8 := putL d.k ++ (ptL d.k).flatMap (qP d)
def putM9 (d : MsgD) : ByteArray := if chkMg d = 0 then ⟨(putML d).toArray⟩ else ⟨#[]⟩
theorem putM9_ok {d : MsgD} (h : chkMg d = 0) : putM9 d = ⟨(putML d).toArray⟩ := if_pos h
theorem putM9_err {d : MsgD} (h : chkMg d ≠ 0) : putM9 d = ⟨#[]⟩ := if_neg h
theorem ptL_let (k : Int) : ∀ c ∈ ptL k, LetP (c.toNat : Int) := by
  have h : (ptL k).all (fun c => decide (c = 101 ∨ c = 115 ∨ c = 113 ∨ c = 110 ∨ c = 109 ∨ c = 112 ∨ c = 120 ∨ c = 97 ∨ c = 108 ∨ c = 102 ∨ c = 107 ∨ c = 116 ∨ c = 67 ∨ c = 66 ∨ c = 76 ∨ c = 83 ∨ c = 82)) = true := by
    unfold ptL
    repeat' split
    all_goals rfl
  intro c hc
  have := of_decide_eq_true (List.all_eq_true.1 h c hc)
  unfold LetP
  rcases this with e | e | e | e | e | e | e | e | e | e | e | e | e | e | e | e | e <;> subst e <;> decide
theorem qP_at {d : MsgD} {c : UInt8} {q : Int} (h : q = ((c.toNat : Nat) : Int)) : putP d q = qP d c := by subst h; rfl
theorem cMg_at {d : MsgD} (h : chkMg d = 0) {i : Nat} {c : UInt8} (hc : (ptL d.k)[i]? = some c) : chkP d (c.toNat : Int) = 0 := by
  unfold chkMg at h
  split at h
  · exact cF_all h c (List.mem_of_getElem? hc)
  · omega
theorem cMg_k {d : MsgD} (h : chkMg d = 0) : 1 ≤ d.k ∧ d.k ≤ 15 := by
  unfold chkMg at h
  split at h
  · assumption
  · omega
set_option maxRecDepth 100000 in
theorem mPut_any (d : MsgD) (mv : Value) (bv : Value) (ev : Value) (sv : Value) (pv : Value) (w : World) (hm : SliceOf memE 2 w mv d.cms) (hb : SliceOf opE 3 w bv d.bl) (he : SliceOf entE 4 w ev d.en) (ht : SliceOf (intE .u64) 1 w sv d.st) (hp : SliceOf prE 2 w pv d.pr) (hok : ∀ z ∈ d.en, EntOk w z) (hR : MsgR d) :
    Calls Tryz.prog 56 #[.agg #[.int .i64 d.k, .int .i64 d.ep, .int .i64 d.rq, .int .i64 d.sr, .bool d.fg, .int .u64 d.at_, .int .u64 d.la, .int .i64 d.n, .int .i64 d.m, .int .i64 d.p, .int .i64 d.e, .string d.key, .string d.to_, .int .i64 d.cep, mv, .int .u64 d.cfl, .int .i64 d.bc, .int .i64 d.br, bv, ev, sv, pv]] w fun e w' => e = .returned (.tuple #[.string (putM9 d), .int .i64 (chkMg d)]) ∧ Below w.heap.size w w' := by
 have hrng := hR.rng;have hkk : chkMg d = 0 → 1 ≤ d.k ∧ d.k ≤ 15 := cMg_k;have hps := pstr_len d.k;have hps2 := ptL_small d.k;have hB0 := Below.refl w.heap.size w;have hl_hm := sl_len hm;have hl_hb := sl_len hb;have hl_he := sl_len he;have hl_ht := sl_len ht;have hl_hp := sl_len hp;refine co_enter (n := 31) Tryz.func56 rfl rfl rfl [(0, .agg #[.int .i64 d.k, .int .i64 d.ep, .int .i64 d.rq, .int .i64 d.sr, .bool d.fg, .int .u64 d.at_, .int .u64 d.la, .int .i64 d.n, .int .i64 d.m, .int .i64 d.p, .int .i64 d.e, .string d.key, .string d.to_, .int .i64 d.cep, mv, .int .u64 d.cfl, .int .i64 d.bc, .int .i64 d.br, bv, ev, sv, pv])] rfl (fun a s => ?_);refine q2 ?_;refine pw s rfl (op_new (v := fun N => pt N 0) (T := 65) (cs := #[.int .i64 d.k, .int .i64 d.ep, .int .i64 d.rq, .int .i64 d.sr, .bool d.fg, .int .u64 d.at_, .int .u64 d.la, .int .i64 d.n, .int .i64 d.m, .int .i64 d.p, .int .i64 d.e, .string d.key, .string d.to_, .int .i64 d.cep, mv, .int .u64 d.cfl, .int .i64 d.bc, .int .i64 d.br, bv, ev, sv, pv]) (by kernel_rfl) (by kernel_rfl) (by kernel_rfl)) ?_;rintro _ w2 a1 ⟨N3, rfl, hN6, hz7, hk5, hg4⟩ s;have hz8 := hg4.size
 try dsimp only at s
 refine pk0 (v := .string (⟨#[]⟩)) s rfl fun _ s => ?_;refine pk0 (v := .int .i64 0) s rfl fun _ s => q6 ?_;refine pk (v := .agg #[.int .i64 d.k, .int .i64 d.ep, .int .i64 d.rq, .int .i64 d.sr, .bool d.fg, .int .u64 d.at_, .int .u64 d.la, .int .i64 d.n, .int .i64 d.m, .int .i64 d.p, .int .i64 d.e, .string d.key, .string d.to_, .int .i64 d.cep, mv, .int .u64 d.cfl, .int .i64 d.bc, .int .i64 d.br, bv, ev, sv, pv]) s rfl (rn_loadN rfl rfl Tryz.underlying65 rfl (by kernel_rfl) hk5.all) fun _ s => ?_;have hB14 := hb_new hB0 hg4;refine pw s rfl (op_call (args := #[.agg #[.int .i64 d.k, .int .i64 d.ep, .int .i64 d.rq, .int .i64 d.sr, .bool d.fg, .int .u64 d.at_, .int .u64 d.la, .int .i64 d.n, .int .i64 d.m, .int .i64 d.p, .int .i64 d.e, .string d.key, .string d.to_, .int .i64 d.cep, mv, .int .u64 d.cfl, .int .i64 d.bc, .int .i64 d.br, bv, ev, sv, pv]]) (R := fun res xw => res = .int .i64 (chkMg d) ∧ Below w2.heap.size w2 xw) rfl rfl rfl (by kernel_rfl) (by kernel_rfl) (Tryz.call74 _ _) (mCheck_any d mv bv ev sv pv w2 (hm.below hB14) (hb.below hB14) (he.below hB14) (ht.below hB14) (hp.below hB14) (fun z hz => (hok z hz).below hB14) hR) (by rintro e x ⟨rfl, hb15⟩; exact ⟨_, rfl, ⟨rfl, hb15⟩⟩)) ?_;rintro _ w13 a12 ⟨rfl, hb15⟩ s;have hz16 := hb15.size;refine pk0 (v := .int .i64 (chkMg d)) s rfl fun _ s => q3 ?_;refine pk0 (v := .int .i64 (chkMg d)) s rfl fun _ s => ?_;refine pk0 (v := .bool (chkMg d != 0)) s rfl fun _ s => q1 ?_;have hB21 := hb_call hB14 hb15;cases hc20 : (chkMg d != 0)
 ·
  rw [hc20] at s;have hp22 : ¬ (chkMg d ≠ 0) := by first | simpa using hc20 | simpa [and_assoc] using hc20
  refine co_false s rfl <| q0 <| co_seq ?_;refine dr_gen (fun x => Below w.heap.size w x ∧ Blk x N3 65 #[.int .i64 d.k, .int .i64 d.ep, .int .i64 d.rq, .int .i64 d.sr, .bool d.fg, .int .u64 d.at_, .int .u64 d.la, .int .i64 d.n, .int .i64 d.m, .int .i64 d.p, .int .i64 d.e, .string d.key, .string d.to_, .int .i64 d.cep, mv, .int .u64 d.cfl, .int .i64 d.bc, .int .i64 d.br, bv, ev, sv, pv]) (by kernel_rfl) (fun w23 hg24 => ?_) (fun w23 hg24 => ?_)
  ·
   have hz25 := hg24.size;have hB26 := hb_new hB21 hg24;have hk27 := hk5.below hb15;have hk28 := hk27.kept hg24 (by simp);exact ⟨hB26, hk28⟩
  have hz29 := hg24.size;have hB30 := hb_new hB21 hg24;have hk31 := hk5.below hb15;have hk32 := hk31.kept hg24 (by simp);refine dk0 1 (v := pt N3 0) s rfl rfl ⟨hB30, hk32⟩ fun _ s => ?_;refine dk 2 (v := .int .i64 d.k) s rfl rfl ⟨hB30, hk32⟩ (fun x hx => (rn_load1 rfl rfl Tryz.isAgg3 (hx.2.cell rfl))) fun _ s => ?_;refine d1 0 s rfl rfl (op_call (args := #[]) (R := fun res xw => ∃ b : Nat, res = pt b 0 ∧ b = w23.heap.size ∧ OW b [] 0 xw ∧ Below w23.heap.size w23 xw) rfl rfl rfl (by kernel_rfl) (by kernel_rfl) (Tryz.call90 _ _) (ow_new w23) (by rintro e x ⟨b, rfl, h0, h1, h2⟩; exact ⟨_, rfl, b, rfl, h0, h1, h2⟩)) ?_ ?_
  ·
   rintro _ w36 ⟨b37, rfl, hN38, ho39, hb40⟩;have hz41 := hb40.size;have hl42 := ho39.lt;have hB43 := hb_call hB30 hb40;have hk44 := hk32.below hb40;exact ⟨hB43, hk44⟩
  rintro _ w36 a35 ⟨b37, rfl, hN38, ho39, hb40⟩ s;have hz41 := hb40.size;have hl42 := ho39.lt;have hB43 := hb_call hB30 hb40;have hk44 := hk32.below hb40;refine d1 3 s rfl rfl (op_call (args := #[pt b37 0, .int .i64 d.k]) (R := fun res xw => res = pt b37 0 ∧ OW b37 (([] : List UInt8) ++ putL d.k) (0 + 9) xw ∧ But (Rw w36 b37) w36 xw) rfl rfl rfl (by kernel_rfl) (by kernel_rfl) (Tryz.call91 _ _) (ow_num b37 ([]) 0 d.k w36 ho39 (by omega) (by omega) (by omega)) (by rintro e x ⟨rfl, h1, h2⟩; exact ⟨_, rfl, rfl, h1, h2⟩)) ?_ ?_
  ·
   rintro _ w46 ⟨rfl, ho47, hx48⟩;have hz49 := hx48.size;have hl50 := ho47.lt;have hB51 := hb_wr hB43 ho39 (by omega) hx48;have hk52 := blk_wr hk44 ho39 (by decide) (by omega) hx48;exact ⟨hB51, hk52⟩
  rintro _ w46 a45 ⟨rfl, ho47, hx48⟩ s;have hz49 := hx48.size;have hl50 := ho47.lt;have hB51 := hb_wr hB43 ho39 (by omega) hx48;have hk52 := blk_wr hk44 ho39 (by decide) (by omega) hx48;refine dk0 4 (v := pt b37 0) s rfl rfl ⟨hB51, hk52⟩ fun _ s => ?_;refine dr_done (by kernel_rfl) ?_;refine co_then <| q9 ?_;refine pk0 (v := pt N3 0) s rfl fun _ s => ?_;refine pk (v := .int .i64 d.k) s rfl (rn_load1 rfl rfl Tryz.isAgg3 (hk52.cell rfl)) fun _ s => ?_;refine pw s rfl (op_call (args := #[.int .i64 d.k]) (R := fun res xw => res = .string (pstr d.k) ∧ Below w46.heap.size w46 xw) rfl rfl rfl (by kernel_rfl) (by kernel_rfl) (Tryz.call71 _ _) (mParts_any d.k w46 ) (by rintro e x ⟨rfl, hb58⟩; exact ⟨_, rfl, ⟨rfl, hb58⟩⟩)) ?_;rintro _ w57 a56 ⟨rfl, hb58⟩ s;have hz59 := hb58.size;refine pw s rfl (op_rangeS rfl rfl Tryz.underlying9) ?_;rintro _ w61 a60 ⟨r62, rfl, hN63, hI64, hz65, hg66⟩ s;have hz67 := hg66.size;have hl68 := hI64.lt;refine q1 <| wp_block ?_;have s : Slots 31 [(1, pt N3 0), (2, .string (⟨#[]⟩)), (3, .int .i64 0), (5, pt b37 0), (20, pt r62 0)] _ := s.sub ⟨rfl, rfl, rfl, rfl, rfl, trivial⟩;refine co_loop (fun mm a x => ∃ (i : Nat), Slots 31 [(1, pt N3 0), (2, .string (⟨#[]⟩)), (3, .int .i64 0), (5, pt b37 0), (20, pt r62 0)] a ∧ mm = (pstr d.k).size - i ∧ (i ≤ (pstr d.k).size) ∧ OW b37 (putL d.k ++ ((ptL d.k).take i).flatMap (qP d)) (9 + 4000 * i) x ∧ SIt x r62 (pstr d.k) i ∧ Below w.heap.size w x ∧ Blk x N3 65 #[.int .i64 d.k, .int .i64 d.ep, .int .i64 d.rq, .int .i64 d.sr, .bool d.fg, .int .u64 d.at_, .int .u64 d.la, .int .i64 d.n, .int .i64 d.m, .int .i64 d.p, .int .i64 d.e, .string d.key, .string d.to_, .int .i64 d.cep, mv, .int .u64 d.cfl, .int .i64 d.bc, .int .i64 d.br, bv, ev, sv, pv]) ((pstr d.k).size - 0) ?_ ?_;have ho70 := ho47.below hb58;have ho71 := ho70.new hg66;have hB72 := hb_call hB51 hb58;have hB73 := hb_new hB72 hg66;have hk74 := hk52.below hb58;have hk75 := hk74.kept hg66 (by simp)
  · exact ⟨0, s.sub ⟨rfl, rfl, rfl, rfl, rfl, trivial⟩, rfl, by omega, (ho71.eq (by first | (simp; done) | (rw [takeM hcl, List.flatMap_append, ← List.append_assoc]; simp [← qP_at hcb])) (by first | omega | (simp; done) | (simp; omega))), hI64, hB73, hk75⟩
  · rintro k76 a77 w78 ⟨i, s, rfl, hi79, hf80, hf81, hB82, hk83⟩
    have hz84 := hB82.size;have hl85 := hk83.lt;have hl86 := hf80.lt;have hl87 := hf81.lt;refine q2 ?_;refine pl_want s rfl rfl rfl (op_nextS rfl rfl hf81 (pstr_ascii _)) ?_;rintro _ w89 a88 (⟨hend90, rfl, rfl⟩ | ⟨hlt91, rfl, hI92, hz93, hg94⟩) s
    ·
     refine pk0 (v := .bool false) s rfl fun _ s => q1 <| co_seq ?_;refine co_false s rfl <| wp_exit <| co_thenX <| co_thenX <| qx <| q2 ?_;refine pk0 (v := pt b37 0) s rfl fun _ s => ?_;refine pw s rfl (op_call (args := #[pt b37 0]) (R := fun res xw => res = .tuple #[.string (⟨(putL d.k ++ ((ptL d.k).take i).flatMap (qP d)).toArray⟩), .int .i64 0] ∧ Below w78.heap.size w78 xw) rfl rfl rfl (by kernel_rfl) (by kernel_rfl) (Tryz.call93 _ _) (ow_done b37 (putL d.k ++ ((ptL d.k).take i).flatMap (qP d)) (9 + 4000 * i) w78 hf80) (by rintro e x ⟨rfl, h2⟩; exact ⟨_, rfl, rfl, h2⟩)) ?_;rintro _ w98 a97 ⟨rfl, hb99⟩ s;have hz100 := hb99.size;refine pk0 (v := .string (⟨(putL d.k ++ ((ptL d.k).take i).flatMap (qP d)).toArray⟩)) s rfl fun _ s => ?_;refine pk0 (v := .int .i64 0) s rfl fun _ s => ?_;refine pk0 (v := .string (⟨(putL d.k ++ ((ptL d.k).take i).flatMap (qP d)).toArray⟩)) s rfl fun _ s => ?_;refine pk0 (v := .int .i64 0) s rfl fun _ s => q4 ?_;refine co_ret2 s rfl rfl rfl ?_;have hB105 := hb_call hB82 hb99;have hpl := pstr_len d.k;exact ⟨by rw [putM9_ok (by omega), show chkMg d = 0 by omega, List.take_of_length_le (by omega)]; rfl, hB105⟩
    have hz106 := hg94.size;have hl107 := hI92.lt;refine pk0 (v := .bool true) s rfl fun _ s => q1 <| co_seq ?_;refine co_true s rfl <| q0 <| wp_block <| q2 ?_;refine pk0 (v := .int .i32 (byteAt (pstr d.k) i)) s rfl fun _ s => ?_;refine pk0 (v := .int .i32 (byteAt (pstr d.k) i)) s rfl fun _ s => q1 <| co_reg ?_;refine pk0 (v := pt b37 0) s rfl fun _ s => ?_;refine pk0 (v := .int .i32 (byteAt (pstr d.k) i)) s rfl fun _ s => ?_;obtain ⟨cl, hcl, hcb⟩ := byteAt_pstr (k := d.k) (i := i) (by omega);have hB115 := hb_at hB82 hg94 (by omega);have ho116 := hf80.sit hf81 (by omega) hg94;have hk117 := hk83.kept hg94 (by simp; omega);refine pw s rfl (op_call (args := #[pt b37 0, pt N3 0, .int .i32 (byteAt (pstr d.k) i)]) (R := fun res xw => res = .tuple #[] ∧ OW b37 ((putL d.k ++ ((ptL d.k).take i).flatMap (qP d)) ++ putP d (byteAt (pstr d.k) i)) ((9 + 4000 * i) + 4000) xw ∧ But (Ru w89 b37) w89 xw) rfl rfl rfl (by kernel_rfl) (by kernel_rfl) (Tryz.call92 _ _) (mWrite_any w b37 (putL d.k ++ ((ptL d.k).take i).flatMap (qP d)) (9 + 4000 * i) N3 d mv bv ev sv pv (byteAt (pstr d.k) i) w89 hB115 (by omega) ho116 hk117 hm hb he ht hp hok hR (by rw [hcb]; exact ptL_let _ _ (List.mem_of_getElem? hcl)) (by rw [hcb]; exact cMg_at (by omega) hcl) (by omega) (by omega)) (by rintro e x ⟨rfl, h1, h2⟩; exact ⟨_, rfl, rfl, h1, h2⟩)) ?_;rintro _ w114 a113 ⟨rfl, ho118, hx119⟩ s;have hB120 := ru_below (by omega) hB115 hx119;have hz121 := hB120.size;have hz122 := hx119.size;have hl123 := ho118.lt;refine pl_nil <| co_blockN <| co_then ?_;refine ⟨((pstr d.k).size - (i + 1)), by omega, ?_⟩;have hI124 := sit_ru hI92 (by omega) hx119;have hk125 := blk_ru hk117 (by decide) (by omega) hx119;exact ⟨i + 1, s.sub ⟨rfl, rfl, rfl, rfl, rfl, trivial⟩, rfl, by omega, (ho118.eq (by first | (simp; done) | (rw [takeM hcl, List.flatMap_append, ← List.append_assoc]; simp [← qP_at hcb])) (by first | omega | (simp; done) | (simp; omega))), hI124, hB120, hk125⟩
 rw [hc20] at s;have hp126 : chkMg d ≠ 0 := by first | simpa using hc20 | simpa [and_assoc] using hc20
 refine co_true s rfl <| q2 ?_;refine pk0 (v := .int .i64 (chkMg d)) s rfl fun _ s => ?_;refine pk0 (v := .string (⟨#[]⟩)) s rfl fun _ s => ?_;refine pk0 (v := .int .i64 (chkMg d)) s rfl fun _ s => q5 ?_;refine co_ret2 s rfl rfl rfl ?_;exact ⟨by rw [putM9_err (by omega)], hB21⟩
end Go.Proofs.YtifknllhmbkkcaaGreat

/- Configurations: members, places. Conditions: none. -/
namespace Go.Proofs.YtifknllhmbkkcaaGreat
open Go.RowKit Go.PlainAid

instance : Inhabited ConfT := ⟨⟨0, .slice none 0 0, [], 0⟩⟩
end Go.Proofs.YtifknllhmbkkcaaGreat

/- Package conf and the document's own: what is wrong with a configuration. Conditions: none. -/
namespace Go.Proofs.YtifknllhmbkkcaaGreat
open Go.RowKit Go.PlainAid

instance (m : MemT) : Decidable (badId m) := by unfold badId; infer_instance
instance (m : MemT) : Decidable (badSer m) := by unfold badSer; infer_instance
end Go.Proofs.YtifknllhmbkkcaaGreat

/- Steps of a walk over known slots: rows and blocks of other types lie apart; three results, the first one a struct in a cell. Conditions: none. -/
namespace Go.Proofs.YtifknllhmbkkcaaGreat
open Go.RowKit
section
variable {P : Program} {n : Nat} {m : List (Nat × Value)} {w x : World} {N : Nat} {T : TypeId} {cs : Array Value}
theorem own_neT {B sz k : Nat} {e : TypeId} {v : Value} {xs : List Value} (h : w.ownsRow B e sz v k xs) (hb : Blk w N T cs) (hT : e ≠ T) : v.ownBlock ≠ some N := fun e1 => by
  rcases h.2 with ⟨rfl, _⟩ | ⟨g, c, cur, rfl, hg, hh, _⟩
  · simp [Value.ownBlock] at e1
  · simp only [Value.ownBlock, Option.some.injEq] at e1
    subst e1
    have := hh.symm.trans hb
    simp only [Option.some.injEq, Obj.cells.injEq] at this
    exact hT this.2.1
theorem sl_form {α : Type} {enc : α → List Value} {sz : Nat} {v : Value} {l : List α} (h : SliceOf enc sz w v l) : ∃ a n c, v = .slice a n c := by
  obtain ⟨ao, cap, rfl, _⟩ := h; exact ⟨_, _, _, rfl⟩
end
end Go.Proofs.YtifknllhmbkkcaaGreat

/- Ranges over maps that the call made: what is still to come, whichever comes next. Conditions: none. -/
namespace Go.Proofs.YtifknllhmbkkcaaGreat
open Go.RowKit Go.ChangeMaps

section
variable {K : Type} {P : Program} {n : Nat} {m : List (Nat × Value)} {w x : World} {o : Oper} {B r : Nat} {l left : List (K × Value)} {kv : K → Value} {kt e t : TypeId} {q : Operand}
/-- Block r ranges over the map at B; left is still to come. -/
def IterB (kv : K → Value) (w : World) (r B : Nat) (left : List (K × Value)) : Prop :=
  ∃ es clock since seen c0, w.heap[B]? = some (.map es clock) ∧ w.heap[r]? = some (.mapIter (some B) since seen c0) ∧ since ≤ c0 ∧ c0 = clock ∧ (∀ e ∈ es.toList, e.born < since) ∧ (es.toList.map (·.born)).Nodup ∧
    (es.toList.filter fun e => !seen.contains e.born).map (fun e => (e.key, e.val)) = left.map (fun p => (kv p.1, p.2))
theorem IterB.lt (h : IterB kv w r B left) : r < w.heap.size := by obtain ⟨_, _, _, _, _, _, h, _⟩ := h; exact (Array.getElem?_eq_some_iff.1 h).1
theorem IterB.kept {row : Option Nat} (h : IterB kv w r B left) (hg : w.grownBy x row) (h1 : row ≠ some B) (h2 : row ≠ some r) : IterB kv x r B left := by
  obtain ⟨es, c, s, sn, c0, a1, a2, a3⟩ := h
  exact ⟨es, c, s, sn, c0, by rw [hg.block B (Array.getElem?_eq_some_iff.1 a1).1 (fun e => h1 e.symm)]; exact a1, by rw [hg.block r (Array.getElem?_eq_some_iff.1 a2).1 (fun e => h2 e.symm)]; exact a2, a3⟩
theorem IterB.row {B' : Nat} {T : TypeId} {sz k : Nat} {v : Value} {xs : List Value} (h : IterB kv w r B left) (hr : w.ownsRow B' T sz v k xs) : v.ownBlock ≠ some B ∧ v.ownBlock ≠ some r := by
  obtain ⟨es, c, s, sn, c0, a1, a2, _⟩ := h
  rcases hr.2 with ⟨rfl, _⟩ | ⟨g1, _, _, rfl, _, hg1, _⟩
  · simp [Value.ownBlock]
  · constructor
    · intro e1
      simp [Value.ownBlock] at e1
      subst e1; rw [a1] at hg1; cases hg1
    · intro e1
      simp [Value.ownBlock] at e1
      subst e1; rw [a2] at hg1; cases hg1
end
end Go.Proofs.YtifknllhmbkkcaaGreat

/- Maps that the call made, told by a function: what a key has, if anything; and ranges over them. Conditions: none. -/
namespace Go.Proofs.YtifknllhmbkkcaaGreat
open Go.RowKit

section
variable {K V : Type} [DecidableEq K] {P : Program} {n : Nat} {m : List (Nat × Value)} {w x : World} {o : Oper} {B r c : Nat} {kv : K → Value} {enc : V → Value} {g : K → Option V} {kt e t : TypeId} {q s : Operand} {a : K} {v : V} {left : List (K × V)}
/-- Block B is a map of at most c entries; a key a has g a. -/
def MapO (kv : K → Value) (enc : V → Value) (w : World) (B : Nat) (g : K → Option V) (c : Nat) : Prop := ∃ l, MapB kv w B l ∧ (∀ a, getK l a = (g a).map enc) ∧ l.length ≤ c
theorem MapO.lt (h : MapO kv enc w B g c) : B < w.heap.size := by obtain ⟨l, h, _⟩ := h; exact h.lt
theorem MapO.kept {row : Option Nat} (h : MapO kv enc w B g c) (hg : w.grownBy x row) (hne : row ≠ some B) : MapO kv enc x B g c := by
  obtain ⟨l, h1, h2⟩ := h; exact ⟨l, h1.kept hg hne, h2⟩
theorem MapO.below (h : MapO kv enc w B g c) (hb : Below w.heap.size w x) : MapO kv enc x B g c := h.kept (below_grown hb) (by simp)
theorem MapO.row {B' : Nat} {T : TypeId} {sz k : Nat} {u : Value} {xs : List Value} (h : MapO kv enc w B g c) (hr : w.ownsRow B' T sz u k xs) : u.ownBlock ≠ some B := by
  intro e1
  obtain ⟨l, ⟨es, c', h1, _⟩, _⟩ := h
  rcases hr.2 with ⟨rfl, _⟩ | ⟨g1, _, _, rfl, _, hg1, _⟩
  · simp [Value.ownBlock] at e1
  · simp [Value.ownBlock] at e1
    subst e1; rw [h1] at hg1; cases hg1
theorem MapO.eq {g' : K → Option V} {c' : Nat} (h : MapO kv enc w B g c) (hg : g = g') (hc : c ≤ c') : MapO kv enc w B g' c' := by
  subst hg; obtain ⟨l, h1, h2, h3⟩ := h; exact ⟨l, h1, h2, Nat.le_trans h3 hc⟩
/-- lt holds just what g has. -/
def Full (g : K → Option V) (lt : List (K × V)) : Prop := (lt.map (·.1)).Nodup ∧ ∀ a v, g a = some v ↔ (a, v) ∈ lt
theorem getK_mem : ∀ (l : List (K × Value)) (a : K) (u : Value), (l.map (·.1)).Nodup → (getK l a = some u ↔ (a, u) ∈ l)
  | [], a, u, _ => by simp
  | p :: r, a, u, h => by
    rw [List.map_cons, List.nodup_cons] at h
    have ih := getK_mem r a u h.2
    rw [getK_cons]
    by_cases e1 : a = p.1
    · rw [if_pos e1]
      constructor
      · intro h1
        have : p.2 = u := Option.some.inj h1
        exact List.mem_cons.2 (.inl (Prod.ext e1 this.symm))
      · intro h1
        rcases List.mem_cons.1 h1 with h2 | h2
        · rw [← h2]
        · exact absurd (e1 ▸ List.mem_map_of_mem (f := (·.1)) h2) h.1
    · rw [if_neg e1, ih]
      constructor
      · exact fun h1 => List.mem_cons_of_mem _ h1
      · intro h1
        rcases List.mem_cons.1 h1 with h2 | h2
        · exact absurd (by rw [← h2]) e1
        · exact h2
omit [DecidableEq K] in
theorem typed_list (g : K → Option V) (enc : V → Value) : ∀ (l : List (K × Value)), (∀ p ∈ l, (g p.1).map enc = some p.2) → ∃ lt : List (K × V), l = lt.map (fun p => (p.1, enc p.2)) ∧ ∀ p ∈ lt, g p.1 = some p.2
  | [], _ => ⟨[], rfl, by simp⟩
  | p :: r, h => by
    obtain ⟨lt, h1, h2⟩ := typed_list g enc r (fun y hy => h y (List.mem_cons_of_mem _ hy))
    have hp := h p (by simp)
    cases hg : g p.1 with
    | none => rw [hg] at hp; cases hp
    | some v =>
      rw [hg] at hp
      have hv : enc v = p.2 := Option.some.inj hp
      refine ⟨(p.1, v) :: lt, by rw [List.map_cons, ← h1, hv], fun y hy => ?_⟩
      rcases List.mem_cons.1 hy with rfl | hy
      · exact hg
      · exact h2 y hy
theorem MapO.list (h : MapO kv enc w B g c) : ∃ lt : List (K × V), MapB kv w B (lt.map fun p => (p.1, enc p.2)) ∧ Full g lt ∧ lt.length ≤ c := by
  obtain ⟨l, h1, h2, h3⟩ := h
  have hn := h1.keys
  obtain ⟨lt, e1, e2⟩ := typed_list g enc l (fun p hp => by rw [← h2]; exact (getK_mem l p.1 p.2 hn).2 hp)
  subst e1
  have hn' : (lt.map (·.1)).Nodup := by rw [List.map_map] at hn; exact hn
  refine ⟨lt, h1, ⟨hn', fun a v => ⟨fun hg => ?_, fun hm => e2 _ hm⟩⟩, by simpa using h3⟩
  have h4 := h2 a
  rw [hg] at h4
  have h5 := (getK_mem _ a (enc v) hn).1 h4
  obtain ⟨p, hp, hq⟩ := List.mem_map.1 h5
  have e3 : p.1 = a := (Prod.mk.inj hq).1
  have e4 := e2 p hp
  rw [e3, hg] at e4
  have : v = p.2 := Option.some.inj e4
  rw [← e3, this]; exact hp
/-- A range over it, what is still to come told as keys and values. -/
def IterO (kv : K → Value) (enc : V → Value) (w : World) (r B : Nat) (left : List (K × V)) : Prop := IterB kv w r B (left.map fun p => (p.1, enc p.2))
omit [DecidableEq K] in
theorem IterO.lt (h : IterO kv enc w r B left) : r < w.heap.size := IterB.lt h
omit [DecidableEq K] in
theorem IterO.kept {row : Option Nat} (h : IterO kv enc w r B left) (hg : w.grownBy x row) (h1 : row ≠ some B) (h2 : row ≠ some r) : IterO kv enc x r B left := IterB.kept h hg h1 h2
omit [DecidableEq K] in
theorem IterO.row {B' : Nat} {T : TypeId} {sz k : Nat} {u : Value} {xs : List Value} (h : IterO kv enc w r B left) (hr : w.ownsRow B' T sz u k xs) : u.ownBlock ≠ some B ∧ u.ownBlock ≠ some r := IterB.row h hr
end
section
variable {P : Program} {n : Nat} {m : List (Nat × Value)} {w : World} {o : Oper}
end
end Go.Proofs.YtifknllhmbkkcaaGreat

/- Steps of a walk over an object's own parts: effects upon a set of blocks, appends that tell where the row went, bytes, maps looked up, rows and maps cleared. Conditions: none. -/
namespace Go.Proofs.YtifknllhmbkkcaaGreat
open Go.RowKit

section
variable {P : Program} {n : Nat} {m : List (Nat × Value)} {w x w0 : World} {o : Oper} {N : Nat} {T : TypeId} {cs : Array Value} {S : Nat → Prop} {v u : Value} {k : Nat}
/-- Where a row lies: in S, or it was made since a world of n blocks. -/
def InS (S : Nat → Prop) (n : Nat) (v : Value) : Prop := ∀ k, v.ownBlock = some k → S k ∨ n ≤ k
theorem InS.nil : InS S k (.slice none 0 0) := fun i hi => by simp [Value.ownBlock] at hi
theorem InS.of (h : ∀ i, v.ownBlock = some i → S i) : InS S k v := fun i hi => .inl (h i hi)
theorem rn_addStr {T T' : TypeId} {q r : Operand} {a b : ByteArray} (ho : o.op = .binOp .add T q r T') (hq : ev m q = some (.string a)) (hr : ev m r = some (.string b)) (h : a.size + b.size ≤ 9223372036854775807) : (execOp (lk m) o).run P w = .ok (.value (.string (a ++ b))) w := by
  have h0 := run_string_add_sum (P := P) w a b h
  unfold execOp
  simp only [ho, lk_ev hq, lk_ev hr]
  simp [eqGuard, binOp, h0]
end
section
variable {K V : Type} [DecidableEq K] {P : Program} {n : Nat} {m : List (Nat × Value)} {w x : World} {o : Oper} {B r c : Nat} {kv : K → Value} {enc : V → Value} {g : K → Option V} {kt e t : TypeId} {q s : Operand} {a : K} {v : V}
end
section
variable {P : Program} {n : Nat} {m : List (Nat × Value)} {w : World} {o : Oper} {v : Value} {α : Type} {enc : α → List Value} {l : List α} {sz base : Nat} {T : TypeId}
end
end Go.Proofs.YtifknllhmbkkcaaGreat

/- Entries of a log that came in (over the texts of ops): a batch (client, request, operations), a timestamp; with how much they hold. Conditions: none. -/
namespace Go.Proofs.YtifknllhmbkkcaaGreat
open Go.RowKit Go.ChangeShapes Go.WideShapes Go.Deep Go.PlainAid

instance : Inhabited EntT := ⟨⟨0, 0, .slice none 0 0, [], 0⟩⟩
section
variable {H : Type} {enc : TypeId × Value → H} {w : World} {base : Nat} {spare : Nat → Bool} {held : Bool}
end
section
variable {H : Type} {enc : TypeId × Value → H} {P : Program} {w : World} {base : Nat} {spare : Nat → Bool} {held : Bool}
end
section
variable {H : Type} {enc : TypeId × Value → H} {w : World} {base : Nat} {spare : Nat → Bool} {held : Bool}
end

end Go.Proofs.YtifknllhmbkkcaaGreat

/- Package mess: parts, numbers, lists checked. Conditions: none. -/
namespace Go.Proofs.YtifknllhmbkkcaaGreat
open Go.RowKit Go.PlainAid
set_option linter.unusedVariables false


instance (p : Int) : Decidable (numL p) := by unfold numL; infer_instance
end Go.Proofs.YtifknllhmbkkcaaGreat

/- slices.Grow of nothing, for pairs: a new row with no entries; a method that is called through an interface. Conditions: at most 1000. -/
namespace Go.Proofs.YtifknllhmbkkcaaGreat
open Go Go.RowKit Go.PlainAid
set_option linter.unusedVariables false
set_option linter.unusedSimpArgs false

section
variable {P : Program} {n : Nat} {m : List (Nat × Value)} {w : World} {o : Oper}
end
/-- A method that is called through an interface. -/
theorem op_callI {P : Program} {n : Nat} {m : List (Nat × Value)} {o : Oper} {w : World} {c : Call} {q : Operand} {nm : String} {f : FuncId} {T : TypeId} {v recv : Value} {args : Array Value} {E : Ending → World → Prop} {R : Value → World → Prop} (ho : o.op = .call c) (hc : c.callee = .invoke q nm) (hf : ev m q = some (.iface T v))
    (hq : okOps m o.op = true) (hm : (method (P.types.size + Made.depth) T v nm).run P w = .ok (f, recv) w) (hargs : #[recv] ++ c.args.map (lk m) = args) (hcall : (callFunc f args).run P w = .ok (.enter f args) w) (h : Calls P f args w E) (hE : ∀ e w', E e w' → ∃ v, e = .returned v ∧ R v w') : Op1 P n m o w R := by
  intro a ha K Q hN
  have he : execOp a.eval o = execOp (lk m) o := execOp_congr o (fun cs b e => by simp [e] at ho) (fun x hx => ha.lk (Array.all_eq_true_iff_forall_mem.1 hq x hx))
  unfold Oper.wp
  rw [he]
  have hfx : lk m q = .iface T v := by simp [lk, hf]
  have h2 : (callMethod (.iface T v) nm (c.args.map (lk m))).run P w = .ok (.enter f args) w := by
    simp only [callMethod, Sem.run_bind, run_program, Result.andThen_ok, hm]
    rw [hargs]; exact hcall
  have : (execOp (lk m) o).run P w = .ok (.enter f args) w := by
    simp only [execOp, ho, resolve, hc, hfx, Sem.run_bind, Sem.run_pure, Result.andThen_ok, invoke]
    rw [show (#[Value.iface T v] ++ Array.map (lk m) c.args)[0]? = some (.iface T v) from by simp [Array.getElem?_append]]
    rw [show (#[Value.iface T v] ++ Array.map (lk m) c.args).extract 1 (#[Value.iface T v] ++ Array.map (lk m) c.args).size = Array.map (lk m) c.args from by apply Array.ext'; simp; rw [List.take_of_length_le (by simp)]]
    exact h2
  rw [this, Oper.upon_enter]
  refine h.mono fun e w' he => ?_
  obtain ⟨v, rfl, hv⟩ := hE e w' he
  exact hN v w' hv
section
variable {P : Program} {n : Nat} {m : List (Nat × Value)} {w : World} {N : Nat} {T : TypeId} {cs : Array Value}
/-- A slot and a struct as results. -/
theorem co_retTC {Q : Exit → Act → World → Prop} {a : Act} {fn : Func} {E : Ending → World → Prop} {t u : Nat} {T' : TypeId} {y : Value} {d : TypeDesc} (hs : Slots n m a) (hr : fn.results = #[.tmp u, .cell t T']) (ht : m.lookup t = some (.pointer (some ⟨N, 0, none⟩))) (hu : m.lookup u = some y) (hb : Blk w N T cs)
    (hd : P.underlying T' = some d) (hrow : d.isRow = true) (hi : (P.info? T').map (·.size) = some cs.size) (h : E (.returned (.tuple #[y, .agg cs])) w) : bodyPost P fn E .ret a w := by
  have h1 := hs.look t _ ht
  have h2 := hs.look u _ hu
  have hl := run_loadVar_mid w N 0 T' cs.toList d hb.all hd hrow (by simpa using hi)
  have hrun : (results fn a.tmps).run P w = .ok (.tuple #[y, .agg cs]) w := by
    have h1' : (a.tmps[t]?).getD undef = .pointer (some ⟨N, 0, none⟩) := by rw [← h1, Array.getD_eq_getD_getElem?]
    have h2' : (a.tmps[u]?).getD undef = y := by rw [← h2, Array.getD_eq_getD_getElem?]
    simp [results, hr, h1', h2', asAddr, hl, Sem.run_bind]
  exact bodyPost_ret hrun hs.defers h
end
end Go.Proofs.YtifknllhmbkkcaaGreat

/- Package client: one that nobody made. Conditions: none. -/
namespace Go.Proofs.YtifknllhmbkkcaaGreat
open Go.RowKit Go.PlainAid
set_option linter.unusedVariables false
set_option linter.unusedSimpArgs false


def One1 (v : Value) : Prop := v.oneCell' = true

set_option maxRecDepth 100000 in
theorem clZZeN_any  (w : World)  :
    Calls Tryz.prog 24 #[.pointer none] w fun e w' => e = .returned (.bool true) ∧ Below w.heap.size w w' := by
 have hB0 := Below.refl w.heap.size w;refine co_enter (n := 12) Tryz.func24 rfl rfl rfl [(0, .pointer none)] rfl (fun a s => ?_);refine q2 ?_;refine pk0 (v := .bool false) s rfl fun _ s => q3 ?_;refine pk0 (v := .pointer none) s rfl fun _ s => ?_;refine pk0 (v := .bool true) s rfl fun _ s => ?_;refine pk0 (v := .bool true) s rfl fun _ s => ?_;refine psk s rfl fun _ s => ?_;refine psk s rfl fun _ s => ?_;refine psk s rfl fun _ s => ?_;refine psk s rfl fun _ s => ?_;refine psk s rfl fun _ s => ?_;refine pk0 (v := .bool true) s rfl fun _ s => ?_;refine pk0 (v := .bool true) s rfl fun _ s => q4 ?_;refine co_ret1 s rfl rfl ?_;exact ⟨rfl, hB0⟩
set_option maxRecDepth 100000 in
theorem clZZeZ_any (cb : Nat) (w : World) (hT : Blk w cb 71 #[.bool false, .int .i64 0, .int .i64 0, .int .i64 0, .int .i64 0, .pointer none, .int .i64 0, .int .i64 0, .int .i64 0, .int .u64 0, .int .i64 0, .slice none 0 0, .bool false, .bool false]) :
    Calls Tryz.prog 24 #[pt cb 0] w fun e w' => e = .returned (.bool true) ∧ Below w.heap.size w w' := by
 have hB0 := Below.refl w.heap.size w;have hl_hT := hT.lt;refine co_enter (n := 12) Tryz.func24 rfl rfl rfl [(0, pt cb 0)] rfl (fun a s => ?_);refine q2 ?_;refine pk0 (v := .bool false) s rfl fun _ s => q3 ?_;refine pk0 (v := pt cb 0) s rfl fun _ s => ?_;refine pk0 (v := .bool false) s rfl fun _ s => ?_;refine pk0 (v := .bool false) s rfl fun _ s => ?_;refine pk0 (v := pt cb 0) s rfl fun _ s => ?_;refine pk0 (v := pt cb 0) s rfl fun _ s => ?_;refine pk0 (v := pt cb 0) s rfl fun _ s => ?_;refine pk (v := .bool false) s rfl (rn_load1 rfl rfl Tryz.isAgg4 (hT.cell rfl)) fun _ s => ?_;refine pk0 (v := .bool true) s rfl fun _ s => ?_;refine pk0 (v := .bool true) s rfl fun _ s => ?_;refine pk0 (v := .bool true) s rfl fun _ s => q4 ?_;refine co_ret1 s rfl rfl ?_;exact ⟨rfl, hB0⟩
set_option maxRecDepth 100000 in
theorem clZStN_any (K : Int) (nd : Int) (k0 : ByteArray) (to_ : ByteArray) (at0 : Int) (n : Int) (v : Value) (w : World) (hv1 : One1 v) :
    Calls Tryz.prog 10 #[.pointer none, .agg #[.int .i64 K, .int .i64 nd, .string k0, .string to_, .int .u64 at0, .int .i64 n, v]] w fun e w' => e = .returned (.tuple #[.slice none 0 0, .int .i64 8]) ∧ Below w.heap.size w w' := by
 have hB0 := Below.refl w.heap.size w;refine co_enter (n := 46) Tryz.func10 rfl rfl rfl [(0, .pointer none), (1, .agg #[.int .i64 K, .int .i64 nd, .string k0, .string to_, .int .u64 at0, .int .i64 n, v])] rfl (fun a s => ?_);refine q2 ?_;refine pw s rfl (op_new (v := fun N => pt N 0) (T := 25) (cs := #[.pointer none]) (by kernel_rfl) (by kernel_rfl) (by kernel_rfl)) ?_;rintro _ w2 a1 ⟨N3, rfl, hN6, hz7, hk5, hg4⟩ s;have hz8 := hg4.size
 try dsimp only at s
 refine pw s rfl (op_new (v := fun N => pt N 0) (T := 35) (cs := #[.int .i64 K, .int .i64 nd, .string k0, .string to_, .int .u64 at0, .int .i64 n, v]) (by kernel_rfl) (by kernel_rfl) (by kernel_rfl)) ?_;rintro _ w10 a9 ⟨N11, rfl, hN14, hz15, hk13, hg12⟩ s;have hz16 := hg12.size
 try dsimp only at s
 refine pk0 (v := .slice none 0 0) s rfl fun _ s => ?_;refine pk0 (v := .int .i64 0) s rfl fun _ s => q6 ?_;have hk19 := hk5.kept hg12 (by simp);refine pk (v := .pointer none) s rfl (rn_load1 rfl rfl Tryz.isAgg25 (hk19.cell rfl)) fun _ s => ?_;refine pw s rfl (op_call (args := #[.pointer none]) (R := fun res xw => res = .bool true ∧ Below w10.heap.size w10 xw) rfl rfl rfl (by kernel_rfl) (by kernel_rfl) (Tryz.call24 _ _) (clZZeN_any  w10 ) (by rintro e x ⟨rfl, hb23⟩; exact ⟨_, rfl, ⟨rfl, hb23⟩⟩)) ?_;rintro _ w22 a21 ⟨rfl, hb23⟩ s;have hz24 := hb23.size;refine q1 ?_;refine co_true s rfl <| q2 ?_;refine pk0 (v := .slice none 0 0) s rfl fun _ s => ?_;refine pk0 (v := .int .i64 8) s rfl fun _ s => q5 ?_;refine co_ret2 s rfl rfl rfl ?_;have hB27 := hb_new hB0 hg4;have hB28 := hb_new hB27 hg12;have hB29 := hb_call hB28 hb23;exact ⟨rfl, hB29⟩
set_option maxRecDepth 100000 in
theorem clZStZ_any (cb : Nat) (K : Int) (nd : Int) (k0 : ByteArray) (to_ : ByteArray) (at0 : Int) (n : Int) (v : Value) (w : World) (hT : Blk w cb 71 #[.bool false, .int .i64 0, .int .i64 0, .int .i64 0, .int .i64 0, .pointer none, .int .i64 0, .int .i64 0, .int .i64 0, .int .u64 0, .int .i64 0, .slice none 0 0, .bool false, .bool false]) (hv1 : One1 v) :
    Calls Tryz.prog 10 #[pt cb 0, .agg #[.int .i64 K, .int .i64 nd, .string k0, .string to_, .int .u64 at0, .int .i64 n, v]] w fun e w' => e = .returned (.tuple #[.slice none 0 0, .int .i64 8]) ∧ Below w.heap.size w w' := by
 have hB0 := Below.refl w.heap.size w;have hl_hT := hT.lt;refine co_enter (n := 46) Tryz.func10 rfl rfl rfl [(0, pt cb 0), (1, .agg #[.int .i64 K, .int .i64 nd, .string k0, .string to_, .int .u64 at0, .int .i64 n, v])] rfl (fun a s => ?_);refine q2 ?_;refine pw s rfl (op_new (v := fun N => pt N 0) (T := 25) (cs := #[pt cb 0]) (by kernel_rfl) (by kernel_rfl) (by kernel_rfl)) ?_;rintro _ w2 a1 ⟨N3, rfl, hN6, hz7, hk5, hg4⟩ s;have hz8 := hg4.size
 try dsimp only at s
 refine pw s rfl (op_new (v := fun N => pt N 0) (T := 35) (cs := #[.int .i64 K, .int .i64 nd, .string k0, .string to_, .int .u64 at0, .int .i64 n, v]) (by kernel_rfl) (by kernel_rfl) (by kernel_rfl)) ?_;rintro _ w10 a9 ⟨N11, rfl, hN14, hz15, hk13, hg12⟩ s;have hz16 := hg12.size
 try dsimp only at s
 refine pk0 (v := .slice none 0 0) s rfl fun _ s => ?_;refine pk0 (v := .int .i64 0) s rfl fun _ s => q6 ?_;have hk19 := hk5.kept hg12 (by simp);refine pk (v := pt cb 0) s rfl (rn_load1 rfl rfl Tryz.isAgg25 (hk19.cell rfl)) fun _ s => ?_;have hk23 := hT.kept hg4 (by simp);have hk24 := hk23.kept hg12 (by simp);refine pw s rfl (op_call (args := #[pt cb 0]) (R := fun res xw => res = .bool true ∧ Below w10.heap.size w10 xw) rfl rfl rfl (by kernel_rfl) (by kernel_rfl) (Tryz.call24 _ _) (clZZeZ_any cb w10 hk24) (by rintro e x ⟨rfl, hb25⟩; exact ⟨_, rfl, ⟨rfl, hb25⟩⟩)) ?_;rintro _ w22 a21 ⟨rfl, hb25⟩ s;have hz26 := hb25.size;refine q1 ?_;refine co_true s rfl <| q2 ?_;refine pk0 (v := .slice none 0 0) s rfl fun _ s => ?_;refine pk0 (v := .int .i64 8) s rfl fun _ s => q5 ?_;refine co_ret2 s rfl rfl rfl ?_;have hB29 := hb_new hB0 hg4;have hB30 := hb_new hB29 hg12;have hB31 := hb_call hB30 hb25;exact ⟨rfl, hB31⟩
set_option maxRecDepth 100000 in
theorem clZReN_any  (w : World)  :
    Calls Tryz.prog 18 #[.pointer none] w fun e w' => e = .returned (.tuple #[.agg #[.int .i64 0, .int .i64 0, .int .u64 0, .int .i64 0, .slice none 0 0], .bool false]) ∧ Below w.heap.size w w' := by
 have hB0 := Below.refl w.heap.size w;refine co_enter (n := 19) Tryz.func18 rfl rfl rfl [(0, .pointer none)] rfl (fun a s => ?_);refine q2 ?_;refine pw s rfl (op_new (v := fun N => pt N 0) (T := 50) (cs := #[.int .i64 0, .int .i64 0, .int .u64 0, .int .i64 0, .slice none 0 0]) (by kernel_rfl) (by kernel_rfl) (by kernel_rfl)) ?_;rintro _ w2 a1 ⟨N3, rfl, hN6, hz7, hk5, hg4⟩ s;have hz8 := hg4.size
 try dsimp only at s
 refine pk0 (v := .bool false) s rfl fun _ s => q6 ?_;refine pk0 (v := .pointer none) s rfl fun _ s => ?_;refine pw s rfl (op_call (args := #[.pointer none]) (R := fun res xw => res = .bool true ∧ Below w2.heap.size w2 xw) rfl rfl rfl (by kernel_rfl) (by kernel_rfl) (Tryz.call24 _ _) (clZZeN_any  w2 ) (by rintro e x ⟨rfl, hb13⟩; exact ⟨_, rfl, ⟨rfl, hb13⟩⟩)) ?_;rintro _ w12 a11 ⟨rfl, hb13⟩ s;have hz14 := hb13.size;refine pk0 (v := .bool true) s rfl fun _ s => ?_;refine psk s rfl fun _ s => ?_;refine psk s rfl fun _ s => ?_;refine psk s rfl fun _ s => ?_;refine psk s rfl fun _ s => ?_;refine psk s rfl fun _ s => ?_;refine pk0 (v := .bool true) s rfl fun _ s => q1 ?_;refine co_true s rfl <| q2 ?_;refine pk0 (v := .agg #[.int .i64 0, .int .i64 0, .int .u64 0, .int .i64 0, .slice none 0 0]) s rfl fun _ s => ?_;have hk28 := hk5.below hb13;refine pwD s rfl (op_storeN rfl rfl rfl (all_cons rfl (all_cons rfl (all_cons rfl (all_cons rfl (all_cons rfl all_nil))))) (by kernel_rfl) hk28 rfl) ?_;rintro _ w24 a23 ⟨hk25, hz26, hg27⟩ s;have hk25' : Blk w24 N3 50 #[.int .i64 0, .int .i64 0, .int .u64 0, .int .i64 0, .slice none 0 0] := hk25;have hz29 := hg27.size;refine pk0 (v := .bool false) s rfl fun _ s => q5 ?_;refine co_retC1 (Q := fun _ _ _ => True) s rfl rfl rfl hk25' Tryz.underlying50 rfl (by kernel_rfl) ?_;have hB31 := hb_new hB0 hg4;have hB32 := hb_call hB31 hb13;have hB33 := hb_at hB32 hg27 (by omega);exact ⟨rfl, hB33⟩
set_option maxRecDepth 100000 in
theorem clZReZ_any (cb : Nat) (w : World) (hT : Blk w cb 71 #[.bool false, .int .i64 0, .int .i64 0, .int .i64 0, .int .i64 0, .pointer none, .int .i64 0, .int .i64 0, .int .i64 0, .int .u64 0, .int .i64 0, .slice none 0 0, .bool false, .bool false]) :
    Calls Tryz.prog 18 #[pt cb 0] w fun e w' => e = .returned (.tuple #[.agg #[.int .i64 0, .int .i64 0, .int .u64 0, .int .i64 0, .slice none 0 0], .bool false]) ∧ Below w.heap.size w w' := by
 have hB0 := Below.refl w.heap.size w;have hl_hT := hT.lt;refine co_enter (n := 19) Tryz.func18 rfl rfl rfl [(0, pt cb 0)] rfl (fun a s => ?_);refine q2 ?_;refine pw s rfl (op_new (v := fun N => pt N 0) (T := 50) (cs := #[.int .i64 0, .int .i64 0, .int .u64 0, .int .i64 0, .slice none 0 0]) (by kernel_rfl) (by kernel_rfl) (by kernel_rfl)) ?_;rintro _ w2 a1 ⟨N3, rfl, hN6, hz7, hk5, hg4⟩ s;have hz8 := hg4.size
 try dsimp only at s
 refine pk0 (v := .bool false) s rfl fun _ s => q6 ?_;refine pk0 (v := pt cb 0) s rfl fun _ s => ?_;have hk13 := hT.kept hg4 (by simp);refine pw s rfl (op_call (args := #[pt cb 0]) (R := fun res xw => res = .bool true ∧ Below w2.heap.size w2 xw) rfl rfl rfl (by kernel_rfl) (by kernel_rfl) (Tryz.call24 _ _) (clZZeZ_any cb w2 hk13) (by rintro e x ⟨rfl, hb14⟩; exact ⟨_, rfl, ⟨rfl, hb14⟩⟩)) ?_;rintro _ w12 a11 ⟨rfl, hb14⟩ s;have hz15 := hb14.size;refine pk0 (v := .bool true) s rfl fun _ s => ?_;refine psk s rfl fun _ s => ?_;refine psk s rfl fun _ s => ?_;refine psk s rfl fun _ s => ?_;refine psk s rfl fun _ s => ?_;refine psk s rfl fun _ s => ?_;refine pk0 (v := .bool true) s rfl fun _ s => q1 ?_;refine co_true s rfl <| q2 ?_;refine pk0 (v := .agg #[.int .i64 0, .int .i64 0, .int .u64 0, .int .i64 0, .slice none 0 0]) s rfl fun _ s => ?_;have hk29 := hk5.below hb14;refine pwD s rfl (op_storeN rfl rfl rfl (all_cons rfl (all_cons rfl (all_cons rfl (all_cons rfl (all_cons rfl all_nil))))) (by kernel_rfl) hk29 rfl) ?_;rintro _ w25 a24 ⟨hk26, hz27, hg28⟩ s;have hk26' : Blk w25 N3 50 #[.int .i64 0, .int .i64 0, .int .u64 0, .int .i64 0, .slice none 0 0] := hk26;have hz30 := hg28.size;refine pk0 (v := .bool false) s rfl fun _ s => q5 ?_;refine co_retC1 (Q := fun _ _ _ => True) s rfl rfl rfl hk26' Tryz.underlying50 rfl (by kernel_rfl) ?_;have hB32 := hb_new hB0 hg4;have hB33 := hb_call hB32 hb14;have hB34 := hb_at hB33 hg28 (by omega);exact ⟨rfl, hB34⟩
set_option maxRecDepth 100000 in
theorem clZHiN_any  (w : World)  :
    Calls Tryz.prog 23 #[.pointer none] w fun e w' => e = .returned (.tuple #[.int .i64 0, .int .i64 (-1)]) ∧ Below w.heap.size w w' := by
 have hB0 := Below.refl w.heap.size w;refine co_enter (n := 14) Tryz.func23 rfl rfl rfl [(0, .pointer none)] rfl (fun a s => ?_);refine q2 ?_;refine pk0 (v := .int .i64 0) s rfl fun _ s => ?_;refine pk0 (v := .int .i64 0) s rfl fun _ s => q6 ?_;refine pk0 (v := .pointer none) s rfl fun _ s => ?_;refine pw s rfl (op_call (args := #[.pointer none]) (R := fun res xw => res = .bool true ∧ Below w.heap.size w xw) rfl rfl rfl (by kernel_rfl) (by kernel_rfl) (Tryz.call24 _ _) (clZZeN_any  w ) (by rintro e x ⟨rfl, hb6⟩; exact ⟨_, rfl, ⟨rfl, hb6⟩⟩)) ?_;rintro _ w5 a4 ⟨rfl, hb6⟩ s;have hz7 := hb6.size;refine q1 ?_;refine co_true s rfl <| q2 ?_;refine pk0 (v := .int .i64 0) s rfl fun _ s => ?_;refine pk0 (v := .int .i64 (-1)) s rfl fun _ s => q5 ?_;refine co_ret2 s rfl rfl rfl ?_;have hB10 := hb_call hB0 hb6;exact ⟨rfl, hB10⟩
set_option maxRecDepth 100000 in
theorem clZHiZ_any (cb : Nat) (w : World) (hT : Blk w cb 71 #[.bool false, .int .i64 0, .int .i64 0, .int .i64 0, .int .i64 0, .pointer none, .int .i64 0, .int .i64 0, .int .i64 0, .int .u64 0, .int .i64 0, .slice none 0 0, .bool false, .bool false]) :
    Calls Tryz.prog 23 #[pt cb 0] w fun e w' => e = .returned (.tuple #[.int .i64 0, .int .i64 (-1)]) ∧ Below w.heap.size w w' := by
 have hB0 := Below.refl w.heap.size w;have hl_hT := hT.lt;refine co_enter (n := 14) Tryz.func23 rfl rfl rfl [(0, pt cb 0)] rfl (fun a s => ?_);refine q2 ?_;refine pk0 (v := .int .i64 0) s rfl fun _ s => ?_;refine pk0 (v := .int .i64 0) s rfl fun _ s => q6 ?_;refine pk0 (v := pt cb 0) s rfl fun _ s => ?_;refine pw s rfl (op_call (args := #[pt cb 0]) (R := fun res xw => res = .bool true ∧ Below w.heap.size w xw) rfl rfl rfl (by kernel_rfl) (by kernel_rfl) (Tryz.call24 _ _) (clZZeZ_any cb w hT) (by rintro e x ⟨rfl, hb6⟩; exact ⟨_, rfl, ⟨rfl, hb6⟩⟩)) ?_;rintro _ w5 a4 ⟨rfl, hb6⟩ s;have hz7 := hb6.size;refine q1 ?_;refine co_true s rfl <| q2 ?_;refine pk0 (v := .int .i64 0) s rfl fun _ s => ?_;refine pk0 (v := .int .i64 (-1)) s rfl fun _ s => q5 ?_;refine co_ret2 s rfl rfl rfl ?_;have hB10 := hb_call hB0 hb6;exact ⟨rfl, hB10⟩
set_option maxRecDepth 100000 in
theorem clZDeN_any (fr : Int) (t9 : ByteArray) (w : World)  :
    Calls Tryz.prog 15 #[.pointer none, .int .i64 fr, .string t9] w fun e w' => e = .returned (.slice none 0 0) ∧ Below w.heap.size w w' := by
 have hB0 := Below.refl w.heap.size w;refine co_enter (n := 32) Tryz.func15 rfl rfl rfl [(0, .pointer none), (1, .int .i64 fr), (2, .string t9)] rfl (fun a s => ?_);refine q2 ?_;refine pw s rfl (op_new (v := fun N => pt N 0) (T := 25) (cs := #[.pointer none]) (by kernel_rfl) (by kernel_rfl) (by kernel_rfl)) ?_;rintro _ w2 a1 ⟨N3, rfl, hN6, hz7, hk5, hg4⟩ s;have hz8 := hg4.size
 try dsimp only at s
 refine pw s rfl (op_new (v := fun N => pt N 0) (T := 3) (cs := #[.int .i64 fr]) (by kernel_rfl) (by kernel_rfl) (by kernel_rfl)) ?_;rintro _ w10 a9 ⟨N11, rfl, hN14, hz15, hk13, hg12⟩ s;have hz16 := hg12.size
 try dsimp only at s
 refine pk0 (v := .slice none 0 0) s rfl fun _ s => q6 ?_;have hk18 := hk5.kept hg12 (by simp);refine pk (v := .pointer none) s rfl (rn_load1 rfl rfl Tryz.isAgg25 (hk18.cell rfl)) fun _ s => ?_;refine pw s rfl (op_call (args := #[.pointer none]) (R := fun res xw => res = .bool true ∧ Below w10.heap.size w10 xw) rfl rfl rfl (by kernel_rfl) (by kernel_rfl) (Tryz.call24 _ _) (clZZeN_any  w10 ) (by rintro e x ⟨rfl, hb22⟩; exact ⟨_, rfl, ⟨rfl, hb22⟩⟩)) ?_;rintro _ w21 a20 ⟨rfl, hb22⟩ s;have hz23 := hb22.size;refine pk0 (v := .bool true) s rfl fun _ s => ?_;refine psk s rfl fun _ s => ?_;refine psk s rfl fun _ s => ?_;refine psk s rfl fun _ s => ?_;refine pk0 (v := .bool true) s rfl fun _ s => ?_;refine pk0 (v := .bool true) s rfl fun _ s => ?_;refine psk s rfl fun _ s => ?_;refine psk s rfl fun _ s => ?_;refine psk s rfl fun _ s => ?_;refine pk0 (v := .bool true) s rfl fun _ s => q1 ?_;refine co_true s rfl <| q2 ?_;refine pk0 (v := .slice none 0 0) s rfl fun _ s => q5 ?_;refine co_ret1 s rfl rfl ?_;have hB35 := hb_new hB0 hg4;have hB36 := hb_new hB35 hg12;have hB37 := hb_call hB36 hb22;exact ⟨rfl, hB37⟩
set_option maxRecDepth 100000 in
theorem clZDeZ_any (cb : Nat) (fr : Int) (t9 : ByteArray) (w : World) (hT : Blk w cb 71 #[.bool false, .int .i64 0, .int .i64 0, .int .i64 0, .int .i64 0, .pointer none, .int .i64 0, .int .i64 0, .int .i64 0, .int .u64 0, .int .i64 0, .slice none 0 0, .bool false, .bool false]) :
    Calls Tryz.prog 15 #[pt cb 0, .int .i64 fr, .string t9] w fun e w' => e = .returned (.slice none 0 0) ∧ Below w.heap.size w w' := by
 have hB0 := Below.refl w.heap.size w;have hl_hT := hT.lt;refine co_enter (n := 32) Tryz.func15 rfl rfl rfl [(0, pt cb 0), (1, .int .i64 fr), (2, .string t9)] rfl (fun a s => ?_);refine q2 ?_;refine pw s rfl (op_new (v := fun N => pt N 0) (T := 25) (cs := #[pt cb 0]) (by kernel_rfl) (by kernel_rfl) (by kernel_rfl)) ?_;rintro _ w2 a1 ⟨N3, rfl, hN6, hz7, hk5, hg4⟩ s;have hz8 := hg4.size
 try dsimp only at s
 refine pw s rfl (op_new (v := fun N => pt N 0) (T := 3) (cs := #[.int .i64 fr]) (by kernel_rfl) (by kernel_rfl) (by kernel_rfl)) ?_;rintro _ w10 a9 ⟨N11, rfl, hN14, hz15, hk13, hg12⟩ s;have hz16 := hg12.size
 try dsimp only at s
 refine pk0 (v := .slice none 0 0) s rfl fun _ s => q6 ?_;have hk18 := hk5.kept hg12 (by simp);refine pk (v := pt cb 0) s rfl (rn_load1 rfl rfl Tryz.isAgg25 (hk18.cell rfl)) fun _ s => ?_;have hk22 := hT.kept hg4 (by simp);have hk23 := hk22.kept hg12 (by simp);refine pw s rfl (op_call (args := #[pt cb 0]) (R := fun res xw => res = .bool true ∧ Below w10.heap.size w10 xw) rfl rfl rfl (by kernel_rfl) (by kernel_rfl) (Tryz.call24 _ _) (clZZeZ_any cb w10 hk23) (by rintro e x ⟨rfl, hb24⟩; exact ⟨_, rfl, ⟨rfl, hb24⟩⟩)) ?_;rintro _ w21 a20 ⟨rfl, hb24⟩ s;have hz25 := hb24.size;refine pk0 (v := .bool true) s rfl fun _ s => ?_;refine psk s rfl fun _ s => ?_;refine psk s rfl fun _ s => ?_;refine psk s rfl fun _ s => ?_;refine pk0 (v := .bool true) s rfl fun _ s => ?_;refine pk0 (v := .bool true) s rfl fun _ s => ?_;refine psk s rfl fun _ s => ?_;refine psk s rfl fun _ s => ?_;refine psk s rfl fun _ s => ?_;refine pk0 (v := .bool true) s rfl fun _ s => q1 ?_;refine co_true s rfl <| q2 ?_;refine pk0 (v := .slice none 0 0) s rfl fun _ s => q5 ?_;refine co_ret1 s rfl rfl ?_;have hB37 := hb_new hB0 hg4;have hB38 := hb_new hB37 hg12;have hB39 := hb_call hB38 hb24;exact ⟨rfl, hB39⟩
set_option maxRecDepth 100000 in
theorem clZTiN_any  (w : World)  :
    Calls Tryz.prog 13 #[.pointer none] w fun e w' => e = .returned (.slice none 0 0) ∧ Below w.heap.size w w' := by
 have hB0 := Below.refl w.heap.size w;refine co_enter (n := 15) Tryz.func13 rfl rfl rfl [(0, .pointer none)] rfl (fun a s => ?_);refine q2 ?_;refine pw s rfl (op_new (v := fun N => pt N 0) (T := 25) (cs := #[.pointer none]) (by kernel_rfl) (by kernel_rfl) (by kernel_rfl)) ?_;rintro _ w2 a1 ⟨N3, rfl, hN6, hz7, hk5, hg4⟩ s;have hz8 := hg4.size
 try dsimp only at s
 refine pk0 (v := .slice none 0 0) s rfl fun _ s => q6 ?_;refine pk (v := .pointer none) s rfl (rn_load1 rfl rfl Tryz.isAgg25 (hk5.cell rfl)) fun _ s => ?_;refine pw s rfl (op_call (args := #[.pointer none]) (R := fun res xw => res = .bool true ∧ Below w2.heap.size w2 xw) rfl rfl rfl (by kernel_rfl) (by kernel_rfl) (Tryz.call24 _ _) (clZZeN_any  w2 ) (by rintro e x ⟨rfl, hb13⟩; exact ⟨_, rfl, ⟨rfl, hb13⟩⟩)) ?_;rintro _ w12 a11 ⟨rfl, hb13⟩ s;have hz14 := hb13.size;refine pk0 (v := .bool true) s rfl fun _ s => ?_;refine psk s rfl fun _ s => ?_;refine psk s rfl fun _ s => ?_;refine psk s rfl fun _ s => ?_;refine psk s rfl fun _ s => ?_;refine psk s rfl fun _ s => ?_;refine pk0 (v := .bool true) s rfl fun _ s => q1 ?_;refine co_true s rfl <| q2 ?_;refine pk0 (v := .slice none 0 0) s rfl fun _ s => q5 ?_;refine co_ret1 s rfl rfl ?_;have hB23 := hb_new hB0 hg4;have hB24 := hb_call hB23 hb13;exact ⟨rfl, hB24⟩
set_option maxRecDepth 100000 in
theorem clZTiZ_any (cb : Nat) (w : World) (hT : Blk w cb 71 #[.bool false, .int .i64 0, .int .i64 0, .int .i64 0, .int .i64 0, .pointer none, .int .i64 0, .int .i64 0, .int .i64 0, .int .u64 0, .int .i64 0, .slice none 0 0, .bool false, .bool false]) :
    Calls Tryz.prog 13 #[pt cb 0] w fun e w' => e = .returned (.slice none 0 0) ∧ Below w.heap.size w w' := by
 have hB0 := Below.refl w.heap.size w;have hl_hT := hT.lt;refine co_enter (n := 15) Tryz.func13 rfl rfl rfl [(0, pt cb 0)] rfl (fun a s => ?_);refine q2 ?_;refine pw s rfl (op_new (v := fun N => pt N 0) (T := 25) (cs := #[pt cb 0]) (by kernel_rfl) (by kernel_rfl) (by kernel_rfl)) ?_;rintro _ w2 a1 ⟨N3, rfl, hN6, hz7, hk5, hg4⟩ s;have hz8 := hg4.size
 try dsimp only at s
 refine pk0 (v := .slice none 0 0) s rfl fun _ s => q6 ?_;refine pk (v := pt cb 0) s rfl (rn_load1 rfl rfl Tryz.isAgg25 (hk5.cell rfl)) fun _ s => ?_;have hk13 := hT.kept hg4 (by simp);refine pw s rfl (op_call (args := #[pt cb 0]) (R := fun res xw => res = .bool true ∧ Below w2.heap.size w2 xw) rfl rfl rfl (by kernel_rfl) (by kernel_rfl) (Tryz.call24 _ _) (clZZeZ_any cb w2 hk13) (by rintro e x ⟨rfl, hb14⟩; exact ⟨_, rfl, ⟨rfl, hb14⟩⟩)) ?_;rintro _ w12 a11 ⟨rfl, hb14⟩ s;have hz15 := hb14.size;refine pk0 (v := .bool true) s rfl fun _ s => ?_;refine psk s rfl fun _ s => ?_;refine psk s rfl fun _ s => ?_;refine psk s rfl fun _ s => ?_;refine psk s rfl fun _ s => ?_;refine psk s rfl fun _ s => ?_;refine pk0 (v := .bool true) s rfl fun _ s => q1 ?_;refine co_true s rfl <| q2 ?_;refine pk0 (v := .slice none 0 0) s rfl fun _ s => q5 ?_;refine co_ret1 s rfl rfl ?_;have hB24 := hb_new hB0 hg4;have hB25 := hb_call hB24 hb14;exact ⟨rfl, hB25⟩
set_option maxRecDepth 100000 in
theorem clZRqN_any  (w : World)  :
    Calls Tryz.prog 20 #[.pointer none] w fun e w' => e = .returned (.int .i64 0) ∧ Below w.heap.size w w' := by
 have hB0 := Below.refl w.heap.size w;refine co_enter (n := 9) Tryz.func20 rfl rfl rfl [(0, .pointer none)] rfl (fun a s => ?_);refine q2 ?_;refine pk0 (v := .int .i64 0) s rfl fun _ s => q6 ?_;refine pk0 (v := .pointer none) s rfl fun _ s => ?_;refine pw s rfl (op_call (args := #[.pointer none]) (R := fun res xw => res = .bool true ∧ Below w.heap.size w xw) rfl rfl rfl (by kernel_rfl) (by kernel_rfl) (Tryz.call24 _ _) (clZZeN_any  w ) (by rintro e x ⟨rfl, hb5⟩; exact ⟨_, rfl, ⟨rfl, hb5⟩⟩)) ?_;rintro _ w4 a3 ⟨rfl, hb5⟩ s;have hz6 := hb5.size;refine q1 ?_;refine co_true s rfl <| q2 ?_;refine pk0 (v := .int .i64 0) s rfl fun _ s => q5 ?_;refine co_ret1 s rfl rfl ?_;have hB8 := hb_call hB0 hb5;exact ⟨rfl, hB8⟩
set_option maxRecDepth 100000 in
theorem clZRqZ_any (cb : Nat) (w : World) (hT : Blk w cb 71 #[.bool false, .int .i64 0, .int .i64 0, .int .i64 0, .int .i64 0, .pointer none, .int .i64 0, .int .i64 0, .int .i64 0, .int .u64 0, .int .i64 0, .slice none 0 0, .bool false, .bool false]) :
    Calls Tryz.prog 20 #[pt cb 0] w fun e w' => e = .returned (.int .i64 0) ∧ Below w.heap.size w w' := by
 have hB0 := Below.refl w.heap.size w;have hl_hT := hT.lt;refine co_enter (n := 9) Tryz.func20 rfl rfl rfl [(0, pt cb 0)] rfl (fun a s => ?_);refine q2 ?_;refine pk0 (v := .int .i64 0) s rfl fun _ s => q6 ?_;refine pk0 (v := pt cb 0) s rfl fun _ s => ?_;refine pw s rfl (op_call (args := #[pt cb 0]) (R := fun res xw => res = .bool true ∧ Below w.heap.size w xw) rfl rfl rfl (by kernel_rfl) (by kernel_rfl) (Tryz.call24 _ _) (clZZeZ_any cb w hT) (by rintro e x ⟨rfl, hb5⟩; exact ⟨_, rfl, ⟨rfl, hb5⟩⟩)) ?_;rintro _ w4 a3 ⟨rfl, hb5⟩ s;have hz6 := hb5.size;refine q1 ?_;refine co_true s rfl <| q2 ?_;refine pk0 (v := .int .i64 0) s rfl fun _ s => q5 ?_;refine co_ret1 s rfl rfl ?_;have hB8 := hb_call hB0 hb5;exact ⟨rfl, hB8⟩
set_option maxRecDepth 100000 in
theorem clZBuN_any  (w : World)  :
    Calls Tryz.prog 19 #[.pointer none] w fun e w' => e = .returned (.bool false) ∧ Below w.heap.size w w' := by
 have hB0 := Below.refl w.heap.size w;refine co_enter (n := 13) Tryz.func19 rfl rfl rfl [(0, .pointer none)] rfl (fun a s => ?_);refine q2 ?_;refine pk0 (v := .bool false) s rfl fun _ s => q3 ?_;refine pk0 (v := .pointer none) s rfl fun _ s => ?_;refine pw s rfl (op_call (args := #[.pointer none]) (R := fun res xw => res = .bool true ∧ Below w.heap.size w xw) rfl rfl rfl (by kernel_rfl) (by kernel_rfl) (Tryz.call24 _ _) (clZZeN_any  w ) (by rintro e x ⟨rfl, hb5⟩; exact ⟨_, rfl, ⟨rfl, hb5⟩⟩)) ?_;rintro _ w4 a3 ⟨rfl, hb5⟩ s;have hz6 := hb5.size;refine pk0 (v := .bool false) s rfl fun _ s => ?_;refine pk0 (v := .bool false) s rfl fun _ s => ?_;refine psk s rfl fun _ s => ?_;refine psk s rfl fun _ s => ?_;refine psk s rfl fun _ s => ?_;refine psk s rfl fun _ s => ?_;refine psk s rfl fun _ s => ?_;refine pk0 (v := .bool false) s rfl fun _ s => ?_;refine pk0 (v := .bool false) s rfl fun _ s => q4 ?_;refine co_ret1 s rfl rfl ?_;have hB16 := hb_call hB0 hb5;exact ⟨rfl, hB16⟩
set_option maxRecDepth 100000 in
theorem clZBuZ_any (cb : Nat) (w : World) (hT : Blk w cb 71 #[.bool false, .int .i64 0, .int .i64 0, .int .i64 0, .int .i64 0, .pointer none, .int .i64 0, .int .i64 0, .int .i64 0, .int .u64 0, .int .i64 0, .slice none 0 0, .bool false, .bool false]) :
    Calls Tryz.prog 19 #[pt cb 0] w fun e w' => e = .returned (.bool false) ∧ Below w.heap.size w w' := by
 have hB0 := Below.refl w.heap.size w;have hl_hT := hT.lt;refine co_enter (n := 13) Tryz.func19 rfl rfl rfl [(0, pt cb 0)] rfl (fun a s => ?_);refine q2 ?_;refine pk0 (v := .bool false) s rfl fun _ s => q3 ?_;refine pk0 (v := pt cb 0) s rfl fun _ s => ?_;refine pw s rfl (op_call (args := #[pt cb 0]) (R := fun res xw => res = .bool true ∧ Below w.heap.size w xw) rfl rfl rfl (by kernel_rfl) (by kernel_rfl) (Tryz.call24 _ _) (clZZeZ_any cb w hT) (by rintro e x ⟨rfl, hb5⟩; exact ⟨_, rfl, ⟨rfl, hb5⟩⟩)) ?_;rintro _ w4 a3 ⟨rfl, hb5⟩ s;have hz6 := hb5.size;refine pk0 (v := .bool false) s rfl fun _ s => ?_;refine pk0 (v := .bool false) s rfl fun _ s => ?_;refine psk s rfl fun _ s => ?_;refine psk s rfl fun _ s => ?_;refine psk s rfl fun _ s => ?_;refine psk s rfl fun _ s => ?_;refine psk s rfl fun _ s => ?_;refine pk0 (v := .bool false) s rfl fun _ s => ?_;refine pk0 (v := .bool false) s rfl fun _ s => q4 ?_;refine co_ret1 s rfl rfl ?_;have hB16 := hb_call hB0 hb5;exact ⟨rfl, hB16⟩
end Go.Proofs.YtifknllhmbkkcaaGreat
