/- Put together: RlgHKp, RlgTnKp, RlgUnKp, RlgWnKp, RlgYnKp, RlgZnKp, ConfAzKp, ConfBzKp, ConfDzKp, ConfEzKp, ConfFzKp, ConfZzKp, DelAKp, LeaAKp, NoAKp, RstAKp. Conditions: as each says. -/
import Derived.Test.YtniojcnkjehflaaGreatKq2
import Derived.Test.YtniojcnkjehflaaGreatKq1
import Derived.Laws.StructEq
import Derived.Laws.Pointers
import Derived.Deep.QuietTactic
import Derived.BigQuiet
import Derived.Deep.RegionHeld3
import Derived.Lib.LazyBuf
import Derived.Shelf.RegionOpenPlain
import Derived.RangeFuncBox
import Derived.PlainAid
import Derived.LoopN
/- The document's log: Copy, Stamp. Conditions: at most 100 entries, 20 operations each. -/
namespace Go.Proofs.YtniojcnkjehflaaGreat
open Go.RowKit Go.PlainAid
set_option linter.unusedVariables false


theorem EntsK.low {S : Nat → Prop} {n m : Nat} {w : World} {L : List EntT} (h : EntsK (fun _ => False) m w L) (hn : n ≤ m) : EntsK S n w L := fun e he =>
  ⟨(h e he).row, fun i hi => by rcases (h e he).ins i hi with q | q; exact absurd q id; exact .inr (by omega), (h e he).len, (h e he).each, (h e he).ts0, (h e he).ts1, (h e he).cl, (h e he).rq⟩
theorem e0_len {A B : List EntT} (h : A.map e0 = B.map e0) : A.length = B.length := by have := congrArg List.length h; simpa using this
theorem e0_at {A B : List EntT} {i : Nat} {y : EntT} (h : A.map e0 = B.map e0) (hy : A[i]? = some y) : ∃ z, B[i]? = some z ∧ e0 z = e0 y := by
  have := congrArg (·[i]?) h
  simp only [List.getElem?_map, hy, Option.map_some] at this
  rw [eq_comm, Option.map_eq_some_iff] at this
  exact this
theorem e0_f {α : Type} {f : EntT → α} (hf : ∀ e, f (e0 e) = f e) {A B : List EntT} (h : A.map e0 = B.map e0) : A.map f = B.map f := by
  have := congrArg (List.map f) h
  simp only [List.map_map] at this
  rwa [show f ∘ e0 = f from funext hf] at this
theorem e0_ts {y z : EntT} (h : e0 z = e0 y) : z.ts = y.ts ∧ z.client = y.client ∧ z.req = y.req ∧ z.opl = y.opl := by
  unfold e0 at h
  simp only [EntT.mk.injEq] at h
  exact ⟨h.2.2.2.2, h.1, h.2.1, h.2.2.2.1⟩
theorem e0_with {y z : EntT} {t : Int} (h : e0 z = e0 y) : e0 { z with ts := t } = e0 { y with ts := t } := by
  obtain ⟨_, h1, h2, h3⟩ := e0_ts h
  unfold e0; simp only [h1, h2, h3]
theorem e0_set {A B : List EntT} {i : Nat} {y z : EntT} (h : A.map e0 = B.map e0) (e : e0 y = e0 z) : (A.set i y).map e0 = (B.set i z).map e0 := by rw [List.map_set, List.map_set, h, e]
theorem stL_e0 {X M : List EntT} {i ts : Int} {y : EntT} (hE : stE X i ts = 0) (h : M.map e0 = X.map e0) (hy : M[i.toNat]? = some y) : (M.set i.toNat { y with ts := ts }).map e0 = (stL X i ts).map e0 := by
  obtain ⟨z, hz, he⟩ := e0_at h hy
  rw [stL_ok hE hz]
  exact e0_set h (e0_with he.symm)

set_option maxRecDepth 100000 in
theorem rcopy17_any (v : Value) (l : List EntT) (w : World) (hs : SliceOf entE 4 w v l) (hok : ∀ z ∈ l, EntOk w z) (hl20 : ∀ z ∈ l, z.opl.length ≤ 20) (hlen : l.length ≤ 100) :
    Calls Tryz.prog 70 #[v] w fun e w' => ∃ (L2 : List EntT) (u : Value), e = .returned (u) ∧ w'.ownsRow w.heap.size 44 4 u L2.length (L2.flatMap entE) ∧ EntsK (fun _ => False) w.heap.size w' L2 ∧ L2.map e0 = l.map e0 ∧ Below w.heap.size w w' := by
 have hB0 := Below.refl w.heap.size w;have hl_hs := sl_len hs;refine co_enter (n := 31) Tryz.func70 rfl rfl rfl [(0, v)] rfl (fun a s => ?_);refine q2 ?_;refine pk0 (v := .slice none 0 0) s rfl fun _ s => q3 ?_;refine pk0 (v := .slice none 0 0) s rfl fun _ s => q6 ?_;refine pk0 (v := .int .i64 0) s rfl fun _ s => q1 <| wp_block ?_;have s : Slots 31 [(0, v), (3, .slice none 0 0), (4, .int .i64 0)] _ := s.sub ⟨rfl, rfl, rfl, trivial⟩;refine co_loop (fun mm a x => ∃ (k : Nat) (u1 : Value) (Lk : List EntT), Slots 31 [(0, v), (3, u1), (4, .int .i64 (k : Int))] a ∧ mm = l.length - k ∧ (k ≤ l.length) ∧ (Lk.map e0 = (l.take k).map e0) ∧ x.ownsRow w.heap.size 44 4 u1 Lk.length (Lk.flatMap entE) ∧ EntsK (fun _ => False) w.heap.size x Lk ∧ Below w.heap.size w x) (l.length - 0) ?_ ?_
 · exact ⟨0, (.slice none 0 0), [], s.sub ⟨rfl, rfl, (slot_eq rfl (congrArg (Value.int .i64) (by first | rfl | omega))), trivial⟩, rfl, by omega, by first | rfl | exact he0, (row_nilL _ _ _ _ _), (fun e he => by cases he), hB0⟩
 · rintro k5 a6 w7 ⟨k, u1, Lk, s, rfl, hi8, hi9, hf10, hf11, hB12⟩
   have hz13 := hB12.size;have hLkl : Lk.length = k := by have hq := congrArg List.length (by assumption : Lk.map e0 = (l.take k).map e0); rw [List.length_map, List.length_map, List.length_take] at hq; omega
   refine q9 ?_;refine pk0 (v := .int .i64 (k : Int)) s rfl fun _ s => ?_;refine pk0 (v := v) s rfl fun _ s => ?_;refine pk (v := .int .i64 (l.length : Int)) s rfl (rn_len rfl rfl Tryz.underlying32 (hs.below hB12)) fun _ s => ?_;refine pk0 (v := .bool (decide ((k : Int) < (l.length : Int)))) s rfl fun _ s => q1 ?_;cases hc18 : (decide ((k : Int) < (l.length : Int)))
   ·
    rw [hc18] at s;have hp19 : ¬ ((k : Int) < (l.length : Int)) := of_decide_eq_false hc18;refine co_false s rfl <| wp_exit <| co_thenX <| co_thenX <| qx <| q2 ?_;refine pk0 (v := u1) s rfl fun _ s => ?_;refine pk0 (v := u1) s rfl fun _ s => q4 ?_;refine co_ret1 s rfl rfl ?_;exact ⟨_, _, rfl, (row_lows hf10 (by omega)), hf11, by have hq := (by assumption : Lk.map e0 = (l.take k).map e0); rwa [List.take_of_length_le (by omega)] at hq, hB12⟩
   rw [hc18] at s;have hp22 : (k : Int) < (l.length : Int) := of_decide_eq_true hc18;refine co_true s rfl <| q0 <| co_seq <| wp_block <| q2 ?_;refine pk0 (v := v) s rfl fun _ s => ?_;refine pk0 (v := .int .i64 (k : Int)) s rfl fun _ s => ?_;obtain ⟨y25, hy25⟩ : ∃ z, l[k]? = some z := ⟨_, List.getElem?_eq_getElem (by first | omega | (simp; done) | (simp; omega))⟩;have oky25 := hok _ (List.mem_of_getElem? hy25);have k26 : 0 ≤ y25.ts := oky25.ts0;have k27 : y25.ts < 18446744073709551616 := oky25.ts1;have h20y25 := hl20 y25 (List.mem_of_getElem? hy25);refine pk (v := pt (blkOf v) (offOf v + k * 4)) s rfl (rn_index rfl rfl rfl Tryz.underlying32 Tryz.sizeOf44 (hs.below hB12) (by omega) (by first | omega | (simp; done) | (simp; omega))) fun _ s => ?_;refine pk (v := .agg #[.int .i64 y25.client, .int .i64 y25.req, y25.ops, .int .u64 y25.ts]) s rfl (rn_loadN rfl rfl Tryz.underlying44 rfl (by kernel_rfl) (sl_at (hs.below hB12) hy25)) fun _ s => ?_;refine pw s rfl (op_new (v := fun N => pt N 0) (T := 44) (cs := #[.int .i64 0, .int .i64 0, .slice none 0 0, .int .u64 0]) (by kernel_rfl) (by kernel_rfl) (by kernel_rfl)) ?_;rintro _ w31 a30 ⟨N32, rfl, hN35, hz36, hk34, hg33⟩ s;have ha37 := row_fresh hf10 hN35;have hz38 := hg33.size
   try dsimp only at s
   have hB44 := hb_new hB12 hg33;refine pwD s rfl (op_storeN rfl rfl rfl (all_cons rfl (all_cons rfl (all_cons (sl_one (oky25.ops.below hB44)) (all_cons rfl all_nil)))) (by kernel_rfl) hk34 rfl) ?_;rintro _ w40 a39 ⟨hk41, hz42, hg43⟩ s;have hk41' : Blk w40 N32 44 #[.int .i64 y25.client, .int .i64 y25.req, y25.ops, .int .u64 y25.ts] := hk41;have hz45 := hg43.size;refine q3 ?_;refine pw s rfl (op_new (v := fun N => .slice (some ⟨N, 0, none⟩) 0 0) (T := 58) (cs := #[]) (by kernel_rfl) (by kernel_rfl) (by kernel_rfl)) ?_;rintro _ w47 a46 ⟨N48, rfl, hN51, hz52, hk50, hg49⟩ s;have hr54 := row_kept_new hf10 hg33;have hr55 := row_kept_at hr54 hg43 (ha37);have ha53 := row_fresh hr55 hN51;have hz56 := hg49.size;have hE58 := hf11.new hg33;have hE59 := hE58.blk hk34 (by decide) hg43;have hu57 := EntsK.under hE59 hN51
   try dsimp only at s
   refine pk0 (v := v) s rfl fun _ s => ?_;refine pk0 (v := .int .i64 (k : Int)) s rfl fun _ s => ?_;have hB62 := hb_at hB44 hg43 (by omega);have hB63 := hb_new hB62 hg49;refine pk (v := pt (blkOf v) (offOf v + k * 4)) s rfl (rn_index rfl rfl rfl Tryz.underlying32 Tryz.sizeOf44 (hs.below hB63) (by omega) (by first | omega | (simp; done) | (simp; omega))) fun _ s => ?_;refine pk0 (v := pt (blkOf v) (offOf v + k * 4)) s rfl fun _ s => ?_;refine pk0 (v := pt (blkOf v) (offOf v + k * 4 + 2)) s rfl fun _ s => ?_;refine pk (v := y25.ops) s rfl (rn_load1 rfl rfl Tryz.isAgg40 ((sl_at (hs.below hB63) hy25) 2 _ rfl)) fun _ s => ?_;have hr70 := row_of_blkL hk50 (Nat.le_refl _) 3 opE;refine pw s rfl (op_appendSrc rfl N48 58 (z := .agg #[.string (⟨#[]⟩), .string (⟨#[]⟩), .bool false]) (size := 3) (bytes := 40) Tryz.underlying40 (by kernel_rfl) rfl rfl rfl hr70 rfl (oky25.ops.below hB63) (fun y hy => ⟨opE_len y, opE_one y⟩) (by first | omega | (simp only [List.length_nil, List.length_append, List.length_cons, List.length_take, List.length_drop]; omega)) (by first | omega | (simp only [List.length_nil, List.length_append, List.length_cons, List.length_take, List.length_drop]; omega)) (by omega)) ?_;rintro v71 w69 a68 ⟨hr72, hg73⟩ s;have hr72' : w69.ownsRow N48 58 3 v71 y25.opl.length (y25.opl.flatMap opE) := row_app (l := []) hr72;have hz75 := hg73.size;refine pk0 (v := pt N32 0) s rfl fun _ s => ?_;refine pk0 (v := pt N32 2) s rfl fun _ s => ?_;have hk83 := hk41'.kept hg49 (by simp);have hk84 := hk83.kept hg73 (row_ne_lt hr70 (by omega));refine pwD s rfl (op_store1 rfl rfl rfl (row_one hr72') Tryz.sizeOf40 hk84 rfl) ?_;rintro _ w79 a78 ⟨hk80, hz81, hg82⟩ s;have hk80' : Blk w79 N32 44 #[.int .i64 y25.client, .int .i64 y25.req, v71, .int .u64 y25.ts] := hk80;have hz85 := hg82.size;refine q1 <| co_reg ?_;refine pk0 (v := u1) s rfl fun _ s => ?_;refine pk (v := .agg #[.int .i64 y25.client, .int .i64 y25.req, v71, .int .u64 y25.ts]) s rfl (rn_loadN rfl rfl Tryz.underlying44 rfl (by kernel_rfl) hk80'.all) fun _ s => ?_;refine pw s rfl (op_new (v := fun N => .slice (some ⟨N, 0, none⟩) 1 1) (T := 44) (cs := #[.int .i64 y25.client, .int .i64 y25.req, v71, .int .u64 y25.ts]) (by kernel_rfl) (by kernel_rfl) (by kernel_rfl)) ?_;rintro _ w89 a88 ⟨N90, rfl, hN93, hz94, hk92, hg91⟩ s;have hr96 := row_kept_new hr55 hg49;have hr97 := row_kept_row hr96 hr70 hg73 (by decide);have hr98 := row_kept_at hr97 hg82 (ha37);have ha95 := row_fresh hr98 hN93;have hr100 := row_kept_at hr72' hg82 (row_ne_lt hr72' (by omega));have ha99 := row_fresh hr100 hN93;have hz101 := hg91.size
   try dsimp only at s
   have hr108 := row_kept_new hr98 hg91;have hr109 := row_kept_new hr100 hg91;refine pw s rfl (op_append rfl w.heap.size 44 (z := .agg #[.int .i64 0, .int .i64 0, .slice none 0 0, .int .u64 0]) (size := 4) (bytes := 48) Tryz.underlying32 (by kernel_rfl) rfl rfl rfl hr108 rfl hk92 rfl (all_cons rfl (all_cons rfl (all_cons (row_one hr109) (all_cons rfl all_nil)))) (by first | omega | (simp only [List.length_nil, List.length_append, List.length_cons, List.length_take, List.length_drop]; omega)) (by first | omega | (simp only [List.length_nil, List.length_append, List.length_cons, List.length_take, List.length_drop]; omega)) (by omega)) ?_;rintro v104 w103 a102 ⟨hr105, hg106⟩ s;have hr105' : w103.ownsRow w.heap.size 44 4 v104 ((Lk ++ [(EntT.mk y25.client y25.req v71 y25.opl y25.ts)]).length) ((Lk ++ [(EntT.mk y25.client y25.req v71 y25.opl y25.ts)]).flatMap entE) := row_push (y := (EntT.mk y25.client y25.req v71 y25.opl y25.ts)) hr105 rfl rfl;have hz110 := hg106.size;refine pk0 (v := v104) s rfl fun _ s => pl_nil <| co_blockN <| co_then <| co_reg ?_;refine pk0 (v := .int .i64 (k : Int)) s rfl fun _ s => ?_;refine pk (v := .int .i64 ((k + 1 : Nat) : Int)) s rfl (rn_arith' rfl rfl rfl rfl rfl rfl (IntWalk.i64_in _ (by omega)) (by omega)) fun _ s => ?_;refine pk0 (v := .int .i64 ((k + 1 : Nat) : Int)) s rfl fun _ s => q1 ?_;refine ⟨(l.length - (k + 1)), by omega, ?_⟩;have he0 := e0_snoc (by assumption : Lk.map e0 = _) hy25 (z := (EntT.mk y25.client y25.req v71 y25.opl y25.ts)) rfl;have hE115 := hE59.new hg49;have hE116 := hE115.rowU hu57 hr70 hg73;have hE117 := hE116.blk hk84 (by decide) hg82;have hE118 := hE117.new hg91;have hE119 := hE118.row hr108 (by decide) hg106;have hr120 := row_kept_row hr109 hr108 hg106 (by decide);have hB121 := hb_row hB63 hr70 (by omega) hg73;have hB122 := hb_at hB121 hg82 (by omega);have hB123 := hb_new hB122 hg91;have hB124 := hb_row hB123 hr108 (by omega) hg106;exact ⟨k + 1, v104, (Lk ++ [(EntT.mk y25.client y25.req v71 y25.opl y25.ts)]), s.sub ⟨rfl, rfl, rfl, trivial⟩, rfl, by omega, by first | rfl | exact he0, (row_eq hr105' (rfl)), (EntsK.snoc hE119 (e := EntT.mk y25.client y25.req v71 y25.opl y25.ts) ⟨row_lows hr120 (Nat.zero_le _), InS.low hr120 (by omega), by omega, oky25.each, oky25.ts0, oky25.ts1, oky25.cl, oky25.rq⟩), hB124⟩
end Go.Proofs.YtniojcnkjehflaaGreat

/- Package rlog: Thin. Conditions: at most 100 entries, 20 operations each, their keys different. -/
namespace Go.Proofs.YtniojcnkjehflaaGreat
open Go.RowKit Go.PlainAid
set_option linter.unusedVariables false


def ltE (h : Int) (e : EntT) : Bool := decide (¬ e.ts = 0 ∧ e.ts ≤ h)
def cntK (k : ByteArray) (l : List OpT) : Int := ((l.countP fun o => decide (o.1 = k) : Nat) : Int)
/-- How often a key stands in what may be thinned. -/
def fT (h : Int) : List EntT → ByteArray → Int
  | [], _ => 0
  | e :: r, k => if ltE h e = true then fT h r k + cntK k e.opl else fT h r k
def kpL (f : ByteArray → Int) (l : List OpT) : List OpT := l.filter fun o => decide (f o.1 = 0)
def lT (h : Int) : List EntT → List EntT
  | [] => []
  | e :: r => (if ltE h e = true then { e with opl := kpL (fT h r) e.opl } else e) :: lT h r
def gT (h : Int) : List EntT → Int
  | [] => 0
  | e :: r => if ltE h e = true then gT h r + ((e.opl.length : Int) - ((kpL (fT h r) e.opl).length : Int)) else gT h r
def thM (L : List EntT) (n : Int) : Nat := (if n < 0 then 0 else if (L.length : Int) < n then (L.length : Int) else n).toNat
def thS (L : List EntT) (h : Int) (M j : Nat) : List EntT := L.take j ++ (lT h ((L.take M).drop j) ++ L.drop M)
def thL (L : List EntT) (h n : Int) : List EntT := lT h (L.take (thM L n)) ++ L.drop (thM L n)
def thG (L : List EntT) (h n : Int) : Int := gT h (L.take (thM L n))
/-- The counts behind the first q operations of an entry. -/
def laterF (h : Int) (T : List EntT) (l : List OpT) (q : Nat) (k : ByteArray) : Int := fT h T k + cntK k (l.take q)
theorem lT_len (h : Int) (L : List EntT) : (lT h L).length = L.length := by induction L with
  | nil => rfl
  | cons e r ih => simp [lT, ih]
theorem cntK_nn (k : ByteArray) (l : List OpT) : 0 ≤ cntK k l ∧ cntK k l ≤ l.length := by unfold cntK; have := List.countP_le_length (l := l) (p := fun o => decide (o.1 = k)); omega
theorem fT_nn (h : Int) (k : ByteArray) : ∀ L : List EntT, (∀ e ∈ L, e.opl.length ≤ 20) → 0 ≤ fT h L k ∧ fT h L k ≤ 20 * (L.length : Int)
  | [], _ => by simp [fT]
  | e :: r, hl => by
    have ih := fT_nn h k r (fun x hx => hl x (List.mem_cons_of_mem _ hx))
    have h1 := hl e (by simp)
    have h2 := cntK_nn k e.opl
    simp only [fT, List.length_cons]
    split <;> omega
theorem kpL_le (f : ByteArray → Int) (l : List OpT) : (kpL f l).length ≤ l.length := List.length_filter_le ..
theorem gT_nn (h : Int) : ∀ L : List EntT, (∀ e ∈ L, e.opl.length ≤ 20) → 0 ≤ gT h L ∧ gT h L ≤ 20 * (L.length : Int)
  | [], _ => by simp [gT]
  | e :: r, hl => by
    have ih := gT_nn h r (fun x hx => hl x (List.mem_cons_of_mem _ hx))
    have h1 := hl e (by simp)
    have h2 := kpL_le (fT h r) e.opl
    simp only [gT, List.length_cons]
    split <;> omega
section
variable {L Lk : List EntT} {h : Int} {j M q : Nat} {y y' : EntT} {l : List OpT} {o : OpT} {T : List EntT} {f : ByteArray → Int}
theorem thS_split (hj : 0 < j) (hM : j ≤ M) (hL : M ≤ L.length) : ∃ z, L[j - 1]? = some z ∧ (L.take M).drop (j - 1) = z :: (L.take M).drop j ∧ L.take j = L.take (j - 1) ++ [z] := by
  obtain ⟨i, rfl⟩ : ∃ i, j = i + 1 := ⟨j - 1, by omega⟩
  have hi : i < L.length := by omega
  refine ⟨L[i], List.getElem?_eq_getElem hi, ?_, ?_⟩
  · have hi2 : i < (L.take M).length := by rw [List.length_take]; omega
    rw [show i + 1 - 1 = i by omega, List.drop_eq_getElem_cons hi2, List.getElem_take]
  · rw [show i + 1 - 1 = i by omega, takeE (List.getElem?_eq_getElem hi)]
theorem thS_z (hj : 0 < j) (hM : j ≤ M) (hL : M ≤ L.length) (hLk : Lk.map e0 = (thS L h M j).map e0) (hy : Lk[j - 1]? = some y) : ∃ z, L[j - 1]? = some z ∧ e0 z = e0 y ∧ (L.take M).drop (j - 1) = z :: (L.take M).drop j ∧ L.take j = L.take (j - 1) ++ [z] := by
  obtain ⟨z, h1, h2, h3⟩ := thS_split hj hM hL
  obtain ⟨z', h4, h5⟩ := e0_at hLk hy
  have : (thS L h M j)[j - 1]? = L[j - 1]? := by
    unfold thS
    rw [List.getElem?_append_left (by rw [List.length_take]; omega), List.getElem?_take, if_pos (by omega)]
  rw [this, h1] at h4
  cases h4
  exact ⟨z, h1, h5, h2, h3⟩
theorem ltE_e0 {a b : EntT} (e : e0 a = e0 b) : ltE h a = ltE h b := by unfold ltE; rw [(e0_ts e).1]
theorem th_no (hj : 0 < j) (hM : j ≤ M) (hL : M ≤ L.length) (hLk : Lk.map e0 = (thS L h M j).map e0) (hy : Lk[j - 1]? = some y) (hq : ltE h y = false) : Lk.map e0 = (thS L h M (j - 1)).map e0 := by
  obtain ⟨z, h1, h2, h3, h4⟩ := thS_z hj hM hL hLk hy
  rw [hLk]
  unfold thS
  rw [h3, h4, lT, if_neg (by rw [ltE_e0 h2, hq]; simp)]
  simp
theorem th_yes (hj : 0 < j) (hM : j ≤ M) (hL : M ≤ L.length) (hLk : Lk.map e0 = (thS L h M j).map e0) (hy : Lk[j - 1]? = some y) (hq : ltE h y = true) (e : e0 y' = e0 { y with opl := kpL (fT h ((L.take M).drop j)) y.opl }) : (Lk.set (j - 1) y').map e0 = (thS L h M (j - 1)).map e0 := by
  obtain ⟨z, h1, h2, h3, h4⟩ := thS_z hj hM hL hLk hy
  obtain ⟨k1, k2, k3, k4⟩ := e0_ts h2
  rw [List.map_set, hLk, e]
  unfold thS
  rw [h3, h4, lT, if_pos (by rw [ltE_e0 h2, hq])]
  have hl : (L.take (j - 1)).length = j - 1 := by rw [List.length_take]; have := (List.getElem?_eq_some_iff.1 h1).1; omega
  simp only [List.map_append, List.map_cons, List.map_nil, List.append_assoc, List.singleton_append]
  rw [List.set_append_right _ _ (by rw [List.length_map, hl]; omega)]
  rw [List.length_map, hl, Nat.sub_self, List.set_cons_zero]
  simp only [List.cons_append]
  congr 2
  unfold e0; simp [k1, k2, k3, k4]
theorem fT_no (hj : 0 < j) (hM : j ≤ M) (hL : M ≤ L.length) (hLk : Lk.map e0 = (thS L h M j).map e0) (hy : Lk[j - 1]? = some y) (hq : ltE h y = false) : fT h ((L.take M).drop j) = fT h ((L.take M).drop (j - 1)) := by
  obtain ⟨z, h1, h2, h3, h4⟩ := thS_z hj hM hL hLk hy
  rw [h3]; funext k; rw [fT, if_neg (by rw [ltE_e0 h2, hq]; simp)]
theorem fT_yes (hj : 0 < j) (hM : j ≤ M) (hL : M ≤ L.length) (hLk : Lk.map e0 = (thS L h M j).map e0) (hy : Lk[j - 1]? = some y) (hq : ltE h y = true) (hl : y.opl.length ≤ q) : laterF h ((L.take M).drop j) y.opl q = fT h ((L.take M).drop (j - 1)) := by
  obtain ⟨z, h1, h2, h3, h4⟩ := thS_z hj hM hL hLk hy
  rw [h3]; funext k; unfold laterF; rw [fT, if_pos (by rw [ltE_e0 h2, hq]), List.take_of_length_le hl, (e0_ts h2).2.2.2]
theorem gT_no (hj : 0 < j) (hM : j ≤ M) (hL : M ≤ L.length) (hLk : Lk.map e0 = (thS L h M j).map e0) (hy : Lk[j - 1]? = some y) (hq : ltE h y = false) : gT h ((L.take M).drop j) = gT h ((L.take M).drop (j - 1)) := by
  obtain ⟨z, h1, h2, h3, h4⟩ := thS_z hj hM hL hLk hy
  rw [h3, gT, if_neg (by rw [ltE_e0 h2, hq]; simp)]
theorem gT_yes (hj : 0 < j) (hM : j ≤ M) (hL : M ≤ L.length) (hLk : Lk.map e0 = (thS L h M j).map e0) (hy : Lk[j - 1]? = some y) (hq : ltE h y = true) (hl : y.opl.length ≤ q) (hle : q ≤ y.opl.length) : gT h ((L.take M).drop j) + ((q : Int) - ((kpL (fT h ((L.take M).drop j)) (y.opl.take q)).length : Int)) = gT h ((L.take M).drop (j - 1)) := by
  obtain ⟨z, h1, h2, h3, h4⟩ := thS_z hj hM hL hLk hy
  rw [h3, gT, if_pos (by rw [ltE_e0 h2, hq]), List.take_of_length_le hl, (e0_ts h2).2.2.2]
  have : q = y.opl.length := by omega
  rw [this]
theorem cnt_fresh (hd : (l.map (·.1)).Nodup) (ho : l[q]? = some o) : cntK o.1 (l.take q) = 0 := by
  unfold cntK
  rw [show (l.take q).countP (fun x => decide (x.1 = o.1)) = 0 from ?_]; rfl
  rw [List.countP_eq_zero]
  intro x hx
  simp only [decide_eq_true_eq]
  intro e
  obtain ⟨i, hi⟩ := List.getElem?_of_mem hx
  have hl : i < (l.take q).length := (List.getElem?_eq_some_iff.1 hi).1
  rw [List.length_take] at hl
  rw [List.getElem?_take, if_pos (by omega)] at hi
  obtain ⟨h1, rfl⟩ := List.getElem?_eq_some_iff.1 hi
  obtain ⟨h2, rfl⟩ := List.getElem?_eq_some_iff.1 ho
  have := (List.getElem_inj (xs := l.map (·.1)) (h₀ := by simpa using h1) (h₁ := by simpa using h2) hd).1 (by simpa using e)
  omega
theorem later_step (ho : l[q]? = some o) : (fun b => if b = o.1 then laterF h T l q o.1 + 1 else laterF h T l q b) = laterF h T l (q + 1) := by
  funext b
  unfold laterF
  rw [takeE ho]
  unfold cntK
  rw [List.countP_append]
  by_cases e : b = o.1
  · rw [if_pos e, e]; simp; omega
  · rw [if_neg e]; simp [Ne.symm e]
theorem kp_yes (hd : (l.map (·.1)).Nodup) (ho : l[q]? = some o) (h0 : 0 ≤ fT h T o.1) (hb : ¬ laterF h T l q o.1 + 1 > 1) : kpL (fT h T) (l.take q) ++ [o] = kpL (fT h T) (l.take (q + 1)) := by
  unfold laterF at hb
  rw [cnt_fresh hd ho] at hb
  rw [takeE ho]; unfold kpL; rw [List.filter_append]
  simp [show fT h T o.1 = 0 by omega]
theorem kp_no (hd : (l.map (·.1)).Nodup) (ho : l[q]? = some o) (hb : laterF h T l q o.1 + 1 > 1) : kpL (fT h T) (l.take q) = kpL (fT h T) (l.take (q + 1)) := by
  unfold laterF at hb
  rw [cnt_fresh hd ho] at hb
  rw [takeE ho]; unfold kpL; rw [List.filter_append]
  simp [show ¬ fT h T o.1 = 0 by omega]
theorem kp_yes_len (hd : (l.map (·.1)).Nodup) (ho : l[q]? = some o) (h0 : 0 ≤ fT h T o.1) (hb : ¬ laterF h T l q o.1 + 1 > 1) : (kpL (fT h T) (l.take (q + 1))).length = (kpL (fT h T) (l.take q)).length + 1 := by rw [← kp_yes hd ho h0 hb]; simp
theorem kp_no_len (hd : (l.map (·.1)).Nodup) (ho : l[q]? = some o) (hb : laterF h T l q o.1 + 1 > 1) : (kpL (fT h T) (l.take (q + 1))).length = (kpL (fT h T) (l.take q)).length := by rw [← kp_no hd ho hb]
theorem laterF_0 : fT h T = laterF h T l 0 := by funext k; simp [laterF, cntK]
theorem laterF_nn (hT : ∀ e ∈ T, e.opl.length ≤ 20) (hl : T.length ≤ 100) (h2 : l.length ≤ 20) (k : ByteArray) : 0 ≤ laterF h T l q k ∧ laterF h T l q k ≤ 10000 := by
  have h3 := fT_nn h k T hT
  have h4 := cntK_nn k (l.take q)
  rw [List.length_take] at h4
  unfold laterF; omega
theorem thM_eq {n k : Int} (h1 : k ≤ (L.length : Int)) (h2 : 0 ≤ k) (h3 : k = n ∨ k = 0 ∨ k = (L.length : Int)) (h4 : k ≤ n ∨ n ≤ 0 ∧ k = 0) (h5 : n ≤ k ∨ k = (L.length : Int)) : k.toNat = thM L n := by
  unfold thM
  congr 1
  split
  · omega
  · split <;> omega
theorem drop_all20 (hl : ∀ e ∈ L, e.opl.length ≤ 20) : ∀ e ∈ (L.take M).drop j, e.opl.length ≤ 20 := fun e he => hl e (List.mem_of_mem_take (List.mem_of_mem_drop he))
theorem dropM_len (hM : M ≤ L.length) : ((L.take M).drop j).length = M - j := by rw [List.length_drop, List.length_take]; omega
theorem nodup_y (hd : ∀ e ∈ L, (e.opl.map (·.1)).Nodup) (hj : 0 < j) (hM : j ≤ M) (hL : M ≤ L.length) (hLk : Lk.map e0 = (thS L h M j).map e0) (hy : Lk[j - 1]? = some y) : (y.opl.map (·.1)).Nodup := by
  obtain ⟨z, h1, h2, h3, h4⟩ := thS_z hj hM hL hLk hy
  rw [← (e0_ts h2).2.2.2]; exact hd z (List.mem_of_getElem? h1)
theorem kpL_id (l : List OpT) : kpL (fun _ => 0) l = l := List.filter_eq_self.2 (by simp)
theorem kpL_all {p : OpT → Prop} (hp : ∀ o ∈ l, p o) : ∀ o ∈ kpL f l, p o := fun o ho => hp o ((List.mem_filter.1 ho).1)
theorem ltE_t (h1 : ¬ y.ts = 0) (h2 : y.ts ≤ h) : ltE h y = true := decide_eq_true ⟨h1, h2⟩
theorem ltE_f (h1 : y.ts = 0 ∨ ¬ y.ts ≤ h) : ltE h y = false := decide_eq_false (fun q => by omega)
theorem thS_M (h : Int) (hL : M ≤ L.length) : L.map e0 = (thS L h M M).map e0 := by unfold thS; rw [List.drop_eq_nil_of_le (by rw [List.length_take]; omega)]; simp [lT]
theorem thS_0 (h n : Int) : thS L h (thM L n) 0 = thL L h n := by simp [thS, thL]
theorem fT_M : (fun _ => (0 : Int)) = fT h ((L.take M).drop M) := by rw [List.drop_eq_nil_of_le (by rw [List.length_take]; omega)]; funext k; rfl
theorem gT_M : (0 : Int) = gT h ((L.take M).drop M) := by rw [List.drop_eq_nil_of_le (by rw [List.length_take]; omega)]; rfl
theorem thS_nm (h : Int) (hM : j ≤ M) (hL : M ≤ L.length) : (thS L h M j).map nmE = L.map nmE := by
  unfold thS
  have hl : ∀ T : List EntT, (lT h T).map nmE = T.map nmE := fun T => by
    induction T with
    | nil => rfl
    | cons e r ih => simp only [lT, List.map_cons, ih]; split <;> rfl
  rw [List.map_append, List.map_append, hl, ← List.map_append, ← List.map_append]
  congr 1
  rw [show (L.take M).drop j ++ L.drop M = L.drop j from ?_, List.take_append_drop]
  conv => rhs; rw [← List.take_append_drop M L]
  rw [List.drop_append_of_le_length (by rw [List.length_take]; omega)]
end
theorem blk_ne_mapG {K V : Type} {kv : K → Value} [DecidableEq K] {enc : V → Value} {z : V} {w : World} {N B : Nat} {T : TypeId} {cs : Array Value} {g2 : K → V} (hb : Blk w N T cs) (hm : MapG kv enc z w B g2) : N ≠ B := by
  intro e; subst e
  obtain ⟨l, ⟨es, cl, h1, _⟩, _⟩ := hm
  have := hb.symm.trans h1
  cases this
theorem strz (w : World) : (zeroValue 3).run Tryz.prog w = .ok (intK 0) w := by kernel_rfl
theorem MapG.toE {K V : Type} [DecidableEq K] {kv : K → Value} {enc : V → Value} {z : V} {w : World} {B : Nat} {g g' : K → V} (h : MapG kv enc z w B g) (e : g = g') : MapG kv enc z w B g' := e ▸ h
theorem grown_of_but {w x : World} {N : Nat} (h : But (fun q => q = N) w x) : w.grownBy x (some N) := ⟨h.os, h.tape, h.output, h.size, fun k hk hne => h.block k hk (fun e => hne (by rw [e]))⟩

set_option maxRecDepth 100000 in
theorem hides_any (w0 : World) (Q : Nat → Prop) (k : ByteArray) (v : ByteArray) (d : Bool) (Bx : Nat) (N : Nat) (g : ByteArray → Int) (w : World) (hbw : But Q w0 w) (hSN : Q N ∨ w0.heap.size ≤ N) (hD : Blk w Bx 122 #[.map (some N)]) (hm : MapG strK intK 0 w N g) (hg0 : 0 ≤ g k ∧ g k ≤ 1000000) :
    Calls Tryz.prog 63 #[.agg #[.string k, .string v, .bool d], pt Bx 0] w fun e w' => e = .returned (.bool (decide (g k + 1 > 1))) ∧ MapG strK intK 0 w' N (fun b => if b = k then g k + 1 else g b) ∧ But (Q) w0 w' := by
 have hB0 := hbw;have hz0 := hbw.size;have hl_hD := hD.lt;have hlm := hm.lt; have hneN := blk_ne_mapG hD hm;have hz0 := hbw.size;refine co_enter (n := 14) Tryz.func63 rfl rfl rfl [(0, .agg #[.string k, .string v, .bool d]), (1, pt Bx 0)] rfl (fun a s => ?_);refine q2 ?_;refine pw s rfl (op_new (v := fun N => pt N 0) (T := 58) (cs := #[.string k, .string v, .bool d]) (by kernel_rfl) (by kernel_rfl) (by kernel_rfl)) ?_;rintro _ w2 a1 ⟨N3, rfl, hN6, hz7, hk5, hg4⟩ s;have hz8 := hg4.size
 try dsimp only at s
 refine pk0 (v := .bool false) s rfl fun _ s => q3 ?_;have hk10 := hD.kept hg4 (by simp);refine pk (v := .map (some N)) s rfl (rn_load1 rfl rfl Tryz.isAgg122 (hk10.cell rfl)) fun _ s => ?_;refine pk0 (v := pt N3 0) s rfl fun _ s => ?_;refine pk (v := .string k) s rfl (rn_load1 rfl rfl Tryz.isAgg9 (hk5.cell rfl)) fun _ s => ?_;have hI14 := hm.kept hg4 (by simp);refine pk (v := .int .i64 (g k)) s rfl (rn_lookG (a := k) (strKL Tryz.underlying9) rfl rfl rfl Tryz.underlying122 strz hI14) fun _ s => ?_;refine pk (v := .int .i64 ((g k) + 1)) s rfl (rn_arith rfl rfl rfl rfl rfl rfl (IntWalk.i64_in _ (by omega))) fun _ s => ?_;refine pwD s rfl (op_updateG (a := k) (v := ((g k) + 1)) (strKL Tryz.underlying9) rfl rfl rfl rfl Tryz.underlying122 hI14) ?_;rintro _ w18 a17 ⟨hm19, hz20, hg21⟩ s;have hz22 := hg21.size;have hl23 := hm19.lt;refine q3 ?_;have hk24 := hk10.kept hg21 (by simp; omega);refine pk (v := .map (some N)) s rfl (rn_load1 rfl rfl Tryz.isAgg122 (hk24.cell rfl)) fun _ s => ?_;refine pk0 (v := pt N3 0) s rfl fun _ s => ?_;have hk27 := hk5.kept hg21 (by simp; omega);refine pk (v := .string k) s rfl (rn_load1 rfl rfl Tryz.isAgg9 (hk27.cell rfl)) fun _ s => ?_;refine pk (v := .int .i64 (if k = k then g k + 1 else g k)) s rfl (rn_lookG (a := k) (strKL Tryz.underlying9) rfl rfl rfl Tryz.underlying122 strz hm19) fun _ s => ?_;refine pk0 (v := .bool (decide ((if k = k then g k + 1 else g k) > 1))) s rfl fun _ s => ?_;refine pk0 (v := .bool (decide ((if k = k then g k + 1 else g k) > 1))) s rfl fun _ s => q4 ?_;refine co_ret1 s rfl rfl ?_;have hB32 := fbU_new hB0 hg4;have hB33 := fbU_at hB32 hg21 (fun hlt => by rcases hSN with hq | hq; exact hq; omega);exact ⟨by simp, hm19, hB33⟩
set_option maxRecDepth 100000 in
set_option maxHeartbeats 1600000 in
theorem lThin_any (w0 : World) (S : Nat → Prop) (b : Nat) (M : Nat) (u : Value) (L : List EntT) (h : Int) (n : Int) (w : World) (hbw : But S w0 w) (hO : LgP S w0.heap.size w b M u L) (hh : 0 ≤ h ∧ h < 18446744073709551616) (hni : -9223372036854775808 ≤ n ∧ n ≤ 9223372036854775807) (hdk : ∀ e ∈ L, (e.opl.map (·.1)).Nodup) :
    Calls Tryz.prog 25 #[pt b 0, .int .u64 h, .int .i64 n] w fun e w' => ∃ (L' : List EntT), e = .returned (.int .i64 (thG L h n)) ∧ LgP S w0.heap.size w' b M u L' ∧ L'.map e0 = (thL L h n).map e0 ∧ But (S) w0 w' := by
 have hB0 := hbw;have hz0 := hbw.size;have hz0 := hbw.size;have hl3 := hO.blk.lt; obtain ⟨c1, hm2⟩ := hO.map; have hl4 := hm2.lt; have hne5 := blk_ne_mapN hO.blk hm2; have hln6 := hO.len;refine co_enter (n := 77) Tryz.func25 rfl rfl rfl [(0, pt b 0), (1, .int .u64 h), (2, .int .i64 n)] rfl (fun a s => ?_);refine q2 ?_;refine pk0 (v := .int .i64 0) s rfl fun _ s => q6 ?_;refine pk0 (v := pt b 0) s rfl fun _ s => ?_;refine pw s rfl (op_call (args := #[pt b 0]) (R := fun res xw => res = .bool false ∧ w = xw) rfl rfl rfl (by kernel_rfl) (by kernel_rfl) (Tryz.call57 _ _) (lzero_any b M u w hO.blk) (by rintro e x ⟨rfl, rfl⟩; exact ⟨_, rfl, ⟨rfl, rfl⟩⟩)) ?_;rintro _ _ a9 ⟨rfl, rfl⟩ s;refine q1 ?_;refine co_false s rfl <| q7 ?_;refine pw s rfl (op_makeG strK intK 0 (by kernel_rfl) (by kernel_rfl) rfl) ?_;rintro _ w13 a12 ⟨B14, rfl, hN15, hz16, hm17, hg18⟩ s;have ha19 := row_fresh hO.row hN15;have hz20 := hg18.size;have hl21 := hm17.lt;refine pw s rfl (op_new (v := fun N => pt N 0) (T := 122) (cs := #[.map none]) (by kernel_rfl) (by kernel_rfl) (by kernel_rfl)) ?_;rintro _ w23 a22 ⟨N24, rfl, hN27, hz28, hk26, hg25⟩ s;have hr30 := row_kept_new hO.row hg18;have ha29 := row_fresh hr30 hN27;have hu31 := row_under hr30 hN27;have hz32 := hg25.size
 try dsimp only at s
 refine pwD s rfl (op_store1 rfl rfl rfl rfl Tryz.sizeOf122 hk26 rfl) ?_;rintro _ w34 a33 ⟨hk35, hz36, hg37⟩ s;have hk35' : Blk w34 N24 122 #[.map (some B14)] := hk35;have hz38 := hg37.size;refine q3 ?_;refine pk0 (v := .int .i64 0) s rfl fun _ s => q3 ?_;refine pk0 (v := .func (.func 63) #[] #[pt N24 0]) s rfl fun _ s => ?_;refine pk0 (v := .func (.func 63) #[] #[pt N24 0]) s rfl fun _ s => q6 ?_;refine pk0 (v := .int .i64 n) s rfl fun _ s => ?_;obtain ⟨kp43, hkp44⟩ : ∃ z : Int, z = (if n < 0 then 0 else n) := ⟨_, rfl⟩;have hq45 : kp43 ≥ n ∧ kp43 ≥ 0 ∧ (kp43 = n ∨ kp43 = 0) := by rw [hkp44]; split <;> omega
 refine pk (v := .int .i64 kp43) s rfl (by rw [hkp44]; kernel_rfl) fun _ s => ?_;refine pk0 (v := pt b 0) s rfl fun _ s => ?_;refine pk0 (v := pt b 0) s rfl fun _ s => ?_;refine pk0 (v := pt b 1) s rfl fun _ s => ?_;have hk50 := hO.blk.kept hg18 (by simp);have hk51 := hk50.kept hg25 (by simp);have hk52 := hk51.kept hg37 (by simp; omega);refine pk (v := u) s rfl (rn_load1 rfl rfl Tryz.isAgg32 (hk52.cell rfl)) fun _ s => ?_;have hr54 := row_kept_new hr30 hg25;have hr55 := row_kept_at hr54 hg37 (ha29);refine pk (v := .int .i64 (L.length : Int)) s rfl (rn_lenOwn rfl rfl Tryz.underlying32 hr55) fun _ s => ?_;obtain ⟨kp57, hkp58⟩ : ∃ z : Int, z = (if (L.length : Int) < kp43 then (L.length : Int) else kp43) := ⟨_, rfl⟩;have hq59 : kp57 ≤ kp43 ∧ kp57 ≤ (L.length : Int) ∧ (kp57 = kp43 ∨ kp57 = (L.length : Int)) := by rw [hkp58]; split <;> omega
 refine pk (v := .int .i64 kp57) s rfl (by rw [hkp58]; kernel_rfl) fun _ s => ?_;refine pk (v := .int .i64 (kp57 - 1)) s rfl (rn_arith rfl rfl rfl rfl rfl rfl (IntWalk.i64_in _ (by omega))) fun _ s => ?_;refine pk0 (v := .int .i64 (kp57 - 1)) s rfl fun _ s => q1 <| wp_block ?_;obtain ⟨Mn, hMn⟩ : ∃ z : Nat, z = kp57.toNat := ⟨_, rfl⟩;have s : Slots 77 [(0, pt b 0), (1, .int .u64 h), (7, pt N24 0), (8, .int .i64 0), (9, .func (.func 63) #[] #[pt N24 0]), (10, .int .i64 (kp57 - 1))] _ := s.sub ⟨rfl, rfl, rfl, rfl, rfl, rfl, trivial⟩;refine co_loop (fun mm a x => ∃ (j : Nat) (Lk : List EntT), Slots 77 [(0, pt b 0), (1, .int .u64 h), (7, pt N24 0), (8, .int .i64 (gT h ((L.take Mn).drop j))), (9, .func (.func 63) #[] #[pt N24 0]), (10, .int .i64 ((j : Int) - 1))] a ∧ mm = 0 + j ∧ (j ≤ Mn) ∧ (Lk.map e0 = (thS L h Mn j).map e0) ∧ x.ownsRow 0 44 4 u Lk.length (Lk.flatMap entE) ∧ EntsK S w0.heap.size x Lk ∧ MapO arr2K spotV x M (findN L) c1 ∧ MapG strK intK 0 x B14 (fT h ((L.take Mn).drop j)) ∧ But (S) w0 x ∧ Blk x b 104 #[.bool true, u, .map (some M)] ∧ Blk x N24 122 #[.map (some B14)]) (0 + Mn) ?_ ?_;have hE64 := hO.ents.new hg18;have hE65 := hE64.new hg25;have hE66 := hE65.blk hk26 (by decide) hg37;have hM67 := hm2.kept hg18 (by simp);have hM68 := hM67.kept hg25 (by simp);have hM69 := hM68.kept hg37 (by simp; omega);have hI70 := hm17.kept hg25 (by simp);have hI71 := hI70.kept hg37 (by simp; omega);have hB72 := fbU_new hB0 hg18;have hB73 := fbU_new hB72 hg25;have hB74 := fbU_at hB73 hg37 (fun hlt => absurd hlt (by omega))
 · exact ⟨Mn, L, s.sub ⟨rfl, rfl, rfl, (slot_eq rfl (congrArg (Value.int .i64) (by first | exact gT_M | (rw [hgj]; exact gT_no (by omega) (by omega) (by omega) (by assumption) (by assumption) hq0) | (rw [hgj]; exact gT_yes (by omega) (by omega) (by omega) (by assumption) (by assumption) hq0 (by omega) (by omega))))), rfl, (slot_eq rfl (congrArg (Value.int .i64) (by first | rfl | omega))), trivial⟩, rfl, by omega, by first | exact thS_M _ (by omega) | exact th_no (by omega) (by omega) (by omega) (by assumption) (by assumption) hq0 | exact th_yes (by omega) (by omega) (by omega) (by assumption) (by assumption) hq0 (by simp only [e0, htk]), hr55, hE66, hM69, (hI71.toE (by first | exact fT_M | exact fT_no (by omega) (by omega) (by omega) hq0 hq0 hq0 | exact fT_yes (by omega) (by omega) (by omega) hq0 hq0 hq0 (by omega))), hB74, hk52, hk35'⟩
 · rintro k75 a76 w77 ⟨j, Lk, s, rfl, hi78, hi79, hf80, hf81, hf82, hf83, hB84, hk85, hk86⟩
   have hz87 := hB84.size;have hl88 := hk85.lt;have hl89 := hk86.lt;have hl90 := hf82.lt;have hl91 := hf83.lt;have hLl : Lk.length = L.length := by have := e0_len (by assumption : Lk.map e0 = (thS L h Mn j).map e0); have h2 := congrArg List.length (thS_nm h (by omega : j ≤ Mn) (by omega : Mn ≤ L.length)); rw [List.length_map, List.length_map] at h2; omega
   have hgb := gT_nn h ((L.take Mn).drop j) (drop_all20 (fun e he => (hO.ents e he).len)); rw [dropM_len (by omega)] at hgb;obtain ⟨gj, hgj⟩ : ∃ z, z = gT h ((L.take Mn).drop j) := ⟨_, rfl⟩; rw [← hgj] at hgb;rw [← hgj] at s;refine q9 ?_;refine pk0 (v := .int .i64 ((j : Int) - 1)) s rfl fun _ s => ?_;refine pk0 (v := .bool (decide (((j : Int) - 1) ≥ 0))) s rfl fun _ s => q1 ?_;cases hc94 : (decide (((j : Int) - 1) ≥ 0))
   ·
    rw [hc94] at s;have hp95 : ¬ (((j : Int) - 1) ≥ 0) := of_decide_eq_false hc94;refine co_false s rfl <| wp_exit <| co_thenX <| co_thenX <| qx <| q2 ?_;refine pk0 (v := .int .i64 gj) s rfl fun _ s => ?_;refine pk0 (v := .int .i64 gj) s rfl fun _ s => q4 ?_;refine co_ret1 s rfl rfl ?_;have hj0 : j = 0 := by omega
    subst hj0;have hMe : Mn = thM L n := by rw [hMn]; exact thM_eq (by omega) (by omega) (by omega) (by omega) (by omega)
    have hLe : Lk.map e0 = (thL L h n).map e0 := by rw [← thS_0, ← hMe]; assumption
    have hnm : Lk.map nmE = L.map nmE := by rw [e0_f (f := nmE) (fun _ => rfl) (by assumption : Lk.map e0 = (thS L h Mn 0).map e0)]; exact thS_nm h (by omega) (by omega)
    exact ⟨_, ret_int (by unfold thG; rw [← hMe, hgj, List.drop_zero]), ⟨hk85, ⟨_, hf82.eq ((findN_nm hnm).symm) (Nat.le_refl _)⟩, hf80, hf81, hO.sb, hO.sM, hO.su, (hO.uq.nm hnm), (by have := hO.len; omega)⟩, hLe, hB84⟩
   rw [hc94] at s;have hp98 : ((j : Int) - 1) ≥ 0 := of_decide_eq_true hc94;refine co_true s rfl <| q0 <| co_seq <| wp_block <| q2 ?_;refine pk0 (v := pt b 0) s rfl fun _ s => ?_;refine pk0 (v := pt b 0) s rfl fun _ s => ?_;refine pk0 (v := pt b 1) s rfl fun _ s => ?_;refine pk (v := u) s rfl (rn_load1 rfl rfl Tryz.isAgg32 (hk85.cell rfl)) fun _ s => ?_;refine pk0 (v := .int .i64 ((j : Int) - 1)) s rfl fun _ s => ?_;obtain ⟨y104, hy104⟩ : ∃ z, Lk[(j - 1)]? = some z := ⟨_, List.getElem?_eq_getElem (by first | omega | (simp; done) | (simp; omega))⟩;have oky104 := (fun (z : EntT) (_ : z ∈ Lk) => trivial) _ (List.mem_of_getElem? hy104);have hy105 := hf81.at hy104;have hq106 := hy105.ts0; have hq107 := hy105.ts1; have hq108 := hy105.len; have hq109 := wf_i64 hy105.cl; have hq110 := wf_i64 hy105.rq;refine pk (v := pt (blkOf u) (offOf u + (j - 1) * 4)) s rfl (rn_index rfl rfl rfl Tryz.underlying32 Tryz.sizeOf44 (row_sl hf80 entE_len) (by omega) (by first | omega | (simp; done) | (simp; omega))) fun _ s => ?_;refine pk0 (v := pt (blkOf u) (offOf u + (j - 1) * 4)) s rfl fun _ s => q6 ?_;refine pk0 (v := pt (blkOf u) (offOf u + (j - 1) * 4)) s rfl fun _ s => ?_;refine pk0 (v := pt (blkOf u) (offOf u + (j - 1) * 4)) s rfl fun _ s => ?_;refine pk0 (v := pt (blkOf u) (offOf u + (j - 1) * 4 + 3)) s rfl fun _ s => ?_;refine pk (v := .int .u64 y104.ts) s rfl (rn_load1 rfl rfl Tryz.isAgg29 ((sl_at (row_sl hf80 entE_len) hy104) 3 _ rfl)) fun _ s => ?_;refine pk0 (v := .bool (y104.ts == 0)) s rfl fun _ s => ?_;refine pk0 (v := .bool (y104.ts == 0)) s rfl fun _ s => ?_;cases hc119 : (y104.ts == 0)
   ·
    rw [hc119] at s;have hp120 : ¬ (y104.ts = 0) := by first | simpa using hc119 | simpa [and_assoc] using hc119
    refine pk0 (v := pt (blkOf u) (offOf u + (j - 1) * 4)) s rfl fun _ s => ?_;refine pk0 (v := pt (blkOf u) (offOf u + (j - 1) * 4)) s rfl fun _ s => ?_;refine pk0 (v := pt (blkOf u) (offOf u + (j - 1) * 4 + 3)) s rfl fun _ s => ?_;refine pk (v := .int .u64 y104.ts) s rfl (rn_load1 rfl rfl Tryz.isAgg29 ((sl_at (row_sl hf80 entE_len) hy104) 3 _ rfl)) fun _ s => ?_;refine pk0 (v := .int .u64 h) s rfl fun _ s => ?_;refine pk0 (v := .bool (decide (y104.ts > h))) s rfl fun _ s => ?_;refine pk0 (v := .bool (decide (y104.ts > h))) s rfl fun _ s => q1 ?_;cases hc128 : (decide (y104.ts > h))
    ·
     rw [hc128] at s;have hp129 : ¬ (y104.ts > h) := of_decide_eq_false hc128;refine co_false s rfl <| q7 ?_;refine pk0 (v := .slice none 0 0) s rfl fun _ s => q6 ?_;refine pk0 (v := pt (blkOf u) (offOf u + (j - 1) * 4)) s rfl fun _ s => ?_;refine pk0 (v := pt (blkOf u) (offOf u + (j - 1) * 4)) s rfl fun _ s => ?_;refine pk0 (v := pt (blkOf u) (offOf u + (j - 1) * 4)) s rfl fun _ s => ?_;refine pk0 (v := pt (blkOf u) (offOf u + (j - 1) * 4 + 2)) s rfl fun _ s => ?_;refine pk (v := y104.ops) s rfl (rn_load1 rfl rfl Tryz.isAgg40 ((sl_at (row_sl hf80 entE_len) hy104) 2 _ rfl)) fun _ s => ?_;refine pk (v := .int .i64 (y104.opl.length : Int)) s rfl (rn_lenOwn rfl rfl Tryz.underlying40 hy105.row) fun _ s => ?_;refine pk0 (v := .int .i64 0) s rfl fun _ s => q1 <| wp_block ?_;obtain ⟨bs138, hb_bs138⟩ : ∃ b, b = w77.heap.size := ⟨_, rfl⟩;have hu139 := row_under hf80 hb_bs138;have hu140 := row_under hy105.row hb_bs138;have hu141 := EntsK.under hf81 hb_bs138;have hnd := nodup_y (h := h) hdk (by omega) (by omega) (by omega) (by assumption : Lk.map e0 = (thS L h Mn j).map e0) hy104;have hw0b : w0.heap.size ≤ bs138 := by omega
     have s : Slots 77 [(0, pt b 0), (1, .int .u64 h), (7, pt N24 0), (8, .int .i64 gj), (9, .func (.func 63) #[] #[pt N24 0]), (10, .int .i64 ((j : Int) - 1)), (11, pt (blkOf u) (offOf u + (j - 1) * 4)), (12, .slice none 0 0), (55, y104.ops), (56, .int .i64 (y104.opl.length : Int)), (57, .int .i64 0)] _ := s.sub ⟨rfl, rfl, rfl, rfl, rfl, rfl, rfl, rfl, rfl, rfl, rfl, trivial⟩;refine co_loop (fun mm a x => ∃ (q : Nat) (u2 : Value), Slots 77 [(0, pt b 0), (1, .int .u64 h), (7, pt N24 0), (8, .int .i64 (gj + ((q : Int) - ((kpL (fT h ((L.take Mn).drop j)) (y104.opl.take q)).length : Int)))), (9, .func (.func 63) #[] #[pt N24 0]), (10, .int .i64 ((j : Int) - 1)), (11, pt (blkOf u) (offOf u + (j - 1) * 4)), (12, u2), (55, y104.ops), (56, .int .i64 (y104.opl.length : Int)), (57, .int .i64 (q : Int))] a ∧ mm = y104.opl.length - q ∧ (q ≤ y104.opl.length) ∧ (bs138 ≤ x.heap.size) ∧ x.ownsRow 0 44 4 u Lk.length (Lk.flatMap entE) ∧ x.ownsRow 0 58 3 (y104.ops) y104.opl.length (y104.opl.flatMap opE) ∧ EntsK S w0.heap.size x Lk ∧ MapO arr2K spotV x M (findN L) c1 ∧ x.ownsRow bs138 58 3 u2 (kpL (fT h ((L.take Mn).drop j)) (y104.opl.take q)).length ((kpL (fT h ((L.take Mn).drop j)) (y104.opl.take q)).flatMap opE) ∧ MapG strK intK 0 x B14 (laterF h ((L.take Mn).drop j) y104.opl q) ∧ But (S) w0 x ∧ Blk x b 104 #[.bool true, u, .map (some M)] ∧ Blk x N24 122 #[.map (some B14)]) (y104.opl.length - 0) ?_ ?_
     · exact ⟨0, (.slice none 0 0), s.sub ⟨rfl, rfl, rfl, (slot_eq rfl (congrArg (Value.int .i64) (by first | (simp [kpL]; done) | omega))), rfl, rfl, rfl, rfl, rfl, rfl, (slot_eq rfl (congrArg (Value.int .i64) (by first | rfl | omega))), trivial⟩, rfl, by omega, by omega, hf80, hy105.row, hf81, hf82, (row_nilL _ _ _ _ _), (hf83.toE (laterF_0)), hB84, hk85, hk86⟩
     · rintro k143 a144 w145 ⟨q, u2, s, rfl, hi146, hi147, hf148, hf149, hf150, hf151, hf152, hf153, hB154, hk155, hk156⟩
       have hz157 := hB154.size;have hl158 := hk155.lt;have hl159 := hk156.lt;have hl160 := hf151.lt;have hl161 := hf153.lt;have hkl := kpL_le (fT h ((L.take Mn).drop j)) (y104.opl.take q); rw [List.length_take] at hkl;refine q2 ?_;refine pk0 (v := .bool (decide ((q : Int) < (y104.opl.length : Int)))) s rfl fun _ s => q1 <| co_seq ?_;cases hc163 : (decide ((q : Int) < (y104.opl.length : Int)))
       ·
        rw [hc163] at s;have hp164 : ¬ ((q : Int) < (y104.opl.length : Int)) := of_decide_eq_false hc163;refine co_false s rfl <| wp_exit <| co_thenX <| co_thenX <| qx <| co_reg ?_;refine pk0 (v := pt (blkOf u) (offOf u + (j - 1) * 4)) s rfl fun _ s => ?_;refine pk0 (v := u2) s rfl fun _ s => ?_;refine pk0 (v := pt (blkOf u) (offOf u + (j - 1) * 4)) s rfl fun _ s => ?_;refine pk0 (v := pt (blkOf u) (offOf u + (j - 1) * 4)) s rfl fun _ s => ?_;refine pk0 (v := pt (blkOf u) (offOf u + (j - 1) * 4 + 2)) s rfl fun _ s => ?_;refine pwD s rfl (op_storeRow (c := (j - 1) * 4 + 2) rfl rfl rfl (row_one hf152) Tryz.sizeOf40 hf148 (flat_lt entE_len (by first | omega | (simp; omega)) (by omega)) (by first | rfl | omega)) ?_;rintro _ w171 a170 ⟨hr172, hz173, hg174⟩ s;have hr172' := row_set (y' := (EntT.mk y104.client y104.req u2 (kpL (fT h ((L.take Mn).drop j)) (y104.opl.take q)) y104.ts)) hr172 entE_len hy104 (by omega) rfl;have hz175 := hg174.size;have hE178 := hf150.row hf148 (by decide) hg174;have hy177 := EntsK.at hE178 hy104;have hr179 := row_kept_row hf152 hf148 hg174 (by decide);have hE176 := EntsK.set (i := (j - 1)) (z := (EntT.mk y104.client y104.req u2 (kpL (fT h ((L.take Mn).drop j)) (y104.opl.take q)) y104.ts)) hE178 ⟨row_lows hr179 (Nat.zero_le _), InS.low hr179 (by omega), Nat.le_trans (kpL_le _ _) (by rw [List.length_take]; omega), kpL_all (fun o ho => hy177.each o (List.mem_of_mem_take ho)), hy177.ts0, hy177.ts1, hy177.cl, hy177.rq⟩;refine pl_nil <| co_blockN <| co_then <| co_reg ?_;refine pk0 (v := .int .i64 ((j : Int) - 1)) s rfl fun _ s => ?_;refine pk (v := .int .i64 (((j : Int) - 1) - 1)) s rfl (rn_arith rfl rfl rfl rfl rfl rfl (IntWalk.i64_in _ (by omega))) fun _ s => ?_;refine pk0 (v := .int .i64 (((j : Int) - 1) - 1)) s rfl fun _ s => q1 ?_;refine ⟨(0 + (j - 1)), by omega, ?_⟩;have hq0 : ltE h y104 = true := ltE_t (by omega) (by omega);have htk : List.take q y104.opl = y104.opl := List.take_of_length_le (by omega);have hM183 := hf151.kept hg174 (hf151.row hf148);have hI184 := hf153.kept hg174 (hf153.row hf148);have hB185 := fbU_row hB154 hO.su hg174;have hk186 := hk155.kept hg174 (own_neT hf148 hk155 (by decide));have hk187 := hk156.kept hg174 (ha29);exact ⟨(j - 1), (Lk.set (j - 1) (EntT.mk y104.client y104.req u2 (kpL (fT h ((L.take Mn).drop j)) (y104.opl.take q)) y104.ts)), s.sub ⟨rfl, rfl, rfl, (slot_eq rfl (congrArg (Value.int .i64) (by first | exact gT_M | (rw [hgj]; exact gT_no (by omega) (by omega) (by omega) (by assumption) (by assumption) hq0) | (rw [hgj]; exact gT_yes (by omega) (by omega) (by omega) (by assumption) (by assumption) hq0 (by omega) (by omega))))), rfl, (slot_eq rfl (congrArg (Value.int .i64) (by first | rfl | omega))), trivial⟩, rfl, by omega, by first | exact thS_M _ (by omega) | exact th_no (by omega) (by omega) (by omega) (by assumption) (by assumption) hq0 | exact th_yes (by omega) (by omega) (by omega) (by assumption) (by assumption) hq0 (by simp only [e0, htk]), hr172', hE176, hM183, (hI184.toE (by first | exact fT_M | exact fT_no (by omega) (by omega) (by omega) (by assumption : Lk.map e0 = (thS L h Mn j).map e0) hy104 hq0 | exact fT_yes (by omega) (by omega) (by omega) (by assumption : Lk.map e0 = (thS L h Mn j).map e0) hy104 hq0 (by omega))), hB185, hk186, hk187⟩
       rw [hc163] at s;have hp188 : (q : Int) < (y104.opl.length : Int) := of_decide_eq_true hc163;refine co_true s rfl <| q0 <| co_seq <| wp_block <| q2 ?_;obtain ⟨y189, hy189⟩ : ∃ z, y104.opl[q]? = some z := ⟨_, List.getElem?_eq_getElem (by first | omega | (simp; done) | (simp; omega))⟩;refine pk (v := pt (blkOf (y104.ops)) (offOf (y104.ops) + q * 3)) s rfl (rn_index rfl rfl rfl Tryz.underlying40 Tryz.sizeOf58 (row_sl hf149 opE_len) (by omega) (by first | omega | (simp; done) | (simp; omega))) fun _ s => ?_;refine pk (v := .agg #[.string y189.1, .string y189.2.1, .bool y189.2.2]) s rfl (rn_loadN rfl rfl Tryz.underlying58 rfl (by kernel_rfl) (sl_at (row_sl hf149 opE_len) hy189)) fun _ s => ?_;refine pw s rfl (op_new (v := fun N => pt N 0) (T := 58) (cs := #[.string (⟨#[]⟩), .string (⟨#[]⟩), .bool false]) (by kernel_rfl) (by kernel_rfl) (by kernel_rfl)) ?_;rintro _ w193 a192 ⟨N194, rfl, hN197, hz198, hk196, hg195⟩ s;have ha199 := row_fresh hf148 hN197;have hu200 := row_under hf148 hN197;have ha201 := row_fresh hf149 hN197;have hu202 := row_under hf149 hN197;have ha203 := row_fresh hf152 hN197;have hu204 := row_under hf152 hN197;have hz205 := hg195.size;have hu206 := EntsK.under hf150 hN197
       try dsimp only at s
       refine pwD s rfl (op_storeN rfl rfl rfl (by kernel_rfl) (by kernel_rfl) hk196 rfl) ?_;rintro _ w208 a207 ⟨hk209, hz210, hg211⟩ s;have hk209' : Blk w208 N194 58 #[.string y189.1, .string y189.2.1, .bool y189.2.2] := hk209;have hz212 := hg211.size;refine q3 ?_;refine pk0 (v := .func (.func 63) #[] #[pt N24 0]) s rfl fun _ s => ?_;refine pk (v := .agg #[.string y189.1, .string y189.2.1, .bool y189.2.2]) s rfl (rn_loadN rfl rfl Tryz.underlying58 rfl (by kernel_rfl) hk209'.all) fun _ s => ?_;have hB217 := fbU_new hB154 hg195;have hB218 := fbU_at hB217 hg211 (fun hlt => absurd hlt (by omega));have hk219 := hk155.kept hg195 (by simp);have hk220 := hk219.kept hg211 (by simp; omega);have hk221 := hk156.kept hg195 (by simp);have hk222 := hk221.kept hg211 (by simp; omega);have hr223 := row_kept_new hf148 hg195;have hr224 := row_kept_at hr223 hg211 (ha199);have hr225 := row_kept_new hf149 hg195;have hr226 := row_kept_at hr225 hg211 (ha201);have hE227 := hf150.new hg195;have hE228 := hE227.atU hu206 hg211;have hM229 := hf151.kept hg195 (by simp);have hM230 := hM229.kept hg211 (by simp; omega);have hr231 := row_kept_new hf152 hg195;have hr232 := row_kept_at hr231 hg211 (ha203);have hI233 := hf153.kept hg195 (by simp);have hI234 := hI233.kept hg211 (by simp; omega);have hk235 : 0 ≤ laterF h ((L.take Mn).drop j) y104.opl q y189.1 ∧ laterF h ((L.take Mn).drop j) y104.opl q y189.1 ≤ 10000 := laterF_nn (drop_all20 (fun e he => (hO.ents e he).len)) (by rw [dropM_len (by omega)]; omega) (by omega) _;refine pw s rfl (op_callV (args := #[.agg #[.string y189.1, .string y189.2.1, .bool y189.2.2], pt N24 0]) (R := fun res xw => res = .bool (decide (laterF h ((L.take Mn).drop j) y104.opl q y189.1 + 1 > 1)) ∧ MapG strK intK 0 xw B14 (fun b => if b = y189.1 then laterF h ((L.take Mn).drop j) y104.opl q y189.1 + 1 else (laterF h ((L.take Mn).drop j) y104.opl q) b) ∧ w208.grownBy xw (some B14)) rfl rfl rfl (by kernel_rfl) (by kernel_rfl) (Tryz.call63 _ _) (hides_any w208 (fun q => q = B14) y189.1 y189.2.1 y189.2.2 N24 B14 (laterF h ((L.take Mn).drop j) y104.opl q) w208 (But.refl _ _) (.inl rfl) hk222 hI234 (by omega)) (by rintro e x ⟨rfl, h1, h2⟩; exact ⟨_, rfl, rfl, h1, grown_of_but h2⟩)) ?_;rintro _ w216 a215 ⟨rfl, hm236, hg237⟩ s;have hz238 := hg237.size;have hl239 := hm236.lt;refine q1 ?_;have hB241 := fbU_at hB218 hg237 (fun hlt => absurd hlt (by omega));cases hc240 : (decide (laterF h ((L.take Mn).drop j) y104.opl q y189.1 + 1 > 1))
       ·
        rw [hc240] at s;have hp242 : ¬ (laterF h ((L.take Mn).drop j) y104.opl q y189.1 + 1 > 1) := of_decide_eq_false hc240;refine co_false s rfl <| co_reg ?_;refine pk0 (v := u2) s rfl fun _ s => ?_;have hk244 := hk209'.kept hg237 (by simp; omega);refine pk (v := .agg #[.string y189.1, .string y189.2.1, .bool y189.2.2]) s rfl (rn_loadN rfl rfl Tryz.underlying58 rfl (by kernel_rfl) hk244.all) fun _ s => ?_;refine pw s rfl (op_new (v := fun N => .slice (some ⟨N, 0, none⟩) 1 1) (T := 58) (cs := #[.string y189.1, .string y189.2.1, .bool y189.2.2]) (by kernel_rfl) (by kernel_rfl) (by kernel_rfl)) ?_;rintro _ w247 a246 ⟨N248, rfl, hN251, hz252, hk250, hg249⟩ s;have hr254 := row_kept_at hr224 hg237 (ha19);have ha253 := row_fresh hr254 hN251;have hu255 := row_under hr254 hN251;have hr257 := row_kept_at hr226 hg237 (hI234.row hr226);have ha256 := row_fresh hr257 hN251;have hu258 := row_under hr257 hN251;have hr260 := row_kept_at hr232 hg237 (hI234.row hr232);have ha259 := row_fresh hr260 hN251;have hu261 := row_under hr260 hN251;have hz262 := hg249.size;have hE264 := hE228.mapG hI234 hg237;have hu263 := EntsK.under hE264 hN251
        try dsimp only at s
        have hr271 := row_kept_new hr260 hg249;refine pw s rfl (op_append rfl bs138 58 (z := .agg #[.string (⟨#[]⟩), .string (⟨#[]⟩), .bool false]) (size := 3) (bytes := 40) Tryz.underlying40 (by kernel_rfl) rfl rfl rfl hr271 rfl hk250 rfl (by kernel_rfl) (by first | omega | (simp only [List.length_nil, List.length_append, List.length_cons, List.length_take, List.length_drop]; omega)) (by first | omega | (simp only [List.length_nil, List.length_append, List.length_cons, List.length_take, List.length_drop]; omega)) (by omega)) ?_;rintro v267 w266 a265 ⟨hr268, hg269⟩ s;have hr268' : w266.ownsRow bs138 58 3 v267 (((kpL (fT h ((L.take Mn).drop j)) (y104.opl.take q)) ++ [(y189.1, y189.2.1, y189.2.2)]).length) (((kpL (fT h ((L.take Mn).drop j)) (y104.opl.take q)) ++ [(y189.1, y189.2.1, y189.2.2)]).flatMap opE) := row_push (y := (y189.1, y189.2.1, y189.2.2)) hr268 rfl rfl;have hz272 := hg269.size;refine pk0 (v := v267) s rfl fun _ s => pl_nil <| co_blockN <| co_then <| co_reg ?_;refine pk (v := .int .i64 ((q + 1 : Nat) : Int)) s rfl (rn_arith' rfl rfl rfl rfl rfl rfl (IntWalk.i64_in _ (by omega)) (by omega)) fun _ s => ?_;refine pk0 (v := .int .i64 ((q + 1 : Nat) : Int)) s rfl fun _ s => q1 ?_;refine ⟨(y104.opl.length - (q + 1)), by omega, ?_⟩;have hkq := kp_yes_len hnd hy189 (fT_nn _ _ _ (drop_all20 (fun e he => (hO.ents e he).len))).1 (by omega);have hr276 := row_kept_new hr254 hg249;have hr277 := row_kept_ap hr276 hr271 hu139 hg269;have hr278 := row_kept_new hr257 hg249;have hr279 := row_kept_ap hr278 hr271 hu140 hg269;have hE280 := hE264.new hg249;have hE281 := hE280.rowU hu141 hr271 hg269;have hM282 := hM230.kept hg237 (by simp; omega);have hM283 := hM282.kept hg249 (by simp);have hM284 := hM283.kept hg269 (hM283.row hr271);have hI285 := hm236.kept hg249 (by simp);have hI286 := hI285.kept hg269 (hI285.row hr271);have hB287 := fbU_new hB241 hg249;have hB288 := fbU_row hB287 (InS.low hr271 (by omega)) hg269;have hk289 := hk220.kept hg237 (by simp; omega);have hk290 := hk289.kept hg249 (by simp);have hk291 := hk290.kept hg269 (own_neT hr271 hk290 (by decide));have hk292 := hk222.kept hg237 (by simp; omega);have hk293 := hk292.kept hg249 (by simp);have hk294 := hk293.kept hg269 (own_neT hr271 hk293 (by decide));exact ⟨q + 1, v267, s.sub ⟨rfl, rfl, rfl, (slot_eq rfl (congrArg (Value.int .i64) (by first | (simp [kpL]; done) | omega))), rfl, rfl, rfl, rfl, rfl, rfl, rfl, trivial⟩, rfl, by omega, by omega, hr277, hr279, hE281, hM284, (row_eq hr268' (by first | rfl | exact kp_yes hnd (by assumption) (fT_nn _ _ _ (drop_all20 (fun e he => (hO.ents e he).len))).1 (by omega) | exact kp_no hnd (by assumption) (by omega))), (hI286.toE (later_step (by assumption))), hB288, hk291, hk294⟩
       rw [hc240] at s;have hp295 : laterF h ((L.take Mn).drop j) y104.opl q y189.1 + 1 > 1 := of_decide_eq_true hc240;refine co_true s rfl <| co_reg ?_;refine pk0 (v := .int .i64 (gj + ((q : Int) - ((kpL (fT h ((L.take Mn).drop j)) (y104.opl.take q)).length : Int)))) s rfl fun _ s => ?_;refine pk (v := .int .i64 ((gj + ((q : Int) - ((kpL (fT h ((L.take Mn).drop j)) (y104.opl.take q)).length : Int))) + 1)) s rfl (rn_arith rfl rfl rfl rfl rfl rfl (IntWalk.i64_in _ (by omega))) fun _ s => ?_;refine pk0 (v := .int .i64 ((gj + ((q : Int) - ((kpL (fT h ((L.take Mn).drop j)) (y104.opl.take q)).length : Int))) + 1)) s rfl fun _ s => pl_nil <| co_blockN <| co_then <| co_reg ?_;refine pk (v := .int .i64 ((q + 1 : Nat) : Int)) s rfl (rn_arith' rfl rfl rfl rfl rfl rfl (IntWalk.i64_in _ (by omega)) (by omega)) fun _ s => ?_;refine pk0 (v := .int .i64 ((q + 1 : Nat) : Int)) s rfl fun _ s => q1 ?_;refine ⟨(y104.opl.length - (q + 1)), by omega, ?_⟩;have hkq := kp_no_len hnd hy189 (by omega);have hr301 := row_kept_at hr224 hg237 (ha19);have hr302 := row_kept_at hr226 hg237 (hI234.row hr226);have hE303 := hE228.mapG hI234 hg237;have hM304 := hM230.kept hg237 (by simp; omega);have hr305 := row_kept_at hr232 hg237 (hI234.row hr232);have hk306 := hk220.kept hg237 (by simp; omega);have hk307 := hk222.kept hg237 (by simp; omega);exact ⟨q + 1, u2, s.sub ⟨rfl, rfl, rfl, (slot_eq rfl (congrArg (Value.int .i64) (by first | (simp [kpL]; done) | omega))), rfl, rfl, rfl, rfl, rfl, rfl, rfl, trivial⟩, rfl, by omega, by omega, hr301, hr302, hE303, hM304, (row_eq hr305 (by first | rfl | exact kp_yes hnd (by assumption) (fT_nn _ _ _ (drop_all20 (fun e he => (hO.ents e he).len))).1 (by omega) | exact kp_no hnd (by assumption) (by omega))), (hm236.toE (later_step (by assumption))), hB241, hk306, hk307⟩
    rw [hc128] at s;have hp308 : y104.ts > h := of_decide_eq_true hc128;refine co_true s rfl <| wp_exit <| co_thenX <| qx <| co_reg ?_;refine pk0 (v := .int .i64 ((j : Int) - 1)) s rfl fun _ s => ?_;refine pk (v := .int .i64 (((j : Int) - 1) - 1)) s rfl (rn_arith rfl rfl rfl rfl rfl rfl (IntWalk.i64_in _ (by omega))) fun _ s => ?_;refine pk0 (v := .int .i64 (((j : Int) - 1) - 1)) s rfl fun _ s => q1 ?_;refine ⟨(0 + (j - 1)), by omega, ?_⟩;have hq0 : ltE h y104 = false := ltE_f (by omega);exact ⟨(j - 1), Lk, s.sub ⟨rfl, rfl, rfl, (slot_eq rfl (congrArg (Value.int .i64) (by first | exact gT_M | (rw [hgj]; exact gT_no (by omega) (by omega) (by omega) (by assumption) (by assumption) hq0) | (rw [hgj]; exact gT_yes (by omega) (by omega) (by omega) (by assumption) (by assumption) hq0 (by omega) (by omega))))), rfl, (slot_eq rfl (congrArg (Value.int .i64) (by first | rfl | omega))), trivial⟩, rfl, by omega, by first | exact thS_M _ (by omega) | exact th_no (by omega) (by omega) (by omega) (by assumption) (by assumption) hq0 | exact th_yes (by omega) (by omega) (by omega) (by assumption) (by assumption) hq0 (by simp only [e0, htk]), hf80, hf81, hf82, (hf83.toE (by first | exact fT_M | exact fT_no (by omega) (by omega) (by omega) (by assumption : Lk.map e0 = (thS L h Mn j).map e0) hy104 hq0 | exact fT_yes (by omega) (by omega) (by omega) (by assumption : Lk.map e0 = (thS L h Mn j).map e0) hy104 hq0 (by omega))), hB84, hk85, hk86⟩
   rw [hc119] at s;have hp312 : y104.ts = 0 := by first | simpa using hc119 | simpa [and_assoc] using hc119
   refine psk s rfl fun _ s => ?_;refine psk s rfl fun _ s => ?_;refine psk s rfl fun _ s => ?_;refine psk s rfl fun _ s => ?_;refine psk s rfl fun _ s => ?_;refine psk s rfl fun _ s => ?_;refine pk0 (v := .bool true) s rfl fun _ s => q1 ?_;refine co_true s rfl <| wp_exit <| co_thenX <| qx <| co_reg ?_;refine pk0 (v := .int .i64 ((j : Int) - 1)) s rfl fun _ s => ?_;refine pk (v := .int .i64 (((j : Int) - 1) - 1)) s rfl (rn_arith rfl rfl rfl rfl rfl rfl (IntWalk.i64_in _ (by omega))) fun _ s => ?_;refine pk0 (v := .int .i64 (((j : Int) - 1) - 1)) s rfl fun _ s => q1 ?_;refine ⟨(0 + (j - 1)), by omega, ?_⟩;have hq0 : ltE h y104 = false := ltE_f (by omega);exact ⟨(j - 1), Lk, s.sub ⟨rfl, rfl, rfl, (slot_eq rfl (congrArg (Value.int .i64) (by first | exact gT_M | (rw [hgj]; exact gT_no (by omega) (by omega) (by omega) (by assumption) (by assumption) hq0) | (rw [hgj]; exact gT_yes (by omega) (by omega) (by omega) (by assumption) (by assumption) hq0 (by omega) (by omega))))), rfl, (slot_eq rfl (congrArg (Value.int .i64) (by first | rfl | omega))), trivial⟩, rfl, by omega, by first | exact thS_M _ (by omega) | exact th_no (by omega) (by omega) (by omega) (by assumption) (by assumption) hq0 | exact th_yes (by omega) (by omega) (by omega) (by assumption) (by assumption) hq0 (by simp only [e0, htk]), hf80, hf81, hf82, (hf83.toE (by first | exact fT_M | exact fT_no (by omega) (by omega) (by omega) (by assumption : Lk.map e0 = (thS L h Mn j).map e0) hy104 hq0 | exact fT_yes (by omega) (by omega) (by omega) (by assumption : Lk.map e0 = (thS L h Mn j).map e0) hy104 hq0 (by omega))), hB84, hk85, hk86⟩
end Go.Proofs.YtniojcnkjehflaaGreat

/- The document's log: Set. Conditions: at most 100 entries, 20 operations each. -/
namespace Go.Proofs.YtniojcnkjehflaaGreat
open Go.RowKit Go.PlainAid
set_option linter.unusedVariables false


theorem entE_oneK {S : Nat → Prop} {n : Nat} {w : World} {e : EntT} (h : EntK S n w e) : ∀ u ∈ entE e, u.oneCell' = true := by
  intro u hu
  simp [entE] at hu
  rcases hu with rfl | rfl | rfl | rfl
  · rfl
  · rfl
  · exact row_one h.row
  · rfl
/-- What Set makes of the entries, as far as anybody sees. -/
def setL (L : List EntT) (i c r : Int) (l : List OpT) (ts : Int) : List EntT :=
  if setE L i c r l ts ≠ 0 then L else if (L[i.toNat]?).map nmE = some (c, r) then restF L i.toNat ts else L.take i.toNat ++ [EntT.mk c r (.slice none 0 0) l ts]
def clL (L : List EntT) (i k : Nat) : List EntT := L.mapIdx fun j e => if i < j ∧ j < k then { e with ts := 0 } else e
section
variable {L Lk X Mk : List EntT} {i k : Nat} {y y0 : EntT} {q : Int × Int} {c r ts : Int} {l : List OpT} {n : Int}
theorem findN_hit (h : L[k]? = some y) (e : nmE y = q) (hk : k < i) : (findN (L.take i) q).isSome = true := by
  cases hf : findN (L.take i) q with
  | some _ => rfl
  | none => exact absurd e (findN_none.1 hf y (List.mem_of_getElem? (i := k) (by rw [List.getElem?_take, if_pos hk]; exact h)))
theorem findN_next (h0 : findN (L.take k) q = none) (hy : L[k]? = some y) (hn : ¬ nmE y = q) : findN (L.take (k + 1)) q = none := by
  rw [takeE hy, findN_app]; exact h0
  intro z hz e; simp at hz; subst hz; exact hn e
theorem clL_0 (L : List EntT) (i : Nat) : clL L i (i + 1) = L := by
  apply List.ext_getElem?
  intro j
  simp only [clL, List.getElem?_mapIdx]
  cases L[j]? with
  | none => rfl
  | some e => simp only [Option.map_some]; rw [if_neg (by omega)]
theorem clL_len (L : List EntT) (i k : Nat) : (clL L i k).length = L.length := by simp [clL]
theorem clL_step (h : Mk.map e0 = (clL X i k).map e0) (hy : Mk[k]? = some y) (hik : i < k) : (Mk.set k { y with ts := 0 }).map e0 = (clL X i (k + 1)).map e0 := by
  obtain ⟨z, hz, he⟩ := e0_at h hy
  have hz' := hz
  simp only [clL, List.getElem?_mapIdx] at hz'
  rw [Option.map_eq_some_iff] at hz'
  obtain ⟨x, hx, hxz⟩ := hz'
  rw [if_neg (by omega)] at hxz
  subst hxz
  rw [List.map_set, h, show e0 { y with ts := 0 } = e0 { x with ts := 0 } from (e0_with he).symm, ← List.map_set]
  congr 1
  apply List.ext_getElem?
  intro j
  rw [List.getElem?_set]
  by_cases e1 : k = j
  · subst e1
    rw [if_pos rfl, if_pos (by rw [clL_len]; exact (List.getElem?_eq_some_iff.1 hx).1)]
    simp only [clL, List.getElem?_mapIdx, hx, Option.map_some]
    rw [if_pos ⟨hik, by omega⟩]
  · rw [if_neg e1]
    simp only [clL, List.getElem?_mapIdx]
    cases X[j]? with
    | none => rfl
    | some e =>
      simp only [Option.map_some]
      by_cases e3 : i < j ∧ j < k
      · rw [if_pos e3, if_pos ⟨e3.1, by omega⟩]
      · rw [if_neg e3, if_neg (by omega)]
theorem clL_i (L : List EntT) (i k : Nat) : (clL L i k)[i]? = L[i]? := by
  simp only [clL, List.getElem?_mapIdx]
  cases L[i]? with
  | none => rfl
  | some e => simp
theorem clL_ts (h : Mk.map e0 = (clL X i k).map e0) (hy : Mk[i]? = some y) (hy0 : X[i]? = some y0) : y.ts = y0.ts := by
  obtain ⟨z, hz, he⟩ := e0_at h hy
  rw [clL_i, hy0] at hz; cases hz
  exact (e0_ts he).1.symm
theorem clL_end (h : Mk.map e0 = (clL X i k).map e0) (hy : Mk[i]? = some y) (hy0 : X[i]? = some y0) (hk : X.length ≤ k ∨ y0.ts = ts) (h2 : k = i + 1 ∨ ¬ y0.ts = ts) (hlt : i < k) : (Mk.set i { y with ts := ts }).map e0 = (restF X i ts).map e0 := by
  obtain ⟨z, hz, he⟩ := e0_at h hy
  rw [clL_i, hy0] at hz; cases hz
  rw [List.map_set, h, show e0 { y with ts := ts } = e0 { y0 with ts := ts } from (e0_with he).symm, ← List.map_set]
  congr 1
  by_cases e : y0.ts = ts
  · have : k = i + 1 := by rcases h2 with q | q; exact q; exact absurd e q
    subst this
    rw [clL_0, restF_same hy0 e, ← e]
    apply List.ext_getElem?
    intro j
    rw [List.getElem?_set]
    by_cases e1 : i = j
    · subst e1; rw [if_pos rfl, if_pos (List.getElem?_eq_some_iff.1 hy0).1, hy0]
    · rw [if_neg e1]
  · rw [← restF_ne hy0 e (k := k) (by rcases hk with q | q; exact q; exact absurd q e)]
    apply List.ext_getElem?
    intro j
    rw [List.getElem?_set]
    by_cases e1 : i = j
    · subst e1
      rw [if_pos rfl, if_pos (by rw [clL_len]; exact (List.getElem?_eq_some_iff.1 hy0).1)]
      simp only [rsL, List.getElem?_mapIdx, hy0, Option.map_some]
      simp
    · rw [if_neg e1]
      simp only [rsL, clL, List.getElem?_mapIdx]
      cases X[j]? with
      | none => rfl
      | some e => simp only [Option.map_some]; rw [if_neg (show ¬ j = i from fun q => e1 q.symm)]
theorem setE_h (h : ¬ (n < 0 ∨ (L.length : Int) < n)) (hc : ¬ chkB c r l ≠ 0) (h6 : ¬ 100 ≤ n) (hb : (findN (L.take n.toNat) (c, r)).isSome = true) : setE L n c r l ts = 18 := by unfold setE; rw [if_neg h, if_neg hc, if_neg h6, if_pos hb]
theorem setL_no (h : setE L n c r l ts ≠ 0) : setL L n c r l ts = L := by unfold setL; rw [if_pos h]
theorem setL_tw (h : setE L n c r l ts = 0) (h2 : (L[n.toNat]?).map nmE = some (c, r)) : setL L n c r l ts = restF L n.toNat ts := by unfold setL; rw [if_neg (by rw [h]; simp), if_pos h2]
theorem setL_nw (h : setE L n c r l ts = 0) (h2 : ¬ (L[n.toNat]?).map nmE = some (c, r)) : setL L n c r l ts = L.take n.toNat ++ [EntT.mk c r (.slice none 0 0) l ts] := by unfold setL; rw [if_neg (by rw [h]; simp), if_neg h2]
theorem setR_e0 {L' : List EntT} (h : SetR L n c r l ts L') : L'.map e0 = (setL L n c r l ts).map e0 := by
  rcases h with ⟨h1, rfl⟩ | ⟨h1, ⟨h2, rfl⟩ | ⟨h2, v, rfl⟩⟩
  · rw [setL_no h1]
  · rw [setL_tw h1 h2]
  · rw [setL_nw h1 h2]; simp [e0]
theorem nm_y (hy : L[i]? = some y) (h : y.client = c ∧ y.req = r) : (L[i]?).map nmE = some (c, r) := by
  rw [hy]; simp [nmE, h.1, h.2]
theorem nm_n (hy : L[i]? = some y) (h : ¬ (y.client = c ∧ y.req = r)) : ¬ (L[i]?).map nmE = some (c, r) := by
  rw [hy]; simp [nmE] at h ⊢; exact h
theorem nm_o (h : L.length ≤ i) : ¬ (L[i]?).map nmE = some (c, r) := by rw [List.getElem?_eq_none h]; simp
theorem nmE_y (h : y.client = c ∧ y.req = r) : nmE y = (c, r) := by simp [nmE, h.1, h.2]
theorem nmE_n (h : ¬ (y.client = c ∧ y.req = r)) : ¬ nmE y = (c, r) := by simp [nmE] at h ⊢; exact h
theorem setL_new {A C : List EntT} {v : Value} (h : setE X n c r l ts = 0) (h2 : ¬ (X[n.toNat]?).map nmE = some (c, r)) (hA : A.map e0 = (X.take n.toNat).map e0) (hC : C.map e0 = ([EntT.mk c r v l ts] : List EntT).map e0) : (A ++ C).map e0 = (setL X n c r l ts).map e0 := by
  rw [setL_nw h h2, List.map_append, List.map_append, hA, hC]; simp [e0]
end
theorem EntsK.app {S : Nat → Prop} {n : Nat} {w : World} {A B : List EntT} (h : EntsK S n w A) (k : EntsK S n w B) : EntsK S n w (A ++ B) := fun e he => by
  rw [List.mem_append] at he; rcases he with q | q; exact h e q; exact k e q

end Go.Proofs.YtniojcnkjehflaaGreat

/- The document's log: what a later entry hides. Conditions: at most 100 entries, 20 operations each. -/
namespace Go.Proofs.YtniojcnkjehflaaGreat
open Go.RowKit Go.PlainAid
set_option linter.unusedVariables false


section
variable {X Mk : List EntT} {h n : Int} {i j M : Nat} {y z : EntT} {k : ByteArray} {l : List OpT} {o : OpT} {q : Nat}
theorem cntK_step (ho : l[q]? = some o) (hne : ¬ o.1 = k) (h0 : cntK k (l.take q) = 0) : cntK k (l.take (q + 1)) = 0 := by
  have h1 : (l.take q).countP (fun o => decide (o.1 = k)) = 0 := by unfold cntK at h0; omega
  rw [takeE ho]; unfold cntK; rw [List.countP_append, h1]; simp [hne]
theorem cntK_hit (ho : l[q]? = some o) (he : o.1 = k) : 0 < cntK k l := by
  unfold cntK
  have : 0 < l.countP fun x => decide (x.1 = k) := List.countP_pos_iff.2 ⟨o, List.mem_of_getElem? ho, by simpa using he⟩
  omega
theorem thM_le (X : List EntT) (n : Int) : thM X n ≤ X.length := by unfold thM; split; simp; split <;> omega
theorem thM_lt (hi : (i : Int) < (X.length : Int)) (hn : (i : Int) < n) : i < thM X n := by unfold thM; rw [if_neg (show ¬ n < 0 by omega)]; split <;> omega
theorem thM_ge (hi : ¬ ((i : Int) < (X.length : Int)) ∨ ¬ ((i : Int) < n)) : thM X n ≤ i := by unfold thM; split; simp; split <;> omega
theorem drop_M (hi : i < M) (hy : X[i]? = some y) : (X.take M).drop i = y :: (X.take M).drop (i + 1) := dropE (by rw [List.getElem?_take, if_pos hi]; exact hy)
/-- What later tells. -/
def latB (X : List EntT) (i : Nat) (k : ByteArray) (h n : Int) : Bool := decide (fT h ((X.take (thM X n)).drop (i + 1)) k ≠ 0)
def LatI (X : List EntT) (i : Nat) (k : ByteArray) (h n : Int) (j : Nat) : Prop := fT h ((X.take (thM X n)).drop (i + 1)) k = fT h ((X.take (thM X n)).drop j) k
theorem lat_no (hI : LatI X i k h n j) (hy : X[j]? = some y) (hj : j < thM X n) (hq : ltE h y = false) : LatI X i k h n (j + 1) := by
  unfold LatI at hI ⊢; rw [hI, drop_M hj hy, fT, if_neg (by rw [hq]; simp)]
theorem lat_none (hI : LatI X i k h n j) (hy : X[j]? = some y) (hj : j < thM X n) (h0 : cntK k (y.opl.take q) = 0) (hq : y.opl.length ≤ q) : LatI X i k h n (j + 1) := by
  rw [List.take_of_length_le hq] at h0
  unfold LatI at hI ⊢; rw [hI, drop_M hj hy, fT]; split <;> omega
theorem lat_hit (h20 : ∀ e ∈ X, e.opl.length ≤ 20) (hI : LatI X i k h n j) (hy : X[j]? = some y) (hj : j < thM X n) (hq : ltE h y = true) (ho : y.opl[q]? = some o) (he : o.1 = k) : true = latB X i k h n := by
  unfold LatI at hI; unfold latB
  rw [hI, drop_M hj hy, fT, if_pos hq]
  have h1 := cntK_hit ho he
  have h2 := fT_nn h k ((X.take (thM X n)).drop (j + 1)) (drop_all20 h20)
  symm; exact decide_eq_true (by omega)
theorem lat_end (hI : LatI X i k h n j) (hj : thM X n ≤ j) : false = latB X i k h n := by
  unfold LatI at hI; unfold latB
  rw [hI, List.drop_eq_nil_of_le (by rw [List.length_take]; omega)]; rfl
/-- The entries behind i rounds of the document's Thin. -/
def rtS (X : List EntT) (h : Int) (M i : Nat) : List EntT := (lT h (X.take M)).take i ++ X.drop i
theorem rtS_0 : rtS X h M 0 = X := by simp [rtS]
theorem lT_at : ∀ {T : List EntT} {i : Nat} {y : EntT}, T[i]? = some y → (lT h T)[i]? = some (if ltE h y = true then { y with opl := kpL (fT h (T.drop (i + 1))) y.opl } else y)
  | [], i, y, hy => by simp at hy
  | e :: r, 0, y, hy => by simp at hy; subst hy; simp [lT]
  | e :: r, i + 1, y, hy => by simp at hy; simp only [lT, List.getElem?_cons_succ, List.drop_succ_cons]; exact lT_at hy
theorem rtS_i (hM : i < M) (hy : X[i]? = some z) : (rtS X h M i)[i]? = some z := by
  unfold rtS
  have hl : i < X.length := (List.getElem?_eq_some_iff.1 hy).1
  rw [List.getElem?_append_right (by rw [List.length_take, lT_len, List.length_take]; omega)]
  rw [List.length_take, lT_len, List.length_take, List.getElem?_drop, show i + (i - min i (min M X.length)) = i by omega]; exact hy
theorem rt_z (hLk : Mk.map e0 = (rtS X h M i).map e0) (hM : i < M) (hX : i < X.length) (hy : Mk[i]? = some y) : ∃ z, X[i]? = some z ∧ e0 z = e0 y := by
  obtain ⟨z, h1, h2⟩ := e0_at hLk hy
  refine ⟨z, ?_, h2⟩
  have := rtS_i (X := X) (h := h) hM (List.getElem?_eq_getElem hX)
  rw [h1] at this
  rw [List.getElem?_eq_getElem hX]; exact this.symm
theorem rt_len (hLk : Mk.map e0 = (rtS X h M i).map e0) (hM : i ≤ M) (hX : M ≤ X.length) : Mk.length = X.length := by
  have := e0_len hLk
  rw [this]; unfold rtS
  rw [List.length_append, List.length_take, lT_len, List.length_take, List.length_drop]; omega
theorem take_lT (hz : X[i]? = some z) (hM : i < M) : (lT h (X.take M)).take (i + 1) = (lT h (X.take M)).take i ++ [if ltE h z = true then { z with opl := kpL (fT h ((X.take M).drop (i + 1))) z.opl } else z] := takeE (lT_at (by rw [List.getElem?_take, if_pos hM]; exact hz))
theorem rt_no (hLk : Mk.map e0 = (rtS X h M i).map e0) (hM : i < M) (hX : i < X.length) (hy : Mk[i]? = some y) (hq : ltE h y = false) : Mk.map e0 = (rtS X h M (i + 1)).map e0 := by
  obtain ⟨z, h1, h2⟩ := rt_z hLk hM hX hy
  rw [hLk]; unfold rtS
  rw [take_lT h1 hM, if_neg (by rw [ltE_e0 h2, hq]; simp), dropE h1]; simp
theorem rt_yes {y' : EntT} (hLk : Mk.map e0 = (rtS X h M i).map e0) (hM : i < M) (hX : i < X.length) (hy : Mk[i]? = some y) (hq : ltE h y = true) (e : e0 y' = e0 { y with opl := kpL (fT h ((X.take M).drop (i + 1))) y.opl }) : (Mk.set i y').map e0 = (rtS X h M (i + 1)).map e0 := by
  obtain ⟨z, h1, h2⟩ := rt_z hLk hM hX hy
  obtain ⟨k1, k2, k3, k4⟩ := e0_ts h2
  rw [List.map_set, hLk, e]; unfold rtS
  rw [take_lT h1 hM, if_pos (by rw [ltE_e0 h2, hq]), dropE h1]
  have hl : ((lT h (X.take M)).take i).length = i := by rw [List.length_take, lT_len, List.length_take]; omega
  simp only [List.map_append, List.map_cons, List.map_nil, List.append_assoc, List.singleton_append]
  rw [List.set_append_right _ _ (by rw [List.length_map, hl]; omega), List.length_map, hl, Nat.sub_self, List.set_cons_zero]
  congr 2
  unfold e0; simp [k1, k2, k3, k4]
def rgD (X : List EntT) (h : Int) (M i : Nat) : Int := gT h (X.take M) - gT h ((X.take M).drop i)
theorem rgD_0 : (0 : Int) = rgD X h M 0 := by simp [rgD]
theorem rgD_no (hLk : Mk.map e0 = (rtS X h M i).map e0) (hM : i < M) (hX : i < X.length) (hy : Mk[i]? = some y) (hq : ltE h y = false) : rgD X h M i = rgD X h M (i + 1) := by
  obtain ⟨z, h1, h2⟩ := rt_z hLk hM hX hy
  unfold rgD; rw [drop_M hM h1, gT, if_neg (by rw [ltE_e0 h2, hq]; simp)]
theorem rgD_yes (hLk : Mk.map e0 = (rtS X h M i).map e0) (hM : i < M) (hX : i < X.length) (hy : Mk[i]? = some y) (hq : ltE h y = true) (hl : y.opl.length ≤ q) (hle : q ≤ y.opl.length) : rgD X h M i + ((q : Int) - ((kpL (fT h ((X.take M).drop (i + 1))) (y.opl.take q)).length : Int)) = rgD X h M (i + 1) := by
  obtain ⟨z, h1, h2⟩ := rt_z hLk hM hX hy
  unfold rgD; rw [drop_M hM h1, gT, if_pos (by rw [ltE_e0 h2, hq]), List.take_of_length_le hl, (e0_ts h2).2.2.2]
  have : q = y.opl.length := by omega
  rw [this]; omega
theorem rgD_end (hM : M ≤ i) : rgD X h M i = gT h (X.take M) := by unfold rgD; rw [List.drop_eq_nil_of_le (by rw [List.length_take]; omega)]; simp [gT]
theorem rgD_nn (h20 : ∀ e ∈ X, e.opl.length ≤ 20) (hX : X.length ≤ 100) : -2000 ≤ rgD X h M i ∧ rgD X h M i ≤ 2000 := by
  have h1 := gT_nn h (X.take M) (fun e he => h20 e (List.mem_of_mem_take he))
  have h2 := gT_nn h ((X.take M).drop i) (drop_all20 h20)
  unfold rgD; rw [List.length_take] at h1; rw [List.length_drop, List.length_take] at h2; omega
theorem rt_end (hM : M ≤ X.length) : rtS X h M M = lT h (X.take M) ++ X.drop M := by unfold rtS; rw [List.take_of_length_le (by rw [lT_len, List.length_take]; omega)]
theorem kq_yes {f : ByteArray → Int} (ho : l[q]? = some o) (hb : decide (f o.1 ≠ 0) = false) : kpL f (l.take q) ++ [o] = kpL f (l.take (q + 1)) := by
  rw [takeE ho]; unfold kpL; rw [List.filter_append]
  have : f o.1 = 0 := by simpa using hb
  simp [this]
theorem kq_no {f : ByteArray → Int} (ho : l[q]? = some o) (hb : decide (f o.1 ≠ 0) = true) : kpL f (l.take q) = kpL f (l.take (q + 1)) := by
  rw [takeE ho]; unfold kpL; rw [List.filter_append]
  have : ¬ f o.1 = 0 := by simpa using hb
  simp [this]
theorem kq_yes_len {f : ByteArray → Int} (ho : l[q]? = some o) (hb : decide (f o.1 ≠ 0) = false) : (kpL f (l.take (q + 1))).length = (kpL f (l.take q)).length + 1 := by rw [← kq_yes ho hb]; simp
theorem kq_no_len {f : ByteArray → Int} (ho : l[q]? = some o) (hb : decide (f o.1 ≠ 0) = true) : (kpL f (l.take (q + 1))).length = (kpL f (l.take q)).length := by rw [← kq_no ho hb]
end


theorem kl_len (x : ByteArray) : x.data.toList.length = x.size := by simp
theorem kl_loop (bs : ByteArray) : ∀ (k i : Nat) (r : List UInt8), bs.size - i = k → ByteArray.toList.loop bs i r = r.reverse ++ bs.data.toList.drop i
  | 0, i, r, h => by
    unfold ByteArray.toList.loop
    rw [if_neg (by omega), List.drop_of_length_le (by rw [kl_len]; omega), List.append_nil]
  | k + 1, i, r, h => by
    unfold ByteArray.toList.loop
    have hi : i < bs.size := by omega
    have hl : i < bs.data.toList.length := by rw [kl_len]; exact hi
    rw [if_pos hi, kl_loop bs k (i + 1) _ (by omega), List.reverse_cons, List.append_assoc, List.drop_eq_getElem_cons hl]
    congr 2
    simp [ByteArray.get!, hi]
theorem kl_data (bs : ByteArray) : bs.toList = bs.data.toList := by
  unfold ByteArray.toList
  rw [kl_loop bs bs.size 0 [] rfl]
  simp
theorem eq_key {a b : ByteArray} (h : (a.toList == b.toList) = true) : a = b := by
  have h1 : a.toList = b.toList := by simpa using h
  rw [kl_data, kl_data] at h1
  exact ByteArray.ext (Array.toList_inj.1 h1)
theorem ne_key {a b : ByteArray} (h : (a.toList == b.toList) = false) : ¬ a = b := fun e => by subst e; simp at h

end Go.Proofs.YtniojcnkjehflaaGreat

/- Logs: what is right stays right; where operations lie is not seen. Pure. Conditions: none. -/
namespace Go.Proofs.YtniojcnkjehflaaGreat
open Go.RowKit Go.PlainAid
set_option linter.unusedVariables false


theorem kbl_nil (l : List UInt8) : Op.bytesLess l [] = false := by cases l <;> rfl
theorem kbl_cons (a b : UInt8) (x y : List UInt8) : Op.bytesLess (a :: x) (b :: y) = (decide (a < b) || (a == b && Op.bytesLess x y)) := rfl
theorem kbl_trans : ∀ (x y z : List UInt8), Op.bytesLess x y = true → Op.bytesLess y z = true → Op.bytesLess x z = true
  | _, [], _, h, _ => by rw [kbl_nil] at h; cases h
  | _, _ :: _, [], _, h => by rw [kbl_nil] at h; cases h
  | [], _ :: _, _ :: _, _, _ => rfl
  | a :: x, b :: y, c :: z, h, k => by
    rw [kbl_cons, Bool.or_eq_true, Bool.and_eq_true, decide_eq_true_eq, beq_iff_eq] at h k ⊢
    have ih := kbl_trans x y z
    rcases h with h | ⟨rfl, h⟩ <;> rcases k with k | ⟨rfl, k⟩
    · left; exact UInt8.lt_trans h k
    · left; exact h
    · left; exact k
    · right; exact ⟨rfl, ih h k⟩
theorem kbl_irr : ∀ l : List UInt8, Op.bytesLess l l = false
  | [] => rfl
  | a :: x => by rw [kbl_cons, kbl_irr x]; simp
def keyLt (a b : OpT) : Prop := Op.bytesLess a.1.toList b.1.toList = true
theorem chkL_iff : ∀ (l : List OpT) (p : Option ByteArray), chkL p l = 0 ↔ (∀ o ∈ l, chkOp o = 0) ∧ l.Pairwise keyLt ∧ (∀ q, p = some q → ∀ o ∈ l, Op.bytesLess q.toList o.1.toList = true)
  | [], p => by simp [chkL]
  | o :: r, p => by
    have ih := chkL_iff r (some o.1)
    simp only [chkL]
    by_cases h1 : chkOp o ≠ 0
    · rw [if_pos h1]
      exact ⟨fun h => absurd h h1, fun h => absurd (h.1 o (by simp)) h1⟩
    · rw [if_neg h1]
      have h1' : chkOp o = 0 := by omega
      by_cases h2 : keyUp p o.1 = true
      · rw [if_pos h2, ih]
        constructor
        · rintro ⟨k1, k2, k3⟩
          have k4 := k3 o.1 rfl
          refine ⟨?_, List.pairwise_cons.2 ⟨fun x hx => k4 x hx, k2⟩, ?_⟩
          · intro x hx; rw [List.mem_cons] at hx; rcases hx with rfl | hx; exact h1'; exact k1 x hx
          · rintro q rfl x hx
            have h2' : Op.bytesLess q.toList o.1.toList = true := h2
            rw [List.mem_cons] at hx; rcases hx with rfl | hx; exact h2'; exact kbl_trans _ _ _ h2' (k4 x hx)
        · rintro ⟨k1, k2, k3⟩
          rw [List.pairwise_cons] at k2
          exact ⟨fun x hx => k1 x (List.mem_cons_of_mem _ hx), k2.2, fun q hq x hx => by cases hq; exact k2.1 x hx⟩
      · rw [if_neg h2]
        refine ⟨(fun h => by cases h), fun h => ?_⟩
        cases p with
        | none => exact absurd rfl h2
        | some q => exact absurd (h.2.2 q rfl o (by simp)) h2
theorem chkB_iff (c r : Int) (l : List OpT) : chkB c r l = 0 ↔ (0 ≤ c ∧ c < 3) ∧ (1 ≤ r ∧ r ≤ 1073741824) ∧ l.length ≤ 4 ∧ (∀ o ∈ l, chkOp o = 0) ∧ l.Pairwise keyLt := by
  have hk : chkL none l = 0 ↔ (∀ o ∈ l, chkOp o = 0) ∧ l.Pairwise keyLt := by rw [chkL_iff]; simp
  unfold chkB
  by_cases h1 : c < 0 ∨ c ≥ 3
  · rw [if_pos h1]; exact ⟨(fun h => by cases h), fun h => by omega⟩
  · rw [if_neg h1]
    by_cases h2 : r < 1 ∨ r > 1073741824
    · rw [if_pos h2]; exact ⟨(fun h => by cases h), fun h => by omega⟩
    · rw [if_neg h2]
      by_cases h3 : ((l.length : Nat) : Int) > 4
      · rw [if_pos h3]; exact ⟨(fun h => by cases h), fun h => by omega⟩
      · rw [if_neg h3, hk]; exact ⟨fun h => ⟨by omega, by omega, by omega, h.1, h.2⟩, fun h => ⟨h.2.2.2.1, h.2.2.2.2⟩⟩
theorem chkB_kp {c r : Int} {l : List OpT} (f : ByteArray → Int) (h : chkB c r l = 0) : chkB c r (kpL f l) = 0 := by
  rw [chkB_iff] at h ⊢
  exact ⟨h.1, h.2.1, Nat.le_trans (kpL_le _ _) h.2.2.1, kpL_all h.2.2.2.1, h.2.2.2.2.sublist (List.filter_sublist ..)⟩
theorem chkB_nd {c r : Int} {l : List OpT} (h : chkB c r l = 0) : (l.map (·.1)).Nodup := by
  rw [chkB_iff] at h
  have h2 : l.Pairwise (fun a b => a.1 ≠ b.1) := h.2.2.2.2.imp fun {a b} hab e => by
    unfold keyLt at hab; rw [e, kbl_irr] at hab; cases hab
  exact List.pairwise_map.2 h2
/-- A log that is right. -/
structure RI (L : List EntT) : Prop where
  chk : ∀ e ∈ L, chkB e.client e.req e.opl = 0
  uq : UqN L
  up : ∀ i y p, L[i + 1]? = some y → L[i]? = some p → y.ts ≠ 0 → p.ts ≠ 0 ∧ p.ts < y.ts
theorem RI.nd {L : List EntT} (h : RI L) : ∀ e ∈ L, (e.opl.map (·.1)).Nodup := fun e he => chkB_nd (h.chk e he)
theorem RI.nil : RI [] := ⟨fun e he => by simp at he, by simp [UqN], fun i y p h => by simp at h⟩
theorem RI.e0 {A B : List EntT} (h : A.map e0 = B.map e0) (hA : RI A) : RI B := by
  have ba := h.symm
  refine ⟨fun e he => ?_, hA.uq.nm (e0_f (f := nmE) (fun _ => rfl) ba), fun i y p hy hp hn => ?_⟩
  · obtain ⟨i, hi⟩ := List.getElem?_of_mem he
    obtain ⟨z, hz, e1⟩ := e0_at ba hi
    obtain ⟨_, k2, k3, k4⟩ := e0_ts e1
    rw [← k2, ← k3, ← k4]; exact hA.chk z (List.mem_of_getElem? hz)
  · obtain ⟨y', h1, e1⟩ := e0_at ba hy
    obtain ⟨p', h2, e2⟩ := e0_at ba hp
    have := hA.up i y' p' h1 h2 (by rw [(e0_ts e1).1]; exact hn)
    rw [(e0_ts e1).1, (e0_ts e2).1] at this; exact this
theorem rgF_0 : ∀ (r pre : List EntT), rgF pre r = 0 ↔ (∀ e ∈ r, chkB e.client e.req e.opl = 0) ∧ (∀ i y, r[i]? = some y → ¬ 0 < twN (pre ++ r.take i) y.client y.req) ∧ (∀ i y, r[i]? = some y → badT (pre ++ r.take i) y = false)
  | [], pre => by simp [rgF]
  | e :: r, pre => by
    have ih := rgF_0 r (pre ++ [e])
    rw [rgF]
    by_cases h1 : chkB e.client e.req e.opl ≠ 0
    · rw [if_pos h1]; exact ⟨fun h => absurd h h1, fun h => absurd (h.1 e (by simp)) h1⟩
    · rw [if_neg h1]
      by_cases h2 : 0 < twN pre e.client e.req
      · rw [if_pos h2]; exact ⟨(fun h => by cases h), fun h => absurd h2 (by simpa using h.2.1 0 e rfl)⟩
      · rw [if_neg h2]
        by_cases h3 : badT pre e = true
        · rw [if_pos h3]; exact ⟨(fun h => by cases h), fun h => by have := h.2.2 0 e rfl; simp [h3] at this⟩
        · rw [if_neg h3, ih]
          constructor
          · rintro ⟨k1, k2, k3⟩
            refine ⟨fun x hx => ?_, fun i y hy => ?_, fun i y hy => ?_⟩
            · rw [List.mem_cons] at hx; rcases hx with rfl | hx; omega; exact k1 x hx
            · cases i with
              | zero => simp at hy; subst hy; simpa using h2
              | succ i => simp at hy; have := k2 i y hy; simpa using this
            · cases i with
              | zero => simp at hy; subst hy; simpa using h3
              | succ i => simp at hy; have := k3 i y hy; simpa using this
          · rintro ⟨k1, k2, k3⟩
            refine ⟨fun x hx => k1 x (List.mem_cons_of_mem _ hx), fun i y hy => ?_, fun i y hy => ?_⟩
            · have := k2 (i + 1) y (by simpa using hy); simpa using this
            · have := k3 (i + 1) y (by simpa using hy); simpa using this
theorem rev_ind {α : Type} {p : List α → Prop} (h0 : p []) (h1 : ∀ l y, p l → p (l ++ [y])) (l : List α) : p l := by
  rw [← List.reverse_reverse l]
  induction l.reverse with
  | nil => exact h0
  | cons y r ih => rw [List.reverse_cons]; exact h1 _ _ ih
theorem twN_none {L : List EntT} {c r : Int} : ¬ 0 < twN L c r ↔ ∀ z ∈ L, nmE z ≠ (c, r) := by
  refine rev_ind (p := fun L => ¬ 0 < twN L c r ↔ ∀ z ∈ L, nmE z ≠ (c, r)) ?_ (fun l y ih => ?_) L
  · simp [twN]
  · rw [twN_snoc]
    have h0 := twN_pos l c r
    constructor
    · intro h z hz
      rw [List.mem_append, List.mem_singleton] at hz
      rcases hz with hz | rfl
      · exact ih.1 (by split at h <;> omega) z hz
      · intro e; simp only [nmE, Prod.mk.injEq] at e; rw [if_pos e] at h; omega
    · intro h
      have h1 := ih.2 (fun z hz => h z (by simp [hz]))
      have h2 : ¬ (y.client = c ∧ y.req = r) := fun q => h y (by simp) (by simp [nmE, q.1, q.2])
      rw [if_neg h2]; omega
theorem RI.right {L : List EntT} (h : RI L) : rightI L = 0 := by
  unfold rightI
  rw [rgF_0]
  refine ⟨h.chk, fun i y hy => ?_, fun i y hy => ?_⟩
  · rw [List.nil_append, twN_none]
    intro z hz e
    obtain ⟨j, hj⟩ := List.getElem?_of_mem hz
    have hl := (List.getElem?_eq_some_iff.1 hj).1
    rw [List.length_take] at hl
    rw [List.getElem?_take, if_pos (by omega)] at hj
    have := h.uq.at hj hy e
    omega
  · rw [List.nil_append]
    cases i with
    | zero => exact badM_0 rfl
    | succ i =>
      have hl := (List.getElem?_eq_some_iff.1 hy).1
      rw [bad_at (j := i) (by omega) (by omega) (List.getElem?_eq_getElem (by omega))]
      refine decide_eq_false (fun q => ?_)
      have := h.up i y _ hy (List.getElem?_eq_getElem (by omega)) q.1
      omega
section
variable {L : List EntT} {i c r ts n h : Int} {l : List OpT}
theorem RI.take (h : RI L) (k : Nat) : RI (L.take k) := ⟨fun e he => h.chk e (List.mem_of_mem_take he), h.uq.take k, fun i y p hy hp hn => by
  have hl := (List.getElem?_eq_some_iff.1 hy).1
  rw [List.length_take] at hl
  rw [List.getElem?_take, if_pos (by omega)] at hy hp
  exact h.up i y p hy hp hn⟩
theorem setE_0 (h : setE L i c r l ts = 0) : 0 ≤ i ∧ i ≤ (L.length : Int) ∧ chkB c r l = 0 ∧ i < 100 ∧ findN (L.take i.toNat) (c, r) = none ∧ badT (L.take i.toNat) (EntT.mk c r (.slice none 0 0) l ts) = false := by
  unfold setE at h
  split at h
  · cases h
  · rename_i h1
    split at h
    · rename_i h2; exact absurd h h2
    · rename_i h2
      split at h
      · cases h
      · rename_i h3
        split at h
        · cases h
        · rename_i h4
          split at h
          · cases h
          · rename_i h5
            refine ⟨by omega, by omega, by omega, by omega, ?_, by simpa using h5⟩
            cases hf : findN (L.take i.toNat) (c, r) with
            | none => rfl
            | some a => rw [hf] at h4; exact absurd rfl h4
theorem bad_pre {k : Nat} {p : EntT} {v : Value} (hb : badT (L.take (k + 1)) (EntT.mk c r v l ts) = false) (hp : L[k]? = some p) (hn : ts ≠ 0) : p.ts ≠ 0 ∧ p.ts < ts := by
  rw [bad_at (j := k) (by omega) (by omega) hp] at hb
  have := of_decide_eq_false hb
  simp only [] at this
  omega
theorem RI.set (hR : RI L) : RI (setL L i c r l ts) := by
  by_cases h0 : setE L i c r l ts ≠ 0
  · rw [setL_no h0]; exact hR
  · have h0' : setE L i c r l ts = 0 := by omega
    obtain ⟨k1, k2, k3, k4, k5, k6⟩ := setE_0 h0'
    by_cases h1 : (L[i.toNat]?).map nmE = some (c, r)
    · rw [setL_tw h0' h1]
      obtain ⟨y0, hy0, _⟩ := Option.map_eq_some_iff.1 h1
      by_cases hts : y0.ts = ts
      · rw [restF_same hy0 hts]; exact hR
      · rw [← restF_ne (k := L.length) hy0 hts (Nat.le_refl _)]
        have hil := (List.getElem?_eq_some_iff.1 hy0).1
        have hat : ∀ j y, (rsL L i.toNat ts L.length)[j]? = some y → ∃ z, L[j]? = some z ∧ y.client = z.client ∧ y.req = z.req ∧ y.opl = z.opl ∧ y.ts = if j = i.toNat then ts else if i.toNat < j then 0 else z.ts := by
          intro j y hy
          simp only [rsL, List.getElem?_mapIdx] at hy
          obtain ⟨z, hz, rfl⟩ := Option.map_eq_some_iff.1 hy
          have hjl := (List.getElem?_eq_some_iff.1 hz).1
          refine ⟨z, hz, ?_⟩
          by_cases e1 : j = i.toNat
          · rw [if_pos e1, if_pos e1]; exact ⟨rfl, rfl, rfl, rfl⟩
          · rw [if_neg e1, if_neg e1]
            by_cases e2 : i.toNat < j
            · rw [if_pos ⟨e2, hjl⟩, if_pos e2]; exact ⟨rfl, rfl, rfl, rfl⟩
            · rw [if_neg (fun q => e2 q.1), if_neg e2]; exact ⟨rfl, rfl, rfl, rfl⟩
        refine ⟨fun e he => ?_, hR.uq.nm (rsL_nm _ _ _ _), fun j y p hy hp hn => ?_⟩
        · obtain ⟨j, hj⟩ := List.getElem?_of_mem he
          obtain ⟨z, hz, q1, q2, q3, _⟩ := hat j e hj
          rw [q1, q2, q3]; exact hR.chk z (List.mem_of_getElem? hz)
        · obtain ⟨y', hy', _, _, _, q1⟩ := hat _ y hy
          obtain ⟨p', hp', _, _, _, q2⟩ := hat _ p hp
          rw [q1] at hn ⊢; rw [q2]
          by_cases e1 : j + 1 = i.toNat
          · rw [if_pos e1] at hn ⊢
            rw [if_neg (by omega), if_neg (by omega)]
            rw [← e1] at k6
            exact bad_pre k6 hp' hn
          · rw [if_neg e1] at hn ⊢
            by_cases e2 : i.toNat < j + 1
            · rw [if_pos e2] at hn; exact absurd rfl hn
            · rw [if_neg e2] at hn ⊢
              rw [if_neg (by omega), if_neg (by omega)]
              exact hR.up j y' p' hy' hp' hn
    · rw [setL_nw h0' h1]
      have hT := hR.take i.toNat
      have hlen : (L.take i.toNat).length = i.toNat := by rw [List.length_take]; omega
      refine ⟨fun e he => ?_, hT.uq.snoc k5, fun j y p hy hp hn => ?_⟩
      · rw [List.mem_append, List.mem_singleton] at he
        rcases he with he | rfl; exact hT.chk e he; exact k3
      · have hjl := (List.getElem?_eq_some_iff.1 hy).1
        rw [List.length_append, hlen] at hjl
        simp at hjl
        by_cases e1 : j + 1 < i.toNat
        · rw [List.getElem?_append_left (by omega)] at hy hp
          exact hT.up j y p hy hp hn
        · have e2 : j + 1 = i.toNat := by omega
          rw [List.getElem?_append_right (by omega), hlen, e2, Nat.sub_self] at hy
          simp at hy; subst hy
          rw [List.getElem?_append_left (by omega), List.getElem?_take, if_pos (by omega)] at hp
          rw [← e2] at k6
          exact bad_pre k6 hp hn
theorem stN_at : ∀ {L : List EntT} {j : Nat} {y : EntT}, j < stN L → L[j]? = some y → y.ts ≠ 0
  | [], j, y, h, hy => by simp at hy
  | e :: r, j, y, h, hy => by
    unfold stN at h
    rw [List.takeWhile_cons] at h
    by_cases he : e.ts ≠ 0
    · rw [if_pos (by simpa using he)] at h
      cases j with
      | zero => simp at hy; subst hy; exact he
      | succ j => simp at hy; exact stN_at (L := r) (by unfold stN; simpa using h) hy
    · rw [if_neg (by simpa using he)] at h; simp at h
theorem stN_zero : ∀ {L : List EntT} {y : EntT}, L[stN L]? = some y → y.ts = 0
  | [], y, hy => by simp at hy
  | e :: r, y, hy => by
    unfold stN at hy
    rw [List.takeWhile_cons] at hy
    by_cases he : e.ts ≠ 0
    · rw [if_pos (by simpa using he)] at hy
      rw [List.length_cons, List.getElem?_cons_succ] at hy; exact stN_zero (L := r) (by unfold stN; exact hy)
    · rw [if_neg (by simpa using he)] at hy; simp at hy; subst hy; omega
theorem stE_0 (h : stE L i ts = 0) : 0 ≤ i ∧ i < (L.length : Int) ∧ ts ≠ 0 ∧ i = ((stN L : Nat) : Int) ∧ lastT L < ts := by
  unfold stE at h
  split at h
  · cases h
  · split at h
    · cases h
    · split at h
      · cases h
      · rename_i h1 h2 h3; refine ⟨by omega, by omega, h2, by omega, by omega⟩
theorem RI.st (hR : RI L) : RI (stL L i ts) := by
  by_cases h0 : stE L i ts ≠ 0
  · rw [stL_no h0]; exact hR
  · have h0' : stE L i ts = 0 := by omega
    obtain ⟨k1, k2, k3, k4, k5⟩ := stE_0 h0'
    have hi : i.toNat = stN L := by omega
    have hil : i.toNat < L.length := by omega
    have hy0 := List.getElem?_eq_getElem hil
    rw [stL_ok h0' hy0]
    have hat : ∀ j y, (L.set i.toNat { L[i.toNat] with ts := ts })[j]? = some y → ∃ z, L[j]? = some z ∧ y.client = z.client ∧ y.req = z.req ∧ y.opl = z.opl ∧ y.ts = if j = i.toNat then ts else z.ts := by
      intro j y hy
      rw [List.getElem?_set] at hy
      by_cases e1 : i.toNat = j
      · subst e1
        rw [if_pos rfl, if_pos hil] at hy
        simp only [Option.some.injEq] at hy
        subst hy
        exact ⟨_, hy0, rfl, rfl, rfl, by rw [if_pos rfl]⟩
      · rw [if_neg e1] at hy
        exact ⟨y, hy, rfl, rfl, rfl, by rw [if_neg (fun q => e1 q.symm)]⟩
    refine ⟨fun e he => ?_, hR.uq.nm ?_, fun j y p hy hp hn => ?_⟩
    · obtain ⟨j, hj⟩ := List.getElem?_of_mem he
      obtain ⟨z, hz, q1, q2, q3, _⟩ := hat j e hj
      rw [q1, q2, q3]; exact hR.chk z (List.mem_of_getElem? hz)
    · rw [← stL_ok h0' hy0]; exact stL_nm
    · obtain ⟨y', hy', _, _, _, q1⟩ := hat _ y hy
      obtain ⟨p', hp', _, _, _, q2⟩ := hat _ p hp
      rw [q1] at hn ⊢; rw [q2]
      by_cases e1 : j + 1 = i.toNat
      · rw [if_pos e1, if_neg (by omega)]
        refine ⟨stN_at (L := L) (by omega) hp', ?_⟩
        rw [show p'.ts = lastT L from lastT_at (j := j) (by omega) (by omega) hp']; exact k5
      · rw [if_neg e1] at hn ⊢
        by_cases e2 : j = i.toNat
        · exfalso
          have h1 := hR.up j y' p' hy' hp' hn
          rw [e2, hi] at hp'
          exact h1.1 (stN_zero hp')
        · rw [if_neg e2]; exact hR.up j y' p' hy' hp' hn
theorem lT_same {h : Int} {T : List EntT} {j : Nat} {y : EntT} (hy : (lT h T)[j]? = some y) : ∃ z, T[j]? = some z ∧ y.client = z.client ∧ y.req = z.req ∧ y.ts = z.ts ∧ ∃ f, y.opl = kpL f z.opl := by
  have hl := (List.getElem?_eq_some_iff.1 hy).1
  rw [lT_len] at hl
  have := lT_at (h := h) (List.getElem?_eq_getElem hl)
  rw [hy] at this
  simp only [Option.some.injEq] at this
  refine ⟨_, List.getElem?_eq_getElem hl, ?_⟩
  subst this
  split
  · exact ⟨rfl, rfl, rfl, _, rfl⟩
  · exact ⟨rfl, rfl, rfl, fun _ => 0, (kpL_id _).symm⟩
theorem thL_same {j : Nat} {y : EntT} (hy : (thL L h n)[j]? = some y) : ∃ z, L[j]? = some z ∧ y.client = z.client ∧ y.req = z.req ∧ y.ts = z.ts ∧ ∃ f, y.opl = kpL f z.opl := by
  unfold thL at hy
  have hM := thM_le L n
  by_cases hj : j < thM L n
  · rw [List.getElem?_append_left (by rw [lT_len, List.length_take]; omega)] at hy
    obtain ⟨z, hz, q⟩ := lT_same hy
    rw [List.getElem?_take, if_pos hj] at hz
    exact ⟨z, hz, q⟩
  · rw [List.getElem?_append_right (by rw [lT_len, List.length_take]; omega), lT_len, List.length_take, List.getElem?_drop, show thM L n + (j - min (thM L n) L.length) = j by omega] at hy
    exact ⟨y, hy, rfl, rfl, rfl, fun _ => 0, (kpL_id _).symm⟩
theorem thL_len : (thL L h n).length = L.length := by unfold thL; have := thM_le L n; rw [List.length_append, lT_len, List.length_take, List.length_drop]; omega
theorem thL_nm : (thL L h n).map nmE = L.map nmE := by
  apply List.ext_getElem?
  intro j
  rw [List.getElem?_map, List.getElem?_map]
  cases hj : (thL L h n)[j]? with
  | none =>
    rw [List.getElem?_eq_none_iff, thL_len] at hj
    rw [List.getElem?_eq_none hj]
  | some y => obtain ⟨z, hz, q1, q2, _⟩ := thL_same hj; rw [hz]; simp [nmE, q1, q2]
theorem RI.th (hR : RI L) : RI (thL L h n) := by
  refine ⟨fun e he => ?_, hR.uq.nm thL_nm, fun j y p hy hp hn => ?_⟩
  · obtain ⟨j, hj⟩ := List.getElem?_of_mem he
    obtain ⟨z, hz, q1, q2, _, f, q4⟩ := thL_same hj
    rw [q1, q2, q4]; exact chkB_kp f (hR.chk z (List.mem_of_getElem? hz))
  · obtain ⟨y', hy', _, _, q1, _⟩ := thL_same hy
    obtain ⟨p', hp', _, _, q2, _⟩ := thL_same hp
    rw [q1] at hn ⊢; rw [q2]; exact hR.up j y' p' hy' hp' hn
end


section
variable {L : List EntT} {i c r ts n h : Int} {l : List OpT}
theorem nm_e0 (L : List EntT) : (L.map e0).map nmE = L.map nmE := by rw [List.map_map]; rfl
theorem take_e0 (L : List EntT) (k : Nat) : (L.map e0).take k = (L.take k).map e0 := (List.map_take ..).symm
theorem badT_e0 (L : List EntT) (e : EntT) : badT (L.map e0) e = badT L e := by
  unfold badT
  rw [List.getLast?_map]
  cases L.getLast? <;> rfl
theorem setE_e0 : setE (L.map e0) i c r l ts = setE L i c r l ts := by
  unfold setE
  rw [List.length_map, take_e0, findN_nm (nm_e0 _), badT_e0]
theorem at_e0 (L : List EntT) (k : Nat) : ((L.map e0)[k]?).map nmE = (L[k]?).map nmE := by rw [List.getElem?_map]; cases L[k]? <;> rfl
theorem rsL_e0 (L : List EntT) (k : Nat) (t : Int) (q : Nat) : (rsL (L.map e0) k t q).map e0 = (rsL L k t q).map e0 := by
  apply List.ext_getElem?
  intro j
  simp only [rsL, List.getElem?_map, List.getElem?_mapIdx]
  cases L[j]? with
  | none => rfl
  | some e => simp only [Option.map_some]; split; rfl; split <;> rfl
theorem e0_e0 (L : List EntT) : (L.map e0).map e0 = L.map e0 := by rw [List.map_map]; rfl
theorem restF_e0 (L : List EntT) (k : Nat) (t : Int) : (restF (L.map e0) k t).map e0 = (restF L k t).map e0 := by
  unfold restF
  have hg : ((L.map e0).getD k default).ts = (L.getD k default).ts := by
    rw [List.getD_eq_getElem?_getD, List.getD_eq_getElem?_getD, List.getElem?_map]; cases L[k]? <;> rfl
  rw [hg, List.length_map]
  split
  · exact e0_e0 L
  · exact rsL_e0 _ _ _ _
theorem setL_e0 : (setL (L.map e0) i c r l ts).map e0 = (setL L i c r l ts).map e0 := by
  unfold setL
  rw [setE_e0, at_e0]
  split
  · exact e0_e0 L
  · split
    · exact restF_e0 _ _ _
    · rw [take_e0, List.map_append, List.map_append, e0_e0]
theorem stN_e0 (L : List EntT) : stN (L.map e0) = stN L := by
  unfold stN
  rw [List.takeWhile_map, List.length_map]; rfl
theorem lastT_e0 (L : List EntT) : lastT (L.map e0) = lastT L := by
  unfold lastT
  rw [stN_e0]
  split
  · rfl
  · rw [List.getD_eq_getElem?_getD, List.getD_eq_getElem?_getD, List.getElem?_map]; cases L[stN L - 1]? <;> rfl
theorem stE_e0 : stE (L.map e0) i ts = stE L i ts := by unfold stE; rw [List.length_map, stN_e0, lastT_e0]
theorem stL_e0' : (stL (L.map e0) i ts).map e0 = (stL L i ts).map e0 := by
  unfold stL; rw [stE_e0]; split
  · exact rsL_e0 _ _ _ _
  · exact e0_e0 L
theorem fT_e0 (h : Int) : ∀ L : List EntT, fT h (L.map e0) = fT h L
  | [] => rfl
  | e :: r => by funext k; simp only [List.map_cons, fT]; rw [fT_e0 h r]; rfl
theorem lT_e0 (h : Int) : ∀ L : List EntT, (lT h (L.map e0)).map e0 = (lT h L).map e0
  | [] => rfl
  | e :: r => by
    simp only [List.map_cons, lT]
    rw [lT_e0 h r, fT_e0 h r]
    congr 1
    show e0 (if ltE h e = true then _ else _) = _
    split <;> rfl
theorem thM_e0 (L : List EntT) (n : Int) : thM (L.map e0) n = thM L n := by unfold thM; rw [List.length_map]
theorem thL_e0 : (thL (L.map e0) h n).map e0 = (thL L h n).map e0 := by
  unfold thL
  rw [thM_e0, List.map_append, List.map_append, take_e0, lT_e0, ← List.map_drop, e0_e0]
theorem fndI_e0 : fndI (L.map e0) c r = fndI L c r := by unfold fndI; rw [findN_nm (nm_e0 _)]
theorem topN_e0 : topN (L.map e0) c = topN L c := by unfold topN; rw [List.foldl_map]; rfl
variable {A B : List EntT}
end

end Go.Proofs.YtniojcnkjehflaaGreat

/- catenalaw17.step: both logs go on alike. Conditions: at most 20 operations. -/
namespace Go.Proofs.YtniojcnkjehflaaGreat
open Go.RowKit Go.PlainAid
set_option linter.unusedVariables false


section
variable {S S' D A : Nat → Prop} {n : Nat} {w x : World} {b d : Nat} {u v : Value} {L X : List EntT}
theorem LObj.ofS (h : LObj S w b L) : ∀ q, S q → q < w.heap.size := fun q hq => (h.1 q hq).1
theorem LObj.butA (h : LObj S w b L) (hb : But D w x) (hd : ∀ q, S q → D q → False) : LObj S x b L := h.but hd hb
theorem Grew.fin (h : But S w x) : Grew S (fun q => (S q ∨ w.heap.size ≤ q) ∧ q < x.heap.size) w x := ⟨fun q hq => hq.1, h⟩
end
theorem tThin {S : Nat → Prop} {b : Nat} {L : List EntT} (w : World) (h n : Int) (hO : LObj S w b L) (hh : 0 ≤ h ∧ h < 18446744073709551616) (hni : -9223372036854775808 ≤ n ∧ n ≤ 9223372036854775807) (hdk : ∀ e ∈ L, (e.opl.map (·.1)).Nodup) :
    Calls Tryz.prog 25 #[pt b 0, .int .u64 h, .int .i64 n] w fun e w' => ∃ L' S', e = .returned (.int .i64 (thG L h n)) ∧ LObj S' w' b L' ∧ L'.map e0 = (thL L h n).map e0 ∧ Grew S S' w w' := by
  obtain ⟨_, M, u, hP⟩ := hO
  exact (lThin_any w S b M u L h n w (But.refl _ _) hP hh hni hdk).mono fun e x ⟨L', h1, h2, h3, h4⟩ => ⟨L', _, h1, h2.fin, h3, .tot h4⟩


theorem opE_neR (l : List OpT) : ∀ y ∈ l, opE y ≠ [] := fun y _ e => by cases e
end Go.Proofs.YtniojcnkjehflaaGreat

/- Configurations: members, places. Conditions: none. -/
namespace Go.Proofs.YtniojcnkjehflaaGreat
open Go.RowKit Go.PlainAid

/-- A member: Id, Serial. -/
abbrev MemT := Int × Int
def memE (m : MemT) : List Value := [.int .i64 m.1, .int .i64 m.2]
def memV (m : MemT) : Value := .agg #[.int .i64 m.1, .int .i64 m.2]
def memOk (m : MemT) : Prop := (-9223372036854775808 ≤ m.1 ∧ m.1 ≤ 9223372036854775807) ∧ (-9223372036854775808 ≤ m.2 ∧ m.2 ≤ 9223372036854775807)
structure ConfT where
  ep : Int
  mv : Value
  ms : List MemT
  fl : Int
instance : Inhabited ConfT := ⟨⟨0, .slice none 0 0, [], 0⟩⟩
def confE (c : ConfT) : List Value := [.int .i64 c.ep, c.mv, .int .u64 c.fl]
def confV (c : ConfT) : Value := .agg #[.int .i64 c.ep, c.mv, .int .u64 c.fl]
structure ConfOk (w : World) (c : ConfT) : Prop where
  ms : SliceOf memE 2 w c.mv c.ms
  each : ∀ m ∈ c.ms, memOk m
  e0 : -9223372036854775808 ≤ c.ep
  e1 : c.ep ≤ 9223372036854775807
  f0 : 0 ≤ c.fl
  f1 : c.fl < 18446744073709551616
theorem ConfOk.below {w w' : World} {c : ConfT} (h : ConfOk w c) (hb : Below w.heap.size w w') : ConfOk w' c := ⟨h.ms.below hb, h.each, h.e0, h.e1, h.f0, h.f1⟩
/-- The place of the first member of which P holds. -/
def fndF (P : MemT → Bool) : List MemT → Nat → Int
  | [], _ => -1
  | m :: r, i => if P m then (i : Int) else fndF P r (i + 1)
theorem fndF_cons {P : MemT → Bool} {l : List MemT} {i : Nat} (h : i < l.length) : fndF P (l.drop i) i = if P l[i] then (i : Int) else fndF P (l.drop (i + 1)) (i + 1) := by
  rw [List.drop_eq_getElem_cons h]; rfl
theorem fndF_end {P : MemT → Bool} {l : List MemT} {i : Nat} (h : l.length ≤ i) : fndF P (l.drop i) i = -1 := by
  rw [List.drop_eq_nil_of_le h]; rfl
def fnd (P : MemT → Bool) (l : List MemT) : Int := fndF P l 0
theorem neq_mem (a b : MemT) (w : World) : (binOp .neq 112 (memV a) (memV b)).run Tryz.prog w = .ok (.bool (!(a == b))) w := by
  have u := Tryz.underlying3
  have hS : Tryz.prog.underlying 112 = some (.struct (Tryz.prog.fieldsOf 112)) := by kernel_rfl
  have hp : Tryz.prog.stoodInHeld 112 = false := by kernel_rfl
  obtain ⟨a1, a2⟩ := a
  obtain ⟨b1, b2⟩ := b
  unfold memV
  rw [run_neq_struct, show (10000 : Nat) = 9999 + 1 from rfl, run_equalIn_agg w 9999 112 _ _ hS hp]
  simp only [Program.fieldsOf, Tryz.underlying112]
  go_simp
  by_cases h1 : a1 = b1 <;> by_cases h2 : a2 = b2 <;> simp [h1, h2]
set_option maxRecDepth 100000 in
set_option maxHeartbeats 1600000 in
theorem first_any (F : FuncId) (p : Value) (P : MemT → Bool) (v : Value) (l : List MemT) (w : World) (hs : SliceOf memE 2 w v l)
    (hF : ∀ (x : Value) (u : World), Sem.run Tryz.prog (callFunc F #[x, p]) u = .ok (.enter F #[x, p]) u)
    (hc : ∀ (m : MemT) (u : World), Below w.heap.size w u → Calls Tryz.prog F #[memV m, p] u fun e u' => e = .returned (.bool (P m)) ∧ Below u.heap.size u u') :
    Calls Tryz.prog 86 #[v, .func (.func F) #[] #[p]] w fun e w' => e = .returned (.int .i64 (fnd P l)) ∧ Below w.heap.size w w' := by
  obtain ⟨ao, cap, rfl, hcap, hcm, _, hcell⟩ := hs
  have HC := Lib.hid hcell; have HCC := Lib.hid hc; have HFF := Lib.hid hF
  clear hcell hc hF
  have hF := HFF.out
  go_enter Tryz.func86, Tryz.ntmps86
  go_wp2
  go_loopg [9] (l.length + 1) (fun g s9 wr => ∃ i : Nat, s9 = .int .i64 i ∧ i ≤ l.length ∧ l.length + 1 ≤ i + g ∧ fnd P l = fndF P (l.drop i) i ∧ Below w.heap.size w wr)
  case atStart => exact ⟨0, rfl, by omega, by omega, rfl, Below.refl _ _⟩
  case round =>
    obtain ⟨i, rfl, hi, hg, hf, hbel⟩ := hrel
    have HB := Lib.hid hbel; have hsz := hbel.size; have HFD := Lib.hid hf
    clear hbel hf
    by_cases hlt : i < l.length
    · obtain ⟨b, off, rfl, hr⟩ := HC.out i hlt
      have hr1 : wr.rangeAt b (off + i * 2) (memE l[i]) := fun j u hu => cell_below HB.out (hr j u hu)
      have HS := Lib.hid (fndF_cons (P := P) hlt)
      obtain ⟨m, hm⟩ : ∃ m, m = l[i] := ⟨_, rfl⟩
      rw [← hm] at hr1 HS
      have HR := Lib.hid hr1
      clear hr hr1 hm
      have HB1 := Lib.hid (HB.out.alloc hsz (.cells #[.int .i64 m.1, .int .i64 m.2] 112))
      by_cases hP : P m = true
      · have HS2 : Hid (fnd P l = i) := Lib.hid (by rw [HFD.out, HS.out, if_pos hP])
        go_wp2_with (refine wpList_load_mid rfl 112 (.tmp 12) rfl b (off + i * 2) rfl (memE m) _ HR.out Tryz.underlying112 rfl (by kernel_rfl) ?_; unfold memE)
        refine (HCC.out m _ HB1.out).mono ?_
        rintro e w2 ⟨rfl, hb⟩
        have HB2 := Lib.hid (HB1.out.trans (hb.mono HB1.out.size))
        clear hb
        rw [hP]
        go_wp2
        go_ret
        exact ⟨ret_int HS2.out.symm, HB2.out⟩
      · have hP2 : P m = false := by simpa using hP
        have HS2 : Hid (fnd P l = fndF P (l.drop (i + 1)) (i + 1)) := Lib.hid (by rw [HFD.out, HS.out, if_neg hP])
        clear hP
        go_wp2_with (refine wpList_load_mid rfl 112 (.tmp 12) rfl b (off + i * 2) rfl (memE m) _ HR.out Tryz.underlying112 rfl (by kernel_rfl) ?_; unfold memE)
        refine (HCC.out m _ HB1.out).mono ?_
        rintro e w2 ⟨rfl, hb⟩
        have HB2 := Lib.hid (HB1.out.trans (hb.mono HB1.out.size))
        clear hb
        rw [hP2]
        go_wp2
        go_roundg (gk - 1)
        case rel => exact ⟨i + 1, by go_num, by omega, by omega, HS2.out, HB2.out⟩
        case measure => omega
    · have HS2 : Hid (fnd P l = -1) := Lib.hid (by rw [HFD.out, fndF_end (by omega)])
      go_wp2
      go_ret
      exact ⟨ret_int HS2.out.symm, HB.out⟩

set_option maxRecDepth 100000 in
set_option maxHeartbeats 1600000 in
theorem hasId (b : Nat) (m o : MemT) (w : World) (h0 : w.cell? ⟨b, 0, none⟩ = some (.int .i64 m.1)) (h1 : w.cell? ⟨b, 1, none⟩ = some (.int .i64 m.2)) :
    Calls Tryz.prog 85 #[memV o, .pointer (some ⟨b, 0, none⟩)] w fun e w' => e = .returned (.bool (o.1 == m.1)) ∧ Below w.heap.size w w' := by
  have hbs : b < w.heap.size := World.block_lt_of_cell? w _ h0
  unfold memV
  go_enter Tryz.func85, Tryz.ntmps85
  go_wp2
  go_ret
  exact ⟨rfl, (Below.refl _ _).alloc (Nat.le_refl _) _⟩
end Go.Proofs.YtniojcnkjehflaaGreat

/- Package conf and the document's own: places, who stands ahead and behind. Conditions: none. -/
namespace Go.Proofs.YtniojcnkjehflaaGreat
open Go.RowKit Go.PlainAid

def HA (n : Nat) (c : ConfT) (m : MemT) (w' : World) : Prop := w'.cell? ⟨n, 0, none⟩ = some (.int .i64 c.ep) ∧ w'.cell? ⟨n, 1, none⟩ = some c.mv ∧ w'.cell? ⟨n, 2, none⟩ = some (.int .u64 c.fl) ∧ w'.cell? ⟨n + 1, 0, none⟩ = some (.int .i64 m.1) ∧ w'.cell? ⟨n + 1, 1, none⟩ = some (.int .i64 m.2)
end Go.Proofs.YtniojcnkjehflaaGreat

/- Package conf and the document's own: what is wrong with a configuration. Conditions: none. -/
namespace Go.Proofs.YtniojcnkjehflaaGreat
open Go.RowKit Go.PlainAid

def badId (m : MemT) : Prop := m.1 < 0 ∨ 4 ≤ m.1
def badSer (m : MemT) : Prop := m.2 < 1 ∨ 1073741824 < m.2
instance (m : MemT) : Decidable (badId m) := by unfold badId; infer_instance
instance (m : MemT) : Decidable (badSer m) := by unfold badSer; infer_instance
def chkM : List MemT → List MemT → Int
  | _, [] => 0
  | pre, m :: r => if badId m then 1 else if badSer m then 5 else if 0 ≤ fnd (fun o => o.1 == m.1) pre then 18 else chkM (pre ++ [m]) r
def chkC (ep : Int) (ms : List MemT) : Int := if ep < 1 ∨ 1073741824 < ep then 5 else if ms.length = 0 then 7 else if 4 < ms.length then 6 else chkM [] ms
theorem takeS {α : Type} {l : List α} {i : Nat} (h : i < l.length) : l.take (i + 1) = l.take i ++ [l[i]] := by
  rw [List.take_add_one, List.getElem?_eq_getElem h]; rfl
theorem chkM_at {ms : List MemT} {i : Nat} (h : i < ms.length) : chkM (ms.take i) (ms.drop i) = if badId ms[i] then 1 else if badSer ms[i] then 5 else if 0 ≤ fnd (fun o => o.1 == ms[i].1) (ms.take i) then 18 else chkM (ms.take (i + 1)) (ms.drop (i + 1)) := by
  rw [List.drop_eq_getElem_cons h, takeS h]; rfl
theorem chkM_end {ms : List MemT} {i : Nat} (h : ms.length ≤ i) : chkM (ms.take i) (ms.drop i) = 0 := by
  rw [List.drop_eq_nil_of_le h]; rfl
theorem SliceOf.takeN {α : Type} {enc : α → List Value} {sz : Nat} {w : World} {ao : Option Addr} {cap : Nat} {l : List α} (h : SliceOf enc sz w (.slice ao l.length cap) l) (i : Nat) (hi : i ≤ l.length) : SliceOf enc sz w (.slice ao i cap) (l.take i) := by
  obtain ⟨ao', cap', hv, h1, h2, h3, h4⟩ := h
  injection hv with e1 e2 e3
  subst e1 e3
  have hl : (l.take i).length = i := by rw [List.length_take]; omega
  refine ⟨ao, cap, by rw [hl], by omega, h2, fun e => ⟨by have := (h3 e).1; omega, (h3 e).2⟩, fun j hj => ?_⟩
  obtain ⟨b, off, e, hr⟩ := h4 j (by omega)
  refine ⟨b, off, e, ?_⟩
  rw [List.getElem_take]; exact hr
set_option maxRecDepth 100000 in
set_option maxHeartbeats 3200000 in
theorem cf_check_any (c : ConfT) (w : World) (h : ConfOk w c) :
    Calls Tryz.prog 51 #[confV c] w fun e w' => e = .returned (.int .i64 (chkC c.ep c.ms)) ∧ Below w.heap.size w w' := by
  have hmf : ∀ (fn : Fn) (first cap : Array Value) (w : World), (Instr.makeFunc fn first cap).run Tryz.prog w = .ok (.func fn first cap) w := fun _ _ _ _ => rfl
  obtain ⟨ep, mv, ms, fl⟩ := c
  have hms := h.ms
  obtain ⟨ao, cap, hmv, hcap, hcm, _, hcell⟩ := h.ms
  simp only at hmv hcap hcell hms ⊢
  subst hmv
  unfold confV
  obtain ⟨W, hW⟩ : ∃ W, W = (w.alloc (.cells #[.int .i64 ep, .slice ao ms.length cap, .int .u64 fl] 31)) := ⟨_, rfl⟩
  have hb1 : Below w.heap.size w W := by rw [hW]; exact (Below.refl _ _).alloc (Nat.le_refl _) _
  have q0 : W.cell? ⟨w.heap.size, 0, none⟩ = some (.int .i64 ep) := by rw [hW]; simp
  have q1 : W.cell? ⟨w.heap.size, 1, none⟩ = some (.slice ao ms.length cap) := by rw [hW]; simp
  have Q1 := Lib.hid q1
  have HB := Lib.hid hb1; have HW := Lib.hid hW; have HC := Lib.hid hcell; have HMS := Lib.hid hms
  clear h hb1 hW hcell hms
  by_cases he : ep < 1 ∨ 1073741824 < ep
  · have HZ : Hid (chkC ep ms = 5) := Lib.hid (by unfold chkC; rw [if_pos he])
    rcases (show ep < 1 ∨ (1 ≤ ep ∧ 1073741824 < ep) by omega) with h1 | ⟨h1, h2⟩
    all_goals
      clear he
      go_enter Tryz.func51, Tryz.ntmps51
      go_wp2_with fail
      go_ret
      exact ⟨ret_int HZ.out.symm, by have := HB.out; rw [HW.out] at this; exact this⟩
  · have h1 : 1 ≤ ep := by omega
    have h2 : ep ≤ 1073741824 := by omega
    by_cases hl0 : ms.length = 0
    · have HZ : Hid (chkC ep ms = 7) := Lib.hid (by unfold chkC; rw [if_neg he, if_pos hl0])
      have hl1 : ((ms.length : Int) == 0) = true := by simp [hl0]
      clear he hl0
      go_enter Tryz.func51, Tryz.ntmps51
      go_wp2_with fail
      go_ret
      exact ⟨ret_int HZ.out.symm, by have := HB.out; rw [HW.out] at this; exact this⟩
    · have hl1 : ((ms.length : Int) == 0) = false := beq_eq_false_iff_ne.2 (by omega)
      by_cases hl4 : 4 < ms.length
      · have HZ : Hid (chkC ep ms = 6) := Lib.hid (by unfold chkC; rw [if_neg he, if_neg hl0, if_pos hl4])
        clear he hl0
        go_enter Tryz.func51, Tryz.ntmps51
        go_wp2_with fail
        go_ret
        exact ⟨ret_int HZ.out.symm, by have := HB.out; rw [HW.out] at this; exact this⟩
      · have HZ : Hid (chkC ep ms = chkM (ms.take 0) (ms.drop 0)) := Lib.hid (by unfold chkC; rw [if_neg he, if_neg hl0, if_neg hl4]; rfl)
        clear he hl0
        go_enter Tryz.func51, Tryz.ntmps51
        go_wp2_with fail
        rw [← HW.out]
        go_loopg [25] (ms.length + 1) (fun g s25 wr => ∃ i : Nat, s25 = .int .i64 i ∧ i ≤ ms.length ∧ ms.length + 1 ≤ i + g ∧ chkC ep ms = chkM (ms.take i) (ms.drop i) ∧ Below W.heap.size W wr)
        case atStart => exact ⟨0, rfl, by omega, by omega, HZ.out, Below.refl _ _⟩
        case round =>
          clear HZ
          obtain ⟨i, rfl, hi, hg, hf, hwr⟩ := hrel
          have HF := Lib.hid hf; have HWR := Lib.hid hwr
          have hbw : Below w.heap.size w wr := HB.out.trans (hwr.mono HB.out.size)
          have HBW := Lib.hid hbw
          have q1 := cell_below hwr Q1.out
          have hsz := hbw.size
          have hszW : w.heap.size < wr.heap.size := World.block_lt_of_cell? wr _ q1
          clear hf hwr hbw
          by_cases hlt : i < ms.length
          · obtain ⟨b, off, rfl, hr⟩ := HC.out i hlt
            have hr1 : wr.rangeAt b (off + i * 2) (memE ms[i]) := fun j u hu => cell_below HBW.out (hr j u hu)
            have HS := Lib.hid (chkM_at hlt)
            obtain ⟨m, hm⟩ : ∃ m, m = ms[i] := ⟨_, rfl⟩
            rw [← hm] at hr1 HS
            have HR := Lib.hid hr1
            obtain ⟨W2, hW2⟩ : ∃ W2, W2 = wr.alloc (.cells #[.int .i64 m.1, .int .i64 m.2] 112) := ⟨_, rfl⟩
            have hb2 : Below wr.heap.size wr W2 := by rw [hW2]; exact (Below.refl _ _).alloc (Nat.le_refl _) _
            have c0 : W2.cell? ⟨wr.heap.size, 0, none⟩ = some (.int .i64 m.1) := by rw [hW2]; simp
            have c1 : W2.cell? ⟨wr.heap.size, 1, none⟩ = some (.int .i64 m.2) := by rw [hW2]; simp
            have C0 := Lib.hid c0; have C1 := Lib.hid c1
            have HB2 := Lib.hid (HBW.out.trans (hb2.mono hsz))
            have HBW2 := Lib.hid (HWR.out.trans (hb2.mono HWR.out.size))
            have HT := Lib.hid ((HMS.out.takeN i hi).below HB2.out)
            have HW2 := Lib.hid hW2
            clear hr hr1 hm hW2 hb2 c0 c1
            by_cases hbi : badId m
            · have HZ : Hid (chkC ep ms = 1) := Lib.hid (by rw [HF.out, HS.out, if_pos hbi])
              unfold badId at hbi
              rcases (show m.1 < 0 ∨ (0 ≤ m.1 ∧ 4 ≤ m.1) by omega) with k1 | ⟨k1, k2⟩
              all_goals
                clear hbi
                go_wp2_with (refine wpList_load_mid rfl 112 (.tmp 28) rfl b (off + i * 2) rfl (memE m) _ HR.out Tryz.underlying112 rfl (by kernel_rfl) ?_; unfold memE)
                go_ret
                exact ⟨ret_int HZ.out.symm, by have := HB2.out; rw [HW2.out] at this; exact this⟩
            · by_cases hbs : badSer m
              · have HZ : Hid (chkC ep ms = 5) := Lib.hid (by rw [HF.out, HS.out, if_neg hbi, if_pos hbs])
                unfold badId at hbi
                unfold badSer at hbs
                have k1 : 0 ≤ m.1 := by omega
                have k2 : m.1 < 4 := by omega
                rcases (show m.2 < 1 ∨ (1 ≤ m.2 ∧ 1073741824 < m.2) by omega) with k3 | ⟨k3, k4⟩
                all_goals
                  clear hbi hbs
                  go_wp2_with (refine wpList_load_mid rfl 112 (.tmp 28) rfl b (off + i * 2) rfl (memE m) _ HR.out Tryz.underlying112 rfl (by kernel_rfl) ?_; unfold memE)
                  go_ret
                  exact ⟨ret_int HZ.out.symm, by have := HB2.out; rw [HW2.out] at this; exact this⟩
              · obtain ⟨r, hr⟩ : ∃ r, r = fnd (fun o => o.1 == m.1) (ms.take i) := ⟨_, rfl⟩
                by_cases h0 : 0 ≤ r
                · have HZ : Hid (chkC ep ms = 18) := Lib.hid (by rw [HF.out, HS.out, if_neg hbi, if_neg hbs, if_pos (by omega)])
                  unfold badId at hbi
                  unfold badSer at hbs
                  have k1 : 0 ≤ m.1 := by omega
                  have k2 : m.1 < 4 := by omega
                  have k3 : 1 ≤ m.2 := by omega
                  have k4 : m.2 ≤ 1073741824 := by omega
                  have HRr := Lib.hid hr
                  clear hbi hbs hr
                  go_wp2_with (refine wpList_load_mid rfl 112 (.tmp 28) rfl b (off + i * 2) rfl (memE m) _ HR.out Tryz.underlying112 rfl (by kernel_rfl) ?_; unfold memE)
                  rw [← HW2.out]
                  refine (first_any 85 (.pointer (some ⟨wr.heap.size, 0, none⟩)) (fun o => o.1 == m.1) _ (ms.take i) _ HT.out (fun _ _ => rfl) (fun o u hb => hasId _ m o u (cell_below hb C0.out) (cell_below hb C1.out))).mono ?_
                  rintro e w3 ⟨rfl, hb⟩
                  rw [← HRr.out]
                  have HB3 := Lib.hid (HB2.out.trans (hb.mono HB2.out.size))
                  clear hb
                  go_wp2
                  go_ret
                  exact ⟨ret_int HZ.out.symm, HB3.out⟩
                · have HZ : Hid (chkC ep ms = chkM (ms.take (i + 1)) (ms.drop (i + 1))) := Lib.hid (by rw [HF.out, HS.out, if_neg hbi, if_neg hbs, if_neg (by omega)])
                  unfold badId at hbi
                  unfold badSer at hbs
                  have k1 : 0 ≤ m.1 := by omega
                  have k2 : m.1 < 4 := by omega
                  have k3 : 1 ≤ m.2 := by omega
                  have k4 : m.2 ≤ 1073741824 := by omega
                  have HRr := Lib.hid hr
                  clear hbi hbs hr
                  go_wp2_with (refine wpList_load_mid rfl 112 (.tmp 28) rfl b (off + i * 2) rfl (memE m) _ HR.out Tryz.underlying112 rfl (by kernel_rfl) ?_; unfold memE)
                  rw [← HW2.out]
                  refine (first_any 85 (.pointer (some ⟨wr.heap.size, 0, none⟩)) (fun o => o.1 == m.1) _ (ms.take i) _ HT.out (fun _ _ => rfl) (fun o u hb => hasId _ m o u (cell_below hb C0.out) (cell_below hb C1.out))).mono ?_
                  rintro e w3 ⟨rfl, hb⟩
                  rw [← HRr.out]
                  have HB3 := Lib.hid (HBW2.out.trans (hb.mono HBW2.out.size))
                  clear hb
                  go_wp2
                  go_roundg (gk - 1)
                  case rel => exact ⟨i + 1, by go_num, by omega, by omega, HZ.out, HB3.out⟩
                  case measure => omega
          · have HZ : Hid (chkC ep ms = 0) := Lib.hid (by rw [HF.out, chkM_end (by omega)])
            go_wp2
            go_ret
            exact ⟨ret_int HZ.out.symm, HBW.out⟩
end Go.Proofs.YtniojcnkjehflaaGreat

/- The document's own conf: what is wrong with a configuration. Conditions: none. -/
namespace Go.Proofs.YtniojcnkjehflaaGreat
open Go.RowKit Go.PlainAid

set_option maxRecDepth 100000 in
set_option maxHeartbeats 3200000 in
theorem cf_rcheck_any (c : ConfT) (w : World) (h : ConfOk w c) :
    Calls Tryz.prog 64 #[confV c] w fun e w' => e = .returned (.int .i64 (chkC c.ep c.ms)) ∧ Below w.heap.size w w' := by
  have hmf : ∀ (fn : Fn) (first cap : Array Value) (w : World), (Instr.makeFunc fn first cap).run Tryz.prog w = .ok (.func fn first cap) w := fun _ _ _ _ => rfl
  obtain ⟨ep, mv, ms, fl⟩ := c
  have hms := h.ms
  obtain ⟨ao, cap, hmv, hcap, hcm, _, hcell⟩ := h.ms
  simp only at hmv hcap hcell hms ⊢
  subst hmv
  unfold confV
  obtain ⟨W, hW⟩ : ∃ W, W = (w.alloc (.cells #[.int .i64 ep, .slice ao ms.length cap, .int .u64 fl] 31)) := ⟨_, rfl⟩
  have hb1 : Below w.heap.size w W := by rw [hW]; exact (Below.refl _ _).alloc (Nat.le_refl _) _
  have q0 : W.cell? ⟨w.heap.size, 0, none⟩ = some (.int .i64 ep) := by rw [hW]; simp
  have q1 : W.cell? ⟨w.heap.size, 1, none⟩ = some (.slice ao ms.length cap) := by rw [hW]; simp
  have Q1 := Lib.hid q1
  have HB := Lib.hid hb1; have HW := Lib.hid hW; have HC := Lib.hid hcell; have HMS := Lib.hid hms
  clear h hb1 hW hcell hms
  by_cases he : ep < 1 ∨ 1073741824 < ep
  · have HZ : Hid (chkC ep ms = 5) := Lib.hid (by unfold chkC; rw [if_pos he])
    rcases (show ep < 1 ∨ (1 ≤ ep ∧ 1073741824 < ep) by omega) with h1 | ⟨h1, h2⟩
    all_goals
      clear he
      go_enter Tryz.func64, Tryz.ntmps64
      go_wp2_with fail
      go_ret
      exact ⟨ret_int HZ.out.symm, by have := HB.out; rw [HW.out] at this; exact this⟩
  · have h1 : 1 ≤ ep := by omega
    have h2 : ep ≤ 1073741824 := by omega
    by_cases hl0 : ms.length = 0
    · have HZ : Hid (chkC ep ms = 7) := Lib.hid (by unfold chkC; rw [if_neg he, if_pos hl0])
      have hl1 : ((ms.length : Int) == 0) = true := by simp [hl0]
      clear he hl0
      go_enter Tryz.func64, Tryz.ntmps64
      go_wp2_with fail
      go_ret
      exact ⟨ret_int HZ.out.symm, by have := HB.out; rw [HW.out] at this; exact this⟩
    · have hl1 : ((ms.length : Int) == 0) = false := beq_eq_false_iff_ne.2 (by omega)
      by_cases hl4 : 4 < ms.length
      · have HZ : Hid (chkC ep ms = 6) := Lib.hid (by unfold chkC; rw [if_neg he, if_neg hl0, if_pos hl4])
        clear he hl0
        go_enter Tryz.func64, Tryz.ntmps64
        go_wp2_with fail
        go_ret
        exact ⟨ret_int HZ.out.symm, by have := HB.out; rw [HW.out] at this; exact this⟩
      · have HZ : Hid (chkC ep ms = chkM (ms.take 0) (ms.drop 0)) := Lib.hid (by unfold chkC; rw [if_neg he, if_neg hl0, if_neg hl4]; rfl)
        clear he hl0
        go_enter Tryz.func64, Tryz.ntmps64
        go_wp2_with fail
        rw [← HW.out]
        go_loopg [3] (ms.length + 1) (fun g s3 wr => ∃ i : Nat, s3 = .int .i64 i ∧ i ≤ ms.length ∧ ms.length + 1 ≤ i + g ∧ chkC ep ms = chkM (ms.take i) (ms.drop i) ∧ Below W.heap.size W wr)
        case atStart => exact ⟨0, rfl, by omega, by omega, HZ.out, Below.refl _ _⟩
        case round =>
          clear HZ
          obtain ⟨i, rfl, hi, hg, hf, hwr⟩ := hrel
          have HF := Lib.hid hf; have HWR := Lib.hid hwr
          have hbw : Below w.heap.size w wr := HB.out.trans (hwr.mono HB.out.size)
          have HBW := Lib.hid hbw
          have q1 := cell_below hwr Q1.out
          have hsz := hbw.size
          have hszW : w.heap.size < wr.heap.size := World.block_lt_of_cell? wr _ q1
          clear hf hwr hbw
          by_cases hlt : i < ms.length
          · obtain ⟨b, off, rfl, hr⟩ := HC.out i hlt
            have hr1 : wr.rangeAt b (off + i * 2) (memE ms[i]) := fun j u hu => cell_below HBW.out (hr j u hu)
            have HS := Lib.hid (chkM_at hlt)
            obtain ⟨m, hm⟩ : ∃ m, m = ms[i] := ⟨_, rfl⟩
            rw [← hm] at hr1 HS
            have HR := Lib.hid hr1; have HR0 := Lib.hid hr1
            obtain ⟨W2, hW2⟩ : ∃ W2, W2 = wr.alloc (.cells #[.int .i64 m.1, .int .i64 m.2] 112) := ⟨_, rfl⟩
            have hb2 : Below wr.heap.size wr W2 := by rw [hW2]; exact (Below.refl _ _).alloc (Nat.le_refl _) _
            have c0 : W2.cell? ⟨wr.heap.size, 0, none⟩ = some (.int .i64 m.1) := by rw [hW2]; simp
            have c1 : W2.cell? ⟨wr.heap.size, 1, none⟩ = some (.int .i64 m.2) := by rw [hW2]; simp
            have C0 := Lib.hid c0; have C1 := Lib.hid c1
            have HB2 := Lib.hid (HBW.out.trans (hb2.mono hsz))
            have HBW2 := Lib.hid (HWR.out.trans (hb2.mono HWR.out.size))
            have HT := Lib.hid ((HMS.out.takeN i hi).below HB2.out)
            have HW2 := Lib.hid hW2
            clear hr hr1 hm hW2 hb2 c0 c1
            by_cases hbi : badId m
            · have HZ : Hid (chkC ep ms = 1) := Lib.hid (by rw [HF.out, HS.out, if_pos hbi])
              unfold badId at hbi
              rcases (show m.1 < 0 ∨ (0 ≤ m.1 ∧ 4 ≤ m.1) by omega) with k1 | ⟨k1, k2⟩
              all_goals
                clear hbi
                go_wp2_with (refine wpList_load_mid rfl 112 (.tmp 32) rfl b (off + i * 2) rfl (memE m) _ HR.out Tryz.underlying112 rfl (by kernel_rfl) ?_; unfold memE)
                go_ret
                exact ⟨ret_int HZ.out.symm, by have := HB2.out; rw [HW2.out] at this; exact this⟩
            · by_cases hbs : badSer m
              · have HZ : Hid (chkC ep ms = 5) := Lib.hid (by rw [HF.out, HS.out, if_neg hbi, if_pos hbs])
                unfold badId at hbi
                unfold badSer at hbs
                have k1 : 0 ≤ m.1 := by omega
                have k2 : m.1 < 4 := by omega
                rcases (show m.2 < 1 ∨ (1 ≤ m.2 ∧ 1073741824 < m.2) by omega) with k3 | ⟨k3, k4⟩
                all_goals
                  clear hbi hbs
                  go_wp2_with (refine wpList_load_mid rfl 112 (.tmp 32) rfl b (off + i * 2) rfl (memE m) _ HR.out Tryz.underlying112 rfl (by kernel_rfl) ?_; unfold memE)
                  go_ret
                  exact ⟨ret_int HZ.out.symm, by have := HB2.out; rw [HW2.out] at this; exact this⟩
              · have HZ2 : Hid (0 ≤ fnd (fun o => o.1 == m.1) (ms.take i) → chkC ep ms = 18) := Lib.hid (fun h => by rw [HF.out, HS.out, if_neg hbi, if_neg hbs, if_pos h])
                have HZ3 : Hid (¬ 0 ≤ fnd (fun o => o.1 == m.1) (ms.take i) → chkC ep ms = chkM (ms.take (i + 1)) (ms.drop (i + 1))) := Lib.hid (fun h => by rw [HF.out, HS.out, if_neg hbi, if_neg hbs, if_neg h])
                unfold badId at hbi
                unfold badSer at hbs
                have k1 : 0 ≤ m.1 := by omega
                have k2 : m.1 < 4 := by omega
                have k3 : 1 ≤ m.2 := by omega
                have k4 : m.2 ≤ 1073741824 := by omega
                have hzW2 : W2.heap.size = wr.heap.size + 1 := by rw [HW2.out]; simp
                have HQ2 := Lib.hid (cell_below HBW2.out Q1.out)
                clear hbi hbs HF HS HR hzW2
                obtain ⟨bm, hbm⟩ : ∃ bm, bm = wr.heap.size := ⟨_, rfl⟩
                go_wp2_with (refine wpList_load_mid rfl 112 (.tmp 32) rfl b (off + i * 2) rfl (memE m) _ (fun j u hu => HR0.out j u hu) Tryz.underlying112 rfl (by kernel_rfl) ?_; unfold memE)
                rw [← HW2.out]
                rw [← hbm] at C0 C1 ⊢
                obtain ⟨gO, hgO⟩ : ∃ gO, gO = gk := ⟨_, rfl⟩
                rw [← hgO] at hg
                have HGO := Lib.hid hgO
                obtain ⟨wo, hwo⟩ : ∃ wo : World, wo = wr := ⟨_, rfl⟩
                clear hbm hszW hsz hgO q1 hwo
                go_loopg [5] (i + 1) (fun g s5 wr => ∃ k : Nat, s5 = .int .i64 k ∧ k ≤ i ∧ i + 1 ≤ k + g ∧ fnd (fun o => o.1 == m.1) (ms.take i) = fndF (fun o => o.1 == m.1) ((ms.take i).drop k) k ∧ Below W2.heap.size W2 wr)
                case atStart => exact ⟨0, rfl, by omega, by omega, rfl, Below.refl _ _⟩
                case round =>
                  obtain ⟨k, rfl, hk, hg2, hf2, hwq⟩ := hrel
                  have hbq : Below w.heap.size w wr := HB2.out.trans (hwq.mono HB2.out.size)
                  have hbQ : Below W.heap.size W wr := HBW2.out.trans (hwq.mono HBW2.out.size)
                  have q1 := cell_below hwq HQ2.out
                  have e0 := cell_below hwq C0.out
                  have HBQ := Lib.hid hbq; have HBQW := Lib.hid hbQ; have HF2 := Lib.hid hf2; have HWQ := Lib.hid hwq
                  clear hf2 hwq hbQ
                  by_cases hlt2 : k < i
                  · obtain ⟨b2, off2, he2, hr2⟩ := HC.out k (by omega)
                    have hkl : k < (ms.take i).length := by rw [List.length_take]; omega
                    have HS2 := Lib.hid (fndF_cons (P := fun o => o.1 == m.1) hkl)
                    have hge : (ms.take i)[k] = ms[k] := by rw [List.getElem_take]
                    rw [hge] at HS2
                    injection he2 with he3
                    injection he3 with h31 h32 h33
                    subst h31 h32
                    have d0 := cell_below hbq (hr2 0 _ rfl)
                    rw [Nat.add_zero] at d0
                    obtain ⟨o, ho⟩ : ∃ o, o = ms[k] := ⟨_, rfl⟩
                    rw [← ho] at d0 HS2
                    have hkm : k < ms.length := by omega
                    clear hr2 ho hge hbq hkl
                    by_cases hP : (o.1 == m.1) = true
                    · have HS3 : Hid (chkC ep ms = 18) := Lib.hid (HZ2.out (by rw [HF2.out, HS2.out]; simp only [hP, if_true]; omega))
                      go_wp2_with fail
                      go_quiet (fail)
                      go_wp2
                      go_ret
                      exact ⟨ret_int HS3.out.symm, below_draws HBQ.out _⟩
                    · have hP2 : (o.1 == m.1) = false := by simpa using hP
                      have HS3 : Hid (fnd (fun o => o.1 == m.1) (ms.take i) = fndF (fun o => o.1 == m.1) ((ms.take i).drop (k + 1)) (k + 1)) := Lib.hid (by rw [HF2.out, HS2.out]; simp only [hP2]; rfl)
                      clear hP
                      go_wp2_with fail
                      go_quiet (fail)
                      go_wp2
                      go_roundg (gk - 1)
                      case rel => exact ⟨k + 1, by go_num, by omega, by omega, HS3.out, below_draws HWQ.out _⟩
                      case measure => omega
                  · have HS3 : Hid (fnd (fun o => o.1 == m.1) (ms.take i) = -1) := Lib.hid (by rw [HF2.out, fndF_end (by rw [List.length_take]; omega)])
                    have HZ4 := Lib.hid (HZ3.out (by rw [HS3.out]; omega))
                    clear hbq
                    go_wp2
                    go_roundg (gO - 1)
                    case rel => exact ⟨i + 1, by go_num, by omega, by omega, HZ4.out, HBQW.out⟩
                    case measure => have := HGO.out; omega
          · have HZ : Hid (chkC ep ms = 0) := Lib.hid (by rw [HF.out, chkM_end (by omega)])
            go_wp2
            go_ret
            exact ⟨ret_int HZ.out.symm, HBW.out⟩
end Go.Proofs.YtniojcnkjehflaaGreat

/- Package conf and the document's own: are two configurations the same? Conditions: none. -/
namespace Go.Proofs.YtniojcnkjehflaaGreat
open Go.RowKit Go.PlainAid

def sameC (a b : ConfT) : Bool := decide (a.ep = b.ep ∧ a.fl = b.fl ∧ a.ms = b.ms)
theorem ne_of_at {l k : List MemT} {i : Nat} (h1 : i < l.length) (h2 : i < k.length) (h : l[i] ≠ k[i]) : l ≠ k := by
  intro e; subst e; exact h rfl
theorem eq_of_takes {l k : List MemT} (hl : l.length = k.length) (h : l.take l.length = k.take l.length) : l = k := by
  rw [List.take_length, hl, List.take_length] at h; exact h
theorem two_confs (w : World) (a b : ConfT) : Below w.heap.size w ((w.alloc (.cells #[.int .i64 a.ep, a.mv, .int .u64 a.fl] 31)).alloc (.cells #[.int .i64 b.ep, b.mv, .int .u64 b.fl] 31)) :=
  ((Below.refl _ _).alloc (Nat.le_refl _) _).alloc (by simp) _
set_option maxRecDepth 100000 in
set_option maxHeartbeats 3200000 in
theorem rsame_any (a b : ConfT) (w : World) (ha : ConfOk w a) (hb : ConfOk w b) :
    Calls Tryz.prog 30 #[confV a, confV b] w fun e w' => e = .returned (.bool (sameC a b)) ∧ Below w.heap.size w w' := by
  obtain ⟨W, hW⟩ : ∃ W, W = ((w.alloc (.cells #[.int .i64 a.ep, a.mv, .int .u64 a.fl] 31)).alloc (.cells #[.int .i64 b.ep, b.mv, .int .u64 b.fl] 31)) := ⟨_, rfl⟩
  have hb1 := two_confs w a b
  rw [← hW] at hb1
  have HB := Lib.hid hb1
  obtain ⟨aep, amv, l, afl⟩ := a
  obtain ⟨bep, bmv, k, bfl⟩ := b
  obtain ⟨ao1, cap1, hv1, hcap1, hcm1, _, hcell1⟩ := ha.ms
  obtain ⟨ao2, cap2, hv2, hcap2, hcm2, _, hcell2⟩ := hb.ms
  simp only at hv1 hcap1 hcell1 hv2 hcap2 hcell2 hW ⊢
  subst hv1 hv2
  have q1 : W.cell? ⟨w.heap.size, 1, none⟩ = some (.slice ao1 l.length cap1) := by rw [hW]; simp
  have q2 : W.cell? ⟨w.heap.size + 1, 1, none⟩ = some (.slice ao2 k.length cap2) := by rw [hW]; simp
  have Q1 := Lib.hid q1; have Q2 := Lib.hid q2; have HW := Lib.hid hW
  have HC1 := Lib.hid hcell1; have HC2 := Lib.hid hcell2
  have heq := fun o m => neq_mem o m
  unfold memV at heq
  have HEq := Lib.hid heq
  clear ha hb hb1 q1 q2 hcell1 hcell2 heq hW
  unfold confV
  have no : ∀ {x : Bool}, sameC ⟨aep, .slice ao1 l.length cap1, l, afl⟩ ⟨bep, .slice ao2 k.length cap2, k, bfl⟩ = x → True := fun _ => trivial
  by_cases h1 : aep = bep
  · by_cases h2 : afl = bfl
    · by_cases hl : l.length = k.length
      · have HF : Hid (sameC ⟨aep, .slice ao1 l.length cap1, l, afl⟩ ⟨bep, .slice ao2 k.length cap2, k, bfl⟩ = decide (l = k)) := Lib.hid (by unfold sameC; simp [h1, h2])
        have h1b : (aep != bep) = false := by simp [h1]
        have h2b : (afl != bfl) = false := by simp [h2]
        have hlb : ((l.length : Int) != (k.length : Int)) = false := by simp [hl]
        have HL := Lib.hid hl
        have hle : l.length ≤ k.length := by omega
        have hge : k.length ≤ l.length := by omega
        clear h1 h2 hl no
        go_enter Tryz.func30, Tryz.ntmps30
        go_wp2
        rw [← HW.out]
        go_loopg [5] (l.length + 1) (fun g s5 wr => ∃ i : Nat, s5 = .int .i64 i ∧ i ≤ l.length ∧ l.length + 1 ≤ i + g ∧ l.take i = k.take i ∧ Below W.heap.size W wr)
        case atStart => exact ⟨0, rfl, by omega, by omega, rfl, Below.refl _ _⟩
        case round =>
          obtain ⟨i, rfl, hi, hg, ht, hwr⟩ := hrel
          have HT := Lib.hid ht; have HWR := Lib.hid hwr
          have HBW := Lib.hid (HB.out.trans (hwr.mono HB.out.size))
          have q1 := cell_below hwr Q1.out
          have q2 := cell_below hwr Q2.out
          clear ht hwr
          by_cases hlt : i < l.length
          · have hlt2 : i < k.length := by omega
            obtain ⟨b1, off1, rfl, hr1⟩ := HC1.out i hlt
            obtain ⟨b2, off2, rfl, hr2⟩ := HC2.out i hlt2
            have d0 := cell_below HBW.out (hr1 0 _ rfl)
            have d1 := cell_below HBW.out (hr1 1 _ rfl)
            have e0 := cell_below HBW.out (hr2 0 _ rfl)
            have e1 := cell_below HBW.out (hr2 1 _ rfl)
            rw [Nat.add_zero] at d0 e0
            obtain ⟨o, ho⟩ : ∃ o, o = l[i] := ⟨_, rfl⟩
            obtain ⟨m, hm⟩ : ∃ m, m = k[i] := ⟨_, rfl⟩
            have HO := Lib.hid ho; have HM := Lib.hid hm
            rw [← ho] at d0 d1
            rw [← hm] at e0 e1
            have he := HEq.out o m
            clear hr1 hr2 ho hm
            by_cases hP : o = m
            · have HT2 : Hid (l.take (i + 1) = k.take (i + 1)) := Lib.hid (by rw [takeS hlt, takeS hlt2, HT.out, ← HO.out, ← HM.out, hP])
              rw [show (!(o == m)) = false by simp [hP]] at he
              clear hP
              go_wp2_with fail
              go_quiet (fail)
              go_wp2
              go_roundg (gk - 1)
              case rel => exact ⟨i + 1, by go_num, by omega, by omega, HT2.out, below_draws HWR.out _⟩
              case measure => omega
            · have HF2 : Hid (decide (l = k) = false) := Lib.hid (decide_eq_false (ne_of_at hlt hlt2 (by rw [← HO.out, ← HM.out]; exact hP)))
              rw [show (!(o == m)) = true by simp [hP]] at he
              clear hP
              go_wp2_with fail
              go_quiet (fail)
              go_wp2
              go_ret
              exact ⟨ret_bool (by rw [HF.out, HF2.out]), below_draws HBW.out _⟩
          · have HF2 : Hid (decide (l = k) = true) := Lib.hid (decide_eq_true (eq_of_takes HL.out (by have := HT.out; rw [show i = l.length by omega] at this; exact this)))
            go_wp2
            go_ret
            exact ⟨ret_bool (by rw [HF.out, HF2.out]), HBW.out⟩
      · have HF : Hid (sameC ⟨aep, .slice ao1 l.length cap1, l, afl⟩ ⟨bep, .slice ao2 k.length cap2, k, bfl⟩ = false) := Lib.hid (by unfold sameC; exact decide_eq_false (fun h => hl (congrArg List.length h.2.2)))
        have h1b : (aep != bep) = false := by simp [h1]
        have h2b : (afl != bfl) = false := by simp [h2]
        have hlb : ((l.length : Int) != (k.length : Int)) = true := by rw [bne, beq_eq_false_iff_ne.2 (show (l.length : Int) ≠ k.length by omega)]; rfl
        clear h1 h2 hl no
        go_enter Tryz.func30, Tryz.ntmps30
        go_wp2
        go_ret
        exact ⟨ret_bool HF.out.symm, by have := HB.out; rw [HW.out] at this; exact this⟩
    · have HF : Hid (sameC ⟨aep, .slice ao1 l.length cap1, l, afl⟩ ⟨bep, .slice ao2 k.length cap2, k, bfl⟩ = false) := Lib.hid (by unfold sameC; exact decide_eq_false (fun h => h2 h.2.1))
      have h1b : (aep != bep) = false := by simp [h1]
      have h2b : (afl != bfl) = true := by simp [h2]
      clear h1 h2 no
      go_enter Tryz.func30, Tryz.ntmps30
      go_wp2
      go_ret
      exact ⟨ret_bool HF.out.symm, by have := HB.out; rw [HW.out] at this; exact this⟩
  · have HF : Hid (sameC ⟨aep, .slice ao1 l.length cap1, l, afl⟩ ⟨bep, .slice ao2 k.length cap2, k, bfl⟩ = false) := Lib.hid (by unfold sameC; exact decide_eq_false (fun h => h1 h.1))
    have h1b : (aep != bep) = true := by simp [h1]
    clear h1 no
    go_enter Tryz.func30, Tryz.ntmps30
    go_wp2
    go_ret
    exact ⟨ret_bool HF.out.symm, by have := HB.out; rw [HW.out] at this; exact this⟩
end Go.Proofs.YtniojcnkjehflaaGreat

/- Package conf and the document's own: Check, Same, as the generator wants them. Conditions: none. -/
namespace Go.Proofs.YtniojcnkjehflaaGreat
open Go.RowKit Go.PlainAid
set_option linter.unusedVariables false

theorem memE_len (y : MemT) : (memE y).length = 2 := rfl
theorem memE_one (y : MemT) : ∀ u ∈ memE y, u.oneCell' = true := by intro u hu; simp [memE] at hu; rcases hu with rfl | rfl <;> rfl
def sameCf (ep : Int) (ms : List MemT) (fl ep2 : Int) (ms2 : List MemT) (fl2 : Int) : Bool := decide (ep = ep2 ∧ fl = fl2 ∧ ms = ms2)
theorem wcheck_any (ep : Int) (mv : Value) (ms : List MemT) (fl : Int) (w : World) (hs : SliceOf memE 2 w mv ms) (hmk : ∀ m ∈ ms, memOk m) (he : -9223372036854775808 ≤ ep ∧ ep ≤ 9223372036854775807) (hf : 0 ≤ fl ∧ fl < 18446744073709551616) :
    Calls Tryz.prog 51 #[.agg #[.int .i64 ep, mv, .int .u64 fl]] w fun e w' => e = .returned (.int .i64 (chkC ep ms)) ∧ Below w.heap.size w w' := cf_check_any ⟨ep, mv, ms, fl⟩ w ⟨hs, hmk, he.1, he.2, hf.1, hf.2⟩
theorem wrcheck_any (ep : Int) (mv : Value) (ms : List MemT) (fl : Int) (w : World) (hs : SliceOf memE 2 w mv ms) (hmk : ∀ m ∈ ms, memOk m) (he : -9223372036854775808 ≤ ep ∧ ep ≤ 9223372036854775807) (hf : 0 ≤ fl ∧ fl < 18446744073709551616) :
    Calls Tryz.prog 64 #[.agg #[.int .i64 ep, mv, .int .u64 fl]] w fun e w' => e = .returned (.int .i64 (chkC ep ms)) ∧ Below w.heap.size w w' := cf_rcheck_any ⟨ep, mv, ms, fl⟩ w ⟨hs, hmk, he.1, he.2, hf.1, hf.2⟩
theorem wrsame_any (ep : Int) (mv : Value) (ms : List MemT) (fl : Int) (ep2 : Int) (mv2 : Value) (ms2 : List MemT) (fl2 : Int) (w : World) (hs : SliceOf memE 2 w mv ms) (hmk : ∀ m ∈ ms, memOk m) (he : -9223372036854775808 ≤ ep ∧ ep ≤ 9223372036854775807) (hf : 0 ≤ fl ∧ fl < 18446744073709551616) (hs2 : SliceOf memE 2 w mv2 ms2) (hmk2 : ∀ m ∈ ms2, memOk m) (he2 : -9223372036854775808 ≤ ep2 ∧ ep2 ≤ 9223372036854775807) (hf2 : 0 ≤ fl2 ∧ fl2 < 18446744073709551616) :
    Calls Tryz.prog 30 #[.agg #[.int .i64 ep, mv, .int .u64 fl], .agg #[.int .i64 ep2, mv2, .int .u64 fl2]] w fun e w' => e = .returned (.bool (sameCf ep ms fl ep2 ms2 fl2)) ∧ Below w.heap.size w w' := rsame_any ⟨ep, mv, ms, fl⟩ ⟨ep2, mv2, ms2, fl2⟩ w ⟨hs, hmk, he.1, he.2, hf.1, hf.2⟩ ⟨hs2, hmk2, he2.1, he2.2, hf2.1, hf2.2⟩

end Go.Proofs.YtniojcnkjehflaaGreat

/- A row of the call's own out of which an element is struck. Conditions: none. -/
namespace Go.Proofs.YtniojcnkjehflaaGreat
open Go.RowKit Go.PlainAid Go.Shelf

theorem flatE_len {α : Type} {enc : α → List Value} {size : Nat} (l : List α) (h : ∀ y, (enc y).length = size) : (l.flatMap enc).length = l.length * size := flat_len l (fun y _ => h y)
/-- What is left when the element i is struck: the row as it lies. -/
theorem struck {α : Type} {enc : α → List Value} {sz : Nat} (hE : ∀ y, (enc y).length = sz) {l : List α} {i p n : Nat} (hn : l.length = n) (hi : i < n) (hp : p + 1 = n) {f : Nat → Value} (hf : ∀ j, j < n * sz → (l.flatMap enc)[j]? = some (f j)) (zs : List Value) :
    ∀ j, j < p * sz → ((l.take i ++ l.drop (i + 1)).flatMap enc)[j]? = some ((fun j => if p * sz ≤ j ∧ j < p * sz + zs.length then zs[j - p * sz]?.getD default else (if i * sz ≤ j ∧ j < i * sz + ((l.drop (i + 1)).flatMap enc).length then ((l.drop (i + 1)).flatMap enc)[j - i * sz]?.getD default else f j)) j) := by
  intro j hj
  have hpn : n * sz = p * sz + sz := by rw [← hp, Nat.add_mul, Nat.one_mul]
  have hld : ((l.drop (i + 1)).flatMap enc).length = (n - (i + 1)) * sz := by rw [flatE_len _ hE, List.length_drop, hn]
  have hlt : ((l.take i).flatMap enc).length = i * sz := by rw [flatE_len _ hE, List.length_take, hn, Nat.min_eq_left (by omega)]
  have hsum : i * sz + (n - (i + 1)) * sz = p * sz := by rw [← Nat.add_mul]; congr 1; omega
  dsimp only
  rw [if_neg (by omega), List.flatMap_append]
  by_cases h : i * sz ≤ j
  · rw [List.getElem?_append_right (by omega), hlt, if_pos ⟨h, by omega⟩]
    rw [List.getElem?_eq_getElem (by omega)]; rfl
  · rw [List.getElem?_append_left (by omega), if_neg (by omega)]
    have hsplit : l.flatMap enc = (l.take i).flatMap enc ++ (l.drop i).flatMap enc := by rw [← List.flatMap_append, List.take_append_drop]
    have := hf j (by omega)
    rw [hsplit, List.getElem?_append_left (by omega)] at this
    exact this
end Go.Proofs.YtniojcnkjehflaaGreat

/- Package lease, pure parts; Right, Min, find. Conditions: none. -/
namespace Go.Proofs.YtniojcnkjehflaaGreat
open Go.RowKit Go.PlainAid
set_option linter.unusedVariables false


abbrev PinT := Int × Int × Int
theorem eq_pin (a b c d e f : Int) (w : World) : (binOp .eql 46 (.agg #[.int .i64 a, .int .u64 b, .int .i64 c]) (.agg #[.int .i64 d, .int .u64 e, .int .i64 f])).run Tryz.prog w = .ok (.bool (a == d && b == e && c == f)) w := by
  have u := Tryz.underlying29
  have u' := Tryz.underlying3
  have hS : Tryz.prog.underlying 46 = some (.struct (Tryz.prog.fieldsOf 46)) := by kernel_rfl
  have hp : Tryz.prog.stoodInHeld 46 = false := by kernel_rfl
  have hf : (Tryz.prog.fieldsOf 46).toList.map (fun f => (f.offset, f.type)) = [(0, 3), (1, 29), (2, 3)] := by kernel_rfl
  rw [run_eql_struct, show (10000 : Nat) = 9999 + 1 from rfl, run_equalIn_agg w 9999 46 _ _ hS hp]
  simp only [Program.fieldsOf, Tryz.underlying46]
  go_simp
  by_cases h1 : a = d <;> by_cases h2 : b = e <;> by_cases h3 : c = f <;> simp [h1, h2, h3]
/-- The least time of pins; 0 of none. -/
def minP : List PinT → Int
  | [] => 0
  | p :: r => r.foldl (fun m q => if q.2.1 < m then q.2.1 else m) p.2.1
theorem minP_all {l : List PinT} {i : Nat} (h : l.length ≤ i) : minP (l.take i) = minP l := by rw [List.take_of_length_le h]
def MinInv (l : List PinT) (i : Nat) (mn : Int) : Prop := (i = 0 ∧ ∀ z, l[0]? = some z → mn = z.2.1) ∨ (0 < i ∧ mn = minP (l.take i))
theorem MinInv.end {l : List PinT} {i : Nat} {mn : Int} (h : MinInv l i mn) (h0 : 0 < l.length) (hi : l.length ≤ i) : mn = minP l := by
  rcases h with ⟨rfl, _⟩ | ⟨_, hm⟩
  · omega
  · rw [hm, minP_all hi]
end Go.Proofs.YtniojcnkjehflaaGreat

/- Package note: Check of both. Conditions: none. -/
namespace Go.Proofs.YtniojcnkjehflaaGreat
open Go.RowKit Go.PlainAid
set_option linter.unusedVariables false


/-- A note, without where its lists lie. -/
structure NoteD where
  k : Int
  n : Int
  t : Int
  ep : Int
  ms : List MemT
  fl : Int
  lg : List Int
  ec : Int
  er : Int
  el : List OpT
  ets : Int
  pid : Int
  pat : Int
  plf : Int
  sc : Int
  sr : Int
  se : Int
  sp : Int
def zN (k : Int) : NoteD := ⟨k, 0, 0, 0, [], 0, [], 0, 0, [], 0, 0, 0, 0, 0, 0, 0, 0⟩
/-- What is known of a note that may be. -/
structure NoteR (d : NoteD) : Prop where
  mem : ∀ m ∈ d.ms, memOk m
  rng : (-9223372036854775808 ≤ d.ep ∧ d.ep ≤ 9223372036854775807) ∧ (0 ≤ d.fl ∧ d.fl < 18446744073709551616) ∧ (0 ≤ d.t ∧ d.t < 18446744073709551616) ∧ (0 ≤ d.ets ∧ d.ets < 18446744073709551616) ∧ (0 ≤ d.pat ∧ d.pat < 18446744073709551616)
def badI (p : Option Int) (x : Int) : Bool := match p with | some q => decide (x ≤ q) | none => false
def chkLgF : Option Int → List Int → Int
  | _, [] => 0
  | p, x :: r => if x < 0 ∨ 3 < x then 1 else if badI p x = true then 18 else chkLgF (some x) r
def prevI (l : List Int) (i : Nat) : Option Int := if i = 0 then none else l[i - 1]?
def chkLg (l : List Int) : Int := if 4 < l.length then 6 else chkLgF none l
theorem prevI_succ {l : List Int} {i : Nat} {y : Int} (h : l[i]? = some y) : prevI l (i + 1) = some y := by simp [prevI, h]
theorem dropI {α : Type} {l : List α} {i : Nat} {y : α} (h : l[i]? = some y) : l.drop i = y :: l.drop (i + 1) := by
  obtain ⟨hi, rfl⟩ := List.getElem?_eq_some_iff.1 h
  exact List.drop_eq_getElem_cons hi
/-- What the closure tells of the place i. -/
def lgAt (l : List Int) (i : Nat) (x : Int) : Int := if x < 0 ∨ 3 < x then 1 else if badI (prevI l i) x = true then 18 else 0
theorem lgAt_1 {l : List Int} {i : Nat} {x : Int} (h : x < 0 ∨ x > 3) : 1 = lgAt l i x := by unfold lgAt; rw [if_pos (by omega)]
theorem lgAt_18 {l : List Int} {i j : Nat} {x q : Int} (h : ¬ (x < 0 ∨ x > 3)) (hj : j = i - 1) (h0 : 0 < i) (hq : l[j]? = some q) (hx : x ≤ q) : 18 = lgAt l i x := by
  subst hj
  have e : prevI l i = some q := by unfold prevI; rw [if_neg (by omega), hq]
  unfold lgAt badI; rw [if_neg (by omega), e]; simp [hx]
theorem lgAt_0 {l : List Int} {i j : Nat} {x q : Int} (h : ¬ (x < 0 ∨ x > 3)) (hj : j = i - 1) (h0 : 0 < i) (hq : l[j]? = some q) (hx : ¬ x ≤ q) : 0 = lgAt l i x := by
  subst hj
  have e : prevI l i = some q := by unfold prevI; rw [if_neg (by omega), hq]
  unfold lgAt badI; rw [if_neg (by omega), e]; simp [hx]
theorem lgAt_0' {l : List Int} {i : Nat} {x : Int} (h : ¬ (x < 0 ∨ x > 3)) (h0 : ¬ (0 : Int) < i) : 0 = lgAt l i x := by
  obtain rfl : i = 0 := by omega
  unfold lgAt prevI badI; rw [if_neg (by omega)]; simp
theorem lg_bad {l : List Int} {i : Nat} {y z : Int} (h : chkLgF (prevI l i) (l.drop i) = z) (hy : l[i]? = some y) (hc : lgAt l i y ≠ 0) : lgAt l i y = z := by
  rw [dropI hy] at h; unfold chkLgF at h; unfold lgAt at hc ⊢
  split
  · rename_i h1; rwa [if_pos h1] at h
  · rename_i h1
    rw [if_neg h1] at h
    split
    · rename_i h2; rwa [if_pos h2] at h
    · rename_i h2; rw [if_neg h1, if_neg h2] at hc; exact absurd rfl hc
theorem lg_step {l : List Int} {i : Nat} {y z : Int} (h : chkLgF (prevI l i) (l.drop i) = z) (hy : l[i]? = some y) (hc : lgAt l i y = 0) : chkLgF (prevI l (i + 1)) (l.drop (i + 1)) = z := by
  rw [dropI hy] at h; unfold chkLgF at h; unfold lgAt at hc
  split at hc
  · omega
  · rename_i h1
    rw [if_neg h1] at h
    split at hc
    · omega
    · rename_i h2; rw [if_neg h2] at h; rw [prevI_succ hy]; exact h
theorem lg_end {l : List Int} {i : Nat} {z : Int} (h : chkLgF (prevI l i) (l.drop i) = z) (hi : l.length ≤ i) : 0 = z := by
  rw [List.drop_eq_nil_of_le hi] at h; simpa [chkLgF] using h
theorem lgF_ok : ∀ (p : Option Int) (l : List Int), chkLgF p l = 0 → ∀ x ∈ l, 0 ≤ x ∧ x ≤ 3
  | _, [], _, _, h => by cases h
  | p, y :: r, h, x, hx => by
    unfold chkLgF at h
    split at h
    · omega
    rename_i h1
    split at h
    · omega
    rcases List.mem_cons.1 hx with rfl | hx
    · omega
    · exact lgF_ok _ r h x hx
theorem chkLg_ok {l : List Int} (h : chkLg l = 0) : l.length ≤ 4 ∧ ∀ x ∈ l, 0 ≤ x ∧ x ≤ 3 := by
  unfold chkLg at h
  split at h
  · omega
  exact ⟨by omega, lgF_ok _ _ h⟩
def may (n : Int) : Prop := 0 ≤ n ∧ n ≤ 1073741824
instance (n : Int) : Decidable (may n) := by unfold may; infer_instance
def chkSd (sc sr se sp : Int) : Int := if sc < 0 ∨ 2 < sc then 1 else if ¬ may sr ∨ ¬ may sp then 5 else if se < 0 ∨ 21 < se then 1 else 0
def chkN (d : NoteD) : Int :=
  if d.k = 1 then (if chkC d.ep d.ms ≠ 0 then chkC d.ep d.ms else chkLg d.lg)
  else if d.k = 2 then (if ¬ may d.n then 5 else chkB d.ec d.er d.el)
  else if d.k = 3 ∨ d.k = 4 ∨ d.k = 5 ∨ d.k = 7 then (if ¬ may d.n then 5 else 0)
  else if d.k = 6 then (if ¬ may d.pid ∨ ¬ may d.plf then 5 else 0)
  else if d.k = 8 then chkSd d.sc d.sr d.se d.sp else 11
theorem chkN_1 {d : NoteD} (h : d.k = 1) : chkN d = if chkC d.ep d.ms ≠ 0 then chkC d.ep d.ms else chkLg d.lg := by unfold chkN; rw [if_pos h]
theorem chkN_2 {d : NoteD} (h : d.k = 2) : chkN d = if ¬ may d.n then 5 else chkB d.ec d.er d.el := by unfold chkN; rw [if_neg (by omega), if_pos h]
theorem chkN_3 {d : NoteD} (h : d.k = 3 ∨ d.k = 4 ∨ d.k = 5 ∨ d.k = 7) : chkN d = if ¬ may d.n then 5 else 0 := by unfold chkN; rw [if_neg (by omega), if_neg (by omega), if_pos h]
theorem chkN_6 {d : NoteD} (h : d.k = 6) : chkN d = if ¬ may d.pid ∨ ¬ may d.plf then 5 else 0 := by unfold chkN; rw [if_neg (by omega), if_neg (by omega), if_neg (by omega), if_pos h]
theorem chkN_8 {d : NoteD} (h : d.k = 8) : chkN d = chkSd d.sc d.sr d.se d.sp := by unfold chkN; rw [if_neg (by omega), if_neg (by omega), if_neg (by omega), if_neg (by omega), if_pos h]
theorem chkN_0 {d : NoteD} (h : ¬ (1 ≤ d.k ∧ d.k ≤ 8)) : chkN d = 11 := by unfold chkN; rw [if_neg (by omega), if_neg (by omega), if_neg (by omega), if_neg (by omega), if_neg (by omega)]
/-- What follows of a note that may be written. -/
theorem chkN_ok {d : NoteD} (h : chkN d = 0) : (1 ≤ d.k ∧ d.k ≤ 8) ∧ (d.k = 1 → chkC d.ep d.ms = 0 ∧ chkLg d.lg = 0 ∧ d.lg.length ≤ 4) ∧ (d.k = 2 → (0 ≤ d.n ∧ d.n ≤ 1073741824) ∧ chkB d.ec d.er d.el = 0) ∧ (d.k = 3 ∨ d.k = 4 ∨ d.k = 5 ∨ d.k = 7 → 0 ≤ d.n ∧ d.n ≤ 1073741824) ∧ (d.k = 6 → (0 ≤ d.pid ∧ d.pid ≤ 1073741824) ∧ (0 ≤ d.plf ∧ d.plf ≤ 1073741824)) ∧ (d.k = 8 → (0 ≤ d.sc ∧ d.sc ≤ 2) ∧ (0 ≤ d.sr ∧ d.sr ≤ 1073741824) ∧ (0 ≤ d.se ∧ d.se ≤ 21) ∧ (0 ≤ d.sp ∧ d.sp ≤ 1073741824)) := by
  have hk : 1 ≤ d.k ∧ d.k ≤ 8 := by
    by_cases hk : 1 ≤ d.k ∧ d.k ≤ 8
    · exact hk
    · rw [chkN_0 hk] at h; omega
  refine ⟨hk, fun e => ?_, fun e => ?_, fun e => ?_, fun e => ?_, fun e => ?_⟩
  · rw [chkN_1 e] at h
    split at h
    · rename_i h1; exact absurd h h1
    · rename_i h1; exact ⟨by omega, h, (chkLg_ok h).1⟩
  · rw [chkN_2 e] at h
    split at h
    · omega
    · rename_i h1; exact ⟨Decidable.not_not.1 h1, h⟩
  · rw [chkN_3 e] at h
    split at h
    · omega
    · rename_i h1; exact Decidable.not_not.1 h1
  · rw [chkN_6 e] at h
    split at h
    · omega
    · rename_i h1
      exact ⟨Decidable.not_not.1 (fun q => h1 (.inl q)), Decidable.not_not.1 (fun q => h1 (.inr q))⟩
  · rw [chkN_8 e] at h
    unfold chkSd at h
    split at h
    · omega
    split at h
    · omega
    rename_i h1 h2
    split at h
    · omega
    exact ⟨by omega, Decidable.not_not.1 (fun q => h2 (.inl q)), by omega, Decidable.not_not.1 (fun q => h2 (.inr q))⟩

set_option maxRecDepth 100000 in
theorem nOutside_any (n : Int) (m : Int) (w : World)  :
    Calls Tryz.prog 53 #[.int .i64 n, .int .i64 m] w fun e w' => e = .returned (.bool (decide (n < 0 ∨ n > m))) ∧ Below w.heap.size w w' := by
 have hB0 := Below.refl w.heap.size w;refine co_enter (n := 12) Tryz.func53 rfl rfl rfl [(0, .int .i64 n), (1, .int .i64 m)] rfl (fun a s => ?_);refine q2 ?_;refine pk0 (v := .bool false) s rfl fun _ s => q3 ?_;refine pk0 (v := .int .i64 n) s rfl fun _ s => ?_;refine pk0 (v := .bool (decide (n < 0))) s rfl fun _ s => ?_;refine pk0 (v := .bool (decide (n < 0))) s rfl fun _ s => ?_;cases hc5 : (decide (n < 0))
 ·
  rw [hc5] at s;have hp6 : ¬ (n < 0) := of_decide_eq_false hc5;refine pk0 (v := .int .i64 n) s rfl fun _ s => ?_;refine pk0 (v := .int .i64 m) s rfl fun _ s => ?_;refine pk0 (v := .bool (decide (n > m))) s rfl fun _ s => ?_;refine pk0 (v := .bool (decide (n > m))) s rfl fun _ s => ?_;refine pk0 (v := .bool (decide (n > m))) s rfl fun _ s => q4 ?_;refine co_ret1 s rfl rfl ?_;exact ⟨ret_bool (by first | rfl | exact (decide_eq_true (by omega)).symm | exact (decide_eq_false (by omega)).symm | (rw [Bool.eq_iff_iff]; simp; omega)), hB0⟩
 rw [hc5] at s;have hp12 : n < 0 := of_decide_eq_true hc5;refine psk s rfl fun _ s => ?_;refine psk s rfl fun _ s => ?_;refine psk s rfl fun _ s => ?_;refine pk0 (v := .bool true) s rfl fun _ s => ?_;refine pk0 (v := .bool true) s rfl fun _ s => q4 ?_;refine co_ret1 s rfl rfl ?_;exact ⟨ret_bool (by first | rfl | exact (decide_eq_true (by omega)).symm | exact (decide_eq_false (by omega)).symm | (rw [Bool.eq_iff_iff]; simp; omega)), hB0⟩
set_option maxRecDepth 100000 in
theorem rnMay_any (n : Int) (w : World)  :
    Calls Tryz.prog 66 #[.int .i64 n] w fun e w' => e = .returned (.bool (decide (0 ≤ n ∧ n ≤ 1073741824))) ∧ Below w.heap.size w w' := by
 have hB0 := Below.refl w.heap.size w;refine co_enter (n := 9) Tryz.func66 rfl rfl rfl [(0, .int .i64 n)] rfl (fun a s => ?_);refine q2 ?_;refine pk0 (v := .bool false) s rfl fun _ s => q3 ?_;refine pk0 (v := .int .i64 n) s rfl fun _ s => ?_;refine pk0 (v := .bool (decide (n ≥ 0))) s rfl fun _ s => ?_;refine pk0 (v := .bool (decide (n ≥ 0))) s rfl fun _ s => ?_;cases hc5 : (decide (n ≥ 0))
 ·
  rw [hc5] at s;have hp6 : ¬ (n ≥ 0) := of_decide_eq_false hc5;refine psk s rfl fun _ s => ?_;refine psk s rfl fun _ s => ?_;refine pk0 (v := .bool false) s rfl fun _ s => ?_;refine pk0 (v := .bool false) s rfl fun _ s => q4 ?_;refine co_ret1 s rfl rfl ?_;exact ⟨ret_bool (by first | rfl | exact (decide_eq_true (by omega)).symm | exact (decide_eq_false (by omega)).symm | (rw [Bool.eq_iff_iff]; simp; omega)), hB0⟩
 rw [hc5] at s;have hp11 : n ≥ 0 := of_decide_eq_true hc5;refine pk0 (v := .int .i64 n) s rfl fun _ s => ?_;refine pk0 (v := .bool (decide (n ≤ 1073741824))) s rfl fun _ s => ?_;refine pk0 (v := .bool (decide (n ≤ 1073741824))) s rfl fun _ s => ?_;refine pk0 (v := .bool (decide (n ≤ 1073741824))) s rfl fun _ s => q4 ?_;refine co_ret1 s rfl rfl ?_;exact ⟨ret_bool (by first | rfl | exact (decide_eq_true (by omega)).symm | exact (decide_eq_false (by omega)).symm | (rw [Bool.eq_iff_iff]; simp; omega)), hB0⟩
set_option maxRecDepth 100000 in
theorem nLegit1_any (i : Nat) (x : Int) (bx : Nat) (v : Value) (l : List Int) (w : World) (hs : SliceOf (intE .i64) 1 w v l) (hbx : w.rangeAt bx 0 [v]) (hi : i < l.length) :
    Calls Tryz.prog 88 #[.int .i64 (i : Int), .int .i64 x, pt bx 0] w fun e w' => e = .returned (.int .i64 (lgAt l i x)) ∧ Below w.heap.size w w' := by
 have hB0 := Below.refl w.heap.size w;have hl_hs := sl_len hs;refine co_enter (n := 19) Tryz.func88 rfl rfl rfl [(0, .int .i64 (i : Int)), (1, .int .i64 x), (2, pt bx 0)] rfl (fun a s => ?_);refine q2 ?_;refine pk0 (v := .int .i64 0) s rfl fun _ s => q6 ?_;refine pk0 (v := .int .i64 x) s rfl fun _ s => ?_;refine pw s rfl (op_call (args := #[.int .i64 x, .int .i64 3]) (R := fun res xw => res = .bool (decide (x < 0 ∨ x > 3)) ∧ Below w.heap.size w xw) rfl rfl rfl (by kernel_rfl) (by kernel_rfl) (Tryz.call53 _ _) (nOutside_any x 3 w ) (by rintro e x ⟨rfl, hb5⟩; exact ⟨_, rfl, ⟨rfl, hb5⟩⟩)) ?_;rintro _ w4 a3 ⟨rfl, hb5⟩ s;have hz6 := hb5.size;refine q1 ?_;have hB8 := hb_call hB0 hb5;cases hc7 : (decide (x < 0 ∨ x > 3))
 ·
  rw [hc7] at s;have hp9 : ¬ (x < 0 ∨ x > 3) := of_decide_eq_false hc7;refine co_false s rfl <| q8 ?_;refine pk0 (v := .int .i64 (i : Int)) s rfl fun _ s => ?_;refine pk0 (v := .bool (decide ((i : Int) > 0))) s rfl fun _ s => ?_;refine pk0 (v := .bool (decide ((i : Int) > 0))) s rfl fun _ s => ?_;cases hc13 : (decide ((i : Int) > 0))
  ·
   rw [hc13] at s;have hp14 : ¬ ((i : Int) > 0) := of_decide_eq_false hc13;refine psk s rfl fun _ s => ?_;refine psk s rfl fun _ s => ?_;refine psk s rfl fun _ s => ?_;refine psk s rfl fun _ s => ?_;refine psk s rfl fun _ s => ?_;refine psk s rfl fun _ s => ?_;refine psk s rfl fun _ s => ?_;refine pk0 (v := .bool false) s rfl fun _ s => q1 ?_;refine co_false s rfl <| q7 ?_;refine pk0 (v := .int .i64 0) s rfl fun _ s => q4 ?_;refine co_ret1 s rfl rfl ?_;exact ⟨ret_int (lgAt_0' (by omega) (by omega)), hB8⟩
  rw [hc13] at s;have hp24 : (i : Int) > 0 := of_decide_eq_true hc13;refine pk0 (v := .int .i64 x) s rfl fun _ s => ?_;refine pk (v := v) s rfl (rn_load1 rfl rfl Tryz.isAgg39 ((range_below hbx hB8) 0 _ rfl)) fun _ s => ?_;refine pk0 (v := .int .i64 (i : Int)) s rfl fun _ s => ?_;refine pk (v := .int .i64 ((i : Int) - 1)) s rfl (rn_arith rfl rfl rfl rfl rfl rfl (IntWalk.i64_in _ (by omega))) fun _ s => ?_;obtain ⟨y29, hy29⟩ : ∃ z, l[((i : Int) - 1).toNat]? = some z := ⟨_, List.getElem?_eq_getElem (by first | omega | (simp; done) | (simp; omega))⟩;refine pk (v := pt (blkOf v) (offOf v + (((i : Int) - 1).toNat) * 1)) s rfl (rn_index rfl rfl rfl Tryz.underlying39 Tryz.sizeOf3 (hs.below hB8) (by omega) (by first | omega | (simp; done) | (simp; omega))) fun _ s => ?_;refine pk (v := .int .i64 y29) s rfl (rn_load1 rfl rfl Tryz.isAgg3 ((sl_at (hs.below hB8) hy29) 0 _ rfl)) fun _ s => ?_;refine pk0 (v := .bool (decide (x ≤ y29))) s rfl fun _ s => ?_;refine pk0 (v := .bool (decide (x ≤ y29))) s rfl fun _ s => q1 ?_;cases hc34 : (decide (x ≤ y29))
  ·
   rw [hc34] at s;have hp35 : ¬ (x ≤ y29) := of_decide_eq_false hc34;refine co_false s rfl <| q7 ?_;refine pk0 (v := .int .i64 0) s rfl fun _ s => q4 ?_;refine co_ret1 s rfl rfl ?_;exact ⟨ret_int (lgAt_0 (j := ((i : Int) - 1).toNat) (by omega) (by omega) (by omega) hy29 (by omega)), hB8⟩
  rw [hc34] at s;have hp37 : x ≤ y29 := of_decide_eq_true hc34;refine co_true s rfl <| q2 ?_;refine pk0 (v := .int .i64 18) s rfl fun _ s => q5 ?_;refine co_ret1 s rfl rfl ?_;exact ⟨ret_int (lgAt_18 (j := ((i : Int) - 1).toNat) (by omega) (by omega) (by omega) hy29 (by omega)), hB8⟩
 rw [hc7] at s;have hp39 : x < 0 ∨ x > 3 := of_decide_eq_true hc7;refine co_true s rfl <| q2 ?_;refine pk0 (v := .int .i64 1) s rfl fun _ s => q5 ?_;refine co_ret1 s rfl rfl ?_;exact ⟨ret_int (lgAt_1 (by omega)), hB8⟩
set_option maxRecDepth 100000 in
theorem nFirst_any (v : Value) (l : List Int) (bx : Nat) (w : World) (hs : SliceOf (intE .i64) 1 w v l) (hbx : w.rangeAt bx 0 [v]) :
    Calls Tryz.prog 87 #[v, .func (.func 88) #[] #[pt bx 0]] w fun e w' => e = .returned (.int .i64 (chkLgF none l)) ∧ Below w.heap.size w w' := by
 have hB0 := Below.refl w.heap.size w;have hl_hs := sl_len hs;refine co_enter (n := 23) Tryz.func87 rfl rfl rfl [(0, v), (1, .func (.func 88) #[] #[pt bx 0])] rfl (fun a s => ?_);refine q2 ?_;refine pk0 (v := .int .i64 0) s rfl fun _ s => q6 ?_;refine pk0 (v := v) s rfl fun _ s => ?_;refine pk (v := .int .i64 (l.length : Int)) s rfl (rn_len rfl rfl Tryz.underlying39 hs) fun _ s => ?_;refine pk0 (v := .int .i64 0) s rfl fun _ s => q1 <| wp_block ?_;have s : Slots 23 [(1, .func (.func 88) #[] #[pt bx 0]), (8, v), (9, .int .i64 (l.length : Int)), (10, .int .i64 0)] _ := s.sub ⟨rfl, rfl, rfl, rfl, trivial⟩;refine co_loop (fun mm a x => ∃ (i : Nat), Slots 23 [(1, .func (.func 88) #[] #[pt bx 0]), (8, v), (9, .int .i64 (l.length : Int)), (10, .int .i64 (i : Int))] a ∧ mm = l.length - i ∧ (i ≤ l.length) ∧ (chkLgF (prevI l i) (l.drop i) = chkLgF none l) ∧ Below w.heap.size w x) (l.length - 0) ?_ ?_
 · exact ⟨0, s.sub ⟨rfl, rfl, rfl, (slot_eq rfl (congrArg (Value.int .i64) (by first | rfl | omega))), trivial⟩, rfl, by omega, by first | rfl | exact lg_step hL (by assumption) (by omega), hB0⟩
 · rintro k6 a7 w8 ⟨i, s, rfl, hi9, hi10, hB11⟩
   have hz12 := hB11.size;have hL : chkLgF (prevI l i) (l.drop i) = chkLgF none l := by assumption
   refine q2 ?_;refine pk0 (v := .bool (decide ((i : Int) < (l.length : Int)))) s rfl fun _ s => q1 <| co_seq ?_;cases hc14 : (decide ((i : Int) < (l.length : Int)))
   ·
    rw [hc14] at s;have hp15 : ¬ ((i : Int) < (l.length : Int)) := of_decide_eq_false hc14;refine co_false s rfl <| wp_exit <| co_thenX <| co_thenX <| qx <| q2 ?_;refine pk0 (v := .int .i64 0) s rfl fun _ s => q4 ?_;refine co_ret1 s rfl rfl ?_;exact ⟨ret_int (lg_end (i := i) hL (by omega)), hB11⟩
   rw [hc14] at s;have hp17 : (i : Int) < (l.length : Int) := of_decide_eq_true hc14;refine co_true s rfl <| q0 <| co_seq <| wp_block <| q2 ?_;refine pk0 (v := .int .i64 (i : Int)) s rfl fun _ s => ?_;obtain ⟨y19, hy19⟩ : ∃ z, l[i]? = some z := ⟨_, List.getElem?_eq_getElem (by first | omega | (simp; done) | (simp; omega))⟩;refine pk (v := pt (blkOf v) (offOf v + i * 1)) s rfl (rn_index rfl rfl rfl Tryz.underlying39 Tryz.sizeOf3 (hs.below hB11) (by omega) (by first | omega | (simp; done) | (simp; omega))) fun _ s => ?_;refine pk (v := .int .i64 y19) s rfl (rn_load1 rfl rfl Tryz.isAgg3 ((sl_at (hs.below hB11) hy19) 0 _ rfl)) fun _ s => ?_;refine pk0 (v := .int .i64 (i : Int)) s rfl fun _ s => ?_;refine pk0 (v := .int .i64 y19) s rfl fun _ s => q3 ?_;refine pk0 (v := .func (.func 88) #[] #[pt bx 0]) s rfl fun _ s => ?_;refine pk0 (v := .int .i64 (i : Int)) s rfl fun _ s => ?_;refine pk0 (v := .int .i64 y19) s rfl fun _ s => ?_;refine pw s rfl (op_callV (args := #[.int .i64 (i : Int), .int .i64 y19, pt bx 0]) (R := fun res xw => res = .int .i64 (lgAt l i y19) ∧ Below w8.heap.size w8 xw) rfl rfl rfl (by kernel_rfl) (by kernel_rfl) (Tryz.call88 _ _) (nLegit1_any i y19 bx v l w8 (hs.below hB11) (range_below hbx hB11) (by first | omega | (simp; done) | (simp; omega))) (by rintro e x ⟨rfl, hb29⟩; exact ⟨_, rfl, ⟨rfl, hb29⟩⟩)) ?_;rintro _ w28 a27 ⟨rfl, hb29⟩ s;have hz30 := hb29.size;refine pk0 (v := .int .i64 (lgAt l i y19)) s rfl fun _ s => q3 ?_;refine pk0 (v := .int .i64 (lgAt l i y19)) s rfl fun _ s => ?_;refine pk0 (v := .bool (lgAt l i y19 != 0)) s rfl fun _ s => q1 ?_;have hB35 := hb_call hB11 hb29;cases hc34 : (lgAt l i y19 != 0)
   ·
    rw [hc34] at s;have hp36 : ¬ (lgAt l i y19 ≠ 0) := by first | simpa using hc34 | simpa [and_assoc] using hc34
    refine co_false s rfl <| wp_skip <| co_blockN <| co_then <| co_reg ?_;refine pk (v := .int .i64 ((i + 1 : Nat) : Int)) s rfl (rn_arith' rfl rfl rfl rfl rfl rfl (IntWalk.i64_in _ (by omega)) (by omega)) fun _ s => ?_;refine pk0 (v := .int .i64 ((i + 1 : Nat) : Int)) s rfl fun _ s => q1 ?_;refine ⟨(l.length - (i + 1)), by omega, ?_⟩;exact ⟨i + 1, s.sub ⟨rfl, rfl, rfl, rfl, trivial⟩, rfl, by omega, by first | rfl | exact lg_step hL (by assumption) (by omega), hB35⟩
   rw [hc34] at s;have hp39 : lgAt l i y19 ≠ 0 := by first | simpa using hc34 | simpa [and_assoc] using hc34
   refine co_true s rfl <| q2 ?_;refine pk0 (v := .int .i64 (lgAt l i y19)) s rfl fun _ s => ?_;refine pk0 (v := .int .i64 (lgAt l i y19)) s rfl fun _ s => q4 <| qr <| co_thenR <| qr ?_;refine co_ret1 s rfl rfl ?_;exact ⟨ret_int (lg_bad (i := i) hL hy19 (by omega)), hB35⟩
set_option maxRecDepth 100000 in
theorem nLegit_any (v : Value) (l : List Int) (w : World) (hs : SliceOf (intE .i64) 1 w v l) :
    Calls Tryz.prog 52 #[v] w fun e w' => e = .returned (.int .i64 (chkLg l)) ∧ Below w.heap.size w w' := by
 have hB0 := Below.refl w.heap.size w;have hl_hs := sl_len hs;refine co_enter (n := 9) Tryz.func52 rfl rfl rfl [(0, v)] rfl (fun a s => ?_);refine q2 ?_;refine pw s rfl (op_new (v := fun N => pt N 0) (T := 39) (cs := #[v]) (by kernel_rfl) (by kernel_rfl) (box_run rfl rfl (sl_one hs))) ?_;rintro _ w2 a1 ⟨N3, rfl, hN6, hz7, hk5, hg4⟩ s;have hz8 := hg4.size
 try dsimp only at s
 refine pk0 (v := .int .i64 0) s rfl fun _ s => q6 ?_;refine pk (v := v) s rfl (rn_load1 rfl rfl Tryz.isAgg39 (hk5.cell rfl)) fun _ s => ?_;have hB11 := hb_new hB0 hg4;refine pk (v := .int .i64 (l.length : Int)) s rfl (rn_len rfl rfl Tryz.underlying39 (hs.below hB11)) fun _ s => ?_;refine pk0 (v := .bool (decide ((l.length : Int) > 4))) s rfl fun _ s => q1 ?_;cases hc14 : (decide ((l.length : Int) > 4))
 ·
  rw [hc14] at s;have hp15 : ¬ ((l.length : Int) > 4) := of_decide_eq_false hc14;refine co_false s rfl <| q7 ?_;refine pk (v := v) s rfl (rn_load1 rfl rfl Tryz.isAgg39 (hk5.cell rfl)) fun _ s => ?_;refine pk0 (v := .func (.func 88) #[] #[pt N3 0]) s rfl fun _ s => ?_;refine pw s rfl (op_call (args := #[v, .func (.func 88) #[] #[pt N3 0]]) (R := fun res xw => res = .int .i64 (chkLgF none l) ∧ Below w2.heap.size w2 xw) rfl rfl rfl (by kernel_rfl) (by kernel_rfl) (Tryz.call87 _ _) (nFirst_any v l N3 w2 (hs.below hB11) (blk_part hk5 0 rfl)) (by rintro e x ⟨rfl, hb20⟩; exact ⟨_, rfl, ⟨rfl, hb20⟩⟩)) ?_;rintro _ w19 a18 ⟨rfl, hb20⟩ s;have hz21 := hb20.size;refine pk0 (v := .int .i64 (chkLgF none l)) s rfl fun _ s => q4 ?_;refine co_ret1 s rfl rfl ?_;have hB23 := hb_call hB11 hb20;exact ⟨ret_int (by unfold chkLg; first | rw [if_pos (by omega)] | rw [if_neg (by omega)]), hB23⟩
 rw [hc14] at s;have hp24 : (l.length : Int) > 4 := of_decide_eq_true hc14;refine co_true s rfl <| q2 ?_;refine pk0 (v := .int .i64 6) s rfl fun _ s => q5 ?_;refine co_ret1 s rfl rfl ?_;exact ⟨ret_int (by unfold chkLg; first | rw [if_pos (by omega)] | rw [if_neg (by omega)]), hB11⟩
set_option maxRecDepth 100000 in
theorem rnLegit_any (v : Value) (l : List Int) (w : World) (hs : SliceOf (intE .i64) 1 w v l) :
    Calls Tryz.prog 65 #[v] w fun e w' => e = .returned (.int .i64 (chkLg l)) ∧ Below w.heap.size w w' := by
 have hB0 := Below.refl w.heap.size w;have hl_hs := sl_len hs;refine co_enter (n := 39) Tryz.func65 rfl rfl rfl [(0, v)] rfl (fun a s => ?_);refine q2 ?_;refine pk0 (v := .int .i64 0) s rfl fun _ s => q6 ?_;refine pk0 (v := v) s rfl fun _ s => ?_;refine pk (v := .int .i64 (l.length : Int)) s rfl (rn_len rfl rfl Tryz.underlying39 hs) fun _ s => ?_;refine pk0 (v := .bool (decide ((l.length : Int) > 4))) s rfl fun _ s => q1 ?_;cases hc5 : (decide ((l.length : Int) > 4))
 ·
  rw [hc5] at s;have hp6 : ¬ ((l.length : Int) > 4) := of_decide_eq_false hc5;refine co_false s rfl <| q8 ?_;refine pk0 (v := .int .i64 0) s rfl fun _ s => q1 <| wp_block ?_;have s : Slots 39 [(0, v), (3, .int .i64 0)] _ := s.sub ⟨rfl, rfl, trivial⟩;refine co_loop (fun mm a x => ∃ (i : Nat), Slots 39 [(0, v), (3, .int .i64 (i : Int))] a ∧ mm = l.length - i ∧ (i ≤ l.length) ∧ (chkLgF (prevI l i) (l.drop i) = chkLgF none l) ∧ Below w.heap.size w x) (l.length - 0) ?_ ?_
  · exact ⟨0, s.sub ⟨rfl, (slot_eq rfl (congrArg (Value.int .i64) (by first | rfl | omega))), trivial⟩, rfl, by omega, by first | rfl | exact hL', hB0⟩
  · rintro k9 a10 w11 ⟨i, s, rfl, hi12, hi13, hB14⟩
    have hz15 := hB14.size;have hL : chkLgF (prevI l i) (l.drop i) = chkLgF none l := by assumption
    refine q9 ?_;refine pk0 (v := .int .i64 (i : Int)) s rfl fun _ s => ?_;refine pk0 (v := v) s rfl fun _ s => ?_;refine pk (v := .int .i64 (l.length : Int)) s rfl (rn_len rfl rfl Tryz.underlying39 (hs.below hB14)) fun _ s => ?_;refine pk0 (v := .bool (decide ((i : Int) < (l.length : Int)))) s rfl fun _ s => q1 ?_;cases hc20 : (decide ((i : Int) < (l.length : Int)))
    ·
     rw [hc20] at s;have hp21 : ¬ ((i : Int) < (l.length : Int)) := of_decide_eq_false hc20;refine co_false s rfl <| wp_exit <| co_thenX <| co_thenX <| qx <| q2 ?_;refine pk0 (v := .int .i64 0) s rfl fun _ s => q4 ?_;refine co_ret1 s rfl rfl ?_;exact ⟨ret_int (by unfold chkLg; rw [if_neg (by omega)]; exact lg_end (i := i) hL (by omega)), hB14⟩
    rw [hc20] at s;have hp23 : (i : Int) < (l.length : Int) := of_decide_eq_true hc20;refine co_true s rfl <| q0 <| co_seq <| wp_block <| q9 ?_;refine pk0 (v := v) s rfl fun _ s => ?_;refine pk0 (v := .int .i64 (i : Int)) s rfl fun _ s => ?_;obtain ⟨y26, hy26⟩ : ∃ z, l[i]? = some z := ⟨_, List.getElem?_eq_getElem (by first | omega | (simp; done) | (simp; omega))⟩;refine pk (v := pt (blkOf v) (offOf v + i * 1)) s rfl (rn_index rfl rfl rfl Tryz.underlying39 Tryz.sizeOf3 (hs.below hB14) (by omega) (by first | omega | (simp; done) | (simp; omega))) fun _ s => ?_;refine pk (v := .int .i64 y26) s rfl (rn_load1 rfl rfl Tryz.isAgg3 ((sl_at (hs.below hB14) hy26) 0 _ rfl)) fun _ s => ?_;refine pk0 (v := .bool (decide (y26 < 0))) s rfl fun _ s => ?_;refine pk0 (v := .bool (decide (y26 < 0))) s rfl fun _ s => ?_;cases hc31 : (decide (y26 < 0))
    ·
     rw [hc31] at s;have hp32 : ¬ (y26 < 0) := of_decide_eq_false hc31;refine pk0 (v := v) s rfl fun _ s => ?_;refine pk0 (v := .int .i64 (i : Int)) s rfl fun _ s => ?_;refine pk (v := pt (blkOf v) (offOf v + i * 1)) s rfl (rn_index rfl rfl rfl Tryz.underlying39 Tryz.sizeOf3 (hs.below hB14) (by omega) (by first | omega | (simp; done) | (simp; omega))) fun _ s => ?_;refine pk (v := .int .i64 y26) s rfl (rn_load1 rfl rfl Tryz.isAgg3 ((sl_at (hs.below hB14) hy26) 0 _ rfl)) fun _ s => ?_;refine pk0 (v := .bool (decide (y26 ≥ 4))) s rfl fun _ s => ?_;refine pk0 (v := .bool (decide (y26 ≥ 4))) s rfl fun _ s => q1 ?_;cases hc39 : (decide (y26 ≥ 4))
     ·
      rw [hc39] at s;have hp40 : ¬ (y26 ≥ 4) := of_decide_eq_false hc39;refine co_false s rfl <| q0 <| co_seq ?_;refine dr_eq (by kernel_rfl) (fun w41 hg42 => ?_);have hz43 := hg42.size;refine dk0 0 (v := .int .i64 (i : Int)) s rfl rfl rfl fun _ s => ?_;refine dk0 1 (v := .bool (decide ((i : Int) > 0))) s rfl rfl rfl fun _ s => ?_;refine dk0 2 (v := .bool (decide ((i : Int) > 0))) s rfl rfl rfl fun _ s => ?_;have hB48 := hb_new hB14 hg42;cases hc47 : (decide ((i : Int) > 0))
      ·
       rw [hc47] at s;have hp49 : ¬ ((i : Int) > 0) := of_decide_eq_false hc47;refine dsk 3 s rfl rfl rfl fun _ s => ?_;refine dsk 4 s rfl rfl rfl fun _ s => ?_;refine dsk 5 s rfl rfl rfl fun _ s => ?_;refine dsk 6 s rfl rfl rfl fun _ s => ?_;refine dsk 7 s rfl rfl rfl fun _ s => ?_;refine dsk 8 s rfl rfl rfl fun _ s => ?_;refine dsk 9 s rfl rfl rfl fun _ s => ?_;refine dsk 10 s rfl rfl rfl fun _ s => ?_;refine dsk 11 s rfl rfl rfl fun _ s => ?_;refine dsk 12 s rfl rfl rfl fun _ s => ?_;refine dk0 13 (v := .bool false) s rfl rfl rfl fun _ s => ?_;refine dr_done (by kernel_rfl) ?_;refine co_then ?_;refine co_false s rfl <| wp_skip <| co_blockN <| co_then <| co_reg ?_;refine pk0 (v := .int .i64 (i : Int)) s rfl fun _ s => ?_;refine pk (v := .int .i64 ((i + 1 : Nat) : Int)) s rfl (rn_arith' rfl rfl rfl rfl rfl rfl (IntWalk.i64_in _ (by omega)) (by omega)) fun _ s => ?_;refine pk0 (v := .int .i64 ((i + 1 : Nat) : Int)) s rfl fun _ s => q1 ?_;refine ⟨(l.length - (i + 1)), by omega, ?_⟩;have hA : 0 = lgAt l i y26 := lgAt_0' (by omega) (by omega);have hL' := lg_step hL hy26 hA.symm;exact ⟨i + 1, s.sub ⟨rfl, rfl, trivial⟩, rfl, by omega, by first | rfl | exact hL', hB48⟩
      rw [hc47] at s;have hp64 : (i : Int) > 0 := of_decide_eq_true hc47;refine dk0 3 (v := v) s rfl rfl rfl fun _ s => ?_;refine dk0 4 (v := .int .i64 (i : Int)) s rfl rfl rfl fun _ s => ?_;refine dk 5 (v := .int .i64 ((i : Int) - 1)) s rfl rfl rfl (fun x hx => by subst hx; exact (rn_arith rfl rfl rfl rfl rfl rfl (IntWalk.i64_in _ (by omega)))) fun _ s => ?_;obtain ⟨y68, hy68⟩ : ∃ z, l[((i : Int) - 1).toNat]? = some z := ⟨_, List.getElem?_eq_getElem (by first | omega | (simp; done) | (simp; omega))⟩;refine dk 6 (v := pt (blkOf v) (offOf v + (((i : Int) - 1).toNat) * 1)) s rfl rfl rfl (fun x hx => by subst hx; exact (rn_index rfl rfl rfl Tryz.underlying39 Tryz.sizeOf3 (hs.below hB48) (by omega) (by first | omega | (simp; done) | (simp; omega)))) fun _ s => ?_;refine dk 7 (v := .int .i64 y68) s rfl rfl rfl (fun x hx => by subst hx; exact (rn_load1 rfl rfl Tryz.isAgg3 ((sl_at (hs.below hB48) hy68) 0 _ rfl))) fun _ s => ?_;refine dk0 8 (v := v) s rfl rfl rfl fun _ s => ?_;refine dk0 9 (v := .int .i64 (i : Int)) s rfl rfl rfl fun _ s => ?_;refine dk 10 (v := pt (blkOf v) (offOf v + i * 1)) s rfl rfl rfl (fun x hx => by subst hx; exact (rn_index rfl rfl rfl Tryz.underlying39 Tryz.sizeOf3 (hs.below hB48) (by omega) (by first | omega | (simp; done) | (simp; omega)))) fun _ s => ?_;refine dk 11 (v := .int .i64 y26) s rfl rfl rfl (fun x hx => by subst hx; exact (rn_load1 rfl rfl Tryz.isAgg3 ((sl_at (hs.below hB48) hy26) 0 _ rfl))) fun _ s => ?_;refine dk0 12 (v := .bool (decide (y68 ≥ y26))) s rfl rfl rfl fun _ s => ?_;refine dk0 13 (v := .bool (decide (y68 ≥ y26))) s rfl rfl rfl fun _ s => ?_;refine dr_done (by kernel_rfl) ?_;refine co_then ?_;cases hc77 : (decide (y68 ≥ y26))
      ·
       rw [hc77] at s;have hp78 : ¬ (y68 ≥ y26) := of_decide_eq_false hc77;refine co_false s rfl <| wp_skip <| co_blockN <| co_then <| co_reg ?_;refine pk0 (v := .int .i64 (i : Int)) s rfl fun _ s => ?_;refine pk (v := .int .i64 ((i + 1 : Nat) : Int)) s rfl (rn_arith' rfl rfl rfl rfl rfl rfl (IntWalk.i64_in _ (by omega)) (by omega)) fun _ s => ?_;refine pk0 (v := .int .i64 ((i + 1 : Nat) : Int)) s rfl fun _ s => q1 ?_;refine ⟨(l.length - (i + 1)), by omega, ?_⟩;have hA : 0 = lgAt l i y26 := lgAt_0 (j := ((i : Int) - 1).toNat) (by omega) (by omega) (by omega) hy68 (by omega);have hL' := lg_step hL hy26 hA.symm;exact ⟨i + 1, s.sub ⟨rfl, rfl, trivial⟩, rfl, by omega, by first | rfl | exact hL', hB48⟩
      rw [hc77] at s;have hp82 : y68 ≥ y26 := of_decide_eq_true hc77;refine co_true s rfl <| q2 ?_;refine pk0 (v := .int .i64 18) s rfl fun _ s => q4 <| qr <| co_thenR <| qr ?_;refine co_ret1 s rfl rfl ?_;have hA : 18 = lgAt l i y26 := lgAt_18 (j := ((i : Int) - 1).toNat) (by omega) (by omega) (by omega) hy68 (by omega);exact ⟨ret_int (by unfold chkLg; rw [if_neg (by omega), hA]; exact lg_bad hL hy26 (by omega)), hB48⟩
     rw [hc39] at s;have hp84 : y26 ≥ 4 := of_decide_eq_true hc39;refine co_true s rfl <| q2 ?_;refine pk0 (v := .int .i64 1) s rfl fun _ s => q5 <| qr <| co_thenR <| qr ?_;refine co_ret1 s rfl rfl ?_;have hA : 1 = lgAt l i y26 := lgAt_1 (by omega);exact ⟨ret_int (by unfold chkLg; rw [if_neg (by omega), hA]; exact lg_bad hL hy26 (by omega)), hB14⟩
    rw [hc31] at s;have hp86 : y26 < 0 := of_decide_eq_true hc31;refine psk s rfl fun _ s => ?_;refine psk s rfl fun _ s => ?_;refine psk s rfl fun _ s => ?_;refine psk s rfl fun _ s => ?_;refine psk s rfl fun _ s => ?_;refine pk0 (v := .bool true) s rfl fun _ s => q1 ?_;refine co_true s rfl <| q2 ?_;refine pk0 (v := .int .i64 1) s rfl fun _ s => q5 <| qr <| co_thenR <| qr ?_;refine co_ret1 s rfl rfl ?_;have hA : 1 = lgAt l i y26 := lgAt_1 (by omega);exact ⟨ret_int (by unfold chkLg; rw [if_neg (by omega), hA]; exact lg_bad hL hy26 (by omega)), hB14⟩
 rw [hc5] at s;have hp94 : (l.length : Int) > 4 := of_decide_eq_true hc5;refine co_true s rfl <| q2 ?_;refine pk0 (v := .int .i64 6) s rfl fun _ s => q5 ?_;refine co_ret1 s rfl rfl ?_;exact ⟨ret_int (by unfold chkLg; rw [if_pos (by omega)]), hB0⟩
set_option maxRecDepth 100000 in
theorem nSaid_any (sc : Int) (sr : Int) (se : Int) (sp : Int) (w : World)  :
    Calls Tryz.prog 55 #[.agg #[.int .i64 sc, .int .i64 sr, .int .i64 se, .int .i64 sp]] w fun e w' => e = .returned (.int .i64 (chkSd sc sr se sp)) ∧ Below w.heap.size w w' := by
 have hB0 := Below.refl w.heap.size w;refine co_enter (n := 17) Tryz.func55 rfl rfl rfl [(0, .agg #[.int .i64 sc, .int .i64 sr, .int .i64 se, .int .i64 sp])] rfl (fun a s => ?_);refine q2 ?_;refine pw s rfl (op_new (v := fun N => pt N 0) (T := 48) (cs := #[.int .i64 sc, .int .i64 sr, .int .i64 se, .int .i64 sp]) (by kernel_rfl) (by kernel_rfl) (by kernel_rfl)) ?_;rintro _ w2 a1 ⟨N3, rfl, hN6, hz7, hk5, hg4⟩ s;have hz8 := hg4.size
 try dsimp only at s
 refine pk0 (v := .int .i64 0) s rfl fun _ s => q6 ?_;refine pk0 (v := pt N3 0) s rfl fun _ s => ?_;refine pk (v := .int .i64 sc) s rfl (rn_load1 rfl rfl Tryz.isAgg3 (hk5.cell rfl)) fun _ s => ?_;refine pw s rfl (op_call (args := #[.int .i64 sc, .int .i64 2]) (R := fun res xw => res = .bool (decide (sc < 0 ∨ sc > 2)) ∧ Below w2.heap.size w2 xw) rfl rfl rfl (by kernel_rfl) (by kernel_rfl) (Tryz.call53 _ _) (nOutside_any sc 2 w2 ) (by rintro e x ⟨rfl, hb14⟩; exact ⟨_, rfl, ⟨rfl, hb14⟩⟩)) ?_;rintro _ w13 a12 ⟨rfl, hb14⟩ s;have hz15 := hb14.size;refine q1 ?_;have hB17 := hb_new hB0 hg4;have hB18 := hb_call hB17 hb14;cases hc16 : (decide (sc < 0 ∨ sc > 2))
 ·
  rw [hc16] at s;have hp19 : ¬ (sc < 0 ∨ sc > 2) := of_decide_eq_false hc16;refine co_false s rfl <| q8 ?_;refine pk0 (v := pt N3 1) s rfl fun _ s => ?_;have hk21 := hk5.below hb14;refine pk (v := .int .i64 sr) s rfl (rn_load1 rfl rfl Tryz.isAgg3 (hk21.cell rfl)) fun _ s => ?_;refine pw s rfl (op_call (args := #[.int .i64 sr, .int .i64 1073741824]) (R := fun res xw => res = .bool (decide (sr < 0 ∨ sr > 1073741824)) ∧ Below w13.heap.size w13 xw) rfl rfl rfl (by kernel_rfl) (by kernel_rfl) (Tryz.call53 _ _) (nOutside_any sr 1073741824 w13 ) (by rintro e x ⟨rfl, hb25⟩; exact ⟨_, rfl, ⟨rfl, hb25⟩⟩)) ?_;rintro _ w24 a23 ⟨rfl, hb25⟩ s;have hz26 := hb25.size;refine pk0 (v := .bool (decide (sr < 0 ∨ sr > 1073741824))) s rfl fun _ s => ?_;have hB29 := hb_call hB18 hb25;cases hc28 : (decide (sr < 0 ∨ sr > 1073741824))
  ·
   rw [hc28] at s;have hp30 : ¬ (sr < 0 ∨ sr > 1073741824) := of_decide_eq_false hc28;refine pk0 (v := pt N3 3) s rfl fun _ s => ?_;have hk32 := hk21.below hb25;refine pk (v := .int .i64 sp) s rfl (rn_load1 rfl rfl Tryz.isAgg3 (hk32.cell rfl)) fun _ s => ?_;refine pw s rfl (op_call (args := #[.int .i64 sp, .int .i64 1073741824]) (R := fun res xw => res = .bool (decide (sp < 0 ∨ sp > 1073741824)) ∧ Below w24.heap.size w24 xw) rfl rfl rfl (by kernel_rfl) (by kernel_rfl) (Tryz.call53 _ _) (nOutside_any sp 1073741824 w24 ) (by rintro e x ⟨rfl, hb36⟩; exact ⟨_, rfl, ⟨rfl, hb36⟩⟩)) ?_;rintro _ w35 a34 ⟨rfl, hb36⟩ s;have hz37 := hb36.size;refine pk0 (v := .bool (decide (sp < 0 ∨ sp > 1073741824))) s rfl fun _ s => q1 ?_;have hB40 := hb_call hB29 hb36;cases hc39 : (decide (sp < 0 ∨ sp > 1073741824))
   ·
    rw [hc39] at s;have hp41 : ¬ (sp < 0 ∨ sp > 1073741824) := of_decide_eq_false hc39;refine co_false s rfl <| q8 ?_;refine pk0 (v := pt N3 2) s rfl fun _ s => ?_;have hk43 := hk32.below hb36;refine pk (v := .int .i64 se) s rfl (rn_load1 rfl rfl Tryz.isAgg37 (hk43.cell rfl)) fun _ s => ?_;refine pw s rfl (op_call (args := #[.int .i64 se, .int .i64 21]) (R := fun res xw => res = .bool (decide (se < 0 ∨ se > 21)) ∧ Below w35.heap.size w35 xw) rfl rfl rfl (by kernel_rfl) (by kernel_rfl) (Tryz.call53 _ _) (nOutside_any se 21 w35 ) (by rintro e x ⟨rfl, hb47⟩; exact ⟨_, rfl, ⟨rfl, hb47⟩⟩)) ?_;rintro _ w46 a45 ⟨rfl, hb47⟩ s;have hz48 := hb47.size;refine q1 ?_;have hB50 := hb_call hB40 hb47;cases hc49 : (decide (se < 0 ∨ se > 21))
    ·
     rw [hc49] at s;have hp51 : ¬ (se < 0 ∨ se > 21) := of_decide_eq_false hc49;refine co_false s rfl <| q7 ?_;refine pk0 (v := .int .i64 0) s rfl fun _ s => q4 ?_;refine co_ret1 s rfl rfl ?_;exact ⟨ret_int (by unfold chkSd may; first | rw [if_pos (by omega)] | rw [if_neg (by omega), if_pos (by omega)] | rw [if_neg (by omega), if_neg (by omega), if_pos (by omega)] | rw [if_neg (by omega), if_neg (by omega), if_neg (by omega)]), hB50⟩
    rw [hc49] at s;have hp53 : se < 0 ∨ se > 21 := of_decide_eq_true hc49;refine co_true s rfl <| q2 ?_;refine pk0 (v := .int .i64 1) s rfl fun _ s => q5 ?_;refine co_ret1 s rfl rfl ?_;exact ⟨ret_int (by unfold chkSd may; first | rw [if_pos (by omega)] | rw [if_neg (by omega), if_pos (by omega)] | rw [if_neg (by omega), if_neg (by omega), if_pos (by omega)] | rw [if_neg (by omega), if_neg (by omega), if_neg (by omega)]), hB50⟩
   rw [hc39] at s;have hp55 : sp < 0 ∨ sp > 1073741824 := of_decide_eq_true hc39;refine co_true s rfl <| q2 ?_;refine pk0 (v := .int .i64 5) s rfl fun _ s => q5 ?_;refine co_ret1 s rfl rfl ?_;exact ⟨ret_int (by unfold chkSd may; first | rw [if_pos (by omega)] | rw [if_neg (by omega), if_pos (by omega)] | rw [if_neg (by omega), if_neg (by omega), if_pos (by omega)] | rw [if_neg (by omega), if_neg (by omega), if_neg (by omega)]), hB40⟩
  rw [hc28] at s;have hp57 : sr < 0 ∨ sr > 1073741824 := of_decide_eq_true hc28;refine psk s rfl fun _ s => ?_;refine psk s rfl fun _ s => ?_;refine psk s rfl fun _ s => ?_;refine pk0 (v := .bool true) s rfl fun _ s => q1 ?_;refine co_true s rfl <| q2 ?_;refine pk0 (v := .int .i64 5) s rfl fun _ s => q5 ?_;refine co_ret1 s rfl rfl ?_;exact ⟨ret_int (by unfold chkSd may; first | rw [if_pos (by omega)] | rw [if_neg (by omega), if_pos (by omega)] | rw [if_neg (by omega), if_neg (by omega), if_pos (by omega)] | rw [if_neg (by omega), if_neg (by omega), if_neg (by omega)]), hB29⟩
 rw [hc16] at s;have hp63 : sc < 0 ∨ sc > 2 := of_decide_eq_true hc16;refine co_true s rfl <| q2 ?_;refine pk0 (v := .int .i64 1) s rfl fun _ s => q5 ?_;refine co_ret1 s rfl rfl ?_;exact ⟨ret_int (by unfold chkSd may; first | rw [if_pos (by omega)] | rw [if_neg (by omega), if_pos (by omega)] | rw [if_neg (by omega), if_neg (by omega), if_pos (by omega)] | rw [if_neg (by omega), if_neg (by omega), if_neg (by omega)]), hB18⟩
set_option maxRecDepth 100000 in
theorem rnSaid_any (sc : Int) (sr : Int) (se : Int) (sp : Int) (w : World)  :
    Calls Tryz.prog 68 #[.agg #[.int .i64 sc, .int .i64 sr, .int .i64 se, .int .i64 sp]] w fun e w' => e = .returned (.int .i64 (chkSd sc sr se sp)) ∧ Below w.heap.size w w' := by
 have hB0 := Below.refl w.heap.size w;refine co_enter (n := 29) Tryz.func68 rfl rfl rfl [(0, .agg #[.int .i64 sc, .int .i64 sr, .int .i64 se, .int .i64 sp])] rfl (fun a s => ?_);refine q2 ?_;refine pw s rfl (op_new (v := fun N => pt N 0) (T := 48) (cs := #[.int .i64 sc, .int .i64 sr, .int .i64 se, .int .i64 sp]) (by kernel_rfl) (by kernel_rfl) (by kernel_rfl)) ?_;rintro _ w2 a1 ⟨N3, rfl, hN6, hz7, hk5, hg4⟩ s;have hz8 := hg4.size
 try dsimp only at s
 refine pk0 (v := .int .i64 0) s rfl fun _ s => q6 ?_;refine pk0 (v := pt N3 0) s rfl fun _ s => ?_;refine pk (v := .int .i64 sc) s rfl (rn_load1 rfl rfl Tryz.isAgg3 (hk5.cell rfl)) fun _ s => ?_;refine pk0 (v := .bool (decide (sc < 0))) s rfl fun _ s => ?_;refine pk0 (v := .bool (decide (sc < 0))) s rfl fun _ s => ?_;have hB15 := hb_new hB0 hg4;cases hc14 : (decide (sc < 0))
 ·
  rw [hc14] at s;have hp16 : ¬ (sc < 0) := of_decide_eq_false hc14;refine pk0 (v := pt N3 0) s rfl fun _ s => ?_;refine pk (v := .int .i64 sc) s rfl (rn_load1 rfl rfl Tryz.isAgg3 (hk5.cell rfl)) fun _ s => ?_;refine pk0 (v := .bool (decide (sc ≥ 3))) s rfl fun _ s => ?_;refine pk0 (v := .bool (decide (sc ≥ 3))) s rfl fun _ s => q1 ?_;cases hc21 : (decide (sc ≥ 3))
  ·
   rw [hc21] at s;have hp22 : ¬ (sc ≥ 3) := of_decide_eq_false hc21;refine co_false s rfl <| q8 ?_;refine pk0 (v := pt N3 1) s rfl fun _ s => ?_;refine pk (v := .int .i64 sr) s rfl (rn_load1 rfl rfl Tryz.isAgg3 (hk5.cell rfl)) fun _ s => ?_;refine pw s rfl (op_call (args := #[.int .i64 sr]) (R := fun res xw => res = .bool (decide (0 ≤ sr ∧ sr ≤ 1073741824)) ∧ Below w2.heap.size w2 xw) rfl rfl rfl (by kernel_rfl) (by kernel_rfl) (Tryz.call66 _ _) (rnMay_any sr w2 ) (by rintro e x ⟨rfl, hb27⟩; exact ⟨_, rfl, ⟨rfl, hb27⟩⟩)) ?_;rintro _ w26 a25 ⟨rfl, hb27⟩ s;have hz28 := hb27.size;have hB30 := hb_call hB15 hb27;cases hc29 : (decide (0 ≤ sr ∧ sr ≤ 1073741824))
   ·
    rw [hc29] at s;have hp31 : ¬ (0 ≤ sr ∧ sr ≤ 1073741824) := of_decide_eq_false hc29;refine pk0 (v := .bool true) s rfl fun _ s => ?_;refine pk0 (v := .bool true) s rfl fun _ s => ?_;refine psk s rfl fun _ s => ?_;refine psk s rfl fun _ s => ?_;refine psk s rfl fun _ s => ?_;refine psk s rfl fun _ s => ?_;refine pk0 (v := .bool true) s rfl fun _ s => q1 ?_;refine co_true s rfl <| q2 ?_;refine pk0 (v := .int .i64 5) s rfl fun _ s => q5 ?_;refine co_ret1 s rfl rfl ?_;exact ⟨ret_int (by unfold chkSd may; first | rw [if_pos (by omega)] | rw [if_neg (by omega), if_pos (by omega)] | rw [if_neg (by omega), if_neg (by omega), if_pos (by omega)] | rw [if_neg (by omega), if_neg (by omega), if_neg (by omega)]), hB30⟩
   rw [hc29] at s;have hp40 : 0 ≤ sr ∧ sr ≤ 1073741824 := of_decide_eq_true hc29;refine pk0 (v := .bool false) s rfl fun _ s => ?_;refine pk0 (v := .bool false) s rfl fun _ s => ?_;refine pk0 (v := pt N3 3) s rfl fun _ s => ?_;have hk44 := hk5.below hb27;refine pk (v := .int .i64 sp) s rfl (rn_load1 rfl rfl Tryz.isAgg3 (hk44.cell rfl)) fun _ s => ?_;refine pw s rfl (op_call (args := #[.int .i64 sp]) (R := fun res xw => res = .bool (decide (0 ≤ sp ∧ sp ≤ 1073741824)) ∧ Below w26.heap.size w26 xw) rfl rfl rfl (by kernel_rfl) (by kernel_rfl) (Tryz.call66 _ _) (rnMay_any sp w26 ) (by rintro e x ⟨rfl, hb48⟩; exact ⟨_, rfl, ⟨rfl, hb48⟩⟩)) ?_;rintro _ w47 a46 ⟨rfl, hb48⟩ s;have hz49 := hb48.size;have hB51 := hb_call hB30 hb48;cases hc50 : (decide (0 ≤ sp ∧ sp ≤ 1073741824))
   ·
    rw [hc50] at s;have hp52 : ¬ (0 ≤ sp ∧ sp ≤ 1073741824) := of_decide_eq_false hc50;refine pk0 (v := .bool true) s rfl fun _ s => ?_;refine pk0 (v := .bool true) s rfl fun _ s => q1 ?_;refine co_true s rfl <| q2 ?_;refine pk0 (v := .int .i64 5) s rfl fun _ s => q5 ?_;refine co_ret1 s rfl rfl ?_;exact ⟨ret_int (by unfold chkSd may; first | rw [if_pos (by omega)] | rw [if_neg (by omega), if_pos (by omega)] | rw [if_neg (by omega), if_neg (by omega), if_pos (by omega)] | rw [if_neg (by omega), if_neg (by omega), if_neg (by omega)]), hB51⟩
   rw [hc50] at s;have hp56 : 0 ≤ sp ∧ sp ≤ 1073741824 := of_decide_eq_true hc50;refine pk0 (v := .bool false) s rfl fun _ s => ?_;refine pk0 (v := .bool false) s rfl fun _ s => q1 ?_;refine co_false s rfl <| q8 ?_;refine pk0 (v := pt N3 2) s rfl fun _ s => ?_;have hk60 := hk44.below hb48;refine pk (v := .int .i64 se) s rfl (rn_load1 rfl rfl Tryz.isAgg37 (hk60.cell rfl)) fun _ s => ?_;refine pk0 (v := .bool (decide (se < 0))) s rfl fun _ s => ?_;refine pk0 (v := .bool (decide (se < 0))) s rfl fun _ s => ?_;cases hc64 : (decide (se < 0))
   ·
    rw [hc64] at s;have hp65 : ¬ (se < 0) := of_decide_eq_false hc64;refine pk0 (v := pt N3 2) s rfl fun _ s => ?_;refine pk (v := .int .i64 se) s rfl (rn_load1 rfl rfl Tryz.isAgg37 (hk60.cell rfl)) fun _ s => ?_;refine pk0 (v := .bool (decide (se > 21))) s rfl fun _ s => ?_;refine pk0 (v := .bool (decide (se > 21))) s rfl fun _ s => q1 ?_;cases hc70 : (decide (se > 21))
    ·
     rw [hc70] at s;have hp71 : ¬ (se > 21) := of_decide_eq_false hc70;refine co_false s rfl <| q7 ?_;refine pk0 (v := .int .i64 0) s rfl fun _ s => q4 ?_;refine co_ret1 s rfl rfl ?_;exact ⟨ret_int (by unfold chkSd may; first | rw [if_pos (by omega)] | rw [if_neg (by omega), if_pos (by omega)] | rw [if_neg (by omega), if_neg (by omega), if_pos (by omega)] | rw [if_neg (by omega), if_neg (by omega), if_neg (by omega)]), hB51⟩
    rw [hc70] at s;have hp73 : se > 21 := of_decide_eq_true hc70;refine co_true s rfl <| q2 ?_;refine pk0 (v := .int .i64 1) s rfl fun _ s => q5 ?_;refine co_ret1 s rfl rfl ?_;exact ⟨ret_int (by unfold chkSd may; first | rw [if_pos (by omega)] | rw [if_neg (by omega), if_pos (by omega)] | rw [if_neg (by omega), if_neg (by omega), if_pos (by omega)] | rw [if_neg (by omega), if_neg (by omega), if_neg (by omega)]), hB51⟩
   rw [hc64] at s;have hp75 : se < 0 := of_decide_eq_true hc64;refine psk s rfl fun _ s => ?_;refine psk s rfl fun _ s => ?_;refine psk s rfl fun _ s => ?_;refine pk0 (v := .bool true) s rfl fun _ s => q1 ?_;refine co_true s rfl <| q2 ?_;refine pk0 (v := .int .i64 1) s rfl fun _ s => q5 ?_;refine co_ret1 s rfl rfl ?_;exact ⟨ret_int (by unfold chkSd may; first | rw [if_pos (by omega)] | rw [if_neg (by omega), if_pos (by omega)] | rw [if_neg (by omega), if_neg (by omega), if_pos (by omega)] | rw [if_neg (by omega), if_neg (by omega), if_neg (by omega)]), hB51⟩
  rw [hc21] at s;have hp81 : sc ≥ 3 := of_decide_eq_true hc21;refine co_true s rfl <| q2 ?_;refine pk0 (v := .int .i64 1) s rfl fun _ s => q5 ?_;refine co_ret1 s rfl rfl ?_;exact ⟨ret_int (by unfold chkSd may; first | rw [if_pos (by omega)] | rw [if_neg (by omega), if_pos (by omega)] | rw [if_neg (by omega), if_neg (by omega), if_pos (by omega)] | rw [if_neg (by omega), if_neg (by omega), if_neg (by omega)]), hB15⟩
 rw [hc14] at s;have hp83 : sc < 0 := of_decide_eq_true hc14;refine psk s rfl fun _ s => ?_;refine psk s rfl fun _ s => ?_;refine psk s rfl fun _ s => ?_;refine pk0 (v := .bool true) s rfl fun _ s => q1 ?_;refine co_true s rfl <| q2 ?_;refine pk0 (v := .int .i64 1) s rfl fun _ s => q5 ?_;refine co_ret1 s rfl rfl ?_;exact ⟨ret_int (by unfold chkSd may; first | rw [if_pos (by omega)] | rw [if_neg (by omega), if_pos (by omega)] | rw [if_neg (by omega), if_neg (by omega), if_pos (by omega)] | rw [if_neg (by omega), if_neg (by omega), if_neg (by omega)]), hB15⟩
set_option maxRecDepth 100000 in
theorem nCheck_any (d : NoteD) (mv : Value) (lv : Value) (ev : Value) (w : World) (hm : SliceOf memE 2 w mv d.ms) (hg : SliceOf (intE .i64) 1 w lv d.lg) (he : SliceOf opE 3 w ev d.el) (hR : NoteR d) :
    Calls Tryz.prog 21 #[.agg #[.int .i64 d.k, .int .i64 d.n, .int .u64 d.t, .int .i64 d.ep, mv, .int .u64 d.fl, lv, .int .i64 d.ec, .int .i64 d.er, ev, .int .u64 d.ets, .int .i64 d.pid, .int .u64 d.pat, .int .i64 d.plf, .int .i64 d.sc, .int .i64 d.sr, .int .i64 d.se, .int .i64 d.sp]] w fun e w' => e = .returned (.int .i64 (chkN d)) ∧ Below w.heap.size w w' := by
 have hrng := hR.rng;have hB0 := Below.refl w.heap.size w;have hl_hm := sl_len hm;have hl_hg := sl_len hg;have hl_he := sl_len he;refine co_enter (n := 50) Tryz.func21 rfl rfl rfl [(0, .agg #[.int .i64 d.k, .int .i64 d.n, .int .u64 d.t, .int .i64 d.ep, mv, .int .u64 d.fl, lv, .int .i64 d.ec, .int .i64 d.er, ev, .int .u64 d.ets, .int .i64 d.pid, .int .u64 d.pat, .int .i64 d.plf, .int .i64 d.sc, .int .i64 d.sr, .int .i64 d.se, .int .i64 d.sp])] rfl (fun a s => ?_);refine q2 ?_;refine pw s rfl (op_new (v := fun N => pt N 0) (T := 50) (cs := #[.int .i64 d.k, .int .i64 d.n, .int .u64 d.t, .int .i64 d.ep, mv, .int .u64 d.fl, lv, .int .i64 d.ec, .int .i64 d.er, ev, .int .u64 d.ets, .int .i64 d.pid, .int .u64 d.pat, .int .i64 d.plf, .int .i64 d.sc, .int .i64 d.sr, .int .i64 d.se, .int .i64 d.sp]) (by kernel_rfl) (by kernel_rfl) (by kernel_rfl)) ?_;rintro _ w2 a1 ⟨N3, rfl, hN6, hz7, hk5, hg4⟩ s;have hz8 := hg4.size
 try dsimp only at s
 refine pk0 (v := .int .i64 0) s rfl fun _ s => q6 ?_;refine pk0 (v := pt N3 0) s rfl fun _ s => ?_;refine pk (v := .int .i64 d.k) s rfl (rn_load1 rfl rfl Tryz.isAgg3 (hk5.cell rfl)) fun _ s => q1 <| wp_block <| q2 ?_;refine pk0 (v := .bool (d.k == 1)) s rfl fun _ s => ?_;refine pk0 (v := .bool (d.k == 1)) s rfl fun _ s => q1 ?_;have hB15 := hb_new hB0 hg4;cases hc14 : (d.k == 1)
 ·
  rw [hc14] at s;have hp16 : ¬ (d.k = 1) := by first | simpa using hc14 | simpa [and_assoc] using hc14
  refine co_false s rfl <| q2 ?_;refine pk0 (v := .bool (d.k == 2)) s rfl fun _ s => ?_;refine pk0 (v := .bool (d.k == 2)) s rfl fun _ s => q1 ?_;cases hc19 : (d.k == 2)
  ·
   rw [hc19] at s;have hp20 : ¬ (d.k = 2) := by first | simpa using hc19 | simpa [and_assoc] using hc19
   refine co_false s rfl <| q9 ?_;refine pk0 (v := .bool (d.k == 3)) s rfl fun _ s => ?_;refine pk0 (v := .bool (d.k == 3)) s rfl fun _ s => q1 ?_;cases hc23 : (d.k == 3)
   ·
    rw [hc23] at s;have hp24 : ¬ (d.k = 3) := by first | simpa using hc23 | simpa [and_assoc] using hc23
    refine co_false s rfl <| q2 ?_;refine pk0 (v := .bool (d.k == 4)) s rfl fun _ s => ?_;refine pk0 (v := .bool (d.k == 4)) s rfl fun _ s => q1 ?_;cases hc27 : (d.k == 4)
    ·
     rw [hc27] at s;have hp28 : ¬ (d.k = 4) := by first | simpa using hc27 | simpa [and_assoc] using hc27
     refine co_false s rfl <| q2 ?_;refine pk0 (v := .bool (d.k == 5)) s rfl fun _ s => ?_;refine pk0 (v := .bool (d.k == 5)) s rfl fun _ s => q1 ?_;cases hc31 : (d.k == 5)
     ·
      rw [hc31] at s;have hp32 : ¬ (d.k = 5) := by first | simpa using hc31 | simpa [and_assoc] using hc31
      refine co_false s rfl <| co_reg ?_;refine pk0 (v := .bool (d.k == 7)) s rfl fun _ s => ?_;refine pk0 (v := .bool (d.k == 7)) s rfl fun _ s => q1 ?_;cases hc35 : (d.k == 7)
      ·
       rw [hc35] at s;have hp36 : ¬ (d.k = 7) := by first | simpa using hc35 | simpa [and_assoc] using hc35
       refine co_false s rfl <| q2 ?_;refine pk0 (v := .bool (d.k == 6)) s rfl fun _ s => ?_;refine pk0 (v := .bool (d.k == 6)) s rfl fun _ s => q1 ?_;cases hc39 : (d.k == 6)
       ·
        rw [hc39] at s;have hp40 : ¬ (d.k = 6) := by first | simpa using hc39 | simpa [and_assoc] using hc39
        refine co_false s rfl <| q2 ?_;refine pk0 (v := .bool (d.k == 8)) s rfl fun _ s => ?_;refine pk0 (v := .bool (d.k == 8)) s rfl fun _ s => q1 ?_;cases hc43 : (d.k == 8)
        ·
         rw [hc43] at s;have hp44 : ¬ (d.k = 8) := by first | simpa using hc43 | simpa [and_assoc] using hc43
         refine co_false s rfl <| wp_skip <| co_blockN <| co_then <| q2 ?_;refine pk0 (v := .int .i64 11) s rfl fun _ s => q4 ?_;refine co_ret1 s rfl rfl ?_;exact ⟨ret_int (by rw [chkN_0 (by omega)]), hB15⟩
        rw [hc43] at s;have hp46 : d.k = 8 := by first | simpa using hc43 | simpa [and_assoc] using hc43
        refine co_true s rfl <| q2 ?_;refine pk0 (v := pt N3 14) s rfl fun _ s => ?_;refine pk (v := .agg #[.int .i64 d.sc, .int .i64 d.sr, .int .i64 d.se, .int .i64 d.sp]) s rfl (rn_loadN rfl rfl Tryz.underlying48 rfl (by kernel_rfl) (blk_part hk5 14 (by rfl))) fun _ s => ?_;refine pw s rfl (op_call (args := #[.agg #[.int .i64 d.sc, .int .i64 d.sr, .int .i64 d.se, .int .i64 d.sp]]) (R := fun res xw => res = .int .i64 (chkSd d.sc d.sr d.se d.sp) ∧ Below w2.heap.size w2 xw) rfl rfl rfl (by kernel_rfl) (by kernel_rfl) (Tryz.call55 _ _) (nSaid_any d.sc d.sr d.se d.sp w2 ) (by rintro e x ⟨rfl, hb51⟩; exact ⟨_, rfl, ⟨rfl, hb51⟩⟩)) ?_;rintro _ w50 a49 ⟨rfl, hb51⟩ s;have hz52 := hb51.size;refine pk0 (v := .int .i64 (chkSd d.sc d.sr d.se d.sp)) s rfl fun _ s => q4 <| qr ?_;refine co_ret1 s rfl rfl ?_;have hB54 := hb_call hB15 hb51;exact ⟨ret_int (by rw [chkN_8 (by omega)]), hB54⟩
       rw [hc39] at s;have hp55 : d.k = 6 := by first | simpa using hc39 | simpa [and_assoc] using hc39
       refine co_true s rfl <| q9 ?_;refine pk0 (v := pt N3 11) s rfl fun _ s => ?_;refine pk0 (v := pt N3 11) s rfl fun _ s => ?_;refine pk (v := .int .i64 d.pid) s rfl (rn_load1 rfl rfl Tryz.isAgg3 (hk5.cell rfl)) fun _ s => ?_;refine pw s rfl (op_call (args := #[.int .i64 d.pid, .int .i64 1073741824]) (R := fun res xw => res = .bool (decide (d.pid < 0 ∨ d.pid > 1073741824)) ∧ Below w2.heap.size w2 xw) rfl rfl rfl (by kernel_rfl) (by kernel_rfl) (Tryz.call53 _ _) (nOutside_any d.pid 1073741824 w2 ) (by rintro e x ⟨rfl, hb61⟩; exact ⟨_, rfl, ⟨rfl, hb61⟩⟩)) ?_;rintro _ w60 a59 ⟨rfl, hb61⟩ s;have hz62 := hb61.size;refine pk0 (v := .bool (decide (d.pid < 0 ∨ d.pid > 1073741824))) s rfl fun _ s => ?_;have hB65 := hb_call hB15 hb61;cases hc64 : (decide (d.pid < 0 ∨ d.pid > 1073741824))
       ·
        rw [hc64] at s;have hp66 : ¬ (d.pid < 0 ∨ d.pid > 1073741824) := of_decide_eq_false hc64;refine pk0 (v := pt N3 11) s rfl fun _ s => ?_;refine pk0 (v := pt N3 13) s rfl fun _ s => ?_;have hk69 := hk5.below hb61;refine pk (v := .int .i64 d.plf) s rfl (rn_load1 rfl rfl Tryz.isAgg3 (hk69.cell rfl)) fun _ s => ?_;refine pw s rfl (op_call (args := #[.int .i64 d.plf, .int .i64 1073741824]) (R := fun res xw => res = .bool (decide (d.plf < 0 ∨ d.plf > 1073741824)) ∧ Below w60.heap.size w60 xw) rfl rfl rfl (by kernel_rfl) (by kernel_rfl) (Tryz.call53 _ _) (nOutside_any d.plf 1073741824 w60 ) (by rintro e x ⟨rfl, hb73⟩; exact ⟨_, rfl, ⟨rfl, hb73⟩⟩)) ?_;rintro _ w72 a71 ⟨rfl, hb73⟩ s;have hz74 := hb73.size;refine pk0 (v := .bool (decide (d.plf < 0 ∨ d.plf > 1073741824))) s rfl fun _ s => q1 ?_;have hB77 := hb_call hB65 hb73;cases hc76 : (decide (d.plf < 0 ∨ d.plf > 1073741824))
        ·
         rw [hc76] at s;have hp78 : ¬ (d.plf < 0 ∨ d.plf > 1073741824) := of_decide_eq_false hc76;refine co_false s rfl <| q7 ?_;refine pk0 (v := .int .i64 0) s rfl fun _ s => q4 <| qr ?_;refine co_ret1 s rfl rfl ?_;exact ⟨ret_int (by rw [chkN_6 (by omega)]; unfold may; first | rw [if_pos (by omega)] | rw [if_neg (by omega)]), hB77⟩
        rw [hc76] at s;have hp80 : d.plf < 0 ∨ d.plf > 1073741824 := of_decide_eq_true hc76;refine co_true s rfl <| q2 ?_;refine pk0 (v := .int .i64 5) s rfl fun _ s => q5 <| qr ?_;refine co_ret1 s rfl rfl ?_;exact ⟨ret_int (by rw [chkN_6 (by omega)]; unfold may; first | rw [if_pos (by omega)] | rw [if_neg (by omega)]), hB77⟩
       rw [hc64] at s;have hp82 : d.pid < 0 ∨ d.pid > 1073741824 := of_decide_eq_true hc64;refine psk s rfl fun _ s => ?_;refine psk s rfl fun _ s => ?_;refine psk s rfl fun _ s => ?_;refine psk s rfl fun _ s => ?_;refine pk0 (v := .bool true) s rfl fun _ s => q1 ?_;refine co_true s rfl <| q2 ?_;refine pk0 (v := .int .i64 5) s rfl fun _ s => q5 <| qr ?_;refine co_ret1 s rfl rfl ?_;exact ⟨ret_int (by rw [chkN_6 (by omega)]; unfold may; first | rw [if_pos (by omega)] | rw [if_neg (by omega)]), hB65⟩
      rw [hc35] at s;have hp89 : d.k = 7 := by first | simpa using hc35 | simpa [and_assoc] using hc35
      refine co_true s rfl <| q9 ?_;refine pk0 (v := pt N3 1) s rfl fun _ s => ?_;refine pk (v := .int .i64 d.n) s rfl (rn_load1 rfl rfl Tryz.isAgg3 (hk5.cell rfl)) fun _ s => ?_;refine pw s rfl (op_call (args := #[.int .i64 d.n, .int .i64 1073741824]) (R := fun res xw => res = .bool (decide (d.n < 0 ∨ d.n > 1073741824)) ∧ Below w2.heap.size w2 xw) rfl rfl rfl (by kernel_rfl) (by kernel_rfl) (Tryz.call53 _ _) (nOutside_any d.n 1073741824 w2 ) (by rintro e x ⟨rfl, hb94⟩; exact ⟨_, rfl, ⟨rfl, hb94⟩⟩)) ?_;rintro _ w93 a92 ⟨rfl, hb94⟩ s;have hz95 := hb94.size;refine q1 ?_;have hB97 := hb_call hB15 hb94;cases hc96 : (decide (d.n < 0 ∨ d.n > 1073741824))
      ·
       rw [hc96] at s;have hp98 : ¬ (d.n < 0 ∨ d.n > 1073741824) := of_decide_eq_false hc96;refine co_false s rfl <| q7 ?_;refine pk0 (v := .int .i64 0) s rfl fun _ s => q4 <| qr ?_;refine co_ret1 s rfl rfl ?_;exact ⟨ret_int (by rw [chkN_3 (by omega)]; unfold may; first | rw [if_pos (by omega)] | rw [if_neg (by omega)]), hB97⟩
      rw [hc96] at s;have hp100 : d.n < 0 ∨ d.n > 1073741824 := of_decide_eq_true hc96;refine co_true s rfl <| q2 ?_;refine pk0 (v := .int .i64 5) s rfl fun _ s => q5 <| qr ?_;refine co_ret1 s rfl rfl ?_;exact ⟨ret_int (by rw [chkN_3 (by omega)]; unfold may; first | rw [if_pos (by omega)] | rw [if_neg (by omega)]), hB97⟩
     rw [hc31] at s;have hp102 : d.k = 5 := by first | simpa using hc31 | simpa [and_assoc] using hc31
     refine co_true s rfl <| q0 ?_;refine co_true s rfl <| q9 ?_;refine pk0 (v := pt N3 1) s rfl fun _ s => ?_;refine pk (v := .int .i64 d.n) s rfl (rn_load1 rfl rfl Tryz.isAgg3 (hk5.cell rfl)) fun _ s => ?_;refine pw s rfl (op_call (args := #[.int .i64 d.n, .int .i64 1073741824]) (R := fun res xw => res = .bool (decide (d.n < 0 ∨ d.n > 1073741824)) ∧ Below w2.heap.size w2 xw) rfl rfl rfl (by kernel_rfl) (by kernel_rfl) (Tryz.call53 _ _) (nOutside_any d.n 1073741824 w2 ) (by rintro e x ⟨rfl, hb107⟩; exact ⟨_, rfl, ⟨rfl, hb107⟩⟩)) ?_;rintro _ w106 a105 ⟨rfl, hb107⟩ s;have hz108 := hb107.size;refine q1 ?_;have hB110 := hb_call hB15 hb107;cases hc109 : (decide (d.n < 0 ∨ d.n > 1073741824))
     ·
      rw [hc109] at s;have hp111 : ¬ (d.n < 0 ∨ d.n > 1073741824) := of_decide_eq_false hc109;refine co_false s rfl <| q7 ?_;refine pk0 (v := .int .i64 0) s rfl fun _ s => q4 <| qr ?_;refine co_ret1 s rfl rfl ?_;exact ⟨ret_int (by rw [chkN_3 (by omega)]; unfold may; first | rw [if_pos (by omega)] | rw [if_neg (by omega)]), hB110⟩
     rw [hc109] at s;have hp113 : d.n < 0 ∨ d.n > 1073741824 := of_decide_eq_true hc109;refine co_true s rfl <| q2 ?_;refine pk0 (v := .int .i64 5) s rfl fun _ s => q5 <| qr ?_;refine co_ret1 s rfl rfl ?_;exact ⟨ret_int (by rw [chkN_3 (by omega)]; unfold may; first | rw [if_pos (by omega)] | rw [if_neg (by omega)]), hB110⟩
    rw [hc27] at s;have hp115 : d.k = 4 := by first | simpa using hc27 | simpa [and_assoc] using hc27
    refine co_true s rfl <| q0 ?_;refine co_true s rfl <| q9 ?_;refine pk0 (v := pt N3 1) s rfl fun _ s => ?_;refine pk (v := .int .i64 d.n) s rfl (rn_load1 rfl rfl Tryz.isAgg3 (hk5.cell rfl)) fun _ s => ?_;refine pw s rfl (op_call (args := #[.int .i64 d.n, .int .i64 1073741824]) (R := fun res xw => res = .bool (decide (d.n < 0 ∨ d.n > 1073741824)) ∧ Below w2.heap.size w2 xw) rfl rfl rfl (by kernel_rfl) (by kernel_rfl) (Tryz.call53 _ _) (nOutside_any d.n 1073741824 w2 ) (by rintro e x ⟨rfl, hb120⟩; exact ⟨_, rfl, ⟨rfl, hb120⟩⟩)) ?_;rintro _ w119 a118 ⟨rfl, hb120⟩ s;have hz121 := hb120.size;refine q1 ?_;have hB123 := hb_call hB15 hb120;cases hc122 : (decide (d.n < 0 ∨ d.n > 1073741824))
    ·
     rw [hc122] at s;have hp124 : ¬ (d.n < 0 ∨ d.n > 1073741824) := of_decide_eq_false hc122;refine co_false s rfl <| q7 ?_;refine pk0 (v := .int .i64 0) s rfl fun _ s => q4 <| qr ?_;refine co_ret1 s rfl rfl ?_;exact ⟨ret_int (by rw [chkN_3 (by omega)]; unfold may; first | rw [if_pos (by omega)] | rw [if_neg (by omega)]), hB123⟩
    rw [hc122] at s;have hp126 : d.n < 0 ∨ d.n > 1073741824 := of_decide_eq_true hc122;refine co_true s rfl <| q2 ?_;refine pk0 (v := .int .i64 5) s rfl fun _ s => q5 <| qr ?_;refine co_ret1 s rfl rfl ?_;exact ⟨ret_int (by rw [chkN_3 (by omega)]; unfold may; first | rw [if_pos (by omega)] | rw [if_neg (by omega)]), hB123⟩
   rw [hc23] at s;have hp128 : d.k = 3 := by first | simpa using hc23 | simpa [and_assoc] using hc23
   refine co_true s rfl <| q0 ?_;refine co_true s rfl <| q9 ?_;refine pk0 (v := pt N3 1) s rfl fun _ s => ?_;refine pk (v := .int .i64 d.n) s rfl (rn_load1 rfl rfl Tryz.isAgg3 (hk5.cell rfl)) fun _ s => ?_;refine pw s rfl (op_call (args := #[.int .i64 d.n, .int .i64 1073741824]) (R := fun res xw => res = .bool (decide (d.n < 0 ∨ d.n > 1073741824)) ∧ Below w2.heap.size w2 xw) rfl rfl rfl (by kernel_rfl) (by kernel_rfl) (Tryz.call53 _ _) (nOutside_any d.n 1073741824 w2 ) (by rintro e x ⟨rfl, hb133⟩; exact ⟨_, rfl, ⟨rfl, hb133⟩⟩)) ?_;rintro _ w132 a131 ⟨rfl, hb133⟩ s;have hz134 := hb133.size;refine q1 ?_;have hB136 := hb_call hB15 hb133;cases hc135 : (decide (d.n < 0 ∨ d.n > 1073741824))
   ·
    rw [hc135] at s;have hp137 : ¬ (d.n < 0 ∨ d.n > 1073741824) := of_decide_eq_false hc135;refine co_false s rfl <| q7 ?_;refine pk0 (v := .int .i64 0) s rfl fun _ s => q4 <| qr ?_;refine co_ret1 s rfl rfl ?_;exact ⟨ret_int (by rw [chkN_3 (by omega)]; unfold may; first | rw [if_pos (by omega)] | rw [if_neg (by omega)]), hB136⟩
   rw [hc135] at s;have hp139 : d.n < 0 ∨ d.n > 1073741824 := of_decide_eq_true hc135;refine co_true s rfl <| q2 ?_;refine pk0 (v := .int .i64 5) s rfl fun _ s => q5 <| qr ?_;refine co_ret1 s rfl rfl ?_;exact ⟨ret_int (by rw [chkN_3 (by omega)]; unfold may; first | rw [if_pos (by omega)] | rw [if_neg (by omega)]), hB136⟩
  rw [hc19] at s;have hp141 : d.k = 2 := by first | simpa using hc19 | simpa [and_assoc] using hc19
  refine co_true s rfl <| q9 ?_;refine pk0 (v := pt N3 1) s rfl fun _ s => ?_;refine pk (v := .int .i64 d.n) s rfl (rn_load1 rfl rfl Tryz.isAgg3 (hk5.cell rfl)) fun _ s => ?_;refine pw s rfl (op_call (args := #[.int .i64 d.n, .int .i64 1073741824]) (R := fun res xw => res = .bool (decide (d.n < 0 ∨ d.n > 1073741824)) ∧ Below w2.heap.size w2 xw) rfl rfl rfl (by kernel_rfl) (by kernel_rfl) (Tryz.call53 _ _) (nOutside_any d.n 1073741824 w2 ) (by rintro e x ⟨rfl, hb146⟩; exact ⟨_, rfl, ⟨rfl, hb146⟩⟩)) ?_;rintro _ w145 a144 ⟨rfl, hb146⟩ s;have hz147 := hb146.size;refine q1 ?_;have hB149 := hb_call hB15 hb146;cases hc148 : (decide (d.n < 0 ∨ d.n > 1073741824))
  ·
   rw [hc148] at s;have hp150 : ¬ (d.n < 0 ∨ d.n > 1073741824) := of_decide_eq_false hc148;refine co_false s rfl <| q7 ?_;refine pk0 (v := pt N3 7) s rfl fun _ s => ?_;have hk152 := hk5.below hb146;refine pk (v := .agg #[.int .i64 d.ec, .int .i64 d.er, ev, .int .u64 d.ets]) s rfl (rn_loadN rfl rfl Tryz.underlying44 rfl (by kernel_rfl) (blk_part hk152 7 (by rfl))) fun _ s => ?_;refine pw s rfl (op_call (args := #[.agg #[.int .i64 d.ec, .int .i64 d.er, ev, .int .u64 d.ets]]) (R := fun res xw => res = .int .i64 (chkB d.ec d.er d.el) ∧ Below w145.heap.size w145 xw) rfl rfl rfl (by kernel_rfl) (by kernel_rfl) (Tryz.call54 _ _) (itemCheck_any d.ec d.er ev d.el d.ets w145 (he.below hB149)) (by rintro e x ⟨rfl, hb156⟩; exact ⟨_, rfl, ⟨rfl, hb156⟩⟩)) ?_;rintro _ w155 a154 ⟨rfl, hb156⟩ s;have hz157 := hb156.size;refine pk0 (v := .int .i64 (chkB d.ec d.er d.el)) s rfl fun _ s => q4 <| qr ?_;refine co_ret1 s rfl rfl ?_;have hB159 := hb_call hB149 hb156;exact ⟨ret_int (by rw [chkN_2 (by omega)]; unfold may; first | rw [if_pos (by omega)] | rw [if_neg (by omega)]), hB159⟩
  rw [hc148] at s;have hp160 : d.n < 0 ∨ d.n > 1073741824 := of_decide_eq_true hc148;refine co_true s rfl <| q2 ?_;refine pk0 (v := .int .i64 5) s rfl fun _ s => q5 <| qr ?_;refine co_ret1 s rfl rfl ?_;exact ⟨ret_int (by rw [chkN_2 (by omega)]; unfold may; first | rw [if_pos (by omega)] | rw [if_neg (by omega)]), hB149⟩
 rw [hc14] at s;have hp162 : d.k = 1 := by first | simpa using hc14 | simpa [and_assoc] using hc14
 refine co_true s rfl <| q9 ?_;refine pk0 (v := pt N3 3) s rfl fun _ s => ?_;refine pk (v := .agg #[.int .i64 d.ep, mv, .int .u64 d.fl]) s rfl (rn_loadN rfl rfl Tryz.underlying31 rfl (by kernel_rfl) (blk_part hk5 3 (by rfl))) fun _ s => ?_;refine pw s rfl (op_call (args := #[.agg #[.int .i64 d.ep, mv, .int .u64 d.fl]]) (R := fun res xw => res = .int .i64 (chkC d.ep d.ms) ∧ Below w2.heap.size w2 xw) rfl rfl rfl (by kernel_rfl) (by kernel_rfl) (Tryz.call51 _ _) (wcheck_any d.ep mv d.ms d.fl w2 (hm.below hB15) hR.mem (by omega) (by omega)) (by rintro e x ⟨rfl, hb167⟩; exact ⟨_, rfl, ⟨rfl, hb167⟩⟩)) ?_;rintro _ w166 a165 ⟨rfl, hb167⟩ s;have hz168 := hb167.size;refine pk0 (v := .int .i64 (chkC d.ep d.ms)) s rfl fun _ s => q3 ?_;refine pk0 (v := .int .i64 (chkC d.ep d.ms)) s rfl fun _ s => ?_;refine pk0 (v := .bool (chkC d.ep d.ms != 0)) s rfl fun _ s => q1 ?_;have hB173 := hb_call hB15 hb167;cases hc172 : (chkC d.ep d.ms != 0)
 ·
  rw [hc172] at s;have hp174 : ¬ (chkC d.ep d.ms ≠ 0) := by first | simpa using hc172 | simpa [and_assoc] using hc172
  refine co_false s rfl <| q7 ?_;refine pk0 (v := pt N3 6) s rfl fun _ s => ?_;have hk176 := hk5.below hb167;refine pk (v := lv) s rfl (rn_load1 rfl rfl Tryz.isAgg39 (hk176.cell rfl)) fun _ s => ?_;refine pw s rfl (op_call (args := #[lv]) (R := fun res xw => res = .int .i64 (chkLg d.lg) ∧ Below w166.heap.size w166 xw) rfl rfl rfl (by kernel_rfl) (by kernel_rfl) (Tryz.call52 _ _) (nLegit_any lv d.lg w166 (hg.below hB173)) (by rintro e x ⟨rfl, hb180⟩; exact ⟨_, rfl, ⟨rfl, hb180⟩⟩)) ?_;rintro _ w179 a178 ⟨rfl, hb180⟩ s;have hz181 := hb180.size;refine pk0 (v := .int .i64 (chkLg d.lg)) s rfl fun _ s => q4 <| qr ?_;refine co_ret1 s rfl rfl ?_;have hB183 := hb_call hB173 hb180;exact ⟨ret_int (by rw [chkN_1 (by omega)]; first | rw [if_pos (by omega)] | rw [if_neg (by omega)]), hB183⟩
 rw [hc172] at s;have hp184 : chkC d.ep d.ms ≠ 0 := by first | simpa using hc172 | simpa [and_assoc] using hc172
 refine co_true s rfl <| q2 ?_;refine pk0 (v := .int .i64 (chkC d.ep d.ms)) s rfl fun _ s => ?_;refine pk0 (v := .int .i64 (chkC d.ep d.ms)) s rfl fun _ s => q5 <| qr ?_;refine co_ret1 s rfl rfl ?_;exact ⟨ret_int (by rw [chkN_1 (by omega)]; first | rw [if_pos (by omega)] | rw [if_neg (by omega)]), hB173⟩
set_option maxRecDepth 100000 in
theorem rnCheck_any (d : NoteD) (mv : Value) (lv : Value) (ev : Value) (w : World) (hm : SliceOf memE 2 w mv d.ms) (hg : SliceOf (intE .i64) 1 w lv d.lg) (he : SliceOf opE 3 w ev d.el) (hR : NoteR d) :
    Calls Tryz.prog 26 #[.agg #[.int .i64 d.k, .int .i64 d.n, .int .u64 d.t, .int .i64 d.ep, mv, .int .u64 d.fl, lv, .int .i64 d.ec, .int .i64 d.er, ev, .int .u64 d.ets, .int .i64 d.pid, .int .u64 d.pat, .int .i64 d.plf, .int .i64 d.sc, .int .i64 d.sr, .int .i64 d.se, .int .i64 d.sp]] w fun e w' => e = .returned (.int .i64 (chkN d)) ∧ Below w.heap.size w w' := by
 have hrng := hR.rng;have hB0 := Below.refl w.heap.size w;have hl_hm := sl_len hm;have hl_hg := sl_len hg;have hl_he := sl_len he;refine co_enter (n := 54) Tryz.func26 rfl rfl rfl [(0, .agg #[.int .i64 d.k, .int .i64 d.n, .int .u64 d.t, .int .i64 d.ep, mv, .int .u64 d.fl, lv, .int .i64 d.ec, .int .i64 d.er, ev, .int .u64 d.ets, .int .i64 d.pid, .int .u64 d.pat, .int .i64 d.plf, .int .i64 d.sc, .int .i64 d.sr, .int .i64 d.se, .int .i64 d.sp])] rfl (fun a s => ?_);refine q2 ?_;refine pw s rfl (op_new (v := fun N => pt N 0) (T := 50) (cs := #[.int .i64 d.k, .int .i64 d.n, .int .u64 d.t, .int .i64 d.ep, mv, .int .u64 d.fl, lv, .int .i64 d.ec, .int .i64 d.er, ev, .int .u64 d.ets, .int .i64 d.pid, .int .u64 d.pat, .int .i64 d.plf, .int .i64 d.sc, .int .i64 d.sr, .int .i64 d.se, .int .i64 d.sp]) (by kernel_rfl) (by kernel_rfl) (by kernel_rfl)) ?_;rintro _ w2 a1 ⟨N3, rfl, hN6, hz7, hk5, hg4⟩ s;have hz8 := hg4.size
 try dsimp only at s
 refine pk0 (v := .int .i64 0) s rfl fun _ s => q6 ?_;refine pk0 (v := pt N3 0) s rfl fun _ s => ?_;refine pk (v := .int .i64 d.k) s rfl (rn_load1 rfl rfl Tryz.isAgg3 (hk5.cell rfl)) fun _ s => q1 <| wp_block <| q2 ?_;refine pk0 (v := .bool (d.k == 1)) s rfl fun _ s => ?_;refine pk0 (v := .bool (d.k == 1)) s rfl fun _ s => q1 ?_;have hB15 := hb_new hB0 hg4;cases hc14 : (d.k == 1)
 ·
  rw [hc14] at s;have hp16 : ¬ (d.k = 1) := by first | simpa using hc14 | simpa [and_assoc] using hc14
  refine co_false s rfl <| q2 ?_;refine pk0 (v := .bool (d.k == 2)) s rfl fun _ s => ?_;refine pk0 (v := .bool (d.k == 2)) s rfl fun _ s => q1 ?_;cases hc19 : (d.k == 2)
  ·
   rw [hc19] at s;have hp20 : ¬ (d.k = 2) := by first | simpa using hc19 | simpa [and_assoc] using hc19
   refine co_false s rfl <| q9 ?_;refine pk0 (v := .bool (d.k == 3)) s rfl fun _ s => ?_;refine pk0 (v := .bool (d.k == 3)) s rfl fun _ s => q1 ?_;cases hc23 : (d.k == 3)
   ·
    rw [hc23] at s;have hp24 : ¬ (d.k = 3) := by first | simpa using hc23 | simpa [and_assoc] using hc23
    refine co_false s rfl <| q2 ?_;refine pk0 (v := .bool (d.k == 4)) s rfl fun _ s => ?_;refine pk0 (v := .bool (d.k == 4)) s rfl fun _ s => q1 ?_;cases hc27 : (d.k == 4)
    ·
     rw [hc27] at s;have hp28 : ¬ (d.k = 4) := by first | simpa using hc27 | simpa [and_assoc] using hc27
     refine co_false s rfl <| q2 ?_;refine pk0 (v := .bool (d.k == 5)) s rfl fun _ s => ?_;refine pk0 (v := .bool (d.k == 5)) s rfl fun _ s => q1 ?_;cases hc31 : (d.k == 5)
     ·
      rw [hc31] at s;have hp32 : ¬ (d.k = 5) := by first | simpa using hc31 | simpa [and_assoc] using hc31
      refine co_false s rfl <| co_reg ?_;refine pk0 (v := .bool (d.k == 7)) s rfl fun _ s => ?_;refine pk0 (v := .bool (d.k == 7)) s rfl fun _ s => q1 ?_;cases hc35 : (d.k == 7)
      ·
       rw [hc35] at s;have hp36 : ¬ (d.k = 7) := by first | simpa using hc35 | simpa [and_assoc] using hc35
       refine co_false s rfl <| q2 ?_;refine pk0 (v := .bool (d.k == 6)) s rfl fun _ s => ?_;refine pk0 (v := .bool (d.k == 6)) s rfl fun _ s => q1 ?_;cases hc39 : (d.k == 6)
       ·
        rw [hc39] at s;have hp40 : ¬ (d.k = 6) := by first | simpa using hc39 | simpa [and_assoc] using hc39
        refine co_false s rfl <| q2 ?_;refine pk0 (v := .bool (d.k == 8)) s rfl fun _ s => ?_;refine pk0 (v := .bool (d.k == 8)) s rfl fun _ s => q1 ?_;cases hc43 : (d.k == 8)
        ·
         rw [hc43] at s;have hp44 : ¬ (d.k = 8) := by first | simpa using hc43 | simpa [and_assoc] using hc43
         refine co_false s rfl <| wp_skip <| co_blockN <| co_then <| q2 ?_;refine pk0 (v := .int .i64 11) s rfl fun _ s => q4 ?_;refine co_ret1 s rfl rfl ?_;exact ⟨ret_int (by rw [chkN_0 (by omega)]), hB15⟩
        rw [hc43] at s;have hp46 : d.k = 8 := by first | simpa using hc43 | simpa [and_assoc] using hc43
        refine co_true s rfl <| q2 ?_;refine pk0 (v := pt N3 14) s rfl fun _ s => ?_;refine pk (v := .agg #[.int .i64 d.sc, .int .i64 d.sr, .int .i64 d.se, .int .i64 d.sp]) s rfl (rn_loadN rfl rfl Tryz.underlying48 rfl (by kernel_rfl) (blk_part hk5 14 (by rfl))) fun _ s => ?_;refine pw s rfl (op_call (args := #[.agg #[.int .i64 d.sc, .int .i64 d.sr, .int .i64 d.se, .int .i64 d.sp]]) (R := fun res xw => res = .int .i64 (chkSd d.sc d.sr d.se d.sp) ∧ Below w2.heap.size w2 xw) rfl rfl rfl (by kernel_rfl) (by kernel_rfl) (Tryz.call68 _ _) (rnSaid_any d.sc d.sr d.se d.sp w2 ) (by rintro e x ⟨rfl, hb51⟩; exact ⟨_, rfl, ⟨rfl, hb51⟩⟩)) ?_;rintro _ w50 a49 ⟨rfl, hb51⟩ s;have hz52 := hb51.size;refine pk0 (v := .int .i64 (chkSd d.sc d.sr d.se d.sp)) s rfl fun _ s => q4 <| qr ?_;refine co_ret1 s rfl rfl ?_;have hB54 := hb_call hB15 hb51;exact ⟨ret_int (by rw [chkN_8 (by omega)]), hB54⟩
       rw [hc39] at s;have hp55 : d.k = 6 := by first | simpa using hc39 | simpa [and_assoc] using hc39
       refine co_true s rfl <| q9 ?_;refine pk0 (v := pt N3 11) s rfl fun _ s => ?_;refine pk0 (v := pt N3 11) s rfl fun _ s => ?_;refine pk (v := .int .i64 d.pid) s rfl (rn_load1 rfl rfl Tryz.isAgg3 (hk5.cell rfl)) fun _ s => ?_;refine pw s rfl (op_call (args := #[.int .i64 d.pid]) (R := fun res xw => res = .bool (decide (0 ≤ d.pid ∧ d.pid ≤ 1073741824)) ∧ Below w2.heap.size w2 xw) rfl rfl rfl (by kernel_rfl) (by kernel_rfl) (Tryz.call66 _ _) (rnMay_any d.pid w2 ) (by rintro e x ⟨rfl, hb61⟩; exact ⟨_, rfl, ⟨rfl, hb61⟩⟩)) ?_;rintro _ w60 a59 ⟨rfl, hb61⟩ s;have hz62 := hb61.size;have hB64 := hb_call hB15 hb61;cases hc63 : (decide (0 ≤ d.pid ∧ d.pid ≤ 1073741824))
       ·
        rw [hc63] at s;have hp65 : ¬ (0 ≤ d.pid ∧ d.pid ≤ 1073741824) := of_decide_eq_false hc63;refine pk0 (v := .bool true) s rfl fun _ s => ?_;refine pk0 (v := .bool true) s rfl fun _ s => ?_;refine psk s rfl fun _ s => ?_;refine psk s rfl fun _ s => ?_;refine psk s rfl fun _ s => ?_;refine psk s rfl fun _ s => ?_;refine psk s rfl fun _ s => ?_;refine pk0 (v := .bool true) s rfl fun _ s => q1 ?_;refine co_true s rfl <| q2 ?_;refine pk0 (v := .int .i64 5) s rfl fun _ s => q5 <| qr ?_;refine co_ret1 s rfl rfl ?_;exact ⟨ret_int (by rw [chkN_6 (by omega)]; unfold may; first | rw [if_pos (by omega)] | rw [if_neg (by omega)]), hB64⟩
       rw [hc63] at s;have hp75 : 0 ≤ d.pid ∧ d.pid ≤ 1073741824 := of_decide_eq_true hc63;refine pk0 (v := .bool false) s rfl fun _ s => ?_;refine pk0 (v := .bool false) s rfl fun _ s => ?_;refine pk0 (v := pt N3 11) s rfl fun _ s => ?_;refine pk0 (v := pt N3 13) s rfl fun _ s => ?_;have hk80 := hk5.below hb61;refine pk (v := .int .i64 d.plf) s rfl (rn_load1 rfl rfl Tryz.isAgg3 (hk80.cell rfl)) fun _ s => ?_;refine pw s rfl (op_call (args := #[.int .i64 d.plf]) (R := fun res xw => res = .bool (decide (0 ≤ d.plf ∧ d.plf ≤ 1073741824)) ∧ Below w60.heap.size w60 xw) rfl rfl rfl (by kernel_rfl) (by kernel_rfl) (Tryz.call66 _ _) (rnMay_any d.plf w60 ) (by rintro e x ⟨rfl, hb84⟩; exact ⟨_, rfl, ⟨rfl, hb84⟩⟩)) ?_;rintro _ w83 a82 ⟨rfl, hb84⟩ s;have hz85 := hb84.size;have hB87 := hb_call hB64 hb84;cases hc86 : (decide (0 ≤ d.plf ∧ d.plf ≤ 1073741824))
       ·
        rw [hc86] at s;have hp88 : ¬ (0 ≤ d.plf ∧ d.plf ≤ 1073741824) := of_decide_eq_false hc86;refine pk0 (v := .bool true) s rfl fun _ s => ?_;refine pk0 (v := .bool true) s rfl fun _ s => q1 ?_;refine co_true s rfl <| q2 ?_;refine pk0 (v := .int .i64 5) s rfl fun _ s => q5 <| qr ?_;refine co_ret1 s rfl rfl ?_;exact ⟨ret_int (by rw [chkN_6 (by omega)]; unfold may; first | rw [if_pos (by omega)] | rw [if_neg (by omega)]), hB87⟩
       rw [hc86] at s;have hp92 : 0 ≤ d.plf ∧ d.plf ≤ 1073741824 := of_decide_eq_true hc86;refine pk0 (v := .bool false) s rfl fun _ s => ?_;refine pk0 (v := .bool false) s rfl fun _ s => q1 ?_;refine co_false s rfl <| q7 ?_;refine pk0 (v := .int .i64 0) s rfl fun _ s => q4 <| qr ?_;refine co_ret1 s rfl rfl ?_;exact ⟨ret_int (by rw [chkN_6 (by omega)]; unfold may; first | rw [if_pos (by omega)] | rw [if_neg (by omega)]), hB87⟩
      rw [hc35] at s;have hp96 : d.k = 7 := by first | simpa using hc35 | simpa [and_assoc] using hc35
      refine co_true s rfl <| q9 ?_;refine pk0 (v := pt N3 1) s rfl fun _ s => ?_;refine pk (v := .int .i64 d.n) s rfl (rn_load1 rfl rfl Tryz.isAgg3 (hk5.cell rfl)) fun _ s => ?_;refine pw s rfl (op_call (args := #[.int .i64 d.n]) (R := fun res xw => res = .bool (decide (0 ≤ d.n ∧ d.n ≤ 1073741824)) ∧ Below w2.heap.size w2 xw) rfl rfl rfl (by kernel_rfl) (by kernel_rfl) (Tryz.call66 _ _) (rnMay_any d.n w2 ) (by rintro e x ⟨rfl, hb101⟩; exact ⟨_, rfl, ⟨rfl, hb101⟩⟩)) ?_;rintro _ w100 a99 ⟨rfl, hb101⟩ s;have hz102 := hb101.size;have hB104 := hb_call hB15 hb101;cases hc103 : (decide (0 ≤ d.n ∧ d.n ≤ 1073741824))
      ·
       rw [hc103] at s;have hp105 : ¬ (0 ≤ d.n ∧ d.n ≤ 1073741824) := of_decide_eq_false hc103;refine pk0 (v := .bool true) s rfl fun _ s => q1 ?_;refine co_true s rfl <| q2 ?_;refine pk0 (v := .int .i64 5) s rfl fun _ s => q5 <| qr ?_;refine co_ret1 s rfl rfl ?_;exact ⟨ret_int (by rw [chkN_3 (by omega)]; unfold may; first | rw [if_pos (by omega)] | rw [if_neg (by omega)]), hB104⟩
      rw [hc103] at s;have hp108 : 0 ≤ d.n ∧ d.n ≤ 1073741824 := of_decide_eq_true hc103;refine pk0 (v := .bool false) s rfl fun _ s => q1 ?_;refine co_false s rfl <| q7 ?_;refine pk0 (v := .int .i64 0) s rfl fun _ s => q4 <| qr ?_;refine co_ret1 s rfl rfl ?_;exact ⟨ret_int (by rw [chkN_3 (by omega)]; unfold may; first | rw [if_pos (by omega)] | rw [if_neg (by omega)]), hB104⟩
     rw [hc31] at s;have hp111 : d.k = 5 := by first | simpa using hc31 | simpa [and_assoc] using hc31
     refine co_true s rfl <| q0 ?_;refine co_true s rfl <| q9 ?_;refine pk0 (v := pt N3 1) s rfl fun _ s => ?_;refine pk (v := .int .i64 d.n) s rfl (rn_load1 rfl rfl Tryz.isAgg3 (hk5.cell rfl)) fun _ s => ?_;refine pw s rfl (op_call (args := #[.int .i64 d.n]) (R := fun res xw => res = .bool (decide (0 ≤ d.n ∧ d.n ≤ 1073741824)) ∧ Below w2.heap.size w2 xw) rfl rfl rfl (by kernel_rfl) (by kernel_rfl) (Tryz.call66 _ _) (rnMay_any d.n w2 ) (by rintro e x ⟨rfl, hb116⟩; exact ⟨_, rfl, ⟨rfl, hb116⟩⟩)) ?_;rintro _ w115 a114 ⟨rfl, hb116⟩ s;have hz117 := hb116.size;have hB119 := hb_call hB15 hb116;cases hc118 : (decide (0 ≤ d.n ∧ d.n ≤ 1073741824))
     ·
      rw [hc118] at s;have hp120 : ¬ (0 ≤ d.n ∧ d.n ≤ 1073741824) := of_decide_eq_false hc118;refine pk0 (v := .bool true) s rfl fun _ s => q1 ?_;refine co_true s rfl <| q2 ?_;refine pk0 (v := .int .i64 5) s rfl fun _ s => q5 <| qr ?_;refine co_ret1 s rfl rfl ?_;exact ⟨ret_int (by rw [chkN_3 (by omega)]; unfold may; first | rw [if_pos (by omega)] | rw [if_neg (by omega)]), hB119⟩
     rw [hc118] at s;have hp123 : 0 ≤ d.n ∧ d.n ≤ 1073741824 := of_decide_eq_true hc118;refine pk0 (v := .bool false) s rfl fun _ s => q1 ?_;refine co_false s rfl <| q7 ?_;refine pk0 (v := .int .i64 0) s rfl fun _ s => q4 <| qr ?_;refine co_ret1 s rfl rfl ?_;exact ⟨ret_int (by rw [chkN_3 (by omega)]; unfold may; first | rw [if_pos (by omega)] | rw [if_neg (by omega)]), hB119⟩
    rw [hc27] at s;have hp126 : d.k = 4 := by first | simpa using hc27 | simpa [and_assoc] using hc27
    refine co_true s rfl <| q0 ?_;refine co_true s rfl <| q9 ?_;refine pk0 (v := pt N3 1) s rfl fun _ s => ?_;refine pk (v := .int .i64 d.n) s rfl (rn_load1 rfl rfl Tryz.isAgg3 (hk5.cell rfl)) fun _ s => ?_;refine pw s rfl (op_call (args := #[.int .i64 d.n]) (R := fun res xw => res = .bool (decide (0 ≤ d.n ∧ d.n ≤ 1073741824)) ∧ Below w2.heap.size w2 xw) rfl rfl rfl (by kernel_rfl) (by kernel_rfl) (Tryz.call66 _ _) (rnMay_any d.n w2 ) (by rintro e x ⟨rfl, hb131⟩; exact ⟨_, rfl, ⟨rfl, hb131⟩⟩)) ?_;rintro _ w130 a129 ⟨rfl, hb131⟩ s;have hz132 := hb131.size;have hB134 := hb_call hB15 hb131;cases hc133 : (decide (0 ≤ d.n ∧ d.n ≤ 1073741824))
    ·
     rw [hc133] at s;have hp135 : ¬ (0 ≤ d.n ∧ d.n ≤ 1073741824) := of_decide_eq_false hc133;refine pk0 (v := .bool true) s rfl fun _ s => q1 ?_;refine co_true s rfl <| q2 ?_;refine pk0 (v := .int .i64 5) s rfl fun _ s => q5 <| qr ?_;refine co_ret1 s rfl rfl ?_;exact ⟨ret_int (by rw [chkN_3 (by omega)]; unfold may; first | rw [if_pos (by omega)] | rw [if_neg (by omega)]), hB134⟩
    rw [hc133] at s;have hp138 : 0 ≤ d.n ∧ d.n ≤ 1073741824 := of_decide_eq_true hc133;refine pk0 (v := .bool false) s rfl fun _ s => q1 ?_;refine co_false s rfl <| q7 ?_;refine pk0 (v := .int .i64 0) s rfl fun _ s => q4 <| qr ?_;refine co_ret1 s rfl rfl ?_;exact ⟨ret_int (by rw [chkN_3 (by omega)]; unfold may; first | rw [if_pos (by omega)] | rw [if_neg (by omega)]), hB134⟩
   rw [hc23] at s;have hp141 : d.k = 3 := by first | simpa using hc23 | simpa [and_assoc] using hc23
   refine co_true s rfl <| q0 ?_;refine co_true s rfl <| q9 ?_;refine pk0 (v := pt N3 1) s rfl fun _ s => ?_;refine pk (v := .int .i64 d.n) s rfl (rn_load1 rfl rfl Tryz.isAgg3 (hk5.cell rfl)) fun _ s => ?_;refine pw s rfl (op_call (args := #[.int .i64 d.n]) (R := fun res xw => res = .bool (decide (0 ≤ d.n ∧ d.n ≤ 1073741824)) ∧ Below w2.heap.size w2 xw) rfl rfl rfl (by kernel_rfl) (by kernel_rfl) (Tryz.call66 _ _) (rnMay_any d.n w2 ) (by rintro e x ⟨rfl, hb146⟩; exact ⟨_, rfl, ⟨rfl, hb146⟩⟩)) ?_;rintro _ w145 a144 ⟨rfl, hb146⟩ s;have hz147 := hb146.size;have hB149 := hb_call hB15 hb146;cases hc148 : (decide (0 ≤ d.n ∧ d.n ≤ 1073741824))
   ·
    rw [hc148] at s;have hp150 : ¬ (0 ≤ d.n ∧ d.n ≤ 1073741824) := of_decide_eq_false hc148;refine pk0 (v := .bool true) s rfl fun _ s => q1 ?_;refine co_true s rfl <| q2 ?_;refine pk0 (v := .int .i64 5) s rfl fun _ s => q5 <| qr ?_;refine co_ret1 s rfl rfl ?_;exact ⟨ret_int (by rw [chkN_3 (by omega)]; unfold may; first | rw [if_pos (by omega)] | rw [if_neg (by omega)]), hB149⟩
   rw [hc148] at s;have hp153 : 0 ≤ d.n ∧ d.n ≤ 1073741824 := of_decide_eq_true hc148;refine pk0 (v := .bool false) s rfl fun _ s => q1 ?_;refine co_false s rfl <| q7 ?_;refine pk0 (v := .int .i64 0) s rfl fun _ s => q4 <| qr ?_;refine co_ret1 s rfl rfl ?_;exact ⟨ret_int (by rw [chkN_3 (by omega)]; unfold may; first | rw [if_pos (by omega)] | rw [if_neg (by omega)]), hB149⟩
  rw [hc19] at s;have hp156 : d.k = 2 := by first | simpa using hc19 | simpa [and_assoc] using hc19
  refine co_true s rfl <| q9 ?_;refine pk0 (v := pt N3 1) s rfl fun _ s => ?_;refine pk (v := .int .i64 d.n) s rfl (rn_load1 rfl rfl Tryz.isAgg3 (hk5.cell rfl)) fun _ s => ?_;refine pw s rfl (op_call (args := #[.int .i64 d.n]) (R := fun res xw => res = .bool (decide (0 ≤ d.n ∧ d.n ≤ 1073741824)) ∧ Below w2.heap.size w2 xw) rfl rfl rfl (by kernel_rfl) (by kernel_rfl) (Tryz.call66 _ _) (rnMay_any d.n w2 ) (by rintro e x ⟨rfl, hb161⟩; exact ⟨_, rfl, ⟨rfl, hb161⟩⟩)) ?_;rintro _ w160 a159 ⟨rfl, hb161⟩ s;have hz162 := hb161.size;have hB164 := hb_call hB15 hb161;cases hc163 : (decide (0 ≤ d.n ∧ d.n ≤ 1073741824))
  ·
   rw [hc163] at s;have hp165 : ¬ (0 ≤ d.n ∧ d.n ≤ 1073741824) := of_decide_eq_false hc163;refine pk0 (v := .bool true) s rfl fun _ s => q1 ?_;refine co_true s rfl <| q2 ?_;refine pk0 (v := .int .i64 5) s rfl fun _ s => q5 <| qr ?_;refine co_ret1 s rfl rfl ?_;exact ⟨ret_int (by rw [chkN_2 (by omega)]; unfold may; first | rw [if_pos (by omega)] | rw [if_neg (by omega)]), hB164⟩
  rw [hc163] at s;have hp168 : 0 ≤ d.n ∧ d.n ≤ 1073741824 := of_decide_eq_true hc163;refine pk0 (v := .bool false) s rfl fun _ s => q1 ?_;refine co_false s rfl <| q7 ?_;refine pk0 (v := pt N3 7) s rfl fun _ s => ?_;have hk171 := hk5.below hb161;refine pk (v := .agg #[.int .i64 d.ec, .int .i64 d.er, ev, .int .u64 d.ets]) s rfl (rn_loadN rfl rfl Tryz.underlying44 rfl (by kernel_rfl) (blk_part hk171 7 (by rfl))) fun _ s => ?_;refine pw s rfl (op_call (args := #[.agg #[.int .i64 d.ec, .int .i64 d.er, ev, .int .u64 d.ets]]) (R := fun res xw => res = .int .i64 (chkB d.ec d.er d.el) ∧ Below w160.heap.size w160 xw) rfl rfl rfl (by kernel_rfl) (by kernel_rfl) (Tryz.call67 _ _) (ritemCheck_any d.ec d.er ev d.el d.ets w160 (he.below hB164)) (by rintro e x ⟨rfl, hb175⟩; exact ⟨_, rfl, ⟨rfl, hb175⟩⟩)) ?_;rintro _ w174 a173 ⟨rfl, hb175⟩ s;have hz176 := hb175.size;refine pk0 (v := .int .i64 (chkB d.ec d.er d.el)) s rfl fun _ s => q4 <| qr ?_;refine co_ret1 s rfl rfl ?_;have hB178 := hb_call hB164 hb175;exact ⟨ret_int (by rw [chkN_2 (by omega)]; unfold may; first | rw [if_pos (by omega)] | rw [if_neg (by omega)]), hB178⟩
 rw [hc14] at s;have hp179 : d.k = 1 := by first | simpa using hc14 | simpa [and_assoc] using hc14
 refine co_true s rfl <| q9 ?_;refine pk0 (v := pt N3 3) s rfl fun _ s => ?_;refine pk (v := .agg #[.int .i64 d.ep, mv, .int .u64 d.fl]) s rfl (rn_loadN rfl rfl Tryz.underlying31 rfl (by kernel_rfl) (blk_part hk5 3 (by rfl))) fun _ s => ?_;refine pw s rfl (op_call (args := #[.agg #[.int .i64 d.ep, mv, .int .u64 d.fl]]) (R := fun res xw => res = .int .i64 (chkC d.ep d.ms) ∧ Below w2.heap.size w2 xw) rfl rfl rfl (by kernel_rfl) (by kernel_rfl) (Tryz.call64 _ _) (wrcheck_any d.ep mv d.ms d.fl w2 (hm.below hB15) hR.mem (by omega) (by omega)) (by rintro e x ⟨rfl, hb184⟩; exact ⟨_, rfl, ⟨rfl, hb184⟩⟩)) ?_;rintro _ w183 a182 ⟨rfl, hb184⟩ s;have hz185 := hb184.size;refine pk0 (v := .int .i64 (chkC d.ep d.ms)) s rfl fun _ s => q3 ?_;refine pk0 (v := .int .i64 (chkC d.ep d.ms)) s rfl fun _ s => ?_;refine pk0 (v := .bool (chkC d.ep d.ms != 0)) s rfl fun _ s => q1 ?_;have hB190 := hb_call hB15 hb184;cases hc189 : (chkC d.ep d.ms != 0)
 ·
  rw [hc189] at s;have hp191 : ¬ (chkC d.ep d.ms ≠ 0) := by first | simpa using hc189 | simpa [and_assoc] using hc189
  refine co_false s rfl <| q7 ?_;refine pk0 (v := pt N3 6) s rfl fun _ s => ?_;have hk193 := hk5.below hb184;refine pk (v := lv) s rfl (rn_load1 rfl rfl Tryz.isAgg39 (hk193.cell rfl)) fun _ s => ?_;refine pw s rfl (op_call (args := #[lv]) (R := fun res xw => res = .int .i64 (chkLg d.lg) ∧ Below w183.heap.size w183 xw) rfl rfl rfl (by kernel_rfl) (by kernel_rfl) (Tryz.call65 _ _) (rnLegit_any lv d.lg w183 (hg.below hB190)) (by rintro e x ⟨rfl, hb197⟩; exact ⟨_, rfl, ⟨rfl, hb197⟩⟩)) ?_;rintro _ w196 a195 ⟨rfl, hb197⟩ s;have hz198 := hb197.size;refine pk0 (v := .int .i64 (chkLg d.lg)) s rfl fun _ s => q4 <| qr ?_;refine co_ret1 s rfl rfl ?_;have hB200 := hb_call hB190 hb197;exact ⟨ret_int (by rw [chkN_1 (by omega)]; first | rw [if_pos (by omega)] | rw [if_neg (by omega)]), hB200⟩
 rw [hc189] at s;have hp201 : chkC d.ep d.ms ≠ 0 := by first | simpa using hc189 | simpa [and_assoc] using hc189
 refine co_true s rfl <| q2 ?_;refine pk0 (v := .int .i64 (chkC d.ep d.ms)) s rfl fun _ s => ?_;refine pk0 (v := .int .i64 (chkC d.ep d.ms)) s rfl fun _ s => q5 <| qr ?_;refine co_ret1 s rfl rfl ?_;exact ⟨ret_int (by rw [chkN_1 (by omega)]; first | rw [if_pos (by omega)] | rw [if_neg (by omega)]), hB190⟩
end Go.Proofs.YtniojcnkjehflaaGreat

/- Package rstate: one that nobody made; fresh.Conf; Parts of one note. Conditions: none. -/
namespace Go.Proofs.YtniojcnkjehflaaGreat
open Go.RowKit Go.PlainAid
set_option linter.unusedVariables false
set_option linter.unusedSimpArgs false


def mxI (a b : Int) : Int := if a < b then b else a
theorem mxI_p (a b : Int) : mxI a b ≥ a ∧ mxI a b ≥ b ∧ (mxI a b = a ∨ mxI a b = b) := by unfold mxI; split <;> omega
theorem sl_butS {α : Type} {enc : α → List Value} {sz : Nat} {w x : World} {v : Value} {l : List α} {S : Nat → Prop} (h : SliceOf enc sz w v l) (hb : But S w x) (hv : l ≠ [] → ∀ k, v.ownBlock = some k → ¬ S k) : SliceOf enc sz x v l := by
  obtain ⟨ao, cap, rfl, h1, h2, h3, h4⟩ := h
  refine ⟨ao, cap, rfl, h1, h2, h3, fun j hj => ?_⟩
  obtain ⟨b, off, rfl, hr⟩ := h4 j hj
  exact ⟨b, off, rfl, fun i u hu => hb.cell (hv (fun e => by rw [e] at hj; exact absurd hj (by simp)) b rfl) (hr i u hu)⟩
theorem co_unroll {P : Program} {c : Code} {Q : Exit → Act → World → Prop} {n : Nat} {a : Act} {w : World} (h : c.wp P (Exit.then (Code.rounds P c Q n) Q) a w) : Code.rounds P c Q (n + 1) a w := h

set_option maxRecDepth 100000 in
theorem rsgetT (b : Nat) (q : Nat) (w : World) (hb : Blk w b 71 #[pt q 0]) :
    Calls Tryz.prog 19 #[pt b 0] w fun e w' => e = .returned (pt q 0) ∧ w = w' := by
 have hB0 := Below.refl w.heap.size w;have hl_hb := hb.lt;refine co_enter (n := 18) Tryz.func19 rfl rfl rfl [(0, pt b 0)] rfl (fun a s => ?_);refine q2 ?_;refine pk0 (v := .pointer none) s rfl fun _ s => q6 ?_;refine pk0 (v := pt b 0) s rfl fun _ s => ?_;refine pk0 (v := .bool false) s rfl fun _ s => ?_;refine pk0 (v := .bool false) s rfl fun _ s => ?_;refine pk0 (v := pt b 0) s rfl fun _ s => ?_;refine pk0 (v := pt b 0) s rfl fun _ s => ?_;refine pk0 (v := pt b 0) s rfl fun _ s => ?_;refine pk (v := pt q 0) s rfl (rn_load1 rfl rfl Tryz.isAgg65 (hb.cell rfl)) fun _ s => ?_;refine pk0 (v := .bool false) s rfl fun _ s => ?_;refine pk0 (v := .bool false) s rfl fun _ s => q1 ?_;refine co_false s rfl <| q7 ?_;refine pk0 (v := pt b 0) s rfl fun _ s => ?_;refine pk0 (v := pt b 0) s rfl fun _ s => ?_;refine pk0 (v := pt b 0) s rfl fun _ s => ?_;refine pk (v := pt q 0) s rfl (rn_load1 rfl rfl Tryz.isAgg65 (hb.cell rfl)) fun _ s => ?_;refine pk0 (v := pt q 0) s rfl fun _ s => q4 ?_;refine co_ret1 s rfl rfl ?_;exact ⟨rfl, rfl⟩
set_option maxRecDepth 100000 in
theorem rszeroT (q : Nat) (g : Nat) (ep : Int) (cv : Value) (fl : Int) (hz : Int) (w : World) (hq : Blk w q 69 #[pt g 0, .int .i64 ep, cv, .int .u64 fl, .int .u64 hz]) :
    Calls Tryz.prog 20 #[pt q 0] w fun e w' => e = .returned (.bool false) ∧ w = w' := by
 have hB0 := Below.refl w.heap.size w;have hl_hq := hq.lt;refine co_enter (n := 8) Tryz.func20 rfl rfl rfl [(0, pt q 0)] rfl (fun a s => ?_);refine q2 ?_;refine pk0 (v := .bool false) s rfl fun _ s => q3 ?_;refine pk0 (v := pt q 0) s rfl fun _ s => ?_;refine pk0 (v := pt q 0) s rfl fun _ s => ?_;refine pk0 (v := pt q 0) s rfl fun _ s => ?_;refine pk (v := pt g 0) s rfl (rn_load1 rfl rfl Tryz.isAgg66 (hq.cell rfl)) fun _ s => ?_;refine pk0 (v := .bool false) s rfl fun _ s => ?_;refine pk0 (v := .bool false) s rfl fun _ s => q4 ?_;refine co_ret1 s rfl rfl ?_;exact ⟨rfl, rfl⟩
set_option maxRecDepth 100000 in
theorem cloneM_any (v : Value) (l : List MemT) (w : World) (hs : SliceOf memE 2 w v l) (hlen : l.length ≤ 20) :
    Calls Tryz.prog 56 #[v] w fun e w' => ∃ (u : Value), e = .returned (u) ∧ w'.ownsRow w.heap.size 112 2 u l.length (l.flatMap memE) ∧ Below w.heap.size w w' := by
 have hB0 := Below.refl w.heap.size w;have hl_hs := sl_len hs;have hs' := hs; obtain ⟨ao, cap, hv, _, _, h3, _⟩ := hs'; subst hv; rcases ao with _ | ad
 · obtain ⟨hl0, hc0⟩ := h3 rfl; obtain rfl : l = [] := List.eq_nil_of_length_eq_zero hl0; subst hc0
   refine co_enter (n := 8) Tryz.func56 rfl rfl rfl [(0, .slice none 0 0)] rfl (fun a s => ?_);refine q2 ?_;refine pk0 (v := .slice none 0 0) s rfl fun _ s => q6 ?_;refine pk0 (v := .slice none 0 0) s rfl fun _ s => ?_;refine pk0 (v := .bool true) s rfl fun _ s => q1 ?_;refine co_true s rfl <| q2 ?_;refine pk0 (v := .slice none 0 0) s rfl fun _ s => q5 ?_;refine co_ret1 s rfl rfl ?_;exact ⟨_, rfl, (row_nilL _ _ _ _ _), hB0⟩
 · skip
   refine co_enter (n := 8) Tryz.func56 rfl rfl rfl [(0, .slice (some ad) l.length cap)] rfl (fun a s => ?_);refine q2 ?_;refine pk0 (v := .slice none 0 0) s rfl fun _ s => q6 ?_;refine pk0 (v := .slice (some ad) l.length cap) s rfl fun _ s => ?_;refine pk0 (v := .bool false) s rfl fun _ s => q1 ?_;refine co_false s rfl <| q7 ?_;refine pw s rfl (op_new (v := fun N => .slice (some ⟨N, 0, none⟩) 0 0) (T := 112) (cs := #[]) (by kernel_rfl) (by kernel_rfl) (by kernel_rfl)) ?_;rintro _ w9 a8 ⟨N10, rfl, hN13, hz14, hk12, hg11⟩ s;have hz15 := hg11.size
   try dsimp only at s
   refine pk0 (v := .slice (some ad) l.length cap) s rfl fun _ s => ?_;have hr19 := row_of_blkL hk12 (Nat.le_refl _) 2 memE;have hB24 := hb_new hB0 hg11;refine pw s rfl (op_appendSrc rfl N10 112 (z := .agg #[.int .i64 0, .int .i64 0]) (size := 2) (bytes := 16) Tryz.underlying28 (by kernel_rfl) rfl rfl rfl hr19 rfl (hs.below hB24) (fun y hy => ⟨memE_len y, memE_one y⟩) (by first | omega | (simp only [List.length_nil, List.length_append, List.length_cons, List.length_take, List.length_drop]; omega)) (by first | omega | (simp only [List.length_nil, List.length_append, List.length_cons, List.length_take, List.length_drop]; omega)) (by omega)) ?_;rintro v20 w18 a17 ⟨hr21, hg22⟩ s;have hr21' : w18.ownsRow N10 112 2 v20 l.length (l.flatMap memE) := row_app (l := []) hr21;have hz25 := hg22.size;refine pk0 (v := v20) s rfl fun _ s => q4 ?_;refine co_ret1 s rfl rfl ?_;have hB27 := hb_row hB24 hr19 (by omega) hg22;exact ⟨_, rfl, (row_lows hr21' (by omega)), hB27⟩
set_option maxRecDepth 100000 in
theorem freshConf_any (ep : Int) (fl : Int) (v : Value) (ms : List MemT) (w : World) (hs : SliceOf memE 2 w v ms) (hlen : ms.length ≤ 20) :
    Calls Tryz.prog 22 #[.agg #[.int .i64 ep, v, .int .u64 fl]] w fun e w' => ∃ (u : Value), e = .returned (.agg #[.int .i64 ep, u, .int .u64 fl]) ∧ w'.ownsRow w.heap.size 112 2 u ms.length (ms.flatMap memE) ∧ Below w.heap.size w w' := by
 have hB0 := Below.refl w.heap.size w;have hl_hs := sl_len hs;refine co_enter (n := 8) Tryz.func22 rfl rfl rfl [(0, .agg #[.int .i64 ep, v, .int .u64 fl])] rfl (fun a s => ?_);refine q2 ?_;refine pw s rfl (op_new (v := fun N => pt N 0) (T := 31) (cs := #[.int .i64 ep, v, .int .u64 fl]) (by kernel_rfl) (by kernel_rfl) (by kernel_rfl)) ?_;rintro _ w2 a1 ⟨N3, rfl, hN6, hz7, hk5, hg4⟩ s;have hz8 := hg4.size
 try dsimp only at s
 refine pw s rfl (op_new (v := fun N => pt N 0) (T := 31) (cs := #[.int .i64 0, .slice none 0 0, .int .u64 0]) (by kernel_rfl) (by kernel_rfl) (by kernel_rfl)) ?_;rintro _ w10 a9 ⟨N11, rfl, hN14, hz15, hk13, hg12⟩ s;have hz16 := hg12.size
 try dsimp only at s
 refine q3 ?_;refine pk0 (v := pt N3 1) s rfl fun _ s => ?_;have hk18 := hk5.kept hg12 (by simp);refine pk (v := v) s rfl (rn_load1 rfl rfl Tryz.isAgg28 (hk18.cell rfl)) fun _ s => ?_;have hB22 := hb_new hB0 hg4;have hB23 := hb_new hB22 hg12;refine pw s rfl (op_call (args := #[v]) (R := fun res xw => ∃ u : Value, res = u ∧ xw.ownsRow w10.heap.size 112 2 u ms.length (ms.flatMap memE) ∧ Below w10.heap.size w10 xw) rfl rfl rfl (by kernel_rfl) (by kernel_rfl) (Tryz.call56 _ _) (cloneM_any v ms w10 (hs.below hB23) (by first | omega | (simp; done) | (simp; omega))) (by rintro e x ⟨u, rfl, hq25, hb26⟩; exact ⟨_, rfl, ⟨u, rfl, hq25, hb26⟩⟩)) ?_;rintro u24 w21 a20 ⟨_, rfl, hq25, hb26⟩ s;have hz27 := hb26.size;have hl28 := sl_len (row_sl hq25 memE_len);refine pk0 (v := pt N3 1) s rfl fun _ s => ?_;have hk35 := hk18.below hb26;refine pwD s rfl (op_store1 rfl rfl rfl (row_one hq25) Tryz.sizeOf28 hk35 rfl) ?_;rintro _ w31 a30 ⟨hk32, hz33, hg34⟩ s;have hk32' : Blk w31 N3 31 #[.int .i64 ep, u24, .int .u64 fl] := hk32;have hz36 := hg34.size;refine q3 ?_;refine pk (v := .agg #[.int .i64 ep, u24, .int .u64 fl]) s rfl (rn_loadN rfl rfl Tryz.underlying31 rfl (by kernel_rfl) hk32'.all) fun _ s => ?_;have hr43 := row_kept_at hq25 hg34 (row_ne_lt hq25 (by omega));have hk44 := hk13.below hb26;have hk45 := hk44.kept hg34 (by simp; omega);refine pwD s rfl (op_storeN rfl rfl rfl (all_cons rfl (all_cons (row_one hr43) (all_cons rfl all_nil))) (by kernel_rfl) hk45 rfl) ?_;rintro _ w39 a38 ⟨hk40, hz41, hg42⟩ s;have hk40' : Blk w39 N11 31 #[.int .i64 ep, u24, .int .u64 fl] := hk40;have hz46 := hg42.size;refine q4 ?_;refine co_retC (Q := fun _ _ _ => True) s rfl rfl hk40' Tryz.underlying31 rfl (by kernel_rfl) ?_;have hr47 := row_kept_at hr43 hg42 (row_ne_lt hr43 (by omega));have hB48 := hb_call hB23 hb26;have hB49 := hb_at hB48 hg34 (by omega);have hB50 := hb_at hB49 hg42 (by omega);exact ⟨_, rfl, (row_lows hr47 (by omega)), hB50⟩
end Go.Proofs.YtniojcnkjehflaaGreat
