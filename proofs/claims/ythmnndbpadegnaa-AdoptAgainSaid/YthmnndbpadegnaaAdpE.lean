/- catenalaw18: laid; adopt: Base. Conditions: lists of at most 100 entries, 20 operations each. -/
import Derived.Test.YthmnndbpadegnaaAdpD
namespace Go.Proofs.Ythmnndbpadegnaa
open Go.RowKit Go.PlainAid
set_option linter.unusedVariables false
set_option linter.unusedSimpArgs false


/-- A list of entries in memory, each with few operations. -/
def SlX (w : World) (v : Value) (l : List EntT) : Prop := SliceOf entE 4 w v l ∧ ∀ z ∈ l, EntOk w z ∧ z.opl.length ≤ 20
def NtOk (w : World) (z : NtT) : Prop := EntK (fun _ => False) 0 w z.e ∧ 0 ≤ z.n
def NtX (w : World) (u : Value) (NS : List NtT) : Prop := SliceOf ntE 18 w u NS ∧ ∀ z ∈ NS, NtOk w z
/-- How far two lists are twins. -/
def BaseP (l l2 : List EntT) (n : Nat) : Prop := n ≤ l.length ∧ n ≤ l2.length ∧ (∀ i, i < n → ∀ a b, l[i]? = some a → l2[i]? = some b → nmE a = nmE b) ∧ (n < l.length → n < l2.length → ∀ a b, l[n]? = some a → l2[n]? = some b → nmE a ≠ nmE b)
section
variable {w x : World} {v v2 u : Value} {l l2 L X K : List EntT} {NS : List NtT} {g f n i : Nat} {y : NtT}
theorem SlX.below (h : SlX w v l) (hb : Below w.heap.size w x) : SlX x v l := ⟨h.1.below hb, fun z hz => ⟨(h.2 z hz).1.below hb, (h.2 z hz).2⟩⟩
theorem SlX.ok (h : SlX w v l) : ∀ z ∈ l, EntOk w z := fun z hz => (h.2 z hz).1
theorem SlX.l20 (h : SlX w v l) : ∀ z ∈ l, z.opl.length ≤ 20 := fun z hz => (h.2 z hz).2
theorem SlX.of (hs : SliceOf entE 4 w v l) (hok : ∀ z ∈ l, EntOkS w z) (hR : RI l) : SlX w v l := ⟨hs, fun z hz => ⟨(hok z hz).1, hR.small z hz⟩⟩
theorem SlX.sub (h : SlX w v l) (hs : SliceOf entE 4 w u l2) (hm : ∀ z ∈ l2, z ∈ l) : SlX w u l2 := ⟨hs, fun z hz => h.2 z (hm z hz)⟩
theorem NtX.below (h : NtX w u NS) (hb : Below w.heap.size w x) : NtX x u NS := ⟨h.1.below hb, fun z hz => ⟨(h.2 z hz).1.keep (fun i hi => hb.block i ((h.2 z hz).1.row.lt i hi).2), (h.2 z hz).2⟩⟩
theorem much_60 (h : ¬ muchN l > 60) : l.length ≤ 60 := by
  have hs : 0 ≤ sumN (l.take 200) := fold_nn _ 0
  unfold muchN at h; omega
theorem takeX (g f : Nat) (w : World) (hA : SlX w v l) (hB : SlX w v2 l2) (hR : RI l) (hl : l.length ≤ 100) (hl2 : l2.length ≤ 100) (hfg : f ≤ g ∧ g ≤ l.length) :
    Calls Try.prog 43 #[v, .int .i64 ((g : Nat) : Int), .int .i64 ((f : Nat) : Int), v2] w fun e w' => ∃ (u : Value) (NS : List NtT), e = .returned (.tuple #[u, .int .i64 (((tkF (l.map e0) g f l2).2.1 : Nat) : Int)]) ∧ NtX w' u NS ∧ NS.map ntP = (tkF (l.map e0) g f l2).1 ∧ Below w.heap.size w w' :=
  (adoptTake_any v l g f v2 l2 w hA.1 hA.ok hB.1 hB.ok hA.l20 hB.l20 hR hl hl2 hfg).mono fun e x ⟨NS, u, h1, h2, h3, h4, h5, h6⟩ => ⟨u, NS, h1, ⟨row_sl h2 ntE_len, fun z hz => ⟨h3 z hz, h4 z hz⟩⟩, h5, h6⟩
theorem rp_step (h : rpF (X.map e0) ((NS.drop i).map ntP) = some K) (hy : NS[i]? = some y) (h0 : 0 ≤ y.n) : setE X y.n y.e.client y.e.req y.e.opl y.e.ts = 0 ∧ ∀ X' : List EntT, X'.map e0 = (setL X y.n y.e.client y.e.req y.e.opl y.e.ts).map e0 → rpF (X'.map e0) ((NS.drop (i + 1)).map ntP) = some K := by
  rw [show NS.drop i = y :: NS.drop (i + 1) from dropE hy, List.map_cons] at h
  have h : (if errX (X.map e0) y.n.toNat (e0 y.e) ≠ 0 then none else rpF (nset (X.map e0) y.n.toNat (e0 y.e)) ((NS.drop (i + 1)).map ntP)) = some K := h
  have hn : ((y.n.toNat : Nat) : Int) = y.n := Int.toNat_of_nonneg h0
  have e1 : errX (X.map e0) y.n.toNat (e0 y.e) = setE X y.n y.e.client y.e.req y.e.opl y.e.ts := by
    unfold errX; rw [hn, setE_e0]; rfl
  have e2 : nset (X.map e0) y.n.toNat (e0 y.e) = (setL X y.n y.e.client y.e.req y.e.opl y.e.ts).map e0 := by
    unfold nset; rw [hn, setL_e0]; rfl
  rw [e1, e2] at h
  split at h
  · cases h
  · rename_i hc
    refine ⟨by omega, fun X' hX => ?_⟩
    rw [hX]; exact h
theorem base_eq {n m : Nat} (h : BaseP l l2 n) (k : BaseP l l2 m) : n = m := by
  have one : ∀ {a b : Nat}, BaseP l l2 a → BaseP l l2 b → ¬ a < b := fun {a b} ha hb hlt => by
    have hb1 := hb.1; have hb2 := hb.2.1
    obtain ⟨p, hp⟩ : ∃ p, l[a]? = some p := ⟨_, List.getElem?_eq_getElem (by omega)⟩
    obtain ⟨q, hq⟩ : ∃ q, l2[a]? = some q := ⟨_, List.getElem?_eq_getElem (by omega)⟩
    exact ha.2.2.2 (by omega) (by omega) p q hp hq (hb.2.2.1 a hlt p q hp hq)
  have := one h k; have := one k h; omega
theorem base_next (h : ∀ i, i < n → ∀ a b, l[i]? = some a → l2[i]? = some b → nmE a = nmE b) {p q : EntT} (hp : l[n]? = some p) (hq : l2[n]? = some q) (hn : p.client = q.client ∧ p.req = q.req) : ∀ i, i < n + 1 → ∀ a b, l[i]? = some a → l2[i]? = some b → nmE a = nmE b := fun i hi a b ha hb => by
  by_cases e : i = n
  · subst e; rw [hp] at ha; rw [hq] at hb; cases ha; cases hb; exact Prod.ext hn.1 hn.2
  · exact h i (by omega) a b ha hb
theorem base_stop (h1 : n ≤ l.length) (h2 : n ≤ l2.length) (h : ∀ i, i < n → ∀ a b, l[i]? = some a → l2[i]? = some b → nmE a = nmE b) (hs : n = l.length ∨ n = l2.length ∨ ∃ p q : EntT, l[n]? = some p ∧ l2[n]? = some q ∧ ¬ (p.client = q.client ∧ p.req = q.req)) : BaseP l l2 n := by
  refine ⟨h1, h2, h, fun a b p q hp hq hpq => ?_⟩
  rcases hs with e | e | ⟨p', q', hp', hq', hn⟩
  · omega
  · omega
  · rw [hp'] at hp; rw [hq'] at hq; cases hp; cases hq
    exact hn (Prod.mk.inj hpq)
end

set_option maxRecDepth 100000 in
set_option maxHeartbeats 1600000 in
theorem laid18_any (v : Value) (l : List EntT) (u : Value) (NS : List NtT) (K : List EntT) (w : World) (hA : SlX w v l) (hn : SliceOf ntE 18 w u NS) (hok : ∀ z ∈ NS, NtOk w z) (hlen : l.length ≤ 100) (hrp : rpF (l.map e0) (NS.map ntP) = some K) :
    Calls Try.prog 50 #[v, u] w fun e w' => ∃ (u' : Value) (X' : List EntT), e = .returned (.tuple #[u', .bool true]) ∧ SlX w' u' X' ∧ X'.map e0 = K ∧ X'.length ≤ 100 ∧ Below w.heap.size w w' := by
 have hB0 := Below.refl w.heap.size w
 have hl_hn := sl_len hn
 refine co_enter (n := 35) Try.func50 rfl rfl rfl [(0, v), (1, u)] rfl (fun a h0 => ?_)
 refine co_seq ?_
 refine co_reg ?_
 refine pk0 (v := .slice none 0 0) h0 rfl fun a1 h1 => ?_; clear h0
 refine pk0 (v := .bool false) h1 rfl fun a2 h2 => ?_; clear h1
 refine pl_nil ?_
 refine co_then ?_
 refine co_seq ?_
 refine co_reg ?_
 refine pk0 (v := v) h2 rfl fun a3 h3 => ?_; clear h2
 refine pw h3 rfl (op_call (args := #[v]) (R := fun res xw => ∃ (L2 : List EntT) (ao : Option Addr) (nn cap : Nat), res = .slice ao nn cap ∧ xw.ownsRow w.heap.size 47 4 (.slice ao nn cap) L2.length (L2.flatMap entE) ∧ EntsK (fun _ => False) w.heap.size xw L2 ∧ L2.map e0 = l.map e0 ∧ Below w.heap.size w xw) rfl rfl rfl (by kernel_rfl) (by kernel_rfl) (Try.call52 _ _) (rcopyS v l w (hA.1.below hB0) (hA.below hB0).ok hA.l20 hlen) (by rintro e x ⟨L2, ao, nn, cap, rfl, h⟩; exact ⟨_, rfl, L2, ao, nn, cap, rfl, h⟩)) ?_; clear h3
 rintro _ w5 a4 ⟨L26, ao7, nn8, cp9, rfl, hr10, hE11, hq12, hb13⟩ h4
 have hz14 := hb13.size
 have hl15 := e0_len hq12
 refine pk0 (v := .agg #[.slice ao7 nn8 cp9]) h4 rfl fun a16 h16 => ?_; clear h4
 refine pw h16 rfl (op_new (v := fun N => pt N 0) (T := 41) (cs := #[.slice ao7 nn8 cp9]) (by kernel_rfl) (by kernel_rfl) (by kernel_rfl)) ?_; clear h16
 rintro _ w18 a17 ⟨N19, rfl, hN22, hz23, hk21, hg20⟩ h17
 have ha24 := row_fresh hr10 hN22
 have hz25 := hg20.size
 try dsimp only at h17
 refine pk0 (v := pt N19 0) h17 rfl fun a26 h26 => ?_; clear h17
 refine pl_nil ?_
 refine co_then ?_
 refine co_seq ?_
 refine co_seq ?_
 refine co_reg ?_
 refine pk0 (v := .int .i64 0) h26 rfl fun a27 h27 => ?_; clear h26
 refine pl_nil ?_
 refine co_then ?_
 refine wp_block ?_
 have hr28 := row_kept_new hr10 hg20
 have hE29 := hE11.new hg20
 obtain ⟨S1, hO1, hlo1⟩ := RObj.mk0 hr28 hE29 hk21 (Nat.le_refl _) (by omega) (by omega)
 have hlo2 : ∀ q, S1 q → w.heap.size ≤ q := fun q hq => by have := hlo1 q hq; omega
 have hll := hlo2
 have hrp9 : rpF (L26.map e0) ((NS.drop 0).map ntP) = some K := by rw [hq12]; exact hrp
 have h30 : Slots 35 [(0, v), (1, u), (6, pt N19 0), (7, .int .i64 0)] _ := h27.sub ⟨rfl, rfl, rfl, rfl, trivial⟩; clear h27
 refine co_loop (fun mm a x => ∃ (i : Nat) (SD : Nat → Prop) (ud : Value) (XD : List EntT), Slots 35 [(0, v), (1, u), (6, pt N19 0), (7, .int .i64 ((i : Nat) : Int))] a ∧ mm = NS.length - i ∧ (i ≤ NS.length) ∧ (∀ q, SD q → w.heap.size ≤ q) ∧ (rpF (XD.map e0) ((NS.drop i).map ntP) = some K) ∧ RObj SD x N19 ud XD ∧ Below w.heap.size w x) (NS.length - 0) ?_ ?_
 have hB31 := hb_call hB0 hb13
 have hB32 := hb_new hB31 hg20
 · exact ⟨0, S1, (.slice ao7 nn8 cp9), L26, h30.sub ⟨rfl, rfl, rfl, (slot_eq rfl (congrArg (Value.int .i64) (by first | rfl | omega))), trivial⟩, rfl, by omega, by exact hll, by exact hrp9, hO1, hB32⟩
 · rintro k33 a34 w35 ⟨i, SD, ud, XD, h34, rfl, hi36, hi37, hi38, hf39, hB40⟩
   have hz41 := hB40.size
   have hlo42 : ∀ q, SD q → w.heap.size ≤ q := by assumption
   have hRp : rpF (XD.map e0) ((NS.drop i).map ntP) = some K := by assumption
   refine co_seq ?_
   refine co_seq ?_
   refine co_reg ?_
   refine pk0 (v := .int .i64 ((i : Nat) : Int)) h34 rfl fun a43 h43 => ?_; clear h34
   refine pk0 (v := u) h43 rfl fun a44 h44 => ?_; clear h43
   refine pk (v := .int .i64 ((NS.length : Nat) : Int)) h44 rfl (rn_len rfl rfl Try.underlying72 (hn.below hB40)) fun a45 h45 => ?_; clear h44
   refine pk0 (v := .bool (decide (((i : Nat) : Int) < ((NS.length : Nat) : Int)))) h45 rfl fun a46 h46 => ?_; clear h45
   refine pl_nil ?_
   refine co_then ?_
   cases hc47 : (decide (((i : Nat) : Int) < ((NS.length : Nat) : Int)))
   ·
    rw [hc47] at h46
    have hp48 : ¬ (((i : Nat) : Int) < ((NS.length : Nat) : Int)) := of_decide_eq_false hc47
    clear hc47
    refine co_false h46 rfl ?_
    refine wp_exit ?_
    refine co_thenX ?_
    refine co_thenX ?_
    refine co_blockX ?_
    refine co_then ?_
    refine co_seq ?_
    refine co_reg ?_
    refine pk0 (v := pt N19 0) h46 rfl fun a49 h49 => ?_; clear h46
    refine pk0 (v := pt N19 0) h49 rfl fun a50 h50 => ?_; clear h49
    refine pk0 (v := pt N19 0) h50 rfl fun a51 h51 => ?_; clear h50
    refine pk (v := ud) h51 rfl (rn_load1 rfl rfl Try.isAgg39 ((RObj.lg hf39).cell rfl)) fun a52 h52 => ?_; clear h51
    refine pk0 (v := ud) h52 rfl fun a53 h53 => ?_; clear h52
    refine pk0 (v := .bool true) h53 rfl fun a54 h54 => ?_; clear h53
    refine pl_nil ?_
    refine co_then ?_
    refine wp_ret ?_
    refine co_ret2 h54 rfl rfl rfl ?_
    have hfin : XD.map e0 = K := by have hq := hRp; rw [List.drop_eq_nil_of_le (by omega)] at hq; exact Option.some.inj hq
    exact ⟨_, _, rfl, ⟨RObj.sl hf39, fun z hz => ⟨RObj.got hf39 z hz, (hf39.2.ents z hz).len⟩⟩, hfin, hf39.2.len, hB40⟩
   ·
    rw [hc47] at h46
    have hp55 : ((i : Nat) : Int) < ((NS.length : Nat) : Int) := of_decide_eq_true hc47
    clear hc47
    refine co_true h46 rfl ?_
    refine wp_skip ?_
    refine co_then ?_
    refine co_seq ?_
    refine wp_block ?_
    refine co_seq ?_
    refine dr_gen (fun x => Below w.heap.size w x) (by kernel_rfl) (fun w56 hg57 => ?_) (fun w56 hg57 => ?_)
    ·
     have hz58 := hg57.size
     have hB59 := hb_new hB40 hg57
     exact hB59
    have hz60 := hg57.size
    have hB61 := hb_new hB40 hg57
    refine dk0 0 (v := pt N19 0) h46 rfl rfl hB61 fun a62 h62 => ?_; clear h46
    refine dk0 1 (v := u) h62 rfl rfl hB61 fun a63 h63 => ?_; clear h62
    refine dk0 2 (v := .int .i64 ((i : Nat) : Int)) h63 rfl rfl hB61 fun a64 h64 => ?_; clear h63
    obtain ⟨y65, hy65⟩ : ∃ z, NS[i]? = some z := ⟨_, List.getElem?_eq_getElem (by first | omega | (simp; done) | (simp; omega))⟩
    have oky65 := hok _ (List.mem_of_getElem? hy65)
    have k66 : 0 ≤ y65.e.ts := oky65.1.ts0
    have k67 : y65.e.ts < 18446744073709551616 := oky65.1.ts1
    have k68 : 0 ≤ y65.n := oky65.2
    have hsty65 := rp_step hRp hy65 oky65.2
    have hity65 := oky65.1.it
    refine dk 3 (v := pt (blkOf u) (offOf u + i * 18)) h64 rfl rfl hB61 (fun x hx => (rn_index rfl rfl rfl Try.underlying72 Try.sizeOf93 (hn.below hx) (by omega) (by first | omega | (simp; done) | (simp; omega)))) fun a69 h69 => ?_; clear h64
    refine dk0 4 (v := pt (blkOf u) (offOf u + i * 18 + 1)) h69 rfl rfl hB61 fun a70 h70 => ?_; clear h69
    refine dk 5 (v := .int .i64 y65.n) h70 rfl rfl hB61 (fun x hx => (rn_load1 rfl rfl Try.isAgg3 ((sl_at (hn.below hx) hy65) 1 _ rfl))) fun a71 h71 => ?_; clear h70
    refine dk0 6 (v := u) h71 rfl rfl hB61 fun a72 h72 => ?_; clear h71
    refine dk0 7 (v := .int .i64 ((i : Nat) : Int)) h72 rfl rfl hB61 fun a73 h73 => ?_; clear h72
    refine dk 8 (v := pt (blkOf u) (offOf u + i * 18)) h73 rfl rfl hB61 (fun x hx => (rn_index rfl rfl rfl Try.underlying72 Try.sizeOf93 (hn.below hx) (by omega) (by first | omega | (simp; done) | (simp; omega)))) fun a74 h74 => ?_; clear h73
    refine dk0 9 (v := pt (blkOf u) (offOf u + i * 18 + 7)) h74 rfl rfl hB61 fun a75 h75 => ?_; clear h74
    refine dk 10 (v := .agg #[.int .i64 y65.e.client, .int .i64 y65.e.req, y65.e.ops, .int .u64 y65.e.ts]) h75 rfl rfl hB61 (fun x hx => (rn_loadN rfl rfl Try.underlying47 rfl (by kernel_rfl) (range_part (sl_at (hn.below hx) hy65) 7 _ (by rfl)))) fun a76 h76 => ?_; clear h75
    have hO80 := RObj.gr hf39 hg57 (fun k e => by cases e)
    have ho79 := RObj.ofS hO80
    refine d1 11 h76 rfl rfl (op_call (args := #[pt N19 0, .int .i64 y65.n, .agg #[.int .i64 y65.e.client, .int .i64 y65.e.req, y65.e.ops, .int .u64 y65.e.ts]]) (R := fun res xw => ∃ u' : Value, ∃ X' : List EntT, ∃ S' : Nat → Prop, res = .int .i64 0 ∧ RObj S' xw N19 u' X' ∧ (X'.map e0 = (setL XD y65.n y65.e.client y65.e.req y65.e.opl y65.e.ts).map e0) ∧ Grew SD S' w56 xw) rfl rfl rfl (by kernel_rfl) (by kernel_rfl) (Try.call76 _ _) (uSet w56 y65.n y65.e.client y65.e.req y65.e.ops y65.e.opl y65.e.ts hO80 ((row_sl oky65.1.row opE_len).below hB61) (sl_off (row_sl oky65.1.row opE_len) (opE_ne _) hlo42) hity65.len hity65.ts hity65.en) (by rintro e x ⟨u', X', S', h0, h1, h2, h3⟩; rw [hsty65.1] at h0; exact ⟨_, h0, u', X', S', rfl, h1, h2, h3⟩)) ?_ ?_; clear h76
    ·
     rintro _ w78 ⟨u'81, X'82, S83, rfl, hO84, hq86, hx85⟩
     have hlo88 : ∀ q, S83 q → w.heap.size ≤ q := hx85.lo hlo42 (by omega)
     have hB87 := hbL hB61 hlo42 hx85.but
     have hz89 := hB87.size
     have hz90 := hx85.but.size
     exact hB87
    rintro _ w78 a77 ⟨u'81, X'82, S83, rfl, hO84, hq86, hx85⟩ h77
    have hlo88 : ∀ q, S83 q → w.heap.size ≤ q := hx85.lo hlo42 (by omega)
    have hB87 := hbL hB61 hlo42 hx85.but
    have hz89 := hB87.size
    have hz90 := hx85.but.size
    refine dk0 12 (v := .bool ((0 : Int) != 0)) h77 rfl rfl hB87 fun a91 h91 => ?_; clear h77
    refine dr_done (by kernel_rfl) ?_
    refine co_then ?_
    have hc92 : ((0 : Int) != 0) = false := by first | (simp; done) | (simp; omega) | exact beq_false_of_ne (by omega) | exact beq_iff_eq.2 (by omega)
    rw [hc92] at h91; clear hc92
    refine co_false h91 rfl ?_
    refine wp_skip ?_
    refine co_blockN ?_
    refine co_then ?_
    refine co_reg ?_
    refine pk0 (v := .int .i64 ((i : Nat) : Int)) h91 rfl fun a93 h93 => ?_; clear h91
    refine pk (v := .int .i64 ((i + 1 : Nat) : Int)) h93 rfl (rn_arith' rfl rfl rfl rfl rfl rfl (IntWalk.i64_in _ (by omega)) (by omega)) fun a94 h94 => ?_; clear h93
    refine pk0 (v := .int .i64 ((i + 1 : Nat) : Int)) h94 rfl fun a95 h95 => ?_; clear h94
    refine pl_nil ?_
    refine co_then ?_
    refine ⟨(NS.length - (i + 1)), by omega, ?_⟩
    have hll := hlo88
    have hrp9 := hsty65.2 _ hq86
    exact ⟨i + 1, S83, u'81, X'82, h95.sub ⟨rfl, rfl, rfl, rfl, trivial⟩, rfl, by omega, by exact hll, by exact hrp9, hO84, hB87⟩
set_option maxRecDepth 100000 in
theorem adoptBase_any (v : Value) (l : List EntT) (v2 : Value) (l2 : List EntT) (w : World) (hs : SliceOf entE 4 w v l) (hs2 : SliceOf entE 4 w v2 l2) :
    Calls Try.prog 48 #[v, v2] w fun e w' => ∃ (n : Nat), e = .returned (.int .i64 ((n : Nat) : Int)) ∧ BaseP l l2 n ∧ Below w.heap.size w w' := by
 have hB0 := Below.refl w.heap.size w
 have hl_hs := sl_len hs
 have hl_hs2 := sl_len hs2
 refine co_enter (n := 30) Try.func48 rfl rfl rfl [(0, v), (1, v2)] rfl (fun a h0 => ?_)
 refine co_seq ?_
 refine co_reg ?_
 refine pk0 (v := .int .i64 0) h0 rfl fun a1 h1 => ?_; clear h0
 refine pl_nil ?_
 refine co_then ?_
 refine co_seq ?_
 refine co_reg ?_
 refine pk0 (v := .int .i64 0) h1 rfl fun a2 h2 => ?_; clear h1
 refine pl_nil ?_
 refine co_then ?_
 refine co_seq ?_
 refine wp_block ?_
 have hb9 : ∀ i, i < 0 → ∀ a b, l[i]? = some a → l2[i]? = some b → nmE a = nmE b := fun i hi => absurd hi (by omega)
 have h3 : Slots 30 [(0, v), (1, v2), (5, .int .i64 0)] _ := h2.sub ⟨rfl, rfl, rfl, trivial⟩; clear h2
 refine co_loop (fun mm a x => ∃ (n : Nat), Slots 30 [(0, v), (1, v2), (5, .int .i64 ((n : Nat) : Int))] a ∧ mm = l.length - n ∧ (n ≤ l.length) ∧ (n ≤ l2.length) ∧ (∀ i, i < n → ∀ a b, l[i]? = some a → l2[i]? = some b → nmE a = nmE b) ∧ Below w.heap.size w x) (l.length - 0) ?_ ?_
 · exact ⟨0, h3.sub ⟨rfl, rfl, (slot_eq rfl (congrArg (Value.int .i64) (by first | rfl | omega))), trivial⟩, rfl, by omega, by omega, by exact hb9, hB0⟩
 · rintro k4 a5 w6 ⟨n, h5, rfl, hi7, hi8, hi9, hB10⟩
   have hz11 := hB10.size
   have hbs : ∀ i, i < n → ∀ a b, l[i]? = some a → l2[i]? = some b → nmE a = nmE b := by assumption
   refine co_seq ?_
   refine co_seq ?_
   refine dr_gen (fun x => Below w.heap.size w x) (by kernel_rfl) (fun w12 hg13 => ?_) (fun w12 hg13 => ?_)
   ·
    have hz14 := hg13.size
    have hB15 := hb_new hB10 hg13
    exact hB15
   have hz16 := hg13.size
   have hB17 := hb_new hB10 hg13
   refine dk0 0 (v := .int .i64 ((n : Nat) : Int)) h5 rfl rfl hB17 fun a18 h18 => ?_; clear h5
   refine dk0 1 (v := v) h18 rfl rfl hB17 fun a19 h19 => ?_; clear h18
   refine dk 2 (v := .int .i64 ((l.length : Nat) : Int)) h19 rfl rfl hB17 (fun x hx => (rn_len rfl rfl Try.underlying39 (hs.below hx))) fun a20 h20 => ?_; clear h19
   refine dk0 3 (v := .bool (decide (((n : Nat) : Int) < ((l.length : Nat) : Int)))) h20 rfl rfl hB17 fun a21 h21 => ?_; clear h20
   refine dk0 4 (v := .bool (decide (((n : Nat) : Int) < ((l.length : Nat) : Int)))) h21 rfl rfl hB17 fun a22 h22 => ?_; clear h21
   cases hc23 : (decide (((n : Nat) : Int) < ((l.length : Nat) : Int)))
   ·
    rw [hc23] at h22
    have hp24 : ¬ (((n : Nat) : Int) < ((l.length : Nat) : Int)) := of_decide_eq_false hc23
    clear hc23
    refine dsk 5 h22 rfl rfl hB17 fun a25 h25 => ?_; clear h22
    refine dsk 6 h25 rfl rfl hB17 fun a26 h26 => ?_; clear h25
    refine dsk 7 h26 rfl rfl hB17 fun a27 h27 => ?_; clear h26
    refine dsk 8 h27 rfl rfl hB17 fun a28 h28 => ?_; clear h27
    refine dk0 9 (v := .bool false) h28 rfl rfl hB17 fun a29 h29 => ?_; clear h28
    refine dk0 10 (v := .bool false) h29 rfl rfl hB17 fun a30 h30 => ?_; clear h29
    refine dsk 11 h30 rfl rfl hB17 fun a31 h31 => ?_; clear h30
    refine dsk 12 h31 rfl rfl hB17 fun a32 h32 => ?_; clear h31
    refine dsk 13 h32 rfl rfl hB17 fun a33 h33 => ?_; clear h32
    refine dsk 14 h33 rfl rfl hB17 fun a34 h34 => ?_; clear h33
    refine dsk 15 h34 rfl rfl hB17 fun a35 h35 => ?_; clear h34
    refine dsk 16 h35 rfl rfl hB17 fun a36 h36 => ?_; clear h35
    refine dsk 17 h36 rfl rfl hB17 fun a37 h37 => ?_; clear h36
    refine dsk 18 h37 rfl rfl hB17 fun a38 h38 => ?_; clear h37
    refine dsk 19 h38 rfl rfl hB17 fun a39 h39 => ?_; clear h38
    refine dk0 20 (v := .bool false) h39 rfl rfl hB17 fun a40 h40 => ?_; clear h39
    refine dr_done (by kernel_rfl) ?_
    refine co_then ?_
    refine co_false h40 rfl ?_
    refine wp_exit ?_
    refine co_thenX ?_
    refine co_thenX ?_
    refine co_blockX ?_
    refine co_then ?_
    refine co_seq ?_
    refine co_reg ?_
    refine pk0 (v := .int .i64 ((n : Nat) : Int)) h40 rfl fun a41 h41 => ?_; clear h40
    refine pk0 (v := .int .i64 ((n : Nat) : Int)) h41 rfl fun a42 h42 => ?_; clear h41
    refine pl_nil ?_
    refine co_then ?_
    refine wp_ret ?_
    refine co_ret1 h42 rfl rfl ?_
    exact ⟨n, rfl, base_stop (by omega) (by omega) hbs (by first | exact .inl (by omega) | exact .inr (.inl (by omega))), hB17⟩
   ·
    rw [hc23] at h22
    have hp43 : ((n : Nat) : Int) < ((l.length : Nat) : Int) := of_decide_eq_true hc23
    clear hc23
    refine dk0 5 (v := .int .i64 ((n : Nat) : Int)) h22 rfl rfl hB17 fun a44 h44 => ?_; clear h22
    refine dk0 6 (v := v2) h44 rfl rfl hB17 fun a45 h45 => ?_; clear h44
    refine dk 7 (v := .int .i64 ((l2.length : Nat) : Int)) h45 rfl rfl hB17 (fun x hx => (rn_len rfl rfl Try.underlying39 (hs2.below hx))) fun a46 h46 => ?_; clear h45
    refine dk0 8 (v := .bool (decide (((n : Nat) : Int) < ((l2.length : Nat) : Int)))) h46 rfl rfl hB17 fun a47 h47 => ?_; clear h46
    refine dk0 9 (v := .bool (decide (((n : Nat) : Int) < ((l2.length : Nat) : Int)))) h47 rfl rfl hB17 fun a48 h48 => ?_; clear h47
    refine dk0 10 (v := .bool (decide (((n : Nat) : Int) < ((l2.length : Nat) : Int)))) h48 rfl rfl hB17 fun a49 h49 => ?_; clear h48
    cases hc50 : (decide (((n : Nat) : Int) < ((l2.length : Nat) : Int)))
    ·
     rw [hc50] at h49
     have hp51 : ¬ (((n : Nat) : Int) < ((l2.length : Nat) : Int)) := of_decide_eq_false hc50
     clear hc50
     refine dsk 11 h49 rfl rfl hB17 fun a52 h52 => ?_; clear h49
     refine dsk 12 h52 rfl rfl hB17 fun a53 h53 => ?_; clear h52
     refine dsk 13 h53 rfl rfl hB17 fun a54 h54 => ?_; clear h53
     refine dsk 14 h54 rfl rfl hB17 fun a55 h55 => ?_; clear h54
     refine dsk 15 h55 rfl rfl hB17 fun a56 h56 => ?_; clear h55
     refine dsk 16 h56 rfl rfl hB17 fun a57 h57 => ?_; clear h56
     refine dsk 17 h57 rfl rfl hB17 fun a58 h58 => ?_; clear h57
     refine dsk 18 h58 rfl rfl hB17 fun a59 h59 => ?_; clear h58
     refine dsk 19 h59 rfl rfl hB17 fun a60 h60 => ?_; clear h59
     refine dk0 20 (v := .bool false) h60 rfl rfl hB17 fun a61 h61 => ?_; clear h60
     refine dr_done (by kernel_rfl) ?_
     refine co_then ?_
     refine co_false h61 rfl ?_
     refine wp_exit ?_
     refine co_thenX ?_
     refine co_thenX ?_
     refine co_blockX ?_
     refine co_then ?_
     refine co_seq ?_
     refine co_reg ?_
     refine pk0 (v := .int .i64 ((n : Nat) : Int)) h61 rfl fun a62 h62 => ?_; clear h61
     refine pk0 (v := .int .i64 ((n : Nat) : Int)) h62 rfl fun a63 h63 => ?_; clear h62
     refine pl_nil ?_
     refine co_then ?_
     refine wp_ret ?_
     refine co_ret1 h63 rfl rfl ?_
     exact ⟨n, rfl, base_stop (by omega) (by omega) hbs (by first | exact .inl (by omega) | exact .inr (.inl (by omega))), hB17⟩
    ·
     rw [hc50] at h49
     have hp64 : ((n : Nat) : Int) < ((l2.length : Nat) : Int) := of_decide_eq_true hc50
     clear hc50
     refine dk0 11 (v := v) h49 rfl rfl hB17 fun a65 h65 => ?_; clear h49
     refine dk0 12 (v := .int .i64 ((n : Nat) : Int)) h65 rfl rfl hB17 fun a66 h66 => ?_; clear h65
     obtain ⟨y67, hy67⟩ : ∃ z, l[n]? = some z := ⟨_, List.getElem?_eq_getElem (by first | omega | (simp; done) | (simp; omega))⟩
     refine dk 13 (v := pt (blkOf v) (offOf v + n * 4)) h66 rfl rfl hB17 (fun x hx => (rn_index rfl rfl rfl Try.underlying39 Try.sizeOf47 (hs.below hx) (by omega) (by first | omega | (simp; done) | (simp; omega)))) fun a68 h68 => ?_; clear h66
     refine dk 14 (v := .agg #[.int .i64 y67.client, .int .i64 y67.req, y67.ops, .int .u64 y67.ts]) h68 rfl rfl hB17 (fun x hx => (rn_loadN rfl rfl Try.underlying47 rfl (by kernel_rfl) (sl_at (hs.below hx) hy67))) fun a69 h69 => ?_; clear h68
     refine dk0 15 (v := v2) h69 rfl rfl hB17 fun a70 h70 => ?_; clear h69
     refine dk0 16 (v := .int .i64 ((n : Nat) : Int)) h70 rfl rfl hB17 fun a71 h71 => ?_; clear h70
     obtain ⟨y72, hy72⟩ : ∃ z, l2[n]? = some z := ⟨_, List.getElem?_eq_getElem (by first | omega | (simp; done) | (simp; omega))⟩
     refine dk 17 (v := pt (blkOf v2) (offOf v2 + n * 4)) h71 rfl rfl hB17 (fun x hx => (rn_index rfl rfl rfl Try.underlying39 Try.sizeOf47 (hs2.below hx) (by omega) (by first | omega | (simp; done) | (simp; omega)))) fun a73 h73 => ?_; clear h71
     refine dk 18 (v := .agg #[.int .i64 y72.client, .int .i64 y72.req, y72.ops, .int .u64 y72.ts]) h73 rfl rfl hB17 (fun x hx => (rn_loadN rfl rfl Try.underlying47 rfl (by kernel_rfl) (sl_at (hs2.below hx) hy72))) fun a74 h74 => ?_; clear h73
     refine d1 19 h74 rfl rfl (op_call (args := #[.agg #[.int .i64 y67.client, .int .i64 y67.req, y67.ops, .int .u64 y67.ts], .agg #[.int .i64 y72.client, .int .i64 y72.req, y72.ops, .int .u64 y72.ts]]) (R := fun res xw => res = .bool ((y67.client == (y72.client : Int)) && (y67.req == (y72.req : Int))) ∧ Below w12.heap.size w12 xw) rfl rfl rfl (by kernel_rfl) (by kernel_rfl) (Try.call94 _ _) (itemTwins_any y67.client y67.req (y67.ops) y67.ts y72.client y72.req (y72.ops) y72.ts w12) (by rintro e x ⟨rfl, h⟩; exact ⟨_, rfl, rfl, h⟩)) ?_ ?_; clear h74
     ·
      rintro _ w76 ⟨rfl, hb77⟩
      have hz78 := hb77.size
      have hB79 := hb_call hB17 hb77
      exact hB79
     rintro _ w76 a75 ⟨rfl, hb77⟩ h75
     have hz78 := hb77.size
     have hB79 := hb_call hB17 hb77
     refine dk0 20 (v := .bool ((y67.client == (y72.client : Int)) && (y67.req == (y72.req : Int)))) h75 rfl rfl hB79 fun a80 h80 => ?_; clear h75
     refine dr_done (by kernel_rfl) ?_
     refine co_then ?_
     cases hc81 : (((y67.client == (y72.client : Int)) && (y67.req == (y72.req : Int))))
     ·
      rw [hc81] at h80
      have hp82 : ¬ (y67.client = y72.client ∧ y67.req = y72.req) := by first | simpa using hc81 | simpa [and_assoc] using hc81
      clear hc81
      refine co_false h80 rfl ?_
      refine wp_exit ?_
      refine co_thenX ?_
      refine co_thenX ?_
      refine co_blockX ?_
      refine co_then ?_
      refine co_seq ?_
      refine co_reg ?_
      refine pk0 (v := .int .i64 ((n : Nat) : Int)) h80 rfl fun a83 h83 => ?_; clear h80
      refine pk0 (v := .int .i64 ((n : Nat) : Int)) h83 rfl fun a84 h84 => ?_; clear h83
      refine pl_nil ?_
      refine co_then ?_
      refine wp_ret ?_
      refine co_ret1 h84 rfl rfl ?_
      exact ⟨n, rfl, base_stop (by omega) (by omega) hbs (.inr (.inr ⟨_, _, hy67, hy72, by omega⟩)), hB79⟩
     ·
      rw [hc81] at h80
      have hp85 : y67.client = y72.client ∧ y67.req = y72.req := by first | simpa using hc81 | simpa [and_assoc] using hc81
      clear hc81
      refine co_true h80 rfl ?_
      refine wp_skip ?_
      refine co_then ?_
      refine wp_block ?_
      refine co_reg ?_
      refine pk0 (v := .int .i64 ((n : Nat) : Int)) h80 rfl fun a86 h86 => ?_; clear h80
      refine pk (v := .int .i64 ((n + 1 : Nat) : Int)) h86 rfl (rn_arith' rfl rfl rfl rfl rfl rfl (IntWalk.i64_in _ (by omega)) (by omega)) fun a87 h87 => ?_; clear h86
      refine pk0 (v := .int .i64 ((n + 1 : Nat) : Int)) h87 rfl fun a88 h88 => ?_; clear h87
      refine pl_nil ?_
      refine co_blockN ?_
      refine co_then ?_
      refine ⟨(l.length - (n + 1)), by omega, ?_⟩
      have hb9 := base_next hbs hy67 hy72 (by omega)
      exact ⟨n + 1, h88.sub ⟨rfl, rfl, rfl, trivial⟩, rfl, by omega, by omega, by exact hb9, hB79⟩
end Go.Proofs.Ythmnndbpadegnaa
