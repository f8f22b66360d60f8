/- The document's store: Put. Conditions: at most 60000 keys, 700 versions each, 20 operations. -/
import Derived.Test.YtfjhlckklgeokaaMwELm
namespace Go.Proofs.Ytfjhlckklgeokaa
open Go.RowKit Go.PlainAid
set_option linter.unusedVariables false
set_option linter.unusedSimpArgs false


section
variable {L M N : List Kv} {n m : Nat} {f : Fv} {la ts : Int} {l : List OpT} {i : Nat} {y : OpT}
theorem from_trans (h : ∀ a ∈ M, (∃ b ∈ L, b.2 = a.2) ∨ ∀ g, (slV a.2).ownBlock = some g → n ≤ g) (h2 : ∀ a ∈ N, (∃ b ∈ M, b.2 = a.2) ∨ ∀ g, (slV a.2).ownBlock = some g → m ≤ g) (hm : n ≤ m) : ∀ a ∈ N, (∃ b ∈ L, b.2 = a.2) ∨ ∀ g, (slV a.2).ownBlock = some g → n ≤ g := fun a ha => by
  rcases h2 a ha with ⟨b, hb, e⟩ | h3
  · rcases h b hb with ⟨c, hc, e2⟩ | h4
    · exact .inl ⟨c, hc, e2.trans e⟩
    · exact .inr fun g hg => h4 g (by rw [e]; exact hg)
  · exact .inr fun g hg => Nat.le_trans hm (h3 g hg)
theorem from_self (L : List Kv) (n : Nat) : ∀ a ∈ L, (∃ b ∈ L, b.2 = a.2) ∨ ∀ g, (slV a.2).ownBlock = some g → n ≤ g := fun a ha => .inl ⟨a, ha, rfl⟩
theorem puts_len (hF : FOk f la n) (hlt : la < ts) (h0 : 0 < ts ∧ ts < 18446744073709551616) (hup : l.Pairwise (fun a b => klt a.1 b.1 = true)) : ∀ x, (putsF f ts (l.take i) x).length ≤ n + 1 := fun x => (hF.puts hlt h0 (hup.sublist (List.take_sublist _ _))).len x
end

set_option maxRecDepth 100000 in
set_option maxHeartbeats 3200000 in
theorem rput_blk (d : Nat) (u : Value) (la : Int) (L : List Kv) (f : Fv) (n : Nat) (ts : Int) (v : Value) (l : List OpT) (w : World) (hB : Blk w d 31 #[u, .int .u64 la]) (hR : w.ownsRow 0 80 2 u L.length (L.flatMap rwE)) (hE : RwsK w f L) (hK : KOf (L.map (·.1)) f) (hF : FOk f la n) (hL : L.length ≤ 60000) (hn : n ≤ 700) (hs : SliceOf opE 3 w v l) (hvS : l ≠ [] → ∀ k, v.ownBlock = some k → ¬ (k = d ∨ u.ownBlock = some k)) (hts : 0 ≤ ts ∧ ts < 18446744073709551616) (hla : 0 ≤ la ∧ la < 18446744073709551616) (hl : l.length ≤ 20) :
    Calls Try.prog 12 #[pt d 0, .int .u64 ts, v] w fun e w' => ∃ (u' : Value) (M : List Kv), e = .returned (.int .i64 (mvE la ts l)) ∧ Blk w' d 31 #[u', .int .u64 (mvLa la ts l)] ∧ w'.ownsRow 0 80 2 u' M.length (M.flatMap rwE) ∧ RwsK w' (mvF f la ts l) M ∧ KOf (M.map (·.1)) (mvF f la ts l) ∧ M.length ≤ L.length + l.length ∧ (∀ i, u'.ownBlock = some i → u.ownBlock = some i ∨ w.heap.size ≤ i) ∧ (∀ a ∈ M, (∃ b ∈ L, b.2 = a.2) ∨ ∀ g, (slV a.2).ownBlock = some g → w.heap.size ≤ g) ∧ But (fun q => q = d ∨ u.ownBlock = some q) w w' := by
 have hB0 := But.refl (fun q => q = d ∨ u.ownBlock = some q) w
 have hl_hB := hB.lt
 have hl_hs := sl_len hs
 have hinb : (fun q => q = d ∨ u.ownBlock = some q) d ∨ w.heap.size ≤ d := .inl (.inl rfl)
 refine co_enter (n := 52) Try.func12 rfl rfl rfl [(0, pt d 0), (1, .int .u64 ts), (2, v)] rfl (fun a h0 => ?_)
 refine co_seq ?_
 refine co_reg ?_
 refine pk0 (v := .int .i64 0) h0 rfl fun a1 h1 => ?_; clear h0
 refine pl_nil ?_
 refine co_then ?_
 refine co_seq ?_
 refine co_seq ?_
 refine co_reg ?_
 refine pk0 (v := .int .u64 ts) h1 rfl fun a2 h2 => ?_; clear h1
 refine pk0 (v := .bool (ts == 0)) h2 rfl fun a3 h3 => ?_; clear h2
 refine pl_nil ?_
 refine co_then ?_
 cases hc4 : (ts == 0)
 ·
  rw [hc4] at h3
  have hp5 : ¬ (ts = 0) := by first | simpa using hc4 | simpa [and_assoc] using hc4
  clear hc4
  refine co_false h3 rfl ?_
  refine wp_skip ?_
  refine co_then ?_
  refine co_seq ?_
  refine co_seq ?_
  refine co_reg ?_
  refine pk0 (v := .int .u64 ts) h3 rfl fun a6 h6 => ?_; clear h3
  refine pk0 (v := pt d 0) h6 rfl fun a7 h7 => ?_; clear h6
  refine pk0 (v := pt d 0) h7 rfl fun a8 h8 => ?_; clear h7
  refine pk0 (v := pt d 1) h8 rfl fun a9 h9 => ?_; clear h8
  refine pk (v := .int .u64 la) h9 rfl (rn_load1 rfl rfl Try.isAgg29 (hB.cell rfl)) fun a10 h10 => ?_; clear h9
  refine pk0 (v := .bool (decide (ts ≤ la))) h10 rfl fun a11 h11 => ?_; clear h10
  refine pl_nil ?_
  refine co_then ?_
  cases hc12 : (decide (ts ≤ la))
  ·
   rw [hc12] at h11
   have hp13 : ¬ (ts ≤ la) := of_decide_eq_false hc12
   clear hc12
   refine co_false h11 rfl ?_
   refine wp_skip ?_
   refine co_then ?_
   refine co_seq ?_
   refine co_seq ?_
   refine co_reg ?_
   refine pk0 (v := v) h11 rfl fun a14 h14 => ?_; clear h11
   refine pk (v := .agg #[.int .i64 0, .int .i64 1, v]) h14 rfl (by obtain ⟨_, _, _, hq⟩ := sl_form (sl_butN hs hB0 hvS); subst hq; kernel_rfl) fun a15 h15 => ?_; clear h14
   refine pw h15 rfl (op_call (args := #[.agg #[.int .i64 0, .int .i64 1, v]]) (R := fun res xw => res = .int .i64 (chkB 0 1 l) ∧ Below w.heap.size w xw) rfl rfl rfl (by kernel_rfl) (by kernel_rfl) (Try.call30 _ _) (ropsCheck_any 0 1 v l w (sl_butN hs hB0 hvS)) (by rintro e x ⟨rfl, h⟩; exact ⟨_, rfl, rfl, h⟩)) ?_; clear h15
   rintro _ w17 a16 ⟨rfl, hb18⟩ h16
   have hz19 := hb18.size
   refine pk0 (v := .int .i64 (chkB 0 1 l)) h16 rfl fun a20 h20 => ?_; clear h16
   refine pl_nil ?_
   refine co_then ?_
   refine co_seq ?_
   refine co_reg ?_
   refine pk0 (v := .int .i64 (chkB 0 1 l)) h20 rfl fun a21 h21 => ?_; clear h20
   refine pk0 (v := .bool ((chkB 0 1 l) != 0)) h21 rfl fun a22 h22 => ?_; clear h21
   refine pl_nil ?_
   refine co_then ?_
   have hB24 := fbU_call hB0 hb18
   cases hc23 : ((chkB 0 1 l) != 0)
   ·
    rw [hc23] at h22
    have hp25 : ¬ ((chkB 0 1 l) ≠ 0) := by first | simpa using hc23 | simpa [and_assoc] using hc23
    clear hc23
    refine co_false h22 rfl ?_
    refine wp_skip ?_
    refine co_then ?_
    refine co_seq ?_
    refine co_seq ?_
    refine co_reg ?_
    refine pk0 (v := .int .i64 0) h22 rfl fun a26 h26 => ?_; clear h22
    refine pl_nil ?_
    refine co_then ?_
    refine wp_block ?_
    have hE0 : chkB 0 1 l = 0 := by omega
    have hup := chkB_up hE0
    have hlt9 : la < ts := by omega
    have h09 : 0 < ts ∧ ts < 18446744073709551616 := ⟨by omega, by omega⟩
    have hE9 : mvE la ts l = 0 := by rw [mvE_c (by omega) (by omega)]; exact hE0
    have hln9 : l.length ≤ 4 := (chkB_ok hE0).2.2.1
    have hk9 : KOf (L.map (·.1)) (putsF f ts (l.take 0)) := hK
    have hu9 : ∀ i, u.ownBlock = some i → u.ownBlock = some i ∨ w.heap.size ≤ i := fun i hi => .inl hi
    have hm9 := from_self L w.heap.size
    have h27 : Slots 52 [(0, pt d 0), (1, .int .u64 ts), (2, v), (8, .int .i64 0)] _ := h26.sub ⟨rfl, rfl, rfl, rfl, trivial⟩; clear h26
    refine co_loop (fun mm a x => ∃ (i : Nat) (uu : Value) (MM : List Kv), Slots 52 [(0, pt d 0), (1, .int .u64 ts), (2, v), (8, .int .i64 ((i : Nat) : Int))] a ∧ mm = l.length - i ∧ (i ≤ l.length) ∧ (KOf (MM.map (·.1)) (putsF f ts (l.take i))) ∧ (MM.length ≤ L.length + i) ∧ (∀ i, uu.ownBlock = some i → u.ownBlock = some i ∨ w.heap.size ≤ i) ∧ (∀ a ∈ MM, (∃ b ∈ L, b.2 = a.2) ∨ ∀ g, (slV a.2).ownBlock = some g → w.heap.size ≤ g) ∧ Blk x d 31 #[uu, .int .u64 la] ∧ x.ownsRow 0 80 2 uu MM.length (MM.flatMap rwE) ∧ RwsK x (putsF f ts (l.take i)) MM ∧ But (fun q => q = d ∨ u.ownBlock = some q) w x) (l.length - 0) ?_ ?_
    have hk28 := hB.below hb18
    have hr29 := row_kept_new hR (below_grown hb18)
    have hE30 := hE.new (below_grown hb18)
    · exact ⟨0, u, L, h27.sub ⟨rfl, rfl, rfl, (slot_eq rfl (congrArg (Value.int .i64) (by first | rfl | omega))), trivial⟩, rfl, by omega, by exact hk9, by omega, by exact hu9, by exact hm9, hk28, (row_eq hr29 (rfl)), hE30, hB24⟩
    · rintro k31 a32 w33 ⟨i, uu, MM, h32, rfl, hi34, hi35, hi36, hi37, hi38, hf39, hf40, hf41, hB42⟩
      have hz43 := hB42.size
      have hl44 := hf39.lt
      have hkA : KOf (MM.map (·.1)) (putsF f ts (l.take i)) := by assumption
      have huA : ∀ i, uu.ownBlock = some i → u.ownBlock = some i ∨ w.heap.size ≤ i := by assumption
      have hmA : ∀ a ∈ MM, (∃ b ∈ L, b.2 = a.2) ∨ ∀ g, (slV a.2).ownBlock = some g → w.heap.size ≤ g := by assumption
      have hflA := puts_len (i := i) hF hlt9 h09 hup
      refine co_seq ?_
      refine co_seq ?_
      refine co_reg ?_
      refine pk0 (v := .int .i64 ((i : Nat) : Int)) h32 rfl fun a45 h45 => ?_; clear h32
      refine pk0 (v := v) h45 rfl fun a46 h46 => ?_; clear h45
      refine pk (v := .int .i64 ((l.length : Nat) : Int)) h46 rfl (rn_len rfl rfl Try.underlying32 (sl_butN hs hB42 hvS)) fun a47 h47 => ?_; clear h46
      refine pk0 (v := .bool (decide (((i : Nat) : Int) < ((l.length : Nat) : Int)))) h47 rfl fun a48 h48 => ?_; clear h47
      refine pl_nil ?_
      refine co_then ?_
      cases hc49 : (decide (((i : Nat) : Int) < ((l.length : Nat) : Int)))
      ·
       rw [hc49] at h48
       have hp50 : ¬ (((i : Nat) : Int) < ((l.length : Nat) : Int)) := of_decide_eq_false hc49
       clear hc49
       refine co_false h48 rfl ?_
       refine wp_exit ?_
       refine co_thenX ?_
       refine co_thenX ?_
       refine co_blockX ?_
       refine co_then ?_
       refine co_seq ?_
       refine co_reg ?_
       refine pk0 (v := pt d 0) h48 rfl fun a51 h51 => ?_; clear h48
       refine pk0 (v := .int .u64 ts) h51 rfl fun a52 h52 => ?_; clear h51
       refine pk0 (v := pt d 0) h52 rfl fun a53 h53 => ?_; clear h52
       refine pk0 (v := pt d 1) h53 rfl fun a54 h54 => ?_; clear h53
       refine pwD h54 rfl (op_store1 rfl rfl rfl rfl Try.sizeOf29 hf39 rfl) ?_; clear h54
       rintro _ w56 a55 ⟨hk57, hz58, hg59⟩ h55
       have hk57' : Blk w56 d 31 #[uu, .int .u64 ts] := hk57; clear hk57
       have hz60 := hg59.size
       refine pl_nil ?_
       refine co_then ?_
       refine co_seq ?_
       refine co_reg ?_
       refine pk0 (v := .int .i64 0) h55 rfl fun a61 h61 => ?_; clear h55
       refine pl_nil ?_
       refine co_then ?_
       refine wp_ret ?_
       refine co_ret1 h61 rfl rfl ?_
       have hE62 := hf41.blk hf39 (by decide) hg59
       have hr63 := row_kept_at hf40 hg59 (own_neT hf40 hf39 (by decide))
       have hB64 := fbU_at hB42 hg59 (fun hlt => by rcases hinb with hq | hq; exact hq; omega)
       have hk9 : l.take i = l := List.take_of_length_le (by omega)
       have hE := hE9
       have hQ1 := hE62
       have hQ2 := hkA
       rw [hk9] at hQ1 hQ2
       exact ⟨_, _, by rw [hE], by unfold mvLa; rw [if_pos hE]; exact hk57', hr63, by unfold mvF; rw [if_pos hE]; exact hQ1, by unfold mvF; rw [if_pos hE]; exact hQ2, by omega, huA, hmA, hB64⟩
      ·
       rw [hc49] at h48
       have hp65 : ((i : Nat) : Int) < ((l.length : Nat) : Int) := of_decide_eq_true hc49
       clear hc49
       refine co_true h48 rfl ?_
       refine wp_skip ?_
       refine co_then ?_
       refine co_seq ?_
       refine wp_block ?_
       refine dr_gen (fun x => But (fun q => q = d ∨ u.ownBlock = some q) w x) (by kernel_rfl) (fun w66 hg67 => ?_) (fun w66 hg67 => ?_)
       ·
        have hz68 := hg67.size
        have hB69 := fbU_new hB42 hg67
        exact hB69
       have hz70 := hg67.size
       have hB71 := fbU_new hB42 hg67
       refine dk0 0 (v := pt d 0) h48 rfl rfl hB71 fun a72 h72 => ?_; clear h48
       refine dk0 1 (v := v) h72 rfl rfl hB71 fun a73 h73 => ?_; clear h72
       refine dk0 2 (v := .int .i64 ((i : Nat) : Int)) h73 rfl rfl hB71 fun a74 h74 => ?_; clear h73
       obtain ⟨y75, hy75⟩ : ∃ z, l[i]? = some z := ⟨_, List.getElem?_eq_getElem (by first | omega | (simp; done) | (simp; omega))⟩
       refine dk 3 (v := pt (blkOf v) (offOf v + i * 3)) h74 rfl rfl hB71 (fun x hx => (rn_index rfl rfl rfl Try.underlying32 Try.sizeOf60 (sl_butN hs hx hvS) (by omega) (by first | omega | (simp; done) | (simp; omega)))) fun a76 h76 => ?_; clear h74
       refine dk0 4 (v := pt (blkOf v) (offOf v + i * 3)) h76 rfl rfl hB71 fun a77 h77 => ?_; clear h76
       refine dk 5 (v := .string y75.1) h77 rfl rfl hB71 (fun x hx => (rn_load1 rfl rfl Try.isAgg9 ((sl_at (sl_butN hs hx hvS) hy75) 0 _ rfl))) fun a78 h78 => ?_; clear h77
       refine dk0 6 (v := .int .u64 ts) h78 rfl rfl hB71 fun a79 h79 => ?_; clear h78
       refine dk0 7 (v := v) h79 rfl rfl hB71 fun a80 h80 => ?_; clear h79
       refine dk0 8 (v := .int .i64 ((i : Nat) : Int)) h80 rfl rfl hB71 fun a81 h81 => ?_; clear h80
       refine dk 9 (v := pt (blkOf v) (offOf v + i * 3)) h81 rfl rfl hB71 (fun x hx => (rn_index rfl rfl rfl Try.underlying32 Try.sizeOf60 (sl_butN hs hx hvS) (by omega) (by first | omega | (simp; done) | (simp; omega)))) fun a82 h82 => ?_; clear h81
       refine dk0 10 (v := pt (blkOf v) (offOf v + i * 3 + 1)) h82 rfl rfl hB71 fun a83 h83 => ?_; clear h82
       refine dk 11 (v := .string y75.2.1) h83 rfl rfl hB71 (fun x hx => (rn_load1 rfl rfl Try.isAgg9 ((sl_at (sl_butN hs hx hvS) hy75) 1 _ rfl))) fun a84 h84 => ?_; clear h83
       refine dk0 12 (v := v) h84 rfl rfl hB71 fun a85 h85 => ?_; clear h84
       refine dk0 13 (v := .int .i64 ((i : Nat) : Int)) h85 rfl rfl hB71 fun a86 h86 => ?_; clear h85
       refine dk 14 (v := pt (blkOf v) (offOf v + i * 3)) h86 rfl rfl hB71 (fun x hx => (rn_index rfl rfl rfl Try.underlying32 Try.sizeOf60 (sl_butN hs hx hvS) (by omega) (by first | omega | (simp; done) | (simp; omega)))) fun a87 h87 => ?_; clear h86
       refine dk0 15 (v := pt (blkOf v) (offOf v + i * 3 + 2)) h87 rfl rfl hB71 fun a88 h88 => ?_; clear h87
       refine dk 16 (v := .bool y75.2.2) h88 rfl rfl hB71 (fun x hx => (rn_load1 rfl rfl Try.isAgg4 ((sl_at (sl_butN hs hx hvS) hy75) 2 _ rfl))) fun a89 h89 => ?_; clear h88
       refine dk0 17 (v := .agg #[.int .u64 ts, .string y75.2.1, .bool y75.2.2]) h89 rfl rfl hB71 fun a90 h90 => ?_; clear h89
       have hk103 := hf39.kept hg67 (by simp)
       have hr104 := row_kept_new hf40 hg67
       have hE105 := hf41.new hg67
       refine d1 18 h90 rfl rfl (op_call (args := #[pt d 0, .string y75.1, .agg #[.int .u64 ts, .string y75.2.1, .bool y75.2.2]]) (R := fun res xw => ∃ (u' : Value) (M' : List Kv), res = .tuple #[] ∧ Blk xw d 31 #[u', .int .u64 la] ∧ xw.ownsRow 0 80 2 u' M'.length (M'.flatMap rwE) ∧ RwsK xw (upd (putsF f ts (l.take i)) y75.1 ((putsF f ts (l.take i)) y75.1 ++ [(ts, y75.2.1, y75.2.2)])) M' ∧ KOf (M'.map (·.1)) (upd (putsF f ts (l.take i)) y75.1 ((putsF f ts (l.take i)) y75.1 ++ [(ts, y75.2.1, y75.2.2)])) ∧ M'.length ≤ MM.length + 1 ∧ (∀ i, u'.ownBlock = some i → uu.ownBlock = some i ∨ w66.heap.size ≤ i) ∧ (∀ a ∈ M', (∃ b ∈ MM, b.2 = a.2) ∨ ∀ g, (slV a.2).ownBlock = some g → w66.heap.size ≤ g) ∧ But (fun q => q = d ∨ uu.ownBlock = some q) w66 xw) rfl rfl rfl (by kernel_rfl) (by kernel_rfl) (Try.call31 _ _) (lay_blk d uu la MM (putsF f ts (l.take i)) (n + 1) y75.1 (ts, y75.2.1, y75.2.2) w66 hk103 hr104 hE105 hkA hflA (by omega) (by omega)) (by rintro e x ⟨u', M', h0, h⟩; exact ⟨_, h0, u', M', rfl, h⟩)) ?_ ?_; clear h90
       ·
        rintro _ w92 ⟨uu93, M94, rfl, hB95, hR96, hE97, hK98, hLl99, hu100, hm101, hb102⟩
        have hB106 := fbU_foot hB71 hb102 (fun i hi hS => by rcases hS with rfl | hS; exact .inl rfl; rcases huA i hS with q | q; exact .inr q; omega)
        have hz107 := hb102.size
        have hz108 := hB106.size
        exact hB106
       rintro _ w92 a91 ⟨uu93, M94, rfl, hB95, hR96, hE97, hK98, hLl99, hu100, hm101, hb102⟩ h91
       have hB106 := fbU_foot hB71 hb102 (fun i hi hS => by rcases hS with rfl | hS; exact .inl rfl; rcases huA i hS with q | q; exact .inr q; omega)
       have hz107 := hb102.size
       have hz108 := hB106.size
       refine dr_done (by kernel_rfl) ?_
       refine co_blockN ?_
       refine co_then ?_
       refine co_reg ?_
       refine pk0 (v := .int .i64 ((i : Nat) : Int)) h91 rfl fun a109 h109 => ?_; clear h91
       refine pk (v := .int .i64 ((i + 1 : Nat) : Int)) h109 rfl (rn_arith' rfl rfl rfl rfl rfl rfl (IntWalk.i64_in _ (by omega)) (by omega)) fun a110 h110 => ?_; clear h109
       refine pk0 (v := .int .i64 ((i + 1 : Nat) : Int)) h110 rfl fun a111 h111 => ?_; clear h110
       refine pl_nil ?_
       refine co_then ?_
       refine ⟨(l.length - (i + 1)), by omega, ?_⟩
       have hk9 : KOf (M94.map (·.1)) (putsF f ts (l.take (i + 1))) := by rw [mv_take (by assumption)]; exact hK98
       have hu9 : ∀ i, uu93.ownBlock = some i → u.ownBlock = some i ∨ w.heap.size ≤ i := fun i hi => by rcases hu100 i hi with q | q; exact huA i q; exact .inr (by omega)
       have hm9 := from_trans hmA hm101 (by omega)
       exact ⟨i + 1, uu93, M94, h111.sub ⟨rfl, rfl, rfl, rfl, trivial⟩, rfl, by omega, by exact hk9, by omega, by exact hu9, by exact hm9, hB95, (row_eq hR96 (rfl)), (by rw [mv_take (by assumption)]; exact hE97), hB106⟩
   ·
    rw [hc23] at h22
    have hp112 : (chkB 0 1 l) ≠ 0 := by first | simpa using hc23 | simpa [and_assoc] using hc23
    clear hc23
    refine co_true h22 rfl ?_
    refine co_seq ?_
    refine co_reg ?_
    refine pk0 (v := .int .i64 (chkB 0 1 l)) h22 rfl fun a113 h113 => ?_; clear h22
    refine pk0 (v := .int .i64 (chkB 0 1 l)) h113 rfl fun a114 h114 => ?_; clear h113
    refine pl_nil ?_
    refine co_then ?_
    refine wp_ret ?_
    refine co_thenR ?_
    refine co_ret1 h114 rfl rfl ?_
    have hk115 := hB.below hb18
    have hr116 := row_kept_new hR (below_grown hb18)
    have hE117 := hE.new (below_grown hb18)
    have hEv : mvE la ts l = (chkB 0 1 l) := mvE_c (by omega) (by omega)
    have hz9 : ¬ mvE la ts l = 0 := by rw [hEv]; omega
    exact ⟨_, _, by rw [hEv], by unfold mvLa; rw [if_neg hz9]; exact hk115, hr116, by unfold mvF; rw [if_neg hz9]; exact hE117, by unfold mvF; rw [if_neg hz9]; exact hK, by omega, fun i hi => .inl hi, from_self L _, hB24⟩
  ·
   rw [hc12] at h11
   have hp118 : ts ≤ la := of_decide_eq_true hc12
   clear hc12
   refine co_true h11 rfl ?_
   refine co_seq ?_
   refine co_reg ?_
   refine pk0 (v := .int .i64 18) h11 rfl fun a119 h119 => ?_; clear h11
   refine pl_nil ?_
   refine co_then ?_
   refine wp_ret ?_
   refine co_thenR ?_
   refine co_ret1 h119 rfl rfl ?_
   have hEv : mvE la ts l = 18 := mvE_b (by omega) (by omega)
   have hz9 : ¬ mvE la ts l = 0 := by rw [hEv]; omega
   exact ⟨_, _, by rw [hEv], by unfold mvLa; rw [if_neg hz9]; exact hB, hR, by unfold mvF; rw [if_neg hz9]; exact hE, by unfold mvF; rw [if_neg hz9]; exact hK, by omega, fun i hi => .inl hi, from_self L _, hB0⟩
 ·
  rw [hc4] at h3
  have hp120 : ts = 0 := by first | simpa using hc4 | simpa [and_assoc] using hc4
  clear hc4
  refine co_true h3 rfl ?_
  refine co_seq ?_
  refine co_reg ?_
  refine pk0 (v := .int .i64 5) h3 rfl fun a121 h121 => ?_; clear h3
  refine pl_nil ?_
  refine co_then ?_
  refine wp_ret ?_
  refine co_thenR ?_
  refine co_ret1 h121 rfl rfl ?_
  have hEv : mvE la ts l = 5 := mvE_a (by omega)
  have hz9 : ¬ mvE la ts l = 0 := by rw [hEv]; omega
  exact ⟨_, _, by rw [hEv], by unfold mvLa; rw [if_neg hz9]; exact hB, hR, by unfold mvF; rw [if_neg hz9]; exact hE, by unfold mvF; rw [if_neg hz9]; exact hK, by omega, fun i hi => .inl hi, from_self L _, hB0⟩
end Go.Proofs.Ytfjhlckklgeokaa
