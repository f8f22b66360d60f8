/- Package tree: put. Conditions: a flat tree of at most 90000 keys. -/
import Derived.Test.YtfjhlckklgeokaaTrcD
namespace Go.Proofs.Ytfjhlckklgeokaa
open Go.RowKit Go.PlainAid
set_option linter.unusedVariables false
set_option linter.unusedSimpArgs false


theorem tbl_flip : ∀ (x y : List UInt8), (Op.bytesLess x y || x == y) = !Op.bytesLess y x
  | [], [] => rfl
  | [], _ :: _ => rfl
  | _ :: _, [] => rfl
  | a :: x, b :: y => by
    have ih := tbl_flip x y
    show ((decide (a < b) || (a == b && Op.bytesLess x y)) || (a == b && x == y)) = !(decide (b < a) || (b == a && Op.bytesLess y x))
    rcases Nat.lt_trichotomy a.toNat b.toNat with h | h | h
    · have h1 : a < b := h
      have h2 : ¬ b < a := fun q => by have : b.toNat < a.toNat := q; omega
      have h3 : ¬ b = a := fun q => by subst q; omega
      simp [h1, h2, h3]
    · have e : a = b := UInt8.toNat.inj h
      subst e
      have h2 : ¬ a < a := fun q => by have : a.toNat < a.toNat := q; omega
      simp [h2]; simpa using ih
    · have h1 : ¬ a < b := fun q => by have : a.toNat < b.toNat := q; omega
      have h2 : b < a := h
      have h3 : ¬ a = b := fun q => by subst q; omega
      simp [h1, h2, h3]
/-- One key is below another. -/
def klt (a b : ByteArray) : Bool := Op.bytesLess a.toList b.toList
theorem klt_gt {a b : ByteArray} {z : Bool} (h : (!(Op.bytesLess a.toList b.toList || a.toList == b.toList)) = z) : klt b a = z := by rw [tbl_flip] at h; unfold klt; rw [← h]; simp
def putT : Tm → ByteArray → SlT → Nat → Tm
  | .nil, k, v, N => .nd N .nil k v 1 .nil
  | .nd b l k' v' d r, k, v, N => if klt k k' = true then balT (.nd b (putT l k v N) k' v' d r) else if klt k' k = true then balT (.nd b l k' v' d (putT r k v N)) else .nd b l k' v d r
def hasT : Tm → ByteArray → Bool
  | .nil, _ => false
  | .nd _ l k' _ _ r, k => if klt k k' = true then hasT l k else if klt k' k = true then hasT r k else true
section
variable {b N : Nat} {l r t : Tm} {k k' : ByteArray} {v v' : SlT} {d : Int}
theorem putT_l (h : klt k k' = true) : putT (.nd b l k' v' d r) k v N = balT (.nd b (putT l k v N) k' v' d r) := by rw [putT, if_pos h]
theorem putT_r (h : klt k k' = false) (h2 : klt k' k = true) : putT (.nd b l k' v' d r) k v N = balT (.nd b l k' v' d (putT r k v N)) := by rw [putT, if_neg (by simp [h]), if_pos h2]
theorem putT_e (h : klt k k' = false) (h2 : klt k' k = false) : putT (.nd b l k' v' d r) k v N = .nd b l k' v d r := by rw [putT, if_neg (by simp [h]), if_neg (by simp [h2])]
theorem hasT_l (h : klt k k' = true) : hasT (.nd b l k' v' d r) k = hasT l k := by rw [hasT, if_pos h]
theorem hasT_r (h : klt k k' = false) (h2 : klt k' k = true) : hasT (.nd b l k' v' d r) k = hasT r k := by rw [hasT, if_neg (by simp [h]), if_pos h2]
theorem hasT_e (h : klt k k' = false) (h2 : klt k' k = false) : hasT (.nd b l k' v' d r) k = true := by rw [hasT, if_neg (by simp [h]), if_neg (by simp [h2])]
end
theorem put_avl (k : ByteArray) (v : SlT) (N : Nat) : ∀ t : Tm, Avl t → Avl (putT t k v N) ∧ dp t ≤ dp (putT t k v N) ∧ dp (putT t k v N) ≤ dp t + 1
  | .nil, _ => ⟨⟨trivial, trivial, rfl, by decide, by decide⟩, (by decide : (0 : Int) ≤ 1), (by decide : (1 : Int) ≤ 0 + 1)⟩
  | .nd b l k' v' d r, h => by
    obtain ⟨a1, a2, a3, a4, a5⟩ := h
    have m := mx_bd3 (a := dp l) (b := dp r)
    simp only [dp_nd]
    by_cases h1 : klt k k' = true
    · rw [putT_l h1]
      obtain ⟨i1, i2, i3⟩ := put_avl k v N l a1
      have m2 := mx_bd3 (a := dp (putT l k v N)) (b := dp r)
      obtain ⟨j1, j2, j3, j4⟩ := balT_avl (b := b) (k := k') (v := v') (d := d) i1 a2 (by omega) (by omega)
      by_cases h3 : dp (putT l k v N) - dp r ≤ 1
      · have := j4 h3 (by omega); exact ⟨j1, by omega, by omega⟩
      · exact ⟨j1, by omega, by omega⟩
    · by_cases h2 : klt k' k = true
      · rw [putT_r (by simpa using h1) h2]
        obtain ⟨i1, i2, i3⟩ := put_avl k v N r a2
        have m2 := mx_bd3 (a := dp l) (b := dp (putT r k v N))
        obtain ⟨j1, j2, j3, j4⟩ := balT_avl (b := b) (k := k') (v := v') (d := d) a1 i1 (by omega) (by omega)
        by_cases h3 : dp (putT r k v N) - dp l ≤ 1
        · have := j4 (by omega) h3; exact ⟨j1, by omega, by omega⟩
        · exact ⟨j1, by omega, by omega⟩
      · rw [putT_e (by simpa using h1) (by simpa using h2)]
        exact ⟨⟨a1, a2, a3, a4, a5⟩, Int.le_refl _, by simp only [dp_nd]; omega⟩
theorem put_bk (k : ByteArray) (v : SlT) (N : Nat) : ∀ t : Tm, Avl t → (bk (putT t k v N)).Perm (if hasT t k = true then bk t else N :: bk t)
  | .nil, _ => by simp [putT, hasT, bk]
  | .nd b l k' v' d r, h => by
    obtain ⟨a1, a2, a3, a4, a5⟩ := h
    by_cases h1 : klt k k' = true
    · rw [putT_l h1, hasT_l h1]
      refine (balT_bk (put_avl k v N l a1).1 a2).trans ?_
      have ih := put_bk k v N l a1
      split
      · rename_i hh; rw [if_pos hh] at ih; exact (ih.append_right _).cons _
      · rename_i hh; rw [if_neg hh] at ih; exact ((ih.append_right _).cons _).trans (List.Perm.swap _ _ _)
    · by_cases h2 : klt k' k = true
      · have h1' : klt k k' = false := by simpa using h1
        rw [putT_r h1' h2, hasT_r h1' h2]
        refine (balT_bk a1 (put_avl k v N r a2).1).trans ?_
        have ih := put_bk k v N r a2
        split
        · rename_i hh; rw [if_pos hh] at ih; exact (ih.append_left _).cons _
        · rename_i hh; rw [if_neg hh] at ih
          exact List.perm_iff_count.2 fun a => by
            have := (List.perm_iff_count.1 ih) a
            simp only [bk, List.count_cons, List.count_append] at this ⊢; omega
      · have h1' : klt k k' = false := by simpa using h1
        have h2' : klt k' k = false := by simpa using h2
        rw [putT_e h1' h2', hasT_e h1' h2', if_pos rfl]; exact List.Perm.refl _
theorem put_mem {k : ByteArray} {v : SlT} {N q : Nat} {t : Tm} (h : Avl t) (hq : q ∈ bk (putT t k v N)) : q = N ∨ q ∈ bk t := by
  have := (put_bk k v N t h).mem_iff.1 hq
  split at this
  · exact .inr this
  · rw [List.mem_cons] at this; exact this
theorem put_nd {k : ByteArray} {v : SlT} {N : Nat} {t : Tm} (h : Avl t) (hn : (bk t).Nodup) (hN : N ∉ bk t) : (bk (putT t k v N)).Nodup := by
  rw [(put_bk k v N t h).nodup_iff]
  split
  · exact hn
  · exact List.nodup_cons.2 ⟨hN, hn⟩
theorem put_sz (k : ByteArray) (v : SlT) (N : Nat) : ∀ t : Tm, Avl t → sz (putT t k v N) = sz t + (if hasT t k = true then 0 else 1)
  | .nil, _ => rfl
  | .nd b l k' v' d r, h => by
    obtain ⟨a1, a2, a3, a4, a5⟩ := h
    by_cases h1 : klt k k' = true
    · rw [putT_l h1, hasT_l h1, balT_sz (put_avl k v N l a1).1 a2, put_sz k v N l a1]; simp only [sz]; omega
    · have h1' : klt k k' = false := by simpa using h1
      by_cases h2 : klt k' k = true
      · rw [putT_r h1' h2, hasT_r h1' h2, balT_sz a1 (put_avl k v N r a2).1, put_sz k v N r a2]; simp only [sz]; omega
      · have h2' : klt k' k = false := by simpa using h2
        rw [putT_e h1' h2', hasT_e h1' h2']; rfl

set_option maxRecDepth 100000 in
theorem put_any (t : Tm) (k : ByteArray) (v : SlT) (w : World) (hT : TreeAt w t) (hn : (bk t).Nodup) (ha : Avl t) (hs : sz t ≤ 90000) :
    Calls Try.prog 43 #[(ptT t), .string k, .slice v.a v.n v.c] w fun e w' => ∃ (N : Nat), e = .returned (.tuple #[(ptT (putT t k v N)), .bool (hasT t k)]) ∧ TreeAt w' (putT t k v N) ∧ w.heap.size ≤ N ∧ But (fun q => q ∈ bk t) w w' := by
 induction t generalizing w
 · skip
   have hB0 := But.refl (fun q => q ∈ bk Tm.nil) w
   refine co_enter (n := 63) Try.func43 rfl rfl rfl [(0, .pointer none), (1, .string k), (2, .slice v.a v.n v.c)] rfl (fun a h0 => ?_)
   refine co_seq ?_
   refine co_reg ?_
   refine pk0 (v := .pointer none) h0 rfl fun a1 h1 => ?_; clear h0
   refine pk0 (v := .bool false) h1 rfl fun a2 h2 => ?_; clear h1
   refine pl_nil ?_
   refine co_then ?_
   refine co_seq ?_
   refine co_seq ?_
   refine co_reg ?_
   refine pk0 (v := .pointer none) h2 rfl fun a3 h3 => ?_; clear h2
   refine pk0 (v := .bool true) h3 rfl fun a4 h4 => ?_; clear h3
   refine pl_nil ?_
   refine co_then ?_
   refine co_true h4 rfl ?_
   refine co_seq ?_
   refine co_reg ?_
   refine pk0 (v := .string k) h4 rfl fun a5 h5 => ?_; clear h4
   refine pk0 (v := .slice v.a v.n v.c) h5 rfl fun a6 h6 => ?_; clear h5
   refine pk0 (v := .agg #[.string k, .slice v.a v.n v.c, .int .i64 1, .pointer none, .pointer none]) h6 rfl fun a7 h7 => ?_; clear h6
   refine pw h7 rfl (op_new (v := fun N => pt N 0) (T := 89) (cs := #[.string k, .slice v.a v.n v.c, .int .i64 1, .pointer none, .pointer none]) (by kernel_rfl) (by kernel_rfl) (by kernel_rfl)) ?_; clear h7
   rintro _ w9 a8 ⟨N10, rfl, hN13, hz14, hk12, hg11⟩ h8
   have hz15 := hg11.size
   try dsimp only at h8
   refine pk0 (v := pt N10 0) h8 rfl fun a16 h16 => ?_; clear h8
   refine pk0 (v := .bool false) h16 rfl fun a17 h17 => ?_; clear h16
   refine pl_nil ?_
   refine co_then ?_
   refine wp_ret ?_
   refine co_thenR ?_
   refine co_ret2 h17 rfl rfl rfl ?_
   have hB18 := fbU_new hB0 hg11
   exact ⟨N10, rfl, ⟨hk12, trivial, trivial⟩, by omega, hB18⟩
 · rename_i b l k2 v2 d2 r ihl ihr
   have hB0 := But.refl (fun q => q ∈ bk (Tm.nd b l k2 v2 d2 r)) w
   obtain ⟨hB, hl, hr⟩ := hT; obtain ⟨n1, n2, n3, n4, n5⟩ := nd_ap hn; obtain ⟨a1, a2, a3, a4, a5⟩ := ha
   have hsz : 1 + sz l + sz r ≤ 90000 := hs
   have hl_hB := hB.lt
   have hSb : (fun q => q ∈ bk (Tm.nd b l k2 v2 d2 r)) b ∨ w.heap.size ≤ b := .inl (by simp [bk])
   refine co_enter (n := 63) Try.func43 rfl rfl rfl [(0, pt b 0), (1, .string k), (2, .slice v.a v.n v.c)] rfl (fun a h0 => ?_)
   refine co_seq ?_
   refine co_reg ?_
   refine pk0 (v := .pointer none) h0 rfl fun a19 h19 => ?_; clear h0
   refine pk0 (v := .bool false) h19 rfl fun a20 h20 => ?_; clear h19
   refine pl_nil ?_
   refine co_then ?_
   refine co_seq ?_
   refine co_seq ?_
   refine co_reg ?_
   refine pk0 (v := pt b 0) h20 rfl fun a21 h21 => ?_; clear h20
   refine pk0 (v := .bool false) h21 rfl fun a22 h22 => ?_; clear h21
   refine pl_nil ?_
   refine co_then ?_
   refine co_false h22 rfl ?_
   refine wp_skip ?_
   refine co_then ?_
   refine co_seq ?_
   refine co_reg ?_
   refine pk0 (v := .bool false) h22 rfl fun a23 h23 => ?_; clear h22
   refine pl_nil ?_
   refine co_then ?_
   refine co_seq ?_
   refine wp_block ?_
   refine co_seq ?_
   refine co_reg ?_
   refine pk0 (v := .string k) h23 rfl fun a24 h24 => ?_; clear h23
   refine pk0 (v := pt b 0) h24 rfl fun a25 h25 => ?_; clear h24
   refine pk0 (v := pt b 0) h25 rfl fun a26 h26 => ?_; clear h25
   refine pk0 (v := pt b 0) h26 rfl fun a27 h27 => ?_; clear h26
   refine pk (v := .string k2) h27 rfl (rn_load1 rfl rfl Try.isAgg9 (hB.cell rfl)) fun a28 h28 => ?_; clear h27
   refine pk0 (v := .bool (Op.bytesLess k.toList k2.toList)) h28 rfl fun a29 h29 => ?_; clear h28
   refine pk0 (v := .bool (Op.bytesLess k.toList k2.toList)) h29 rfl fun a30 h30 => ?_; clear h29
   refine pl_nil ?_
   refine co_then ?_
   cases hc31 : (Op.bytesLess k.toList k2.toList)
   ·
    rw [hc31] at h30
    refine co_false h30 rfl ?_
    refine co_seq ?_
    refine co_reg ?_
    refine pk0 (v := .string k) h30 rfl fun a32 h32 => ?_; clear h30
    refine pk0 (v := pt b 0) h32 rfl fun a33 h33 => ?_; clear h32
    refine pk0 (v := pt b 0) h33 rfl fun a34 h34 => ?_; clear h33
    refine pk0 (v := pt b 0) h34 rfl fun a35 h35 => ?_; clear h34
    refine pk (v := .string k2) h35 rfl (rn_load1 rfl rfl Try.isAgg9 (hB.cell rfl)) fun a36 h36 => ?_; clear h35
    refine pk0 (v := .bool (!(Op.bytesLess k.toList k2.toList || k.toList == k2.toList))) h36 rfl fun a37 h37 => ?_; clear h36
    refine pk0 (v := .bool (!(Op.bytesLess k.toList k2.toList || k.toList == k2.toList))) h37 rfl fun a38 h38 => ?_; clear h37
    refine pl_nil ?_
    refine co_then ?_
    cases hc39 : (!(Op.bytesLess k.toList k2.toList || k.toList == k2.toList))
    ·
     rw [hc39] at h38
     refine co_false h38 rfl ?_
     refine co_seq ?_
     refine co_reg ?_
     refine pk0 (v := pt b 0) h38 rfl fun a40 h40 => ?_; clear h38
     refine pk0 (v := .slice v.a v.n v.c) h40 rfl fun a41 h41 => ?_; clear h40
     refine pk0 (v := pt b 0) h41 rfl fun a42 h42 => ?_; clear h41
     refine pk0 (v := pt b 1) h42 rfl fun a43 h43 => ?_; clear h42
     refine pwD h43 rfl (op_store1 rfl rfl rfl rfl Try.sizeOf62 hB rfl) ?_; clear h43
     rintro _ w45 a44 ⟨hk46, hz47, hg48⟩ h44
     have hk46' : Blk w45 b 89 #[.string k2, .slice v.a v.n v.c, .int .i64 d2, (ptT l), (ptT r)] := hk46; clear hk46
     have hz49 := hg48.size
     refine pl_nil ?_
     refine co_then ?_
     refine co_seq ?_
     refine co_reg ?_
     refine pk0 (v := pt b 0) h44 rfl fun a50 h50 => ?_; clear h44
     refine pk0 (v := pt b 0) h50 rfl fun a51 h51 => ?_; clear h50
     refine pk0 (v := .bool true) h51 rfl fun a52 h52 => ?_; clear h51
     refine pl_nil ?_
     refine co_then ?_
     refine wp_ret ?_
     refine co_blockR ?_
     refine co_thenR ?_
     refine co_ret2 h52 rfl rfl rfl ?_
     have hT53 := hl.gr hg48 (fun q e => by cases e; exact n1)
     have hT54 := hr.gr hg48 (fun q e => by cases e; exact n2)
     have hB55 := fbU_at hB0 hg48 (fun hlt => by rcases hSb with hq | hq; exact hq; omega)
     have q1 : klt k k2 = false := hc31; have q2 := klt_gt hc39
     exact ⟨w.heap.size, by rw [putT_e q1 q2, hasT_e q1 q2]; rfl, by rw [putT_e q1 q2]; exact ⟨hk46', hT53, hT54⟩, Nat.le_refl _, hB55⟩
    ·
     rw [hc39] at h38
     refine co_true h38 rfl ?_
     refine co_reg ?_
     refine pk0 (v := pt b 0) h38 rfl fun a56 h56 => ?_; clear h38
     refine pk0 (v := pt b 0) h56 rfl fun a57 h57 => ?_; clear h56
     refine pk0 (v := pt b 0) h57 rfl fun a58 h58 => ?_; clear h57
     refine pk0 (v := pt b 4) h58 rfl fun a59 h59 => ?_; clear h58
     refine pk (v := (ptT r)) h59 rfl (rn_load1 rfl rfl Try.isAgg84 (hB.cell rfl)) fun a60 h60 => ?_; clear h59
     refine pk0 (v := .string k) h60 rfl fun a61 h61 => ?_; clear h60
     refine pk0 (v := .slice v.a v.n v.c) h61 rfl fun a62 h62 => ?_; clear h61
     have hlt69 := TreeAt.lt hr; have hlt70 := TreeAt.lt hl
     refine pw h62 rfl (op_call (args := #[(ptT r), .string k, .slice v.a v.n v.c]) (R := fun res xw => ∃ N, res = .tuple #[ptT (putT r k v N), .bool (hasT r k)] ∧ TreeAt xw (putT r k v N) ∧ w.heap.size ≤ N ∧ But (fun q => q ∈ bk r) w xw) rfl rfl rfl (by kernel_rfl) (by kernel_rfl) (Try.call43 _ _) (ihr w hr n4 a2 (by omega)) (by rintro e x ⟨N, rfl, h1, h2, h3⟩; exact ⟨_, rfl, N, rfl, h1, h2, h3⟩)) ?_; clear h62
     rintro _ w64 a63 ⟨N65, rfl, hT66, hN67, hb68⟩ h63
     have av71 := put_avl k v N65 r a2
     have ni72 : b ∉ bk (putT r k v N65) := fun hq => by rcases put_mem a2 hq with h | h; omega; exact n2 h
     have di73 : ∀ q ∈ bk (putT r k v N65), q ∉ bk l := fun q hq hq2 => by rcases put_mem a2 hq with h | h; (have := hlt70 q hq2; omega); exact (dis_symm n5) q h hq2
     have no74 := put_nd (k := k) (v := v) (N := N65) a2 n4 (fun hq => by have := hlt69 _ hq; omega)
     have sz75 := put_sz k v N65 r a2; have sz75b : sz (putT r k v N65) ≤ sz r + 1 := by rw [sz75]; split <;> omega
     have hB76 := fbU_foot hB0 hb68 (fun i hi hS => by simp only [bk, List.mem_cons, List.mem_append]; exact .inr (.inr hS))
     have hz77 := hb68.size
     refine pk0 (v := .tuple #[(ptT (putT r k v N65)), .bool (hasT r k)]) h63 rfl fun a78 h78 => ?_; clear h63
     refine pk0 (v := (ptT (putT r k v N65))) h78 rfl fun a79 h79 => ?_; clear h78
     refine pk0 (v := .bool (hasT r k)) h79 rfl fun a80 h80 => ?_; clear h79
     refine pk0 (v := pt b 0) h80 rfl fun a81 h81 => ?_; clear h80
     refine pk0 (v := pt b 4) h81 rfl fun a82 h82 => ?_; clear h81
     have hk88 := Blk.butS hB hb68 (fun hq => absurd hq n2)
     refine pwD h82 rfl (op_store1 rfl rfl rfl (ptT_one _) Try.sizeOf84 hk88 rfl) ?_; clear h82
     rintro _ w84 a83 ⟨hk85, hz86, hg87⟩ h83
     have hk85' : Blk w84 b 89 #[.string k2, .slice v2.a v2.n v2.c, .int .i64 d2, (ptT l), (ptT (putT r k v N65))] := hk85; clear hk85
     have hz89 := hg87.size
     refine pk0 (v := .bool (hasT r k)) h83 rfl fun a90 h90 => ?_; clear h83
     refine pl_nil ?_
     refine co_blockN ?_
     refine co_then ?_
     refine co_seq ?_
     refine co_reg ?_
     refine pk0 (v := pt b 0) h90 rfl fun a91 h91 => ?_; clear h90
     have hB94 := fbU_at hB76 hg87 (fun hlt => by rcases hSb with hq | hq; exact hq; omega)
     have hT95 := TreeAt.but hl hb68 (fun q hq => (n5 q hq))
     have hT96 := hT95.gr hg87 (fun q e => by cases e; exact n1)
     have hT97 := hT66.gr hg87 (fun q e => by cases e; exact ni72)
     refine pw h91 rfl (op_call (args := #[pt b 0]) (R := fun res xw => res = ptT (balT (Tm.nd b l k2 v2 d2 (putT r k v N65))) ∧ TreeAt xw (balT (Tm.nd b l k2 v2 d2 (putT r k v N65))) ∧ But (fun q => q ∈ bk (Tm.nd b l k2 v2 d2 (putT r k v N65))) w84 xw) rfl rfl rfl (by kernel_rfl) (by kernel_rfl) (Try.call53 _ _) (balance_any b l k2 v2 d2 (putT r k v N65) w84 ⟨hk85', hT96, hT97⟩ (nd_ap' n1 ni72 n3 no74 (dis_symm di73)) a1 av71.1 (by omega) (by omega)) (by rintro e x ⟨rfl, h1, h2⟩; exact ⟨_, rfl, rfl, h1, h2⟩)) ?_; clear h91
     rintro _ w93 a92 ⟨rfl, hT98, hb99⟩ h92
     have hB100 := fbU_foot hB94 hb99 (fun i hi hS => by simp only [bk, List.mem_cons, List.mem_append] at hS ⊢; rcases hS with h | h | h; exact .inl h; exact .inr (.inl h); (rcases put_mem a2 h with h | h; omega; exact .inr (.inr h)))
     have hz101 := hb99.size
     refine pk0 (v := .bool (hasT r k)) h92 rfl fun a102 h102 => ?_; clear h92
     refine pk0 (v := (ptT (balT (Tm.nd b l k2 v2 d2 (putT r k v N65))))) h102 rfl fun a103 h103 => ?_; clear h102
     refine pk0 (v := .bool (hasT r k)) h103 rfl fun a104 h104 => ?_; clear h103
     refine pl_nil ?_
     refine co_then ?_
     refine wp_ret ?_
     refine co_ret2 h104 rfl rfl rfl ?_
     have q1 : klt k k2 = false := hc31; have q2 := klt_gt hc39
     exact ⟨N65, by rw [putT_r q1 q2, hasT_r q1 q2], by rw [putT_r q1 q2]; exact hT98, by omega, hB100⟩
   ·
    rw [hc31] at h30
    refine co_true h30 rfl ?_
    refine co_reg ?_
    refine pk0 (v := pt b 0) h30 rfl fun a105 h105 => ?_; clear h30
    refine pk0 (v := pt b 0) h105 rfl fun a106 h106 => ?_; clear h105
    refine pk0 (v := pt b 0) h106 rfl fun a107 h107 => ?_; clear h106
    refine pk0 (v := pt b 3) h107 rfl fun a108 h108 => ?_; clear h107
    refine pk (v := (ptT l)) h108 rfl (rn_load1 rfl rfl Try.isAgg84 (hB.cell rfl)) fun a109 h109 => ?_; clear h108
    refine pk0 (v := .string k) h109 rfl fun a110 h110 => ?_; clear h109
    refine pk0 (v := .slice v.a v.n v.c) h110 rfl fun a111 h111 => ?_; clear h110
    have hlt118 := TreeAt.lt hl; have hlt119 := TreeAt.lt hr
    refine pw h111 rfl (op_call (args := #[(ptT l), .string k, .slice v.a v.n v.c]) (R := fun res xw => ∃ N, res = .tuple #[ptT (putT l k v N), .bool (hasT l k)] ∧ TreeAt xw (putT l k v N) ∧ w.heap.size ≤ N ∧ But (fun q => q ∈ bk l) w xw) rfl rfl rfl (by kernel_rfl) (by kernel_rfl) (Try.call43 _ _) (ihl w hl n3 a1 (by omega)) (by rintro e x ⟨N, rfl, h1, h2, h3⟩; exact ⟨_, rfl, N, rfl, h1, h2, h3⟩)) ?_; clear h111
    rintro _ w113 a112 ⟨N114, rfl, hT115, hN116, hb117⟩ h112
    have av120 := put_avl k v N114 l a1
    have ni121 : b ∉ bk (putT l k v N114) := fun hq => by rcases put_mem a1 hq with h | h; omega; exact n1 h
    have di122 : ∀ q ∈ bk (putT l k v N114), q ∉ bk r := fun q hq hq2 => by rcases put_mem a1 hq with h | h; (have := hlt119 q hq2; omega); exact n5 q h hq2
    have no123 := put_nd (k := k) (v := v) (N := N114) a1 n3 (fun hq => by have := hlt118 _ hq; omega)
    have sz124 := put_sz k v N114 l a1; have sz124b : sz (putT l k v N114) ≤ sz l + 1 := by rw [sz124]; split <;> omega
    have hB125 := fbU_foot hB0 hb117 (fun i hi hS => by simp only [bk, List.mem_cons, List.mem_append]; exact .inr (.inl hS))
    have hz126 := hb117.size
    refine pk0 (v := .tuple #[(ptT (putT l k v N114)), .bool (hasT l k)]) h112 rfl fun a127 h127 => ?_; clear h112
    refine pk0 (v := (ptT (putT l k v N114))) h127 rfl fun a128 h128 => ?_; clear h127
    refine pk0 (v := .bool (hasT l k)) h128 rfl fun a129 h129 => ?_; clear h128
    refine pk0 (v := pt b 0) h129 rfl fun a130 h130 => ?_; clear h129
    refine pk0 (v := pt b 3) h130 rfl fun a131 h131 => ?_; clear h130
    have hk137 := Blk.butS hB hb117 (fun hq => absurd hq n1)
    refine pwD h131 rfl (op_store1 rfl rfl rfl (ptT_one _) Try.sizeOf84 hk137 rfl) ?_; clear h131
    rintro _ w133 a132 ⟨hk134, hz135, hg136⟩ h132
    have hk134' : Blk w133 b 89 #[.string k2, .slice v2.a v2.n v2.c, .int .i64 d2, (ptT (putT l k v N114)), (ptT r)] := hk134; clear hk134
    have hz138 := hg136.size
    refine pk0 (v := .bool (hasT l k)) h132 rfl fun a139 h139 => ?_; clear h132
    refine pl_nil ?_
    refine co_blockN ?_
    refine co_then ?_
    refine co_seq ?_
    refine co_reg ?_
    refine pk0 (v := pt b 0) h139 rfl fun a140 h140 => ?_; clear h139
    have hB143 := fbU_at hB125 hg136 (fun hlt => by rcases hSb with hq | hq; exact hq; omega)
    have hT144 := TreeAt.but hr hb117 (fun q hq => ((dis_symm n5) q hq))
    have hT145 := hT144.gr hg136 (fun q e => by cases e; exact n2)
    have hT146 := hT115.gr hg136 (fun q e => by cases e; exact ni121)
    refine pw h140 rfl (op_call (args := #[pt b 0]) (R := fun res xw => res = ptT (balT (Tm.nd b (putT l k v N114) k2 v2 d2 r)) ∧ TreeAt xw (balT (Tm.nd b (putT l k v N114) k2 v2 d2 r)) ∧ But (fun q => q ∈ bk (Tm.nd b (putT l k v N114) k2 v2 d2 r)) w133 xw) rfl rfl rfl (by kernel_rfl) (by kernel_rfl) (Try.call53 _ _) (balance_any b (putT l k v N114) k2 v2 d2 r w133 ⟨hk134', hT146, hT145⟩ (nd_ap' ni121 n2 no123 n4 di122) av120.1 a2 (by omega) (by omega)) (by rintro e x ⟨rfl, h1, h2⟩; exact ⟨_, rfl, rfl, h1, h2⟩)) ?_; clear h140
    rintro _ w142 a141 ⟨rfl, hT147, hb148⟩ h141
    have hB149 := fbU_foot hB143 hb148 (fun i hi hS => by simp only [bk, List.mem_cons, List.mem_append] at hS ⊢; rcases hS with h | h | h; exact .inl h; (rcases put_mem a1 h with h | h; omega; exact .inr (.inl h)); exact .inr (.inr h))
    have hz150 := hb148.size
    refine pk0 (v := .bool (hasT l k)) h141 rfl fun a151 h151 => ?_; clear h141
    refine pk0 (v := (ptT (balT (Tm.nd b (putT l k v N114) k2 v2 d2 r)))) h151 rfl fun a152 h152 => ?_; clear h151
    refine pk0 (v := .bool (hasT l k)) h152 rfl fun a153 h153 => ?_; clear h152
    refine pl_nil ?_
    refine co_then ?_
    refine wp_ret ?_
    refine co_ret2 h153 rfl rfl rfl ?_
    have q1 : klt k k2 = true := hc31
    exact ⟨N114, by rw [putT_l q1, hasT_l q1], by rw [putT_l q1]; exact hT147, by omega, hB149⟩
end Go.Proofs.Ytfjhlckklgeokaa
