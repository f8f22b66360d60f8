/- Package tree: del. Conditions: a flat tree of at most 90000 keys. -/
import Derived.Test.YtfjhlckklgeokaaTrcF
namespace Go.Proofs.Ytfjhlckklgeokaa
open Go.RowKit Go.PlainAid
set_option linter.unusedVariables false
set_option linter.unusedSimpArgs false


theorem least_any (t : Tm) (w : World) (h : TreeAt w t) (hn : isNil t = false) : Calls Try.prog 58 #[ptT t] w fun e w' => ∃ c k v d p q, e = .returned (pt c 0) ∧ lmT t = (k, v) ∧ c ∈ bk t ∧ Blk w' c 89 #[.string k, .slice v.a v.n v.c, .int .i64 d, p, q] ∧ w = w' := by
  obtain ⟨b, l, k, v, d, r, rfl⟩ := isNil_f hn
  exact least_nd b l k v d r w h.1 h.2.1
theorem ne_of_mem {b c : Nat} {t : Tm} (h : b ∉ bk t) (hc : c ∈ bk t) : b ≠ c := fun e => h (e ▸ hc)

set_option maxRecDepth 100000 in
theorem del_any (t : Tm) (k : ByteArray) (w : World) (hT : TreeAt w t) (hn : (bk t).Nodup) (ha : Avl t) (hs : sz t ≤ 90000) :
    Calls Try.prog 47 #[(ptT t), .string k] w fun e w' => e = .returned (.tuple #[(ptT (delT t k)), .bool (hasT t k)]) ∧ TreeAt w' (delT t k) ∧ But (fun q => q ∈ bk t) w w' := by
 induction t generalizing w k
 · skip
   have hB0 := But.refl (fun q => q ∈ bk Tm.nil) w
   refine co_enter (n := 105) Try.func47 rfl rfl rfl [(0, .pointer none), (1, .string k)] rfl (fun a h0 => ?_)
   refine co_seq ?_
   refine co_reg ?_
   refine pk0 (v := .pointer none) h0 rfl fun a1 h1 => ?_; clear h0
   refine pk0 (v := .bool false) h1 rfl fun a2 h2 => ?_; clear h1
   refine pl_nil ?_
   refine co_then ?_
   refine co_seq ?_
   refine co_seq ?_
   refine co_reg ?_
   refine pk0 (v := .pointer none) h2 rfl fun a3 h3 => ?_; clear h2
   refine pk0 (v := .bool true) h3 rfl fun a4 h4 => ?_; clear h3
   refine pl_nil ?_
   refine co_then ?_
   refine co_true h4 rfl ?_
   refine co_seq ?_
   refine co_reg ?_
   refine pk0 (v := .pointer none) h4 rfl fun a5 h5 => ?_; clear h4
   refine pk0 (v := .bool false) h5 rfl fun a6 h6 => ?_; clear h5
   refine pl_nil ?_
   refine co_then ?_
   refine wp_ret ?_
   refine co_thenR ?_
   refine co_ret2 h6 rfl rfl rfl ?_
   exact ⟨rfl, trivial, hB0⟩
 · rename_i b l k2 v2 d2 r ihl ihr
   have hB0 := But.refl (fun q => q ∈ bk (Tm.nd b l k2 v2 d2 r)) w
   obtain ⟨hB, hl, hr⟩ := hT; obtain ⟨n1, n2, n3, n4, n5⟩ := nd_ap hn; obtain ⟨a1, a2, a3, a4, a5⟩ := ha
   have hsz : 1 + sz l + sz r ≤ 90000 := hs
   have hl_hB := hB.lt
   have hSb : (fun q => q ∈ bk (Tm.nd b l k2 v2 d2 r)) b ∨ w.heap.size ≤ b := .inl (by simp [bk])
   refine co_enter (n := 105) Try.func47 rfl rfl rfl [(0, pt b 0), (1, .string k)] rfl (fun a h0 => ?_)
   refine co_seq ?_
   refine co_reg ?_
   refine pk0 (v := .pointer none) h0 rfl fun a7 h7 => ?_; clear h0
   refine pk0 (v := .bool false) h7 rfl fun a8 h8 => ?_; clear h7
   refine pl_nil ?_
   refine co_then ?_
   refine co_seq ?_
   refine co_seq ?_
   refine co_reg ?_
   refine pk0 (v := pt b 0) h8 rfl fun a9 h9 => ?_; clear h8
   refine pk0 (v := .bool false) h9 rfl fun a10 h10 => ?_; clear h9
   refine pl_nil ?_
   refine co_then ?_
   refine co_false h10 rfl ?_
   refine wp_skip ?_
   refine co_then ?_
   refine co_seq ?_
   refine co_reg ?_
   refine pk0 (v := .bool true) h10 rfl fun a11 h11 => ?_; clear h10
   refine pl_nil ?_
   refine co_then ?_
   refine co_seq ?_
   refine wp_block ?_
   refine co_seq ?_
   refine co_reg ?_
   refine pk0 (v := .string k) h11 rfl fun a12 h12 => ?_; clear h11
   refine pk0 (v := pt b 0) h12 rfl fun a13 h13 => ?_; clear h12
   refine pk0 (v := pt b 0) h13 rfl fun a14 h14 => ?_; clear h13
   refine pk0 (v := pt b 0) h14 rfl fun a15 h15 => ?_; clear h14
   refine pk (v := .string k2) h15 rfl (rn_load1 rfl rfl Try.isAgg9 (hB.cell rfl)) fun a16 h16 => ?_; clear h15
   refine pk0 (v := .bool (Op.bytesLess k.toList k2.toList)) h16 rfl fun a17 h17 => ?_; clear h16
   refine pk0 (v := .bool (Op.bytesLess k.toList k2.toList)) h17 rfl fun a18 h18 => ?_; clear h17
   refine pl_nil ?_
   refine co_then ?_
   cases hc19 : (Op.bytesLess k.toList k2.toList)
   ·
    rw [hc19] at h18
    refine co_false h18 rfl ?_
    refine co_seq ?_
    refine co_reg ?_
    refine pk0 (v := .string k) h18 rfl fun a20 h20 => ?_; clear h18
    refine pk0 (v := pt b 0) h20 rfl fun a21 h21 => ?_; clear h20
    refine pk0 (v := pt b 0) h21 rfl fun a22 h22 => ?_; clear h21
    refine pk0 (v := pt b 0) h22 rfl fun a23 h23 => ?_; clear h22
    refine pk (v := .string k2) h23 rfl (rn_load1 rfl rfl Try.isAgg9 (hB.cell rfl)) fun a24 h24 => ?_; clear h23
    refine pk0 (v := .bool (!(Op.bytesLess k.toList k2.toList || k.toList == k2.toList))) h24 rfl fun a25 h25 => ?_; clear h24
    refine pk0 (v := .bool (!(Op.bytesLess k.toList k2.toList || k.toList == k2.toList))) h25 rfl fun a26 h26 => ?_; clear h25
    refine pl_nil ?_
    refine co_then ?_
    cases hc27 : (!(Op.bytesLess k.toList k2.toList || k.toList == k2.toList))
    ·
     rw [hc27] at h26
     refine co_false h26 rfl ?_
     refine co_seq ?_
     refine co_reg ?_
     refine pk0 (v := pt b 0) h26 rfl fun a28 h28 => ?_; clear h26
     refine pk0 (v := pt b 0) h28 rfl fun a29 h29 => ?_; clear h28
     refine pk0 (v := pt b 3) h29 rfl fun a30 h30 => ?_; clear h29
     refine pk (v := (ptT l)) h30 rfl (rn_load1 rfl rfl Try.isAgg84 (hB.cell rfl)) fun a31 h31 => ?_; clear h30
     refine pk (v := .bool (isNil l)) h31 rfl (rn_eqPt rfl rfl rfl) fun a32 h32 => ?_; clear h31
     refine pk0 (v := .bool (isNil l)) h32 rfl fun a33 h33 => ?_; clear h32
     refine pl_nil ?_
     refine co_then ?_
     cases hc34 : ((isNil l))
     ·
      rw [hc34] at h33
      refine co_false h33 rfl ?_
      refine co_seq ?_
      refine co_reg ?_
      refine pk0 (v := pt b 0) h33 rfl fun a35 h35 => ?_; clear h33
      refine pk0 (v := pt b 0) h35 rfl fun a36 h36 => ?_; clear h35
      refine pk0 (v := pt b 4) h36 rfl fun a37 h37 => ?_; clear h36
      refine pk (v := (ptT r)) h37 rfl (rn_load1 rfl rfl Try.isAgg84 (hB.cell rfl)) fun a38 h38 => ?_; clear h37
      refine pk (v := .bool (isNil r)) h38 rfl (rn_eqPt rfl rfl rfl) fun a39 h39 => ?_; clear h38
      refine pk0 (v := .bool (isNil r)) h39 rfl fun a40 h40 => ?_; clear h39
      refine pl_nil ?_
      refine co_then ?_
      cases hc41 : ((isNil r))
      ·
       rw [hc41] at h40
       refine co_false h40 rfl ?_
       refine co_seq ?_
       refine co_reg ?_
       refine pk0 (v := pt b 0) h40 rfl fun a42 h42 => ?_; clear h40
       refine pk0 (v := pt b 0) h42 rfl fun a43 h43 => ?_; clear h42
       refine pk0 (v := pt b 4) h43 rfl fun a44 h44 => ?_; clear h43
       refine pk (v := (ptT r)) h44 rfl (rn_load1 rfl rfl Try.isAgg84 (hB.cell rfl)) fun a45 h45 => ?_; clear h44
       refine pw h45 rfl (op_call (args := #[(ptT r)]) (R := fun res xw => ∃ c k v d p q, res = pt c 0 ∧ lmT r = (k, v) ∧ c ∈ bk r ∧ Blk xw c 89 #[.string k, .slice v.a v.n v.c, .int .i64 d, p, q] ∧ w = xw) rfl rfl rfl (by kernel_rfl) (by kernel_rfl) (Try.call58 _ _) (least_any r w hr hc41) (by rintro e x ⟨c, k, v, d, p, q, rfl, h⟩; exact ⟨_, rfl, c, k, v, d, p, q, rfl, h⟩)) ?_; clear h45
       rintro _ _ a46 ⟨c48, k49, v50, d51, p52, q53, rfl, hlm54, hc55, hB56, rfl⟩ h46
       have hne57 := ne_of_mem n2 hc55; have hl_c48 := hB56.lt
       refine pk0 (v := pt c48 0) h46 rfl fun a58 h58 => ?_; clear h46
       refine pl_nil ?_
       refine co_then ?_
       refine co_seq ?_
       refine dr_gen (fun x => But (fun q => q ∈ bk (Tm.nd b l k2 v2 d2 r)) w x ∧ Blk x c48 89 #[.string k49, .slice v50.a v50.n v50.c, .int .i64 d51, p52, q53]) (by kernel_rfl) (fun w59 hg60 => ?_) (fun w59 hg60 => ?_)
       ·
        have hz61 := hg60.size
        have hB62 := fbU_new hB0 hg60
        have hk63 := hB56.kept hg60 (by simp)
        exact ⟨hB62, hk63⟩
       have hz64 := hg60.size
       have hB65 := fbU_new hB0 hg60
       have hk66 := hB56.kept hg60 (by simp)
       refine dk0 0 (v := pt b 0) h58 rfl rfl ⟨hB65, hk66⟩ fun a67 h67 => ?_; clear h58
       refine dk0 1 (v := pt b 0) h67 rfl rfl ⟨hB65, hk66⟩ fun a68 h68 => ?_; clear h67
       refine dk0 2 (v := pt c48 0) h68 rfl rfl ⟨hB65, hk66⟩ fun a69 h69 => ?_; clear h68
       refine dk0 3 (v := pt c48 0) h69 rfl rfl ⟨hB65, hk66⟩ fun a70 h70 => ?_; clear h69
       refine dk0 4 (v := pt c48 0) h70 rfl rfl ⟨hB65, hk66⟩ fun a71 h71 => ?_; clear h70
       refine dk 5 (v := .string k49) h71 rfl rfl ⟨hB65, hk66⟩ (fun x hx => (rn_load1 rfl rfl Try.isAgg9 (hx.2.cell rfl))) fun a72 h72 => ?_; clear h71
       refine dk0 6 (v := pt c48 0) h72 rfl rfl ⟨hB65, hk66⟩ fun a73 h73 => ?_; clear h72
       refine dk0 7 (v := pt c48 0) h73 rfl rfl ⟨hB65, hk66⟩ fun a74 h74 => ?_; clear h73
       refine dk0 8 (v := pt c48 1) h74 rfl rfl ⟨hB65, hk66⟩ fun a75 h75 => ?_; clear h74
       refine dk 9 (v := .slice v50.a v50.n v50.c) h75 rfl rfl ⟨hB65, hk66⟩ (fun x hx => (rn_load1 rfl rfl Try.isAgg62 (hx.2.cell rfl))) fun a76 h76 => ?_; clear h75
       refine dk0 10 (v := pt b 0) h76 rfl rfl ⟨hB65, hk66⟩ fun a77 h77 => ?_; clear h76
       refine dk0 11 (v := pt b 0) h77 rfl rfl ⟨hB65, hk66⟩ fun a78 h78 => ?_; clear h77
       have hk84 := hB.kept hg60 (by simp)
       refine d1D 12 h78 rfl rfl (op_store1 rfl rfl rfl rfl Try.sizeOf9 hk84 rfl) ?_ ?_; clear h78
       ·
        rintro _ w80 ⟨hk81, hz82, hg83⟩
        have hk81' : Blk w80 b 89 #[.string k49, .slice v2.a v2.n v2.c, .int .i64 d2, (ptT l), (ptT r)] := hk81; clear hk81
        have hz85 := hg83.size
        have hB86 := fbU_at hB65 hg83 (fun hlt => by rcases hSb with hq | hq; exact hq; omega)
        have hk87 := hk66.kept hg83 (by simp; omega)
        exact ⟨hB86, hk87⟩
       rintro _ w80 a79 ⟨hk81, hz82, hg83⟩ h79
       have hk81' : Blk w80 b 89 #[.string k49, .slice v2.a v2.n v2.c, .int .i64 d2, (ptT l), (ptT r)] := hk81; clear hk81
       have hz85 := hg83.size
       have hB86 := fbU_at hB65 hg83 (fun hlt => by rcases hSb with hq | hq; exact hq; omega)
       have hk87 := hk66.kept hg83 (by simp; omega)
       refine dk0 13 (v := pt b 0) h79 rfl rfl ⟨hB86, hk87⟩ fun a88 h88 => ?_; clear h79
       refine dk0 14 (v := pt b 1) h88 rfl rfl ⟨hB86, hk87⟩ fun a89 h89 => ?_; clear h88
       refine d1D 15 h89 rfl rfl (op_store1 rfl rfl rfl rfl Try.sizeOf62 hk81' rfl) ?_ ?_; clear h89
       ·
        rintro _ w91 ⟨hk92, hz93, hg94⟩
        have hk92' : Blk w91 b 89 #[.string k49, .slice v50.a v50.n v50.c, .int .i64 d2, (ptT l), (ptT r)] := hk92; clear hk92
        have hz95 := hg94.size
        have hB96 := fbU_at hB86 hg94 (fun hlt => by rcases hSb with hq | hq; exact hq; omega)
        have hk97 := hk87.kept hg94 (by simp; omega)
        exact ⟨hB96, hk97⟩
       rintro _ w91 a90 ⟨hk92, hz93, hg94⟩ h90
       have hk92' : Blk w91 b 89 #[.string k49, .slice v50.a v50.n v50.c, .int .i64 d2, (ptT l), (ptT r)] := hk92; clear hk92
       have hz95 := hg94.size
       refine dr_done (by kernel_rfl) ?_
       refine co_then ?_
       refine dr_gen (fun x => But (fun q => q ∈ bk (Tm.nd b l k2 v2 d2 r)) w x) (by kernel_rfl) (fun w96 hg97 => ?_) (fun w96 hg97 => ?_)
       ·
        have hz98 := hg97.size
        have hB99 := fbU_at hB86 hg94 (fun hlt => by rcases hSb with hq | hq; exact hq; omega)
        have hB100 := fbU_new hB99 hg97
        exact hB100
       have hz101 := hg97.size
       have hB102 := fbU_at hB86 hg94 (fun hlt => by rcases hSb with hq | hq; exact hq; omega)
       have hB103 := fbU_new hB102 hg97
       refine dk0 0 (v := pt b 0) h90 rfl rfl hB103 fun a104 h104 => ?_; clear h90
       refine dk0 1 (v := pt b 0) h104 rfl rfl hB103 fun a105 h105 => ?_; clear h104
       refine dk0 2 (v := pt b 0) h105 rfl rfl hB103 fun a106 h106 => ?_; clear h105
       refine dk0 3 (v := pt b 4) h106 rfl rfl hB103 fun a107 h107 => ?_; clear h106
       refine dk0 5 (v := pt c48 0) h107 rfl rfl hB103 fun a108 h108 => ?_; clear h107
       refine dk0 6 (v := pt c48 0) h108 rfl rfl hB103 fun a109 h109 => ?_; clear h108
       refine dk0 7 (v := pt c48 0) h109 rfl rfl hB103 fun a110 h110 => ?_; clear h109
       refine dr_many [4, 8] (by kernel_rfl) (by simp) ⟨?_, ?_, trivial⟩
       ·
        have hk111 := hk92'.kept hg97 (by simp)
        refine dr_opVal (i := 4) (v := (ptT r)) h110 rfl rfl rfl rfl (by kernel_rfl) rfl (rn_load1 rfl rfl Try.isAgg84 (hk111.cell rfl)) hB103 (fun a112 h112 => ?_); clear h110
        refine dr_many [8] (by kernel_rfl) (by simp) ⟨?_, trivial⟩
        ·
         have hk113 := hk87.kept hg94 (by simp; omega)
         have hk114 := hk113.kept hg97 (by simp)
         refine dr_opVal (i := 8) (v := .string k49) h112 rfl rfl rfl rfl (by kernel_rfl) rfl (rn_load1 rfl rfl Try.isAgg9 (hk114.cell rfl)) hB103 (fun a115 h115 => ?_); clear h112
         have hT118 := hl.gr hg60 (fun q e => by cases e)
         have hT119 := hT118.gr hg83 (fun q e => by cases e; exact n1)
         have hT120 := hT119.gr hg94 (fun q e => by cases e; exact n1)
         have hT121 := hT120.gr hg97 (fun q e => by cases e)
         have hT122 := hr.gr hg60 (fun q e => by cases e)
         have hT123 := hT122.gr hg83 (fun q e => by cases e; exact n2)
         have hT124 := hT123.gr hg94 (fun q e => by cases e; exact n2)
         have hT125 := hT124.gr hg97 (fun q e => by cases e)
         refine d1 9 h115 rfl rfl (op_call (args := #[(ptT r), .string k49]) (R := fun res xw => res = .tuple #[ptT (delT r k49), .bool (hasT r k49)] ∧ TreeAt xw (delT r k49) ∧ But (fun q => q ∈ bk r) w96 xw) rfl rfl rfl (by kernel_rfl) (by kernel_rfl) (Try.call47 _ _) (ihr k49 w96 hT125 n4 a2 (by omega)) (by rintro e x ⟨rfl, h1, h3⟩; exact ⟨_, rfl, rfl, h1, h3⟩)) ?_ ?_; clear h115
         ·
          rintro _ w117 ⟨rfl, hT126, hb127⟩
          have av128 := del_avl r k49 a2; have mb129 := del_bk r k49 a2 n4; have sz130 := del_sz r k49 a2
          have hB131 := fbU_foot hB103 hb127 (fun i hi hS => by simp only [bk, List.mem_cons, List.mem_append]; exact .inr (.inr hS))
          have hz132 := hb127.size
          exact hB131
         rintro _ w117 a116 ⟨rfl, hT126, hb127⟩ h116
         have av128 := del_avl r k49 a2; have mb129 := del_bk r k49 a2 n4; have sz130 := del_sz r k49 a2
         have hB131 := fbU_foot hB103 hb127 (fun i hi hS => by simp only [bk, List.mem_cons, List.mem_append]; exact .inr (.inr hS))
         have hz132 := hb127.size
         refine dk0 10 (v := .tuple #[(ptT (delT r k49)), .bool (hasT r k49)]) h116 rfl rfl hB131 fun a133 h133 => ?_; clear h116
         refine dk0 11 (v := (ptT (delT r k49))) h133 rfl rfl hB131 fun a134 h134 => ?_; clear h133
         refine dk0 12 (v := .bool (hasT r k49)) h134 rfl rfl hB131 fun a135 h135 => ?_; clear h134
         refine dk0 13 (v := pt b 0) h135 rfl rfl hB131 fun a136 h136 => ?_; clear h135
         refine dk0 14 (v := pt b 4) h136 rfl rfl hB131 fun a137 h137 => ?_; clear h136
         have hk143 := Blk.butS hk111 hb127 (fun hq => absurd hq n2)
         refine d1D 15 h137 rfl rfl (op_store1 rfl rfl rfl (ptT_one _) Try.sizeOf84 hk143 rfl) ?_ ?_; clear h137
         ·
          rintro _ w139 ⟨hk140, hz141, hg142⟩
          have hk140' : Blk w139 b 89 #[.string k49, .slice v50.a v50.n v50.c, .int .i64 d2, (ptT l), (ptT (delT r k49))] := hk140; clear hk140
          have hz144 := hg142.size
          have hB145 := fbU_at hB131 hg142 (fun hlt => by rcases hSb with hq | hq; exact hq; omega)
          exact hB145
         rintro _ w139 a138 ⟨hk140, hz141, hg142⟩ h138
         have hk140' : Blk w139 b 89 #[.string k49, .slice v50.a v50.n v50.c, .int .i64 d2, (ptT l), (ptT (delT r k49))] := hk140; clear hk140
         have hz144 := hg142.size
         refine dr_done (by kernel_rfl) ?_
         refine co_blockN ?_
         refine co_then ?_
         refine co_seq ?_
         refine co_reg ?_
         refine pk0 (v := pt b 0) h138 rfl fun a145 h145 => ?_; clear h138
         have hB148 := fbU_at hB131 hg142 (fun hlt => by rcases hSb with hq | hq; exact hq; omega)
         have hT149 := TreeAt.but hT121 hb127 (fun q hq => (n5 q hq))
         have hT150 := hT149.gr hg142 (fun q e => by cases e; exact n1)
         have hT151 := hT126.gr hg142 (fun q e => by cases e; exact (fun hq => n2 (mb129.1 _ hq)))
         refine pw h145 rfl (op_call (args := #[pt b 0]) (R := fun res xw => res = ptT (balT (Tm.nd b l k49 v50 d2 (delT r k49))) ∧ TreeAt xw (balT (Tm.nd b l k49 v50 d2 (delT r k49))) ∧ But (fun q => q ∈ bk (Tm.nd b l k49 v50 d2 (delT r k49))) w139 xw) rfl rfl rfl (by kernel_rfl) (by kernel_rfl) (Try.call53 _ _) (balance_any b l k49 v50 d2 (delT r k49) w139 ⟨hk140', hT150, hT151⟩ (nd_ap' n1 (fun hq => n2 (mb129.1 _ hq)) n3 mb129.2 (dis_symm (fun q hq => (dis_symm n5) q (mb129.1 q hq)))) a1 av128.1 (by omega) (by omega)) (by rintro e x ⟨rfl, h1, h2⟩; exact ⟨_, rfl, rfl, h1, h2⟩)) ?_; clear h145
         rintro _ w147 a146 ⟨rfl, hT152, hb153⟩ h146
         have hB154 := fbU_foot hB148 hb153 (fun i hi hS => by simp only [bk, List.mem_cons, List.mem_append] at hS ⊢; rcases hS with h | h | h; exact .inl h; exact .inr (.inl h); exact .inr (.inr (mb129.1 _ h)))
         have hz155 := hb153.size
         refine pk0 (v := .bool true) h146 rfl fun a156 h156 => ?_; clear h146
         refine pk0 (v := (ptT (balT (Tm.nd b l k49 v50 d2 (delT r k49))))) h156 rfl fun a157 h157 => ?_; clear h156
         refine pk0 (v := .bool true) h157 rfl fun a158 h158 => ?_; clear h157
         refine pl_nil ?_
         refine co_then ?_
         refine wp_ret ?_
         refine co_ret2 h158 rfl rfl rfl ?_
         have q1 : klt k k2 = false := hc19; have q2 := klt_gt hc27
         have q3 := delT_e3 (b := b) (v' := v2) (d := d2) q1 q2 hc34 hc41; rw [hlm54] at q3
         exact ⟨by rw [q3, hasT_e q1 q2], by rw [q3]; exact hT152, hB154⟩
       ·
        have hk159 := hk87.kept hg94 (by simp; omega)
        have hk160 := hk159.kept hg97 (by simp)
        refine dr_opVal (i := 8) (v := .string k49) h110 rfl rfl rfl rfl (by kernel_rfl) rfl (rn_load1 rfl rfl Try.isAgg9 (hk160.cell rfl)) hB103 (fun a161 h161 => ?_); clear h110
        refine dr_many [4] (by kernel_rfl) (by simp) ⟨?_, trivial⟩
        ·
         have hk162 := hk92'.kept hg97 (by simp)
         refine dr_opVal (i := 4) (v := (ptT r)) h161 rfl rfl rfl rfl (by kernel_rfl) rfl (rn_load1 rfl rfl Try.isAgg84 (hk162.cell rfl)) hB103 (fun a163 h163 => ?_); clear h161
         have hT166 := hl.gr hg60 (fun q e => by cases e)
         have hT167 := hT166.gr hg83 (fun q e => by cases e; exact n1)
         have hT168 := hT167.gr hg94 (fun q e => by cases e; exact n1)
         have hT169 := hT168.gr hg97 (fun q e => by cases e)
         have hT170 := hr.gr hg60 (fun q e => by cases e)
         have hT171 := hT170.gr hg83 (fun q e => by cases e; exact n2)
         have hT172 := hT171.gr hg94 (fun q e => by cases e; exact n2)
         have hT173 := hT172.gr hg97 (fun q e => by cases e)
         refine d1 9 h163 rfl rfl (op_call (args := #[(ptT r), .string k49]) (R := fun res xw => res = .tuple #[ptT (delT r k49), .bool (hasT r k49)] ∧ TreeAt xw (delT r k49) ∧ But (fun q => q ∈ bk r) w96 xw) rfl rfl rfl (by kernel_rfl) (by kernel_rfl) (Try.call47 _ _) (ihr k49 w96 hT173 n4 a2 (by omega)) (by rintro e x ⟨rfl, h1, h3⟩; exact ⟨_, rfl, rfl, h1, h3⟩)) ?_ ?_; clear h163
         ·
          rintro _ w165 ⟨rfl, hT174, hb175⟩
          have av176 := del_avl r k49 a2; have mb177 := del_bk r k49 a2 n4; have sz178 := del_sz r k49 a2
          have hB179 := fbU_foot hB103 hb175 (fun i hi hS => by simp only [bk, List.mem_cons, List.mem_append]; exact .inr (.inr hS))
          have hz180 := hb175.size
          exact hB179
         rintro _ w165 a164 ⟨rfl, hT174, hb175⟩ h164
         have av176 := del_avl r k49 a2; have mb177 := del_bk r k49 a2 n4; have sz178 := del_sz r k49 a2
         have hB179 := fbU_foot hB103 hb175 (fun i hi hS => by simp only [bk, List.mem_cons, List.mem_append]; exact .inr (.inr hS))
         have hz180 := hb175.size
         refine dk0 10 (v := .tuple #[(ptT (delT r k49)), .bool (hasT r k49)]) h164 rfl rfl hB179 fun a181 h181 => ?_; clear h164
         refine dk0 11 (v := (ptT (delT r k49))) h181 rfl rfl hB179 fun a182 h182 => ?_; clear h181
         refine dk0 12 (v := .bool (hasT r k49)) h182 rfl rfl hB179 fun a183 h183 => ?_; clear h182
         refine dk0 13 (v := pt b 0) h183 rfl rfl hB179 fun a184 h184 => ?_; clear h183
         refine dk0 14 (v := pt b 4) h184 rfl rfl hB179 fun a185 h185 => ?_; clear h184
         have hk191 := Blk.butS hk162 hb175 (fun hq => absurd hq n2)
         refine d1D 15 h185 rfl rfl (op_store1 rfl rfl rfl (ptT_one _) Try.sizeOf84 hk191 rfl) ?_ ?_; clear h185
         ·
          rintro _ w187 ⟨hk188, hz189, hg190⟩
          have hk188' : Blk w187 b 89 #[.string k49, .slice v50.a v50.n v50.c, .int .i64 d2, (ptT l), (ptT (delT r k49))] := hk188; clear hk188
          have hz192 := hg190.size
          have hB193 := fbU_at hB179 hg190 (fun hlt => by rcases hSb with hq | hq; exact hq; omega)
          exact hB193
         rintro _ w187 a186 ⟨hk188, hz189, hg190⟩ h186
         have hk188' : Blk w187 b 89 #[.string k49, .slice v50.a v50.n v50.c, .int .i64 d2, (ptT l), (ptT (delT r k49))] := hk188; clear hk188
         have hz192 := hg190.size
         refine dr_done (by kernel_rfl) ?_
         refine co_blockN ?_
         refine co_then ?_
         refine co_seq ?_
         refine co_reg ?_
         refine pk0 (v := pt b 0) h186 rfl fun a193 h193 => ?_; clear h186
         have hB196 := fbU_at hB179 hg190 (fun hlt => by rcases hSb with hq | hq; exact hq; omega)
         have hT197 := TreeAt.but hT169 hb175 (fun q hq => (n5 q hq))
         have hT198 := hT197.gr hg190 (fun q e => by cases e; exact n1)
         have hT199 := hT174.gr hg190 (fun q e => by cases e; exact (fun hq => n2 (mb177.1 _ hq)))
         refine pw h193 rfl (op_call (args := #[pt b 0]) (R := fun res xw => res = ptT (balT (Tm.nd b l k49 v50 d2 (delT r k49))) ∧ TreeAt xw (balT (Tm.nd b l k49 v50 d2 (delT r k49))) ∧ But (fun q => q ∈ bk (Tm.nd b l k49 v50 d2 (delT r k49))) w187 xw) rfl rfl rfl (by kernel_rfl) (by kernel_rfl) (Try.call53 _ _) (balance_any b l k49 v50 d2 (delT r k49) w187 ⟨hk188', hT198, hT199⟩ (nd_ap' n1 (fun hq => n2 (mb177.1 _ hq)) n3 mb177.2 (dis_symm (fun q hq => (dis_symm n5) q (mb177.1 q hq)))) a1 av176.1 (by omega) (by omega)) (by rintro e x ⟨rfl, h1, h2⟩; exact ⟨_, rfl, rfl, h1, h2⟩)) ?_; clear h193
         rintro _ w195 a194 ⟨rfl, hT200, hb201⟩ h194
         have hB202 := fbU_foot hB196 hb201 (fun i hi hS => by simp only [bk, List.mem_cons, List.mem_append] at hS ⊢; rcases hS with h | h | h; exact .inl h; exact .inr (.inl h); exact .inr (.inr (mb177.1 _ h)))
         have hz203 := hb201.size
         refine pk0 (v := .bool true) h194 rfl fun a204 h204 => ?_; clear h194
         refine pk0 (v := (ptT (balT (Tm.nd b l k49 v50 d2 (delT r k49))))) h204 rfl fun a205 h205 => ?_; clear h204
         refine pk0 (v := .bool true) h205 rfl fun a206 h206 => ?_; clear h205
         refine pl_nil ?_
         refine co_then ?_
         refine wp_ret ?_
         refine co_ret2 h206 rfl rfl rfl ?_
         have q1 : klt k k2 = false := hc19; have q2 := klt_gt hc27
         have q3 := delT_e3 (b := b) (v' := v2) (d := d2) q1 q2 hc34 hc41; rw [hlm54] at q3
         exact ⟨by rw [q3, hasT_e q1 q2], by rw [q3]; exact hT200, hB202⟩
      ·
       rw [hc41] at h40
       refine co_true h40 rfl ?_
       refine co_seq ?_
       refine co_reg ?_
       refine pk0 (v := pt b 0) h40 rfl fun a207 h207 => ?_; clear h40
       refine pk0 (v := pt b 0) h207 rfl fun a208 h208 => ?_; clear h207
       refine pk0 (v := pt b 3) h208 rfl fun a209 h209 => ?_; clear h208
       refine pk (v := (ptT l)) h209 rfl (rn_load1 rfl rfl Try.isAgg84 (hB.cell rfl)) fun a210 h210 => ?_; clear h209
       refine pk0 (v := (ptT l)) h210 rfl fun a211 h211 => ?_; clear h210
       refine pk0 (v := .bool true) h211 rfl fun a212 h212 => ?_; clear h211
       refine pl_nil ?_
       refine co_then ?_
       refine wp_ret ?_
       refine co_blockR ?_
       refine co_thenR ?_
       refine co_ret2 h212 rfl rfl rfl ?_
       have q1 : klt k k2 = false := hc19; have q2 := klt_gt hc27
       have q3 := delT_e2 (b := b) (v' := v2) (d := d2) q1 q2 hc34 hc41
       exact ⟨by rw [q3, hasT_e q1 q2], by rw [q3]; exact hl, hB0⟩
     ·
      rw [hc34] at h33
      refine co_true h33 rfl ?_
      refine co_seq ?_
      refine co_reg ?_
      refine pk0 (v := pt b 0) h33 rfl fun a213 h213 => ?_; clear h33
      refine pk0 (v := pt b 0) h213 rfl fun a214 h214 => ?_; clear h213
      refine pk0 (v := pt b 4) h214 rfl fun a215 h215 => ?_; clear h214
      refine pk (v := (ptT r)) h215 rfl (rn_load1 rfl rfl Try.isAgg84 (hB.cell rfl)) fun a216 h216 => ?_; clear h215
      refine pk0 (v := (ptT r)) h216 rfl fun a217 h217 => ?_; clear h216
      refine pk0 (v := .bool true) h217 rfl fun a218 h218 => ?_; clear h217
      refine pl_nil ?_
      refine co_then ?_
      refine wp_ret ?_
      refine co_blockR ?_
      refine co_thenR ?_
      refine co_ret2 h218 rfl rfl rfl ?_
      have q1 : klt k k2 = false := hc19; have q2 := klt_gt hc27
      have q3 := delT_e1 (b := b) (v' := v2) (d := d2) (r := r) q1 q2 hc34
      exact ⟨by rw [q3, hasT_e q1 q2], by rw [q3]; exact hr, hB0⟩
    ·
     rw [hc27] at h26
     refine co_true h26 rfl ?_
     refine co_reg ?_
     refine pk0 (v := pt b 0) h26 rfl fun a219 h219 => ?_; clear h26
     refine pk0 (v := pt b 0) h219 rfl fun a220 h220 => ?_; clear h219
     refine pk0 (v := pt b 0) h220 rfl fun a221 h221 => ?_; clear h220
     refine pk0 (v := pt b 4) h221 rfl fun a222 h222 => ?_; clear h221
     refine pk (v := (ptT r)) h222 rfl (rn_load1 rfl rfl Try.isAgg84 (hB.cell rfl)) fun a223 h223 => ?_; clear h222
     refine pk0 (v := .string k) h223 rfl fun a224 h224 => ?_; clear h223
     refine pw h224 rfl (op_call (args := #[(ptT r), .string k]) (R := fun res xw => res = .tuple #[ptT (delT r k), .bool (hasT r k)] ∧ TreeAt xw (delT r k) ∧ But (fun q => q ∈ bk r) w xw) rfl rfl rfl (by kernel_rfl) (by kernel_rfl) (Try.call47 _ _) (ihr k w hr n4 a2 (by omega)) (by rintro e x ⟨rfl, h1, h3⟩; exact ⟨_, rfl, rfl, h1, h3⟩)) ?_; clear h224
     rintro _ w226 a225 ⟨rfl, hT227, hb228⟩ h225
     have av229 := del_avl r k a2; have mb230 := del_bk r k a2 n4; have sz231 := del_sz r k a2
     have hB232 := fbU_foot hB0 hb228 (fun i hi hS => by simp only [bk, List.mem_cons, List.mem_append]; exact .inr (.inr hS))
     have hz233 := hb228.size
     refine pk0 (v := .tuple #[(ptT (delT r k)), .bool (hasT r k)]) h225 rfl fun a234 h234 => ?_; clear h225
     refine pk0 (v := (ptT (delT r k))) h234 rfl fun a235 h235 => ?_; clear h234
     refine pk0 (v := .bool (hasT r k)) h235 rfl fun a236 h236 => ?_; clear h235
     refine pk0 (v := pt b 0) h236 rfl fun a237 h237 => ?_; clear h236
     refine pk0 (v := pt b 4) h237 rfl fun a238 h238 => ?_; clear h237
     have hk244 := Blk.butS hB hb228 (fun hq => absurd hq n2)
     refine pwD h238 rfl (op_store1 rfl rfl rfl (ptT_one _) Try.sizeOf84 hk244 rfl) ?_; clear h238
     rintro _ w240 a239 ⟨hk241, hz242, hg243⟩ h239
     have hk241' : Blk w240 b 89 #[.string k2, .slice v2.a v2.n v2.c, .int .i64 d2, (ptT l), (ptT (delT r k))] := hk241; clear hk241
     have hz245 := hg243.size
     refine pk0 (v := .bool (hasT r k)) h239 rfl fun a246 h246 => ?_; clear h239
     refine pl_nil ?_
     refine co_blockN ?_
     refine co_then ?_
     refine co_seq ?_
     refine co_reg ?_
     refine pk0 (v := pt b 0) h246 rfl fun a247 h247 => ?_; clear h246
     have hB250 := fbU_at hB232 hg243 (fun hlt => by rcases hSb with hq | hq; exact hq; omega)
     have hT251 := TreeAt.but hl hb228 (fun q hq => (n5 q hq))
     have hT252 := hT251.gr hg243 (fun q e => by cases e; exact n1)
     have hT253 := hT227.gr hg243 (fun q e => by cases e; exact (fun hq => n2 (mb230.1 _ hq)))
     refine pw h247 rfl (op_call (args := #[pt b 0]) (R := fun res xw => res = ptT (balT (Tm.nd b l k2 v2 d2 (delT r k))) ∧ TreeAt xw (balT (Tm.nd b l k2 v2 d2 (delT r k))) ∧ But (fun q => q ∈ bk (Tm.nd b l k2 v2 d2 (delT r k))) w240 xw) rfl rfl rfl (by kernel_rfl) (by kernel_rfl) (Try.call53 _ _) (balance_any b l k2 v2 d2 (delT r k) w240 ⟨hk241', hT252, hT253⟩ (nd_ap' n1 (fun hq => n2 (mb230.1 _ hq)) n3 mb230.2 (dis_symm (fun q hq => (dis_symm n5) q (mb230.1 q hq)))) a1 av229.1 (by omega) (by omega)) (by rintro e x ⟨rfl, h1, h2⟩; exact ⟨_, rfl, rfl, h1, h2⟩)) ?_; clear h247
     rintro _ w249 a248 ⟨rfl, hT254, hb255⟩ h248
     have hB256 := fbU_foot hB250 hb255 (fun i hi hS => by simp only [bk, List.mem_cons, List.mem_append] at hS ⊢; rcases hS with h | h | h; exact .inl h; exact .inr (.inl h); exact .inr (.inr (mb230.1 _ h)))
     have hz257 := hb255.size
     refine pk0 (v := .bool (hasT r k)) h248 rfl fun a258 h258 => ?_; clear h248
     refine pk0 (v := (ptT (balT (Tm.nd b l k2 v2 d2 (delT r k))))) h258 rfl fun a259 h259 => ?_; clear h258
     refine pk0 (v := .bool (hasT r k)) h259 rfl fun a260 h260 => ?_; clear h259
     refine pl_nil ?_
     refine co_then ?_
     refine wp_ret ?_
     refine co_ret2 h260 rfl rfl rfl ?_
     have q1 : klt k k2 = false := hc19; have q2 := klt_gt hc27
     exact ⟨by rw [delT_r q1 q2, hasT_r q1 q2], by rw [delT_r q1 q2]; exact hT254, hB256⟩
   ·
    rw [hc19] at h18
    refine co_true h18 rfl ?_
    refine co_reg ?_
    refine pk0 (v := pt b 0) h18 rfl fun a261 h261 => ?_; clear h18
    refine pk0 (v := pt b 0) h261 rfl fun a262 h262 => ?_; clear h261
    refine pk0 (v := pt b 0) h262 rfl fun a263 h263 => ?_; clear h262
    refine pk0 (v := pt b 3) h263 rfl fun a264 h264 => ?_; clear h263
    refine pk (v := (ptT l)) h264 rfl (rn_load1 rfl rfl Try.isAgg84 (hB.cell rfl)) fun a265 h265 => ?_; clear h264
    refine pk0 (v := .string k) h265 rfl fun a266 h266 => ?_; clear h265
    refine pw h266 rfl (op_call (args := #[(ptT l), .string k]) (R := fun res xw => res = .tuple #[ptT (delT l k), .bool (hasT l k)] ∧ TreeAt xw (delT l k) ∧ But (fun q => q ∈ bk l) w xw) rfl rfl rfl (by kernel_rfl) (by kernel_rfl) (Try.call47 _ _) (ihl k w hl n3 a1 (by omega)) (by rintro e x ⟨rfl, h1, h3⟩; exact ⟨_, rfl, rfl, h1, h3⟩)) ?_; clear h266
    rintro _ w268 a267 ⟨rfl, hT269, hb270⟩ h267
    have av271 := del_avl l k a1; have mb272 := del_bk l k a1 n3; have sz273 := del_sz l k a1
    have hB274 := fbU_foot hB0 hb270 (fun i hi hS => by simp only [bk, List.mem_cons, List.mem_append]; exact .inr (.inl hS))
    have hz275 := hb270.size
    refine pk0 (v := .tuple #[(ptT (delT l k)), .bool (hasT l k)]) h267 rfl fun a276 h276 => ?_; clear h267
    refine pk0 (v := (ptT (delT l k))) h276 rfl fun a277 h277 => ?_; clear h276
    refine pk0 (v := .bool (hasT l k)) h277 rfl fun a278 h278 => ?_; clear h277
    refine pk0 (v := pt b 0) h278 rfl fun a279 h279 => ?_; clear h278
    refine pk0 (v := pt b 3) h279 rfl fun a280 h280 => ?_; clear h279
    have hk286 := Blk.butS hB hb270 (fun hq => absurd hq n1)
    refine pwD h280 rfl (op_store1 rfl rfl rfl (ptT_one _) Try.sizeOf84 hk286 rfl) ?_; clear h280
    rintro _ w282 a281 ⟨hk283, hz284, hg285⟩ h281
    have hk283' : Blk w282 b 89 #[.string k2, .slice v2.a v2.n v2.c, .int .i64 d2, (ptT (delT l k)), (ptT r)] := hk283; clear hk283
    have hz287 := hg285.size
    refine pk0 (v := .bool (hasT l k)) h281 rfl fun a288 h288 => ?_; clear h281
    refine pl_nil ?_
    refine co_blockN ?_
    refine co_then ?_
    refine co_seq ?_
    refine co_reg ?_
    refine pk0 (v := pt b 0) h288 rfl fun a289 h289 => ?_; clear h288
    have hB292 := fbU_at hB274 hg285 (fun hlt => by rcases hSb with hq | hq; exact hq; omega)
    have hT293 := TreeAt.but hr hb270 (fun q hq => ((dis_symm n5) q hq))
    have hT294 := hT293.gr hg285 (fun q e => by cases e; exact n2)
    have hT295 := hT269.gr hg285 (fun q e => by cases e; exact (fun hq => n1 (mb272.1 _ hq)))
    refine pw h289 rfl (op_call (args := #[pt b 0]) (R := fun res xw => res = ptT (balT (Tm.nd b (delT l k) k2 v2 d2 r)) ∧ TreeAt xw (balT (Tm.nd b (delT l k) k2 v2 d2 r)) ∧ But (fun q => q ∈ bk (Tm.nd b (delT l k) k2 v2 d2 r)) w282 xw) rfl rfl rfl (by kernel_rfl) (by kernel_rfl) (Try.call53 _ _) (balance_any b (delT l k) k2 v2 d2 r w282 ⟨hk283', hT295, hT294⟩ (nd_ap' (fun hq => n1 (mb272.1 _ hq)) n2 mb272.2 n4 (fun q hq => n5 q (mb272.1 q hq))) av271.1 a2 (by omega) (by omega)) (by rintro e x ⟨rfl, h1, h2⟩; exact ⟨_, rfl, rfl, h1, h2⟩)) ?_; clear h289
    rintro _ w291 a290 ⟨rfl, hT296, hb297⟩ h290
    have hB298 := fbU_foot hB292 hb297 (fun i hi hS => by simp only [bk, List.mem_cons, List.mem_append] at hS ⊢; rcases hS with h | h | h; exact .inl h; exact .inr (.inl (mb272.1 _ h)); exact .inr (.inr h))
    have hz299 := hb297.size
    refine pk0 (v := .bool (hasT l k)) h290 rfl fun a300 h300 => ?_; clear h290
    refine pk0 (v := (ptT (balT (Tm.nd b (delT l k) k2 v2 d2 r)))) h300 rfl fun a301 h301 => ?_; clear h300
    refine pk0 (v := .bool (hasT l k)) h301 rfl fun a302 h302 => ?_; clear h301
    refine pl_nil ?_
    refine co_then ?_
    refine wp_ret ?_
    refine co_ret2 h302 rfl rfl rfl ?_
    have q1 : klt k k2 = true := hc19
    exact ⟨by rw [delT_l q1, hasT_l q1], by rw [delT_l q1]; exact hT296, hB298⟩
end Go.Proofs.Ytfjhlckklgeokaa
