/- Package tree: del. Conditions: a flat tree of at most 90000 keys. -/
import Derived.Test.YthmljllgfigebaaTreeF
namespace Go.Proofs.Ythmljllgfigebaa
open Go.RowKit Go.PlainAid
set_option linter.unusedVariables false


theorem least_any (t : Tm) (w : World) (h : TreeAt w t) (hn : isNil t = false) : Calls Try.prog 103 #[ptT t] w fun e w' => ∃ c k v d p q, e = .returned (pt c 0) ∧ lmT t = (k, v) ∧ c ∈ bk t ∧ Blk w' c 137 #[.string k, .int .i64 v, .int .i64 d, p, q] ∧ w = w' := by
  obtain ⟨b, l, k, v, d, r, rfl⟩ := isNil_f hn
  exact least_nd b l k v d r w h.1 h.2.1
theorem ne_of_mem {b c : Nat} {t : Tm} (h : b ∉ bk t) (hc : c ∈ bk t) : b ≠ c := fun e => h (e ▸ hc)

set_option maxRecDepth 100000 in
theorem del_any (t : Tm) (k : ByteArray) (w : World) (hT : TreeAt w t) (hn : (bk t).Nodup) (ha : Avl t) (hs : sz t ≤ 90000) :
    Calls Try.prog 67 #[(ptT t), .string k] w fun e w' => e = .returned (.tuple #[(ptT (delT t k)), .bool (hasT t k)]) ∧ TreeAt w' (delT t k) ∧ But (fun q => q ∈ bk t) w w' := by
 induction t generalizing w k
 · skip
   have hB0 := But.refl (fun q => q ∈ bk Tm.nil) w
   refine co_enter (n := 105) Try.func67 rfl rfl rfl [(0, .pointer none), (1, .string k)] rfl (fun a h0 => ?_)
   refine co_seq ?_
   refine co_reg ?_
   refine pk0 (v := .pointer none) h0 rfl fun a1 h1 => ?_; clear h0
   refine pk0 (v := .bool false) h1 rfl fun a2 h2 => ?_; clear h1
   refine pl_nil ?_
   refine co_then ?_
   refine co_seq ?_
   refine co_seq ?_
   refine co_reg ?_
   refine pk0 (v := .pointer none) h2 rfl fun a3 h3 => ?_; clear h2
   refine pk0 (v := .bool true) h3 rfl fun a4 h4 => ?_; clear h3
   refine pl_nil ?_
   refine co_then ?_
   refine co_true h4 rfl ?_
   refine co_seq ?_
   refine co_reg ?_
   refine pk0 (v := .pointer none) h4 rfl fun a5 h5 => ?_; clear h4
   refine pk0 (v := .bool false) h5 rfl fun a6 h6 => ?_; clear h5
   refine pl_nil ?_
   refine co_then ?_
   refine wp_ret ?_
   refine co_thenR ?_
   refine co_ret2 h6 rfl rfl rfl ?_
   exact ⟨rfl, trivial, hB0⟩
 · rename_i b l k2 v2 d2 r ihl ihr
   have hB0 := But.refl (fun q => q ∈ bk (Tm.nd b l k2 v2 d2 r)) w
   obtain ⟨hB, hl, hr⟩ := hT; obtain ⟨n1, n2, n3, n4, n5⟩ := nd_ap hn; obtain ⟨a1, a2, a3, a4, a5⟩ := ha
   have hsz : 1 + sz l + sz r ≤ 90000 := hs
   have hl_hB := hB.lt
   have hSb : (fun q => q ∈ bk (Tm.nd b l k2 v2 d2 r)) b ∨ w.heap.size ≤ b := .inl (by simp [bk])
   refine co_enter (n := 105) Try.func67 rfl rfl rfl [(0, pt b 0), (1, .string k)] rfl (fun a h0 => ?_)
   refine co_seq ?_
   refine co_reg ?_
   refine pk0 (v := .pointer none) h0 rfl fun a7 h7 => ?_; clear h0
   refine pk0 (v := .bool false) h7 rfl fun a8 h8 => ?_; clear h7
   refine pl_nil ?_
   refine co_then ?_
   refine co_seq ?_
   refine co_seq ?_
   refine co_reg ?_
   refine pk0 (v := pt b 0) h8 rfl fun a9 h9 => ?_; clear h8
   refine pk0 (v := .bool false) h9 rfl fun a10 h10 => ?_; clear h9
   refine pl_nil ?_
   refine co_then ?_
   refine co_false h10 rfl ?_
   refine wp_skip ?_
   refine co_then ?_
   refine co_seq ?_
   refine co_reg ?_
   refine pk0 (v := .bool true) h10 rfl fun a11 h11 => ?_; clear h10
   refine pl_nil ?_
   refine co_then ?_
   refine co_seq ?_
   refine wp_block ?_
   refine co_seq ?_
   refine co_reg ?_
   refine pk0 (v := .string k) h11 rfl fun a12 h12 => ?_; clear h11
   refine pk0 (v := pt b 0) h12 rfl fun a13 h13 => ?_; clear h12
   refine pk0 (v := pt b 0) h13 rfl fun a14 h14 => ?_; clear h13
   refine pk0 (v := pt b 0) h14 rfl fun a15 h15 => ?_; clear h14
   refine pk (v := .string k2) h15 rfl (rn_load1 rfl rfl Try.isAgg9 (hB.cell rfl)) fun a16 h16 => ?_; clear h15
   refine pk0 (v := .bool (Op.bytesLess k.toList k2.toList)) h16 rfl fun a17 h17 => ?_; clear h16
   refine pk0 (v := .bool (Op.bytesLess k.toList k2.toList)) h17 rfl fun a18 h18 => ?_; clear h17
   refine pl_nil ?_
   refine co_then ?_
   cases hc19 : (Op.bytesLess k.toList k2.toList)
   ·
    rw [hc19] at h18
    refine co_false h18 rfl ?_
    refine co_seq ?_
    refine co_reg ?_
    refine pk0 (v := .string k) h18 rfl fun a20 h20 => ?_; clear h18
    refine pk0 (v := pt b 0) h20 rfl fun a21 h21 => ?_; clear h20
    refine pk0 (v := pt b 0) h21 rfl fun a22 h22 => ?_; clear h21
    refine pk0 (v := pt b 0) h22 rfl fun a23 h23 => ?_; clear h22
    refine pk (v := .string k2) h23 rfl (rn_load1 rfl rfl Try.isAgg9 (hB.cell rfl)) fun a24 h24 => ?_; clear h23
    refine pk0 (v := .bool (!(Op.bytesLess k.toList k2.toList || k.toList == k2.toList))) h24 rfl fun a25 h25 => ?_; clear h24
    refine pk0 (v := .bool (!(Op.bytesLess k.toList k2.toList || k.toList == k2.toList))) h25 rfl fun a26 h26 => ?_; clear h25
    refine pl_nil ?_
    refine co_then ?_
    cases hc27 : (!(Op.bytesLess k.toList k2.toList || k.toList == k2.toList))
    ·
     rw [hc27] at h26
     refine co_false h26 rfl ?_
     refine co_seq ?_
     refine co_reg ?_
     refine pk0 (v := pt b 0) h26 rfl fun a28 h28 => ?_; clear h26
     refine pk0 (v := pt b 0) h28 rfl fun a29 h29 => ?_; clear h28
     refine pk0 (v := pt b 3) h29 rfl fun a30 h30 => ?_; clear h29
     refine pk (v := (ptT l)) h30 rfl (rn_load1 rfl rfl Try.isAgg49 (hB.cell rfl)) fun a31 h31 => ?_; clear h30
     refine pk (v := .bool (isNil l)) h31 rfl (rn_eqPt rfl rfl rfl) fun a32 h32 => ?_; clear h31
     refine pk0 (v := .bool (isNil l)) h32 rfl fun a33 h33 => ?_; clear h32
     refine pl_nil ?_
     refine co_then ?_
     cases hc34 : ((isNil l))
     ·
      rw [hc34] at h33
      refine co_false h33 rfl ?_
      refine co_seq ?_
      refine co_reg ?_
      refine pk0 (v := pt b 0) h33 rfl fun a35 h35 => ?_; clear h33
      refine pk0 (v := pt b 0) h35 rfl fun a36 h36 => ?_; clear h35
      refine pk0 (v := pt b 4) h36 rfl fun a37 h37 => ?_; clear h36
      refine pk (v := (ptT r)) h37 rfl (rn_load1 rfl rfl Try.isAgg49 (hB.cell rfl)) fun a38 h38 => ?_; clear h37
      refine pk (v := .bool (isNil r)) h38 rfl (rn_eqPt rfl rfl rfl) fun a39 h39 => ?_; clear h38
      refine pk0 (v := .bool (isNil r)) h39 rfl fun a40 h40 => ?_; clear h39
      refine pl_nil ?_
      refine co_then ?_
      cases hc41 : ((isNil r))
      ·
       rw [hc41] at h40
       refine co_false h40 rfl ?_
       refine co_seq ?_
       refine co_reg ?_
       refine pk0 (v := pt b 0) h40 rfl fun a42 h42 => ?_; clear h40
       refine pk0 (v := pt b 0) h42 rfl fun a43 h43 => ?_; clear h42
       refine pk0 (v := pt b 4) h43 rfl fun a44 h44 => ?_; clear h43
       refine pk (v := (ptT r)) h44 rfl (rn_load1 rfl rfl Try.isAgg49 (hB.cell rfl)) fun a45 h45 => ?_; clear h44
       refine pw h45 rfl (op_call (args := #[(ptT r)]) (R := fun res xw => ∃ c k v d p q, res = pt c 0 ∧ lmT r = (k, v) ∧ c ∈ bk r ∧ Blk xw c 137 #[.string k, .int .i64 v, .int .i64 d, p, q] ∧ w = xw) rfl rfl rfl (by kernel_rfl) (by kernel_rfl) (Try.call103 _ _) (least_any r w hr hc41) (by rintro e x ⟨c, k, v, d, p, q, rfl, h⟩; exact ⟨_, rfl, c, k, v, d, p, q, rfl, h⟩)) ?_; clear h45
       rintro _ _ a46 ⟨c48, k49, v50, d51, p52, q53, rfl, hlm54, hc55, hB56, rfl⟩ h46
       have hne57 := ne_of_mem n2 hc55; have hl_c48 := hB56.lt
       refine pk0 (v := pt c48 0) h46 rfl fun a58 h58 => ?_; clear h46
       refine pl_nil ?_
       refine co_then ?_
       refine co_seq ?_
       refine dr_gen (fun x => But (fun q => q ∈ bk (Tm.nd b l k2 v2 d2 r)) w x ∧ Blk x c48 137 #[.string k49, .int .i64 v50, .int .i64 d51, p52, q53]) (by kernel_rfl) (fun w59 hg60 => ?_) (fun w59 hg60 => ?_)
       ·
        have hz61 := hg60.size
        have hB62 := fbU_new hB0 hg60
        have hk63 := hB56.kept hg60 (by simp)
        exact ⟨hB62, hk63⟩
       have hz64 := hg60.size
       have hB65 := fbU_new hB0 hg60
       have hk66 := hB56.kept hg60 (by simp)
       refine dk0 0 (v := pt b 0) h58 rfl rfl ⟨hB65, hk66⟩ fun a67 h67 => ?_; clear h58
       refine dk0 1 (v := pt b 0) h67 rfl rfl ⟨hB65, hk66⟩ fun a68 h68 => ?_; clear h67
       refine dk0 2 (v := pt c48 0) h68 rfl rfl ⟨hB65, hk66⟩ fun a69 h69 => ?_; clear h68
       refine dk0 3 (v := pt c48 0) h69 rfl rfl ⟨hB65, hk66⟩ fun a70 h70 => ?_; clear h69
       refine dk0 4 (v := pt c48 0) h70 rfl rfl ⟨hB65, hk66⟩ fun a71 h71 => ?_; clear h70
       refine dk0 6 (v := pt c48 0) h71 rfl rfl ⟨hB65, hk66⟩ fun a72 h72 => ?_; clear h71
       refine dk0 7 (v := pt c48 0) h72 rfl rfl ⟨hB65, hk66⟩ fun a73 h73 => ?_; clear h72
       refine dk0 8 (v := pt c48 1) h73 rfl rfl ⟨hB65, hk66⟩ fun a74 h74 => ?_; clear h73
       refine dr_many [5, 9] (by kernel_rfl) (by simp) ⟨?_, ?_, trivial⟩
       ·
        refine dr_opVal (i := 5) (v := .string k49) h74 rfl rfl rfl rfl (by kernel_rfl) rfl (rn_load1 rfl rfl Try.isAgg9 (hk66.cell rfl)) ⟨hB65, hk66⟩ (fun a75 h75 => ?_); clear h74
        refine dr_many [9] (by kernel_rfl) (by simp) ⟨?_, trivial⟩
        ·
         refine dr_opVal (i := 9) (v := .int .i64 v50) h75 rfl rfl rfl rfl (by kernel_rfl) rfl (rn_load1 rfl rfl Try.isAgg3 (hk66.cell rfl)) ⟨hB65, hk66⟩ (fun a76 h76 => ?_); clear h75
         refine dk0 10 (v := pt b 0) h76 rfl rfl ⟨hB65, hk66⟩ fun a77 h77 => ?_; clear h76
         refine dk0 11 (v := pt b 0) h77 rfl rfl ⟨hB65, hk66⟩ fun a78 h78 => ?_; clear h77
         have hk84 := hB.kept hg60 (by simp)
         refine d1D 12 h78 rfl rfl (op_store1 rfl rfl rfl rfl Try.sizeOf9 hk84 rfl) ?_ ?_; clear h78
         ·
          rintro _ w80 ⟨hk81, hz82, hg83⟩
          have hk81' : Blk w80 b 137 #[.string k49, .int .i64 v2, .int .i64 d2, (ptT l), (ptT r)] := hk81; clear hk81
          have hz85 := hg83.size
          have hB86 := fbU_at hB65 hg83 (fun hlt => by rcases hSb with hq | hq; exact hq; omega)
          have hk87 := hk66.kept hg83 (by simp; omega)
          exact ⟨hB86, hk87⟩
         rintro _ w80 a79 ⟨hk81, hz82, hg83⟩ h79
         have hk81' : Blk w80 b 137 #[.string k49, .int .i64 v2, .int .i64 d2, (ptT l), (ptT r)] := hk81; clear hk81
         have hz85 := hg83.size
         have hB86 := fbU_at hB65 hg83 (fun hlt => by rcases hSb with hq | hq; exact hq; omega)
         have hk87 := hk66.kept hg83 (by simp; omega)
         refine dk0 13 (v := pt b 0) h79 rfl rfl ⟨hB86, hk87⟩ fun a88 h88 => ?_; clear h79
         refine dk0 14 (v := pt b 1) h88 rfl rfl ⟨hB86, hk87⟩ fun a89 h89 => ?_; clear h88
         refine d1D 15 h89 rfl rfl (op_store1 rfl rfl rfl rfl Try.sizeOf3 hk81' rfl) ?_ ?_; clear h89
         ·
          rintro _ w91 ⟨hk92, hz93, hg94⟩
          have hk92' : Blk w91 b 137 #[.string k49, .int .i64 v50, .int .i64 d2, (ptT l), (ptT r)] := hk92; clear hk92
          have hz95 := hg94.size
          have hB96 := fbU_at hB86 hg94 (fun hlt => by rcases hSb with hq | hq; exact hq; omega)
          have hk97 := hk87.kept hg94 (by simp; omega)
          exact ⟨hB96, hk97⟩
         rintro _ w91 a90 ⟨hk92, hz93, hg94⟩ h90
         have hk92' : Blk w91 b 137 #[.string k49, .int .i64 v50, .int .i64 d2, (ptT l), (ptT r)] := hk92; clear hk92
         have hz95 := hg94.size
         refine dr_done (by kernel_rfl) ?_
         refine co_then ?_
         refine dr_gen (fun x => But (fun q => q ∈ bk (Tm.nd b l k2 v2 d2 r)) w x) (by kernel_rfl) (fun w96 hg97 => ?_) (fun w96 hg97 => ?_)
         ·
          have hz98 := hg97.size
          have hB99 := fbU_at hB86 hg94 (fun hlt => by rcases hSb with hq | hq; exact hq; omega)
          have hB100 := fbU_new hB99 hg97
          exact hB100
         have hz101 := hg97.size
         have hB102 := fbU_at hB86 hg94 (fun hlt => by rcases hSb with hq | hq; exact hq; omega)
         have hB103 := fbU_new hB102 hg97
         refine dk0 0 (v := pt b 0) h90 rfl rfl hB103 fun a104 h104 => ?_; clear h90
         refine dk0 1 (v := pt b 0) h104 rfl rfl hB103 fun a105 h105 => ?_; clear h104
         refine dk0 2 (v := pt b 0) h105 rfl rfl hB103 fun a106 h106 => ?_; clear h105
         refine dk0 3 (v := pt b 4) h106 rfl rfl hB103 fun a107 h107 => ?_; clear h106
         refine dk0 5 (v := pt c48 0) h107 rfl rfl hB103 fun a108 h108 => ?_; clear h107
         refine dk0 6 (v := pt c48 0) h108 rfl rfl hB103 fun a109 h109 => ?_; clear h108
         refine dk0 7 (v := pt c48 0) h109 rfl rfl hB103 fun a110 h110 => ?_; clear h109
         refine dr_many [4, 8] (by kernel_rfl) (by simp) ⟨?_, ?_, trivial⟩
         ·
          have hk111 := hk92'.kept hg97 (by simp)
          refine dr_opVal (i := 4) (v := (ptT r)) h110 rfl rfl rfl rfl (by kernel_rfl) rfl (rn_load1 rfl rfl Try.isAgg49 (hk111.cell rfl)) hB103 (fun a112 h112 => ?_); clear h110
          refine dr_many [8] (by kernel_rfl) (by simp) ⟨?_, trivial⟩
          ·
           have hk113 := hk87.kept hg94 (by simp; omega)
           have hk114 := hk113.kept hg97 (by simp)
           refine dr_opVal (i := 8) (v := .string k49) h112 rfl rfl rfl rfl (by kernel_rfl) rfl (rn_load1 rfl rfl Try.isAgg9 (hk114.cell rfl)) hB103 (fun a115 h115 => ?_); clear h112
           have hT118 := hl.gr hg60 (fun q e => by cases e)
           have hT119 := hT118.gr hg83 (fun q e => by cases e; exact n1)
           have hT120 := hT119.gr hg94 (fun q e => by cases e; exact n1)
           have hT121 := hT120.gr hg97 (fun q e => by cases e)
           have hT122 := hr.gr hg60 (fun q e => by cases e)
           have hT123 := hT122.gr hg83 (fun q e => by cases e; exact n2)
           have hT124 := hT123.gr hg94 (fun q e => by cases e; exact n2)
           have hT125 := hT124.gr hg97 (fun q e => by cases e)
           refine d1 9 h115 rfl rfl (op_call (args := #[(ptT r), .string k49]) (R := fun res xw => res = .tuple #[ptT (delT r k49), .bool (hasT r k49)] ∧ TreeAt xw (delT r k49) ∧ But (fun q => q ∈ bk r) w96 xw) rfl rfl rfl (by kernel_rfl) (by kernel_rfl) (Try.call67 _ _) (ihr k49 w96 hT125 n4 a2 (by omega)) (by rintro e x ⟨rfl, h1, h3⟩; exact ⟨_, rfl, rfl, h1, h3⟩)) ?_ ?_; clear h115
           ·
            rintro _ w117 ⟨rfl, hT126, hb127⟩
            have av128 := del_avl r k49 a2; have mb129 := del_bk r k49 a2 n4; have sz130 := del_sz r k49 a2
            have hB131 := fbU_foot hB103 hb127 (fun i hi hS => by simp only [bk, List.mem_cons, List.mem_append]; exact .inr (.inr hS))
            have hz132 := hb127.size
            exact hB131
           rintro _ w117 a116 ⟨rfl, hT126, hb127⟩ h116
           have av128 := del_avl r k49 a2; have mb129 := del_bk r k49 a2 n4; have sz130 := del_sz r k49 a2
           have hB131 := fbU_foot hB103 hb127 (fun i hi hS => by simp only [bk, List.mem_cons, List.mem_append]; exact .inr (.inr hS))
           have hz132 := hb127.size
           refine dk0 10 (v := .tuple #[(ptT (delT r k49)), .bool (hasT r k49)]) h116 rfl rfl hB131 fun a133 h133 => ?_; clear h116
           refine dk0 11 (v := (ptT (delT r k49))) h133 rfl rfl hB131 fun a134 h134 => ?_; clear h133
           refine dk0 12 (v := .bool (hasT r k49)) h134 rfl rfl hB131 fun a135 h135 => ?_; clear h134
           refine dk0 13 (v := pt b 0) h135 rfl rfl hB131 fun a136 h136 => ?_; clear h135
           refine dk0 14 (v := pt b 4) h136 rfl rfl hB131 fun a137 h137 => ?_; clear h136
           have hk143 := Blk.butS hk111 hb127 (fun hq => absurd hq n2)
           refine d1D 15 h137 rfl rfl (op_store1 rfl rfl rfl (ptT_one _) Try.sizeOf49 hk143 rfl) ?_ ?_; clear h137
           ·
            rintro _ w139 ⟨hk140, hz141, hg142⟩
            have hk140' : Blk w139 b 137 #[.string k49, .int .i64 v50, .int .i64 d2, (ptT l), (ptT (delT r k49))] := hk140; clear hk140
            have hz144 := hg142.size
            have hB145 := fbU_at hB131 hg142 (fun hlt => by rcases hSb with hq | hq; exact hq; omega)
            exact hB145
           rintro _ w139 a138 ⟨hk140, hz141, hg142⟩ h138
           have hk140' : Blk w139 b 137 #[.string k49, .int .i64 v50, .int .i64 d2, (ptT l), (ptT (delT r k49))] := hk140; clear hk140
           have hz144 := hg142.size
           refine dr_done (by kernel_rfl) ?_
           refine co_blockN ?_
           refine co_then ?_
           refine co_seq ?_
           refine co_reg ?_
           refine pk0 (v := pt b 0) h138 rfl fun a145 h145 => ?_; clear h138
           have hB148 := fbU_at hB131 hg142 (fun hlt => by rcases hSb with hq | hq; exact hq; omega)
           have hT149 := TreeAt.but hT121 hb127 (fun q hq => (n5 q hq))
           have hT150 := hT149.gr hg142 (fun q e => by cases e; exact n1)
           have hT151 := hT126.gr hg142 (fun q e => by cases e; exact (fun hq => n2 (mb129.1 _ hq)))
           refine pw h145 rfl (op_call (args := #[pt b 0]) (R := fun res xw => res = ptT (balT (Tm.nd b l k49 v50 d2 (delT r k49))) ∧ TreeAt xw (balT (Tm.nd b l k49 v50 d2 (delT r k49))) ∧ But (fun q => q ∈ bk (Tm.nd b l k49 v50 d2 (delT r k49))) w139 xw) rfl rfl rfl (by kernel_rfl) (by kernel_rfl) (Try.call102 _ _) (balance_any b l k49 v50 d2 (delT r k49) w139 ⟨hk140', hT150, hT151⟩ (nd_ap' n1 (fun hq => n2 (mb129.1 _ hq)) n3 mb129.2 (dis_symm (fun q hq => (dis_symm n5) q (mb129.1 q hq)))) a1 av128.1 (by omega) (by omega)) (by rintro e x ⟨rfl, h1, h2⟩; exact ⟨_, rfl, rfl, h1, h2⟩)) ?_; clear h145
           rintro _ w147 a146 ⟨rfl, hT152, hb153⟩ h146
           have hB154 := fbU_foot hB148 hb153 (fun i hi hS => by simp only [bk, List.mem_cons, List.mem_append] at hS ⊢; rcases hS with h | h | h; exact .inl h; exact .inr (.inl h); exact .inr (.inr (mb129.1 _ h)))
           have hz155 := hb153.size
           refine pk0 (v := .bool true) h146 rfl fun a156 h156 => ?_; clear h146
           refine pk0 (v := (ptT (balT (Tm.nd b l k49 v50 d2 (delT r k49))))) h156 rfl fun a157 h157 => ?_; clear h156
           refine pk0 (v := .bool true) h157 rfl fun a158 h158 => ?_; clear h157
           refine pl_nil ?_
           refine co_then ?_
           refine wp_ret ?_
           refine co_ret2 h158 rfl rfl rfl ?_
           have q1 : klt k k2 = false := hc19; have q2 := klt_gt hc27
           have q3 := delT_e3 (b := b) (v' := v2) (d := d2) q1 q2 hc34 hc41; rw [hlm54] at q3
           exact ⟨by rw [q3, hasT_e q1 q2], by rw [q3]; exact hT152, hB154⟩
         ·
          have hk159 := hk87.kept hg94 (by simp; omega)
          have hk160 := hk159.kept hg97 (by simp)
          refine dr_opVal (i := 8) (v := .string k49) h110 rfl rfl rfl rfl (by kernel_rfl) rfl (rn_load1 rfl rfl Try.isAgg9 (hk160.cell rfl)) hB103 (fun a161 h161 => ?_); clear h110
          refine dr_many [4] (by kernel_rfl) (by simp) ⟨?_, trivial⟩
          ·
           have hk162 := hk92'.kept hg97 (by simp)
           refine dr_opVal (i := 4) (v := (ptT r)) h161 rfl rfl rfl rfl (by kernel_rfl) rfl (rn_load1 rfl rfl Try.isAgg49 (hk162.cell rfl)) hB103 (fun a163 h163 => ?_); clear h161
           have hT166 := hl.gr hg60 (fun q e => by cases e)
           have hT167 := hT166.gr hg83 (fun q e => by cases e; exact n1)
           have hT168 := hT167.gr hg94 (fun q e => by cases e; exact n1)
           have hT169 := hT168.gr hg97 (fun q e => by cases e)
           have hT170 := hr.gr hg60 (fun q e => by cases e)
           have hT171 := hT170.gr hg83 (fun q e => by cases e; exact n2)
           have hT172 := hT171.gr hg94 (fun q e => by cases e; exact n2)
           have hT173 := hT172.gr hg97 (fun q e => by cases e)
           refine d1 9 h163 rfl rfl (op_call (args := #[(ptT r), .string k49]) (R := fun res xw => res = .tuple #[ptT (delT r k49), .bool (hasT r k49)] ∧ TreeAt xw (delT r k49) ∧ But (fun q => q ∈ bk r) w96 xw) rfl rfl rfl (by kernel_rfl) (by kernel_rfl) (Try.call67 _ _) (ihr k49 w96 hT173 n4 a2 (by omega)) (by rintro e x ⟨rfl, h1, h3⟩; exact ⟨_, rfl, rfl, h1, h3⟩)) ?_ ?_; clear h163
           ·
            rintro _ w165 ⟨rfl, hT174, hb175⟩
            have av176 := del_avl r k49 a2; have mb177 := del_bk r k49 a2 n4; have sz178 := del_sz r k49 a2
            have hB179 := fbU_foot hB103 hb175 (fun i hi hS => by simp only [bk, List.mem_cons, List.mem_append]; exact .inr (.inr hS))
            have hz180 := hb175.size
            exact hB179
           rintro _ w165 a164 ⟨rfl, hT174, hb175⟩ h164
           have av176 := del_avl r k49 a2; have mb177 := del_bk r k49 a2 n4; have sz178 := del_sz r k49 a2
           have hB179 := fbU_foot hB103 hb175 (fun i hi hS => by simp only [bk, List.mem_cons, List.mem_append]; exact .inr (.inr hS))
           have hz180 := hb175.size
           refine dk0 10 (v := .tuple #[(ptT (delT r k49)), .bool (hasT r k49)]) h164 rfl rfl hB179 fun a181 h181 => ?_; clear h164
           refine dk0 11 (v := (ptT (delT r k49))) h181 rfl rfl hB179 fun a182 h182 => ?_; clear h181
           refine dk0 12 (v := .bool (hasT r k49)) h182 rfl rfl hB179 fun a183 h183 => ?_; clear h182
           refine dk0 13 (v := pt b 0) h183 rfl rfl hB179 fun a184 h184 => ?_; clear h183
           refine dk0 14 (v := pt b 4) h184 rfl rfl hB179 fun a185 h185 => ?_; clear h184
           have hk191 := Blk.butS hk162 hb175 (fun hq => absurd hq n2)
           refine d1D 15 h185 rfl rfl (op_store1 rfl rfl rfl (ptT_one _) Try.sizeOf49 hk191 rfl) ?_ ?_; clear h185
           ·
            rintro _ w187 ⟨hk188, hz189, hg190⟩
            have hk188' : Blk w187 b 137 #[.string k49, .int .i64 v50, .int .i64 d2, (ptT l), (ptT (delT r k49))] := hk188; clear hk188
            have hz192 := hg190.size
            have hB193 := fbU_at hB179 hg190 (fun hlt => by rcases hSb with hq | hq; exact hq; omega)
            exact hB193
           rintro _ w187 a186 ⟨hk188, hz189, hg190⟩ h186
           have hk188' : Blk w187 b 137 #[.string k49, .int .i64 v50, .int .i64 d2, (ptT l), (ptT (delT r k49))] := hk188; clear hk188
           have hz192 := hg190.size
           refine dr_done (by kernel_rfl) ?_
           refine co_blockN ?_
           refine co_then ?_
           refine co_seq ?_
           refine co_reg ?_
           refine pk0 (v := pt b 0) h186 rfl fun a193 h193 => ?_; clear h186
           have hB196 := fbU_at hB179 hg190 (fun hlt => by rcases hSb with hq | hq; exact hq; omega)
           have hT197 := TreeAt.but hT169 hb175 (fun q hq => (n5 q hq))
           have hT198 := hT197.gr hg190 (fun q e => by cases e; exact n1)
           have hT199 := hT174.gr hg190 (fun q e => by cases e; exact (fun hq => n2 (mb177.1 _ hq)))
           refine pw h193 rfl (op_call (args := #[pt b 0]) (R := fun res xw => res = ptT (balT (Tm.nd b l k49 v50 d2 (delT r k49))) ∧ TreeAt xw (balT (Tm.nd b l k49 v50 d2 (delT r k49))) ∧ But (fun q => q ∈ bk (Tm.nd b l k49 v50 d2 (delT r k49))) w187 xw) rfl rfl rfl (by kernel_rfl) (by kernel_rfl) (Try.call102 _ _) (balance_any b l k49 v50 d2 (delT r k49) w187 ⟨hk188', hT198, hT199⟩ (nd_ap' n1 (fun hq => n2 (mb177.1 _ hq)) n3 mb177.2 (dis_symm (fun q hq => (dis_symm n5) q (mb177.1 q hq)))) a1 av176.1 (by omega) (by omega)) (by rintro e x ⟨rfl, h1, h2⟩; exact ⟨_, rfl, rfl, h1, h2⟩)) ?_; clear h193
           rintro _ w195 a194 ⟨rfl, hT200, hb201⟩ h194
           have hB202 := fbU_foot hB196 hb201 (fun i hi hS => by simp only [bk, List.mem_cons, List.mem_append] at hS ⊢; rcases hS with h | h | h; exact .inl h; exact .inr (.inl h); exact .inr (.inr (mb177.1 _ h)))
           have hz203 := hb201.size
           refine pk0 (v := .bool true) h194 rfl fun a204 h204 => ?_; clear h194
           refine pk0 (v := (ptT (balT (Tm.nd b l k49 v50 d2 (delT r k49))))) h204 rfl fun a205 h205 => ?_; clear h204
           refine pk0 (v := .bool true) h205 rfl fun a206 h206 => ?_; clear h205
           refine pl_nil ?_
           refine co_then ?_
           refine wp_ret ?_
           refine co_ret2 h206 rfl rfl rfl ?_
           have q1 : klt k k2 = false := hc19; have q2 := klt_gt hc27
           have q3 := delT_e3 (b := b) (v' := v2) (d := d2) q1 q2 hc34 hc41; rw [hlm54] at q3
           exact ⟨by rw [q3, hasT_e q1 q2], by rw [q3]; exact hT200, hB202⟩
       ·
        refine dr_opVal (i := 9) (v := .int .i64 v50) h74 rfl rfl rfl rfl (by kernel_rfl) rfl (rn_load1 rfl rfl Try.isAgg3 (hk66.cell rfl)) ⟨hB65, hk66⟩ (fun a207 h207 => ?_); clear h74
        refine dr_many [5] (by kernel_rfl) (by simp) ⟨?_, trivial⟩
        ·
         refine dr_opVal (i := 5) (v := .string k49) h207 rfl rfl rfl rfl (by kernel_rfl) rfl (rn_load1 rfl rfl Try.isAgg9 (hk66.cell rfl)) ⟨hB65, hk66⟩ (fun a208 h208 => ?_); clear h207
         refine dk0 10 (v := pt b 0) h208 rfl rfl ⟨hB65, hk66⟩ fun a209 h209 => ?_; clear h208
         refine dk0 11 (v := pt b 0) h209 rfl rfl ⟨hB65, hk66⟩ fun a210 h210 => ?_; clear h209
         have hk216 := hB.kept hg60 (by simp)
         refine d1D 12 h210 rfl rfl (op_store1 rfl rfl rfl rfl Try.sizeOf9 hk216 rfl) ?_ ?_; clear h210
         ·
          rintro _ w212 ⟨hk213, hz214, hg215⟩
          have hk213' : Blk w212 b 137 #[.string k49, .int .i64 v2, .int .i64 d2, (ptT l), (ptT r)] := hk213; clear hk213
          have hz217 := hg215.size
          have hB218 := fbU_at hB65 hg215 (fun hlt => by rcases hSb with hq | hq; exact hq; omega)
          have hk219 := hk66.kept hg215 (by simp; omega)
          exact ⟨hB218, hk219⟩
         rintro _ w212 a211 ⟨hk213, hz214, hg215⟩ h211
         have hk213' : Blk w212 b 137 #[.string k49, .int .i64 v2, .int .i64 d2, (ptT l), (ptT r)] := hk213; clear hk213
         have hz217 := hg215.size
         have hB218 := fbU_at hB65 hg215 (fun hlt => by rcases hSb with hq | hq; exact hq; omega)
         have hk219 := hk66.kept hg215 (by simp; omega)
         refine dk0 13 (v := pt b 0) h211 rfl rfl ⟨hB218, hk219⟩ fun a220 h220 => ?_; clear h211
         refine dk0 14 (v := pt b 1) h220 rfl rfl ⟨hB218, hk219⟩ fun a221 h221 => ?_; clear h220
         refine d1D 15 h221 rfl rfl (op_store1 rfl rfl rfl rfl Try.sizeOf3 hk213' rfl) ?_ ?_; clear h221
         ·
          rintro _ w223 ⟨hk224, hz225, hg226⟩
          have hk224' : Blk w223 b 137 #[.string k49, .int .i64 v50, .int .i64 d2, (ptT l), (ptT r)] := hk224; clear hk224
          have hz227 := hg226.size
          have hB228 := fbU_at hB218 hg226 (fun hlt => by rcases hSb with hq | hq; exact hq; omega)
          have hk229 := hk219.kept hg226 (by simp; omega)
          exact ⟨hB228, hk229⟩
         rintro _ w223 a222 ⟨hk224, hz225, hg226⟩ h222
         have hk224' : Blk w223 b 137 #[.string k49, .int .i64 v50, .int .i64 d2, (ptT l), (ptT r)] := hk224; clear hk224
         have hz227 := hg226.size
         refine dr_done (by kernel_rfl) ?_
         refine co_then ?_
         refine dr_gen (fun x => But (fun q => q ∈ bk (Tm.nd b l k2 v2 d2 r)) w x) (by kernel_rfl) (fun w228 hg229 => ?_) (fun w228 hg229 => ?_)
         ·
          have hz230 := hg229.size
          have hB231 := fbU_at hB218 hg226 (fun hlt => by rcases hSb with hq | hq; exact hq; omega)
          have hB232 := fbU_new hB231 hg229
          exact hB232
         have hz233 := hg229.size
         have hB234 := fbU_at hB218 hg226 (fun hlt => by rcases hSb with hq | hq; exact hq; omega)
         have hB235 := fbU_new hB234 hg229
         refine dk0 0 (v := pt b 0) h222 rfl rfl hB235 fun a236 h236 => ?_; clear h222
         refine dk0 1 (v := pt b 0) h236 rfl rfl hB235 fun a237 h237 => ?_; clear h236
         refine dk0 2 (v := pt b 0) h237 rfl rfl hB235 fun a238 h238 => ?_; clear h237
         refine dk0 3 (v := pt b 4) h238 rfl rfl hB235 fun a239 h239 => ?_; clear h238
         refine dk0 5 (v := pt c48 0) h239 rfl rfl hB235 fun a240 h240 => ?_; clear h239
         refine dk0 6 (v := pt c48 0) h240 rfl rfl hB235 fun a241 h241 => ?_; clear h240
         refine dk0 7 (v := pt c48 0) h241 rfl rfl hB235 fun a242 h242 => ?_; clear h241
         refine dr_many [4, 8] (by kernel_rfl) (by simp) ⟨?_, ?_, trivial⟩
         ·
          have hk243 := hk224'.kept hg229 (by simp)
          refine dr_opVal (i := 4) (v := (ptT r)) h242 rfl rfl rfl rfl (by kernel_rfl) rfl (rn_load1 rfl rfl Try.isAgg49 (hk243.cell rfl)) hB235 (fun a244 h244 => ?_); clear h242
          refine dr_many [8] (by kernel_rfl) (by simp) ⟨?_, trivial⟩
          ·
           have hk245 := hk219.kept hg226 (by simp; omega)
           have hk246 := hk245.kept hg229 (by simp)
           refine dr_opVal (i := 8) (v := .string k49) h244 rfl rfl rfl rfl (by kernel_rfl) rfl (rn_load1 rfl rfl Try.isAgg9 (hk246.cell rfl)) hB235 (fun a247 h247 => ?_); clear h244
           have hT250 := hl.gr hg60 (fun q e => by cases e)
           have hT251 := hT250.gr hg215 (fun q e => by cases e; exact n1)
           have hT252 := hT251.gr hg226 (fun q e => by cases e; exact n1)
           have hT253 := hT252.gr hg229 (fun q e => by cases e)
           have hT254 := hr.gr hg60 (fun q e => by cases e)
           have hT255 := hT254.gr hg215 (fun q e => by cases e; exact n2)
           have hT256 := hT255.gr hg226 (fun q e => by cases e; exact n2)
           have hT257 := hT256.gr hg229 (fun q e => by cases e)
           refine d1 9 h247 rfl rfl (op_call (args := #[(ptT r), .string k49]) (R := fun res xw => res = .tuple #[ptT (delT r k49), .bool (hasT r k49)] ∧ TreeAt xw (delT r k49) ∧ But (fun q => q ∈ bk r) w228 xw) rfl rfl rfl (by kernel_rfl) (by kernel_rfl) (Try.call67 _ _) (ihr k49 w228 hT257 n4 a2 (by omega)) (by rintro e x ⟨rfl, h1, h3⟩; exact ⟨_, rfl, rfl, h1, h3⟩)) ?_ ?_; clear h247
           ·
            rintro _ w249 ⟨rfl, hT258, hb259⟩
            have av260 := del_avl r k49 a2; have mb261 := del_bk r k49 a2 n4; have sz262 := del_sz r k49 a2
            have hB263 := fbU_foot hB235 hb259 (fun i hi hS => by simp only [bk, List.mem_cons, List.mem_append]; exact .inr (.inr hS))
            have hz264 := hb259.size
            exact hB263
           rintro _ w249 a248 ⟨rfl, hT258, hb259⟩ h248
           have av260 := del_avl r k49 a2; have mb261 := del_bk r k49 a2 n4; have sz262 := del_sz r k49 a2
           have hB263 := fbU_foot hB235 hb259 (fun i hi hS => by simp only [bk, List.mem_cons, List.mem_append]; exact .inr (.inr hS))
           have hz264 := hb259.size
           refine dk0 10 (v := .tuple #[(ptT (delT r k49)), .bool (hasT r k49)]) h248 rfl rfl hB263 fun a265 h265 => ?_; clear h248
           refine dk0 11 (v := (ptT (delT r k49))) h265 rfl rfl hB263 fun a266 h266 => ?_; clear h265
           refine dk0 12 (v := .bool (hasT r k49)) h266 rfl rfl hB263 fun a267 h267 => ?_; clear h266
           refine dk0 13 (v := pt b 0) h267 rfl rfl hB263 fun a268 h268 => ?_; clear h267
           refine dk0 14 (v := pt b 4) h268 rfl rfl hB263 fun a269 h269 => ?_; clear h268
           have hk275 := Blk.butS hk243 hb259 (fun hq => absurd hq n2)
           refine d1D 15 h269 rfl rfl (op_store1 rfl rfl rfl (ptT_one _) Try.sizeOf49 hk275 rfl) ?_ ?_; clear h269
           ·
            rintro _ w271 ⟨hk272, hz273, hg274⟩
            have hk272' : Blk w271 b 137 #[.string k49, .int .i64 v50, .int .i64 d2, (ptT l), (ptT (delT r k49))] := hk272; clear hk272
            have hz276 := hg274.size
            have hB277 := fbU_at hB263 hg274 (fun hlt => by rcases hSb with hq | hq; exact hq; omega)
            exact hB277
           rintro _ w271 a270 ⟨hk272, hz273, hg274⟩ h270
           have hk272' : Blk w271 b 137 #[.string k49, .int .i64 v50, .int .i64 d2, (ptT l), (ptT (delT r k49))] := hk272; clear hk272
           have hz276 := hg274.size
           refine dr_done (by kernel_rfl) ?_
           refine co_blockN ?_
           refine co_then ?_
           refine co_seq ?_
           refine co_reg ?_
           refine pk0 (v := pt b 0) h270 rfl fun a277 h277 => ?_; clear h270
           have hB280 := fbU_at hB263 hg274 (fun hlt => by rcases hSb with hq | hq; exact hq; omega)
           have hT281 := TreeAt.but hT253 hb259 (fun q hq => (n5 q hq))
           have hT282 := hT281.gr hg274 (fun q e => by cases e; exact n1)
           have hT283 := hT258.gr hg274 (fun q e => by cases e; exact (fun hq => n2 (mb261.1 _ hq)))
           refine pw h277 rfl (op_call (args := #[pt b 0]) (R := fun res xw => res = ptT (balT (Tm.nd b l k49 v50 d2 (delT r k49))) ∧ TreeAt xw (balT (Tm.nd b l k49 v50 d2 (delT r k49))) ∧ But (fun q => q ∈ bk (Tm.nd b l k49 v50 d2 (delT r k49))) w271 xw) rfl rfl rfl (by kernel_rfl) (by kernel_rfl) (Try.call102 _ _) (balance_any b l k49 v50 d2 (delT r k49) w271 ⟨hk272', hT282, hT283⟩ (nd_ap' n1 (fun hq => n2 (mb261.1 _ hq)) n3 mb261.2 (dis_symm (fun q hq => (dis_symm n5) q (mb261.1 q hq)))) a1 av260.1 (by omega) (by omega)) (by rintro e x ⟨rfl, h1, h2⟩; exact ⟨_, rfl, rfl, h1, h2⟩)) ?_; clear h277
           rintro _ w279 a278 ⟨rfl, hT284, hb285⟩ h278
           have hB286 := fbU_foot hB280 hb285 (fun i hi hS => by simp only [bk, List.mem_cons, List.mem_append] at hS ⊢; rcases hS with h | h | h; exact .inl h; exact .inr (.inl h); exact .inr (.inr (mb261.1 _ h)))
           have hz287 := hb285.size
           refine pk0 (v := .bool true) h278 rfl fun a288 h288 => ?_; clear h278
           refine pk0 (v := (ptT (balT (Tm.nd b l k49 v50 d2 (delT r k49))))) h288 rfl fun a289 h289 => ?_; clear h288
           refine pk0 (v := .bool true) h289 rfl fun a290 h290 => ?_; clear h289
           refine pl_nil ?_
           refine co_then ?_
           refine wp_ret ?_
           refine co_ret2 h290 rfl rfl rfl ?_
           have q1 : klt k k2 = false := hc19; have q2 := klt_gt hc27
           have q3 := delT_e3 (b := b) (v' := v2) (d := d2) q1 q2 hc34 hc41; rw [hlm54] at q3
           exact ⟨by rw [q3, hasT_e q1 q2], by rw [q3]; exact hT284, hB286⟩
         ·
          have hk291 := hk219.kept hg226 (by simp; omega)
          have hk292 := hk291.kept hg229 (by simp)
          refine dr_opVal (i := 8) (v := .string k49) h242 rfl rfl rfl rfl (by kernel_rfl) rfl (rn_load1 rfl rfl Try.isAgg9 (hk292.cell rfl)) hB235 (fun a293 h293 => ?_); clear h242
          refine dr_many [4] (by kernel_rfl) (by simp) ⟨?_, trivial⟩
          ·
           have hk294 := hk224'.kept hg229 (by simp)
           refine dr_opVal (i := 4) (v := (ptT r)) h293 rfl rfl rfl rfl (by kernel_rfl) rfl (rn_load1 rfl rfl Try.isAgg49 (hk294.cell rfl)) hB235 (fun a295 h295 => ?_); clear h293
           have hT298 := hl.gr hg60 (fun q e => by cases e)
           have hT299 := hT298.gr hg215 (fun q e => by cases e; exact n1)
           have hT300 := hT299.gr hg226 (fun q e => by cases e; exact n1)
           have hT301 := hT300.gr hg229 (fun q e => by cases e)
           have hT302 := hr.gr hg60 (fun q e => by cases e)
           have hT303 := hT302.gr hg215 (fun q e => by cases e; exact n2)
           have hT304 := hT303.gr hg226 (fun q e => by cases e; exact n2)
           have hT305 := hT304.gr hg229 (fun q e => by cases e)
           refine d1 9 h295 rfl rfl (op_call (args := #[(ptT r), .string k49]) (R := fun res xw => res = .tuple #[ptT (delT r k49), .bool (hasT r k49)] ∧ TreeAt xw (delT r k49) ∧ But (fun q => q ∈ bk r) w228 xw) rfl rfl rfl (by kernel_rfl) (by kernel_rfl) (Try.call67 _ _) (ihr k49 w228 hT305 n4 a2 (by omega)) (by rintro e x ⟨rfl, h1, h3⟩; exact ⟨_, rfl, rfl, h1, h3⟩)) ?_ ?_; clear h295
           ·
            rintro _ w297 ⟨rfl, hT306, hb307⟩
            have av308 := del_avl r k49 a2; have mb309 := del_bk r k49 a2 n4; have sz310 := del_sz r k49 a2
            have hB311 := fbU_foot hB235 hb307 (fun i hi hS => by simp only [bk, List.mem_cons, List.mem_append]; exact .inr (.inr hS))
            have hz312 := hb307.size
            exact hB311
           rintro _ w297 a296 ⟨rfl, hT306, hb307⟩ h296
           have av308 := del_avl r k49 a2; have mb309 := del_bk r k49 a2 n4; have sz310 := del_sz r k49 a2
           have hB311 := fbU_foot hB235 hb307 (fun i hi hS => by simp only [bk, List.mem_cons, List.mem_append]; exact .inr (.inr hS))
           have hz312 := hb307.size
           refine dk0 10 (v := .tuple #[(ptT (delT r k49)), .bool (hasT r k49)]) h296 rfl rfl hB311 fun a313 h313 => ?_; clear h296
           refine dk0 11 (v := (ptT (delT r k49))) h313 rfl rfl hB311 fun a314 h314 => ?_; clear h313
           refine dk0 12 (v := .bool (hasT r k49)) h314 rfl rfl hB311 fun a315 h315 => ?_; clear h314
           refine dk0 13 (v := pt b 0) h315 rfl rfl hB311 fun a316 h316 => ?_; clear h315
           refine dk0 14 (v := pt b 4) h316 rfl rfl hB311 fun a317 h317 => ?_; clear h316
           have hk323 := Blk.butS hk294 hb307 (fun hq => absurd hq n2)
           refine d1D 15 h317 rfl rfl (op_store1 rfl rfl rfl (ptT_one _) Try.sizeOf49 hk323 rfl) ?_ ?_; clear h317
           ·
            rintro _ w319 ⟨hk320, hz321, hg322⟩
            have hk320' : Blk w319 b 137 #[.string k49, .int .i64 v50, .int .i64 d2, (ptT l), (ptT (delT r k49))] := hk320; clear hk320
            have hz324 := hg322.size
            have hB325 := fbU_at hB311 hg322 (fun hlt => by rcases hSb with hq | hq; exact hq; omega)
            exact hB325
           rintro _ w319 a318 ⟨hk320, hz321, hg322⟩ h318
           have hk320' : Blk w319 b 137 #[.string k49, .int .i64 v50, .int .i64 d2, (ptT l), (ptT (delT r k49))] := hk320; clear hk320
           have hz324 := hg322.size
           refine dr_done (by kernel_rfl) ?_
           refine co_blockN ?_
           refine co_then ?_
           refine co_seq ?_
           refine co_reg ?_
           refine pk0 (v := pt b 0) h318 rfl fun a325 h325 => ?_; clear h318
           have hB328 := fbU_at hB311 hg322 (fun hlt => by rcases hSb with hq | hq; exact hq; omega)
           have hT329 := TreeAt.but hT301 hb307 (fun q hq => (n5 q hq))
           have hT330 := hT329.gr hg322 (fun q e => by cases e; exact n1)
           have hT331 := hT306.gr hg322 (fun q e => by cases e; exact (fun hq => n2 (mb309.1 _ hq)))
           refine pw h325 rfl (op_call (args := #[pt b 0]) (R := fun res xw => res = ptT (balT (Tm.nd b l k49 v50 d2 (delT r k49))) ∧ TreeAt xw (balT (Tm.nd b l k49 v50 d2 (delT r k49))) ∧ But (fun q => q ∈ bk (Tm.nd b l k49 v50 d2 (delT r k49))) w319 xw) rfl rfl rfl (by kernel_rfl) (by kernel_rfl) (Try.call102 _ _) (balance_any b l k49 v50 d2 (delT r k49) w319 ⟨hk320', hT330, hT331⟩ (nd_ap' n1 (fun hq => n2 (mb309.1 _ hq)) n3 mb309.2 (dis_symm (fun q hq => (dis_symm n5) q (mb309.1 q hq)))) a1 av308.1 (by omega) (by omega)) (by rintro e x ⟨rfl, h1, h2⟩; exact ⟨_, rfl, rfl, h1, h2⟩)) ?_; clear h325
           rintro _ w327 a326 ⟨rfl, hT332, hb333⟩ h326
           have hB334 := fbU_foot hB328 hb333 (fun i hi hS => by simp only [bk, List.mem_cons, List.mem_append] at hS ⊢; rcases hS with h | h | h; exact .inl h; exact .inr (.inl h); exact .inr (.inr (mb309.1 _ h)))
           have hz335 := hb333.size
           refine pk0 (v := .bool true) h326 rfl fun a336 h336 => ?_; clear h326
           refine pk0 (v := (ptT (balT (Tm.nd b l k49 v50 d2 (delT r k49))))) h336 rfl fun a337 h337 => ?_; clear h336
           refine pk0 (v := .bool true) h337 rfl fun a338 h338 => ?_; clear h337
           refine pl_nil ?_
           refine co_then ?_
           refine wp_ret ?_
           refine co_ret2 h338 rfl rfl rfl ?_
           have q1 : klt k k2 = false := hc19; have q2 := klt_gt hc27
           have q3 := delT_e3 (b := b) (v' := v2) (d := d2) q1 q2 hc34 hc41; rw [hlm54] at q3
           exact ⟨by rw [q3, hasT_e q1 q2], by rw [q3]; exact hT332, hB334⟩
      ·
       rw [hc41] at h40
       refine co_true h40 rfl ?_
       refine co_seq ?_
       refine co_reg ?_
       refine pk0 (v := pt b 0) h40 rfl fun a339 h339 => ?_; clear h40
       refine pk0 (v := pt b 0) h339 rfl fun a340 h340 => ?_; clear h339
       refine pk0 (v := pt b 3) h340 rfl fun a341 h341 => ?_; clear h340
       refine pk (v := (ptT l)) h341 rfl (rn_load1 rfl rfl Try.isAgg49 (hB.cell rfl)) fun a342 h342 => ?_; clear h341
       refine pk0 (v := (ptT l)) h342 rfl fun a343 h343 => ?_; clear h342
       refine pk0 (v := .bool true) h343 rfl fun a344 h344 => ?_; clear h343
       refine pl_nil ?_
       refine co_then ?_
       refine wp_ret ?_
       refine co_blockR ?_
       refine co_thenR ?_
       refine co_ret2 h344 rfl rfl rfl ?_
       have q1 : klt k k2 = false := hc19; have q2 := klt_gt hc27
       have q3 := delT_e2 (b := b) (v' := v2) (d := d2) q1 q2 hc34 hc41
       exact ⟨by rw [q3, hasT_e q1 q2], by rw [q3]; exact hl, hB0⟩
     ·
      rw [hc34] at h33
      refine co_true h33 rfl ?_
      refine co_seq ?_
      refine co_reg ?_
      refine pk0 (v := pt b 0) h33 rfl fun a345 h345 => ?_; clear h33
      refine pk0 (v := pt b 0) h345 rfl fun a346 h346 => ?_; clear h345
      refine pk0 (v := pt b 4) h346 rfl fun a347 h347 => ?_; clear h346
      refine pk (v := (ptT r)) h347 rfl (rn_load1 rfl rfl Try.isAgg49 (hB.cell rfl)) fun a348 h348 => ?_; clear h347
      refine pk0 (v := (ptT r)) h348 rfl fun a349 h349 => ?_; clear h348
      refine pk0 (v := .bool true) h349 rfl fun a350 h350 => ?_; clear h349
      refine pl_nil ?_
      refine co_then ?_
      refine wp_ret ?_
      refine co_blockR ?_
      refine co_thenR ?_
      refine co_ret2 h350 rfl rfl rfl ?_
      have q1 : klt k k2 = false := hc19; have q2 := klt_gt hc27
      have q3 := delT_e1 (b := b) (v' := v2) (d := d2) (r := r) q1 q2 hc34
      exact ⟨by rw [q3, hasT_e q1 q2], by rw [q3]; exact hr, hB0⟩
    ·
     rw [hc27] at h26
     refine co_true h26 rfl ?_
     refine co_reg ?_
     refine pk0 (v := pt b 0) h26 rfl fun a351 h351 => ?_; clear h26
     refine pk0 (v := pt b 0) h351 rfl fun a352 h352 => ?_; clear h351
     refine pk0 (v := pt b 0) h352 rfl fun a353 h353 => ?_; clear h352
     refine pk0 (v := pt b 4) h353 rfl fun a354 h354 => ?_; clear h353
     refine pk (v := (ptT r)) h354 rfl (rn_load1 rfl rfl Try.isAgg49 (hB.cell rfl)) fun a355 h355 => ?_; clear h354
     refine pk0 (v := .string k) h355 rfl fun a356 h356 => ?_; clear h355
     refine pw h356 rfl (op_call (args := #[(ptT r), .string k]) (R := fun res xw => res = .tuple #[ptT (delT r k), .bool (hasT r k)] ∧ TreeAt xw (delT r k) ∧ But (fun q => q ∈ bk r) w xw) rfl rfl rfl (by kernel_rfl) (by kernel_rfl) (Try.call67 _ _) (ihr k w hr n4 a2 (by omega)) (by rintro e x ⟨rfl, h1, h3⟩; exact ⟨_, rfl, rfl, h1, h3⟩)) ?_; clear h356
     rintro _ w358 a357 ⟨rfl, hT359, hb360⟩ h357
     have av361 := del_avl r k a2; have mb362 := del_bk r k a2 n4; have sz363 := del_sz r k a2
     have hB364 := fbU_foot hB0 hb360 (fun i hi hS => by simp only [bk, List.mem_cons, List.mem_append]; exact .inr (.inr hS))
     have hz365 := hb360.size
     refine pk0 (v := .tuple #[(ptT (delT r k)), .bool (hasT r k)]) h357 rfl fun a366 h366 => ?_; clear h357
     refine pk0 (v := (ptT (delT r k))) h366 rfl fun a367 h367 => ?_; clear h366
     refine pk0 (v := .bool (hasT r k)) h367 rfl fun a368 h368 => ?_; clear h367
     refine pk0 (v := pt b 0) h368 rfl fun a369 h369 => ?_; clear h368
     refine pk0 (v := pt b 4) h369 rfl fun a370 h370 => ?_; clear h369
     have hk376 := Blk.butS hB hb360 (fun hq => absurd hq n2)
     refine pwD h370 rfl (op_store1 rfl rfl rfl (ptT_one _) Try.sizeOf49 hk376 rfl) ?_; clear h370
     rintro _ w372 a371 ⟨hk373, hz374, hg375⟩ h371
     have hk373' : Blk w372 b 137 #[.string k2, .int .i64 v2, .int .i64 d2, (ptT l), (ptT (delT r k))] := hk373; clear hk373
     have hz377 := hg375.size
     refine pk0 (v := .bool (hasT r k)) h371 rfl fun a378 h378 => ?_; clear h371
     refine pl_nil ?_
     refine co_blockN ?_
     refine co_then ?_
     refine co_seq ?_
     refine co_reg ?_
     refine pk0 (v := pt b 0) h378 rfl fun a379 h379 => ?_; clear h378
     have hB382 := fbU_at hB364 hg375 (fun hlt => by rcases hSb with hq | hq; exact hq; omega)
     have hT383 := TreeAt.but hl hb360 (fun q hq => (n5 q hq))
     have hT384 := hT383.gr hg375 (fun q e => by cases e; exact n1)
     have hT385 := hT359.gr hg375 (fun q e => by cases e; exact (fun hq => n2 (mb362.1 _ hq)))
     refine pw h379 rfl (op_call (args := #[pt b 0]) (R := fun res xw => res = ptT (balT (Tm.nd b l k2 v2 d2 (delT r k))) ∧ TreeAt xw (balT (Tm.nd b l k2 v2 d2 (delT r k))) ∧ But (fun q => q ∈ bk (Tm.nd b l k2 v2 d2 (delT r k))) w372 xw) rfl rfl rfl (by kernel_rfl) (by kernel_rfl) (Try.call102 _ _) (balance_any b l k2 v2 d2 (delT r k) w372 ⟨hk373', hT384, hT385⟩ (nd_ap' n1 (fun hq => n2 (mb362.1 _ hq)) n3 mb362.2 (dis_symm (fun q hq => (dis_symm n5) q (mb362.1 q hq)))) a1 av361.1 (by omega) (by omega)) (by rintro e x ⟨rfl, h1, h2⟩; exact ⟨_, rfl, rfl, h1, h2⟩)) ?_; clear h379
     rintro _ w381 a380 ⟨rfl, hT386, hb387⟩ h380
     have hB388 := fbU_foot hB382 hb387 (fun i hi hS => by simp only [bk, List.mem_cons, List.mem_append] at hS ⊢; rcases hS with h | h | h; exact .inl h; exact .inr (.inl h); exact .inr (.inr (mb362.1 _ h)))
     have hz389 := hb387.size
     refine pk0 (v := .bool (hasT r k)) h380 rfl fun a390 h390 => ?_; clear h380
     refine pk0 (v := (ptT (balT (Tm.nd b l k2 v2 d2 (delT r k))))) h390 rfl fun a391 h391 => ?_; clear h390
     refine pk0 (v := .bool (hasT r k)) h391 rfl fun a392 h392 => ?_; clear h391
     refine pl_nil ?_
     refine co_then ?_
     refine wp_ret ?_
     refine co_ret2 h392 rfl rfl rfl ?_
     have q1 : klt k k2 = false := hc19; have q2 := klt_gt hc27
     exact ⟨by rw [delT_r q1 q2, hasT_r q1 q2], by rw [delT_r q1 q2]; exact hT386, hB388⟩
   ·
    rw [hc19] at h18
    refine co_true h18 rfl ?_
    refine co_reg ?_
    refine pk0 (v := pt b 0) h18 rfl fun a393 h393 => ?_; clear h18
    refine pk0 (v := pt b 0) h393 rfl fun a394 h394 => ?_; clear h393
    refine pk0 (v := pt b 0) h394 rfl fun a395 h395 => ?_; clear h394
    refine pk0 (v := pt b 3) h395 rfl fun a396 h396 => ?_; clear h395
    refine pk (v := (ptT l)) h396 rfl (rn_load1 rfl rfl Try.isAgg49 (hB.cell rfl)) fun a397 h397 => ?_; clear h396
    refine pk0 (v := .string k) h397 rfl fun a398 h398 => ?_; clear h397
    refine pw h398 rfl (op_call (args := #[(ptT l), .string k]) (R := fun res xw => res = .tuple #[ptT (delT l k), .bool (hasT l k)] ∧ TreeAt xw (delT l k) ∧ But (fun q => q ∈ bk l) w xw) rfl rfl rfl (by kernel_rfl) (by kernel_rfl) (Try.call67 _ _) (ihl k w hl n3 a1 (by omega)) (by rintro e x ⟨rfl, h1, h3⟩; exact ⟨_, rfl, rfl, h1, h3⟩)) ?_; clear h398
    rintro _ w400 a399 ⟨rfl, hT401, hb402⟩ h399
    have av403 := del_avl l k a1; have mb404 := del_bk l k a1 n3; have sz405 := del_sz l k a1
    have hB406 := fbU_foot hB0 hb402 (fun i hi hS => by simp only [bk, List.mem_cons, List.mem_append]; exact .inr (.inl hS))
    have hz407 := hb402.size
    refine pk0 (v := .tuple #[(ptT (delT l k)), .bool (hasT l k)]) h399 rfl fun a408 h408 => ?_; clear h399
    refine pk0 (v := (ptT (delT l k))) h408 rfl fun a409 h409 => ?_; clear h408
    refine pk0 (v := .bool (hasT l k)) h409 rfl fun a410 h410 => ?_; clear h409
    refine pk0 (v := pt b 0) h410 rfl fun a411 h411 => ?_; clear h410
    refine pk0 (v := pt b 3) h411 rfl fun a412 h412 => ?_; clear h411
    have hk418 := Blk.butS hB hb402 (fun hq => absurd hq n1)
    refine pwD h412 rfl (op_store1 rfl rfl rfl (ptT_one _) Try.sizeOf49 hk418 rfl) ?_; clear h412
    rintro _ w414 a413 ⟨hk415, hz416, hg417⟩ h413
    have hk415' : Blk w414 b 137 #[.string k2, .int .i64 v2, .int .i64 d2, (ptT (delT l k)), (ptT r)] := hk415; clear hk415
    have hz419 := hg417.size
    refine pk0 (v := .bool (hasT l k)) h413 rfl fun a420 h420 => ?_; clear h413
    refine pl_nil ?_
    refine co_blockN ?_
    refine co_then ?_
    refine co_seq ?_
    refine co_reg ?_
    refine pk0 (v := pt b 0) h420 rfl fun a421 h421 => ?_; clear h420
    have hB424 := fbU_at hB406 hg417 (fun hlt => by rcases hSb with hq | hq; exact hq; omega)
    have hT425 := TreeAt.but hr hb402 (fun q hq => ((dis_symm n5) q hq))
    have hT426 := hT425.gr hg417 (fun q e => by cases e; exact n2)
    have hT427 := hT401.gr hg417 (fun q e => by cases e; exact (fun hq => n1 (mb404.1 _ hq)))
    refine pw h421 rfl (op_call (args := #[pt b 0]) (R := fun res xw => res = ptT (balT (Tm.nd b (delT l k) k2 v2 d2 r)) ∧ TreeAt xw (balT (Tm.nd b (delT l k) k2 v2 d2 r)) ∧ But (fun q => q ∈ bk (Tm.nd b (delT l k) k2 v2 d2 r)) w414 xw) rfl rfl rfl (by kernel_rfl) (by kernel_rfl) (Try.call102 _ _) (balance_any b (delT l k) k2 v2 d2 r w414 ⟨hk415', hT427, hT426⟩ (nd_ap' (fun hq => n1 (mb404.1 _ hq)) n2 mb404.2 n4 (fun q hq => n5 q (mb404.1 q hq))) av403.1 a2 (by omega) (by omega)) (by rintro e x ⟨rfl, h1, h2⟩; exact ⟨_, rfl, rfl, h1, h2⟩)) ?_; clear h421
    rintro _ w423 a422 ⟨rfl, hT428, hb429⟩ h422
    have hB430 := fbU_foot hB424 hb429 (fun i hi hS => by simp only [bk, List.mem_cons, List.mem_append] at hS ⊢; rcases hS with h | h | h; exact .inl h; exact .inr (.inl (mb404.1 _ h)); exact .inr (.inr h))
    have hz431 := hb429.size
    refine pk0 (v := .bool (hasT l k)) h422 rfl fun a432 h432 => ?_; clear h422
    refine pk0 (v := (ptT (balT (Tm.nd b (delT l k) k2 v2 d2 r)))) h432 rfl fun a433 h433 => ?_; clear h432
    refine pk0 (v := .bool (hasT l k)) h433 rfl fun a434 h434 => ?_; clear h433
    refine pl_nil ?_
    refine co_then ?_
    refine wp_ret ?_
    refine co_ret2 h434 rfl rfl rfl ?_
    have q1 : klt k k2 = true := hc19
    exact ⟨by rw [delT_l q1, hasT_l q1], by rw [delT_l q1]; exact hT428, hB430⟩
end Go.Proofs.Ythmljllgfigebaa
