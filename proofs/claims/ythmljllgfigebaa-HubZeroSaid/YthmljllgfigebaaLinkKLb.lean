/- The document's link: Out. Conditions: none. -/
import Derived.Test.YthmljllgfigebaaLinkFLb
namespace Go.Proofs.Ythmljllgfigebaa
open Go.RowKit Go.PlainAid
set_option linter.unusedVariables false


theorem LkU.same2 {T : TypeId} {S : Nat → Prop} {w x : World} {b : Nat} {u : Value} {L L' : LnT} (h : LkU T S w b u L) (hk : Blk x b T (lnC L' u)) {B : Nat} (hr : x.ownsRow B 9 1 u L.q.length (L.q.flatMap strE)) (hq : L'.q = L.q) (hok : LnOk L') (hb : But S w x) : LkU T S x b u L' ∧ Grew S S w x := ⟨⟨hk, ⟨B, by rw [hq]; exact hr⟩, h.2.2.1, h.2.2.2.1, hok⟩, fun q h => .inl h, hb⟩
theorem segE_len (s : SegT) : (segE s).length = 8 := rfl
theorem segE_one (s : SegT) : ∀ u ∈ segE s, u.oneCell' = true := by intro u hu; simp [segE] at hu; rcases hu with rfl | rfl | rfl | rfl | rfl | rfl | rfl | rfl <;> rfl
theorem outsL_no {L : LnT} {F k : Nat} (h : k < F) : outsL L F k = outsL L F (k + 1) := by unfold outsL eachL; rw [show k - F = 0 by omega, show k + 1 - F = 0 by omega]
theorem outsL_yes {L : LnT} {F k : Nat} {y : ByteArray} (h : F ≤ k) (hy : L.q[k]? = some y) : outsL L F k ++ [SegT.mk L.boot L.stream (L.first + (k : Int)) L.peer L.in0 L.next true y] = outsL L F (k + 1) := by
  unfold outsL eachL
  rw [show k + 1 - F = (k - F) + 1 by omega, List.range'_1_concat, List.map_append, List.map_append]
  have e : L.q.getD (F + (k - F)) ⟨#[]⟩ = y := by rw [List.getD_eq_getElem?_getD, show F + (k - F) = k by omega, hy]; rfl
  simp only [List.map_cons, List.map_nil, LnT.seg, e]
  rw [show ((F + (k - F) : Nat) : Int) = (k : Int) by omega]
theorem outsL_len (L : LnT) (F k : Nat) : (outsL L F k).length = k - F := by unfold outsL eachL; simp
theorem outs_a {L : LnT} {b : Bool} {F k : Nat} (hF : F = L.fr b) (hk : k = L.to) (h : F < k) : outsL L F k = outT L b := by unfold outT segsL; rw [if_neg (by omega), hk, hF]
theorem outs_b {L : LnT} {b : Bool} {F k : Nat} (hF : F = L.fr b) (hk : k = L.to) (h : k ≤ F) (ho : L.owes = false) : outsL L F k = outT L b := by
  unfold outT segsL; rw [if_pos (by omega), if_neg (by simp [ho])]; exact List.eq_nil_of_length_eq_zero (by rw [outsL_len]; omega)
theorem outs_c {L : LnT} {b : Bool} {F k : Nat} (hF : F = L.fr b) (hk : k = L.to) (h : k ≤ F) (ho : L.owes = true) : outsL L F k ++ [SegT.mk L.boot L.stream L.first L.peer L.in0 L.next false ⟨#[]⟩] = outT L b := by
  unfold outT segsL; rw [if_pos (by omega), if_pos ho, List.eq_nil_of_length_eq_zero (l := outsL L F k) (by rw [outsL_len]; omega)]; rfl

set_option maxRecDepth 100000 in
set_option maxHeartbeats 3200000 in
theorem rlOut_any (S : Nat → Prop) (b : Nat) (u : Value) (L : LnT) (again : Bool) (F : Nat) (w : World) (hU : LkU 74 S w b u L) (hF : F = L.fr again) :
    Calls Try.prog 38 #[pt b 0, .bool again] w fun e w' => ∃ (v : Value), e = .returned (v) ∧ (LkU 74 S w' b u (outN L) ∧ Grew S S w w') ∧ w'.ownsRow w.heap.size 61 8 v (outT L again).length ((outT L again).flatMap segE) ∧ But (S) w w' := by
 have hB0 := But.refl (S) w
 obtain ⟨hB, ⟨B0, hR⟩, hSS, hbu, hok⟩ := id hU
 have hB : Blk w b 74 #[.int .i64 L.boot, .int .i64 L.stream, .int .i64 L.first, u, .int .i64 L.told, .int .i64 L.peer, .int .i64 L.in0, .int .i64 L.next, .bool L.owes] := hB
 have hl_B := hB.lt
 have hR := row_lows hR (Nat.zero_le _)
 have hsb : S b := (hSS b).2 (.inl rfl)
 have hSb : S b ∨ w.heap.size ≤ b := .inl hsb
 obtain ⟨⟨k1, k2⟩, ⟨k3, k4⟩, ⟨k5, k6⟩, ⟨k7, k8⟩, ⟨k9, k10⟩, ⟨k11, k12⟩, ⟨k13, k14⟩, k15, k16⟩ := id hok
 cases again
 · skip
   have hF0 : (F : Int) = L.told := by rw [hF]; unfold LnT.fr; simp; omega
   refine co_enter (n := 108) Try.func38 rfl rfl rfl [(0, pt b 0), (1, .bool false)] rfl (fun a h0 => ?_)
   refine co_seq ?_
   refine co_reg ?_
   refine pk0 (v := .slice none 0 0) h0 rfl fun a1 h1 => ?_; clear h0
   refine pl_nil ?_
   refine co_then ?_
   refine co_seq ?_
   refine co_reg ?_
   refine pk0 (v := .slice none 0 0) h1 rfl fun a2 h2 => ?_; clear h1
   refine pl_nil ?_
   refine co_then ?_
   refine co_seq ?_
   refine dr_gen (fun x => But (S) w x ∧ Blk x b 74 #[.int .i64 L.boot, .int .i64 L.stream, .int .i64 L.first, u, .int .i64 L.told, .int .i64 L.peer, .int .i64 L.in0, .int .i64 L.next, .bool L.owes]) (by kernel_rfl) (fun w3 hg4 => ?_) (fun w3 hg4 => ?_)
   ·
    have hz5 := hg4.size
    have hB6 := fbU_new hB0 hg4
    have hk7 := hB.kept hg4 (by simp)
    exact ⟨hB6, hk7⟩
   have hz8 := hg4.size
   have hB9 := fbU_new hB0 hg4
   have hk10 := hB.kept hg4 (by simp)
   refine dk0 0 (v := pt b 0) h2 rfl rfl ⟨hB9, hk10⟩ fun a11 h11 => ?_; clear h2
   refine dk0 1 (v := pt b 0) h11 rfl rfl ⟨hB9, hk10⟩ fun a12 h12 => ?_; clear h11
   refine dk0 2 (v := pt b 0) h12 rfl rfl ⟨hB9, hk10⟩ fun a13 h13 => ?_; clear h12
   refine dk 3 (v := .int .i64 L.boot) h13 rfl rfl ⟨hB9, hk10⟩ (fun x hx => (rn_load1 rfl rfl Try.isAgg3 (hx.2.cell rfl))) fun a14 h14 => ?_; clear h13
   refine dk0 4 (v := pt b 0) h14 rfl rfl ⟨hB9, hk10⟩ fun a15 h15 => ?_; clear h14
   refine dk0 5 (v := pt b 0) h15 rfl rfl ⟨hB9, hk10⟩ fun a16 h16 => ?_; clear h15
   refine dk0 6 (v := pt b 1) h16 rfl rfl ⟨hB9, hk10⟩ fun a17 h17 => ?_; clear h16
   refine dk 7 (v := .int .i64 L.stream) h17 rfl rfl ⟨hB9, hk10⟩ (fun x hx => (rn_load1 rfl rfl Try.isAgg3 (hx.2.cell rfl))) fun a18 h18 => ?_; clear h17
   refine dk0 8 (v := pt b 0) h18 rfl rfl ⟨hB9, hk10⟩ fun a19 h19 => ?_; clear h18
   refine dk0 9 (v := pt b 0) h19 rfl rfl ⟨hB9, hk10⟩ fun a20 h20 => ?_; clear h19
   refine dk0 10 (v := pt b 2) h20 rfl rfl ⟨hB9, hk10⟩ fun a21 h21 => ?_; clear h20
   refine dk 11 (v := .int .i64 L.first) h21 rfl rfl ⟨hB9, hk10⟩ (fun x hx => (rn_load1 rfl rfl Try.isAgg3 (hx.2.cell rfl))) fun a22 h22 => ?_; clear h21
   refine dk0 12 (v := pt b 0) h22 rfl rfl ⟨hB9, hk10⟩ fun a23 h23 => ?_; clear h22
   refine dk0 13 (v := pt b 0) h23 rfl rfl ⟨hB9, hk10⟩ fun a24 h24 => ?_; clear h23
   refine dk0 14 (v := pt b 5) h24 rfl rfl ⟨hB9, hk10⟩ fun a25 h25 => ?_; clear h24
   refine dk 15 (v := .int .i64 L.peer) h25 rfl rfl ⟨hB9, hk10⟩ (fun x hx => (rn_load1 rfl rfl Try.isAgg3 (hx.2.cell rfl))) fun a26 h26 => ?_; clear h25
   refine dk0 16 (v := pt b 0) h26 rfl rfl ⟨hB9, hk10⟩ fun a27 h27 => ?_; clear h26
   refine dk0 17 (v := pt b 0) h27 rfl rfl ⟨hB9, hk10⟩ fun a28 h28 => ?_; clear h27
   refine dk0 18 (v := pt b 6) h28 rfl rfl ⟨hB9, hk10⟩ fun a29 h29 => ?_; clear h28
   refine dk 19 (v := .int .i64 L.in0) h29 rfl rfl ⟨hB9, hk10⟩ (fun x hx => (rn_load1 rfl rfl Try.isAgg3 (hx.2.cell rfl))) fun a30 h30 => ?_; clear h29
   refine dk0 20 (v := pt b 0) h30 rfl rfl ⟨hB9, hk10⟩ fun a31 h31 => ?_; clear h30
   refine dk0 21 (v := pt b 0) h31 rfl rfl ⟨hB9, hk10⟩ fun a32 h32 => ?_; clear h31
   refine dk0 22 (v := pt b 7) h32 rfl rfl ⟨hB9, hk10⟩ fun a33 h33 => ?_; clear h32
   refine dk 23 (v := .int .i64 L.next) h33 rfl rfl ⟨hB9, hk10⟩ (fun x hx => (rn_load1 rfl rfl Try.isAgg3 (hx.2.cell rfl))) fun a34 h34 => ?_; clear h33
   refine dk0 24 (v := .agg #[.int .i64 L.boot, .int .i64 L.stream, .int .i64 L.first, .int .i64 L.peer, .int .i64 L.in0, .int .i64 L.next, .bool false, .string (⟨#[]⟩)]) h34 rfl rfl ⟨hB9, hk10⟩ fun a35 h35 => ?_; clear h34
   refine d1 25 h35 rfl rfl (op_new (v := fun N => pt N 0) (T := 61) (cs := #[.int .i64 0, .int .i64 0, .int .i64 0, .int .i64 0, .int .i64 0, .int .i64 0, .bool false, .string (⟨#[]⟩)]) (by kernel_rfl) (by kernel_rfl) (by kernel_rfl)) ?_ ?_; clear h35
   ·
    rintro _ w37 ⟨N38, rfl, hN41, hz42, hk40, hg39⟩
    have hr44 := row_kept_new hR hg4
    have ha43 := row_fresh hr44 hN41
    have hu45 := row_under hr44 hN41
    have hz46 := hg39.size
    have hB47 := fbU_new hB9 hg39
    have hk48 := hk10.kept hg39 (by simp)
    exact ⟨hB47, hk48⟩
   rintro _ w37 a36 ⟨N38, rfl, hN41, hz42, hk40, hg39⟩ h36
   have hr44 := row_kept_new hR hg4
   have ha43 := row_fresh hr44 hN41
   have hu45 := row_under hr44 hN41
   have hz46 := hg39.size
   try dsimp only at h36
   have hB47 := fbU_new hB9 hg39
   have hk48 := hk10.kept hg39 (by simp)
   refine d1D 26 h36 rfl rfl (op_storeN rfl rfl rfl (by kernel_rfl) (by kernel_rfl) hk40 rfl) ?_ ?_; clear h36
   ·
    rintro _ w50 ⟨hk51, hz52, hg53⟩
    have hk51' : Blk w50 N38 61 #[.int .i64 L.boot, .int .i64 L.stream, .int .i64 L.first, .int .i64 L.peer, .int .i64 L.in0, .int .i64 L.next, .bool false, .string (⟨#[]⟩)] := hk51; clear hk51
    have hz54 := hg53.size
    have hB55 := fbU_at hB47 hg53 (fun hlt => absurd hlt (by omega))
    have hk56 := hk48.kept hg53 (by simp; omega)
    exact ⟨hB55, hk56⟩
   rintro _ w50 a49 ⟨hk51, hz52, hg53⟩ h49
   have hk51' : Blk w50 N38 61 #[.int .i64 L.boot, .int .i64 L.stream, .int .i64 L.first, .int .i64 L.peer, .int .i64 L.in0, .int .i64 L.next, .bool false, .string (⟨#[]⟩)] := hk51; clear hk51
   have hz54 := hg53.size
   refine dr_done (by kernel_rfl) ?_
   refine co_then ?_
   refine co_seq ?_
   refine co_seq ?_
   refine co_reg ?_
   refine pk0 (v := .int .i64 0) h49 rfl fun a55 h55 => ?_; clear h49
   refine pl_nil ?_
   refine co_then ?_
   refine wp_block ?_
   have h56 : Slots 108 [(0, pt b 0), (1, .bool false), (5, .slice none 0 0), (6, pt N38 0), (7, .int .i64 0)] _ := h55.sub ⟨rfl, rfl, rfl, rfl, rfl, trivial⟩; clear h55
   refine co_loop (fun mm a x => ∃ (k : Nat) (v : Value), Slots 108 [(0, pt b 0), (1, .bool false), (5, v), (6, pt N38 0), (7, .int .i64 ((k : Nat) : Int))] a ∧ mm = 4 - k ∧ (k ≤ L.q.length) ∧ (k ≤ 4) ∧ x.ownsRow 0 9 1 u L.q.length (L.q.flatMap strE) ∧ x.ownsRow (N38 + 1) 61 8 v (outsL L F k).length ((outsL L F k).flatMap segE) ∧ But (S) w x ∧ Blk x b 74 #[.int .i64 L.boot, .int .i64 L.stream, .int .i64 L.first, u, .int .i64 L.told, .int .i64 L.peer, .int .i64 L.in0, .int .i64 L.next, .bool L.owes] ∧ Blk x N38 61 #[.int .i64 L.boot, .int .i64 L.stream, .int .i64 L.first, .int .i64 L.peer, .int .i64 L.in0, .int .i64 L.next, .bool false, .string (⟨#[]⟩)]) (4 - 0) ?_ ?_
   have hr57 := row_kept_new hr44 hg39
   have hr58 := row_kept_at hr57 hg53 (ha43)
   have hB59 := fbU_at hB47 hg53 (fun hlt => absurd hlt (by omega))
   have hk60 := hk48.kept hg53 (by simp; omega)
   · exact ⟨0, (.slice none 0 0), h56.sub ⟨rfl, rfl, rfl, rfl, (slot_eq rfl (congrArg (Value.int .i64) (by first | rfl | omega))), trivial⟩, rfl, by omega, by omega, hr58, (by rw [List.eq_nil_of_length_eq_zero (l := outsL L F 0) (by rw [outsL_len]; omega)]; exact row_nilL _ _ _ _ _), hB59, hk60, hk51'⟩
   · rintro k61 a62 w63 ⟨k, v, h62, rfl, hi64, hi65, hf66, hf67, hB68, hk69, hk70⟩
     have hz71 := hB68.size
     have hl72 := hk69.lt
     have hl73 := hk70.lt
     have hol := outsL_len L F k
     refine co_seq ?_
     refine co_seq ?_
     refine co_reg ?_
     refine pk0 (v := .int .i64 ((k : Nat) : Int)) h62 rfl fun a74 h74 => ?_; clear h62
     refine pk0 (v := pt b 0) h74 rfl fun a75 h75 => ?_; clear h74
     refine pk0 (v := pt b 0) h75 rfl fun a76 h76 => ?_; clear h75
     refine pk0 (v := pt b 3) h76 rfl fun a77 h77 => ?_; clear h76
     refine pk (v := u) h77 rfl (rn_load1 rfl rfl Try.isAgg38 (hk69.cell rfl)) fun a78 h78 => ?_; clear h77
     refine pk (v := .int .i64 ((L.q.length : Nat) : Int)) h78 rfl (rn_lenOwn rfl rfl Try.underlying38 hf66) fun a79 h79 => ?_; clear h78
     refine pk0 (v := .bool (decide (((k : Nat) : Int) < ((L.q.length : Nat) : Int)))) h79 rfl fun a80 h80 => ?_; clear h79
     refine pk0 (v := .bool (decide (((k : Nat) : Int) < ((L.q.length : Nat) : Int)))) h80 rfl fun a81 h81 => ?_; clear h80
     cases hc82 : (decide (((k : Nat) : Int) < ((L.q.length : Nat) : Int)))
     ·
      rw [hc82] at h81
      have hp83 : ¬ (((k : Nat) : Int) < ((L.q.length : Nat) : Int)) := of_decide_eq_false hc82
      clear hc82
      refine psk h81 rfl fun a84 h84 => ?_; clear h81
      refine psk h84 rfl fun a85 h85 => ?_; clear h84
      refine pk0 (v := .bool false) h85 rfl fun a86 h86 => ?_; clear h85
      refine pl_nil ?_
      refine co_then ?_
      refine co_false h86 rfl ?_
      refine wp_exit ?_
      refine co_thenX ?_
      refine co_thenX ?_
      refine co_blockX ?_
      refine co_then ?_
      refine co_seq ?_
      refine co_seq ?_
      refine co_reg ?_
      refine pk0 (v := v) h86 rfl fun a87 h87 => ?_; clear h86
      refine pk (v := .int .i64 (((outsL L F k).length : Nat) : Int)) h87 rfl (rn_lenOwn rfl rfl Try.underlying67 hf67) fun a88 h88 => ?_; clear h87
      refine pk0 (v := .bool ((((outsL L F k).length : Nat) : Int) == 0)) h88 rfl fun a89 h89 => ?_; clear h88
      refine pk0 (v := .bool ((((outsL L F k).length : Nat) : Int) == 0)) h89 rfl fun a90 h90 => ?_; clear h89
      cases hc91 : ((((outsL L F k).length : Nat) : Int) == 0)
      ·
       rw [hc91] at h90
       have hp92 : ¬ ((((outsL L F k).length : Nat) : Int) = 0) := by first | simpa using hc91 | simpa [and_assoc] using hc91
       clear hc91
       refine psk h90 rfl fun a93 h93 => ?_; clear h90
       refine psk h93 rfl fun a94 h94 => ?_; clear h93
       refine psk h94 rfl fun a95 h95 => ?_; clear h94
       refine psk h95 rfl fun a96 h96 => ?_; clear h95
       refine pk0 (v := .bool false) h96 rfl fun a97 h97 => ?_; clear h96
       refine pl_nil ?_
       refine co_then ?_
       refine co_false h97 rfl ?_
       refine wp_skip ?_
       refine co_then ?_
       refine co_seq ?_
       refine co_reg ?_
       refine pk0 (v := pt b 0) h97 rfl fun a98 h98 => ?_; clear h97
       refine pk0 (v := pt b 0) h98 rfl fun a99 h99 => ?_; clear h98
       refine pk0 (v := pt b 8) h99 rfl fun a100 h100 => ?_; clear h99
       refine pwD h100 rfl (op_store1 rfl rfl rfl rfl Try.sizeOf4 hk69 rfl) ?_; clear h100
       rintro _ w102 a101 ⟨hk103, hz104, hg105⟩ h101
       have hk103' : Blk w102 b 74 #[.int .i64 L.boot, .int .i64 L.stream, .int .i64 L.first, u, .int .i64 L.told, .int .i64 L.peer, .int .i64 L.in0, .int .i64 L.next, .bool false] := hk103; clear hk103
       have hz106 := hg105.size
       refine pl_nil ?_
       refine co_then ?_
       refine co_seq ?_
       refine dr_gen (fun x => But (S) w x ∧ x.ownsRow 0 9 1 u L.q.length (L.q.flatMap strE)) (by kernel_rfl) (fun w107 hg108 => ?_) (fun w107 hg108 => ?_)
       ·
        have hz109 := hg108.size
        have hB110 := fbU_at hB68 hg105 (fun hlt => by rcases hSb with hq | hq; exact hq; omega)
        have hB111 := fbU_new hB110 hg108
        have hr112 := row_kept_at hf66 hg105 (hbu)
        have hr113 := row_kept_new hr112 hg108
        exact ⟨hB111, hr113⟩
       have hz114 := hg108.size
       have hB115 := fbU_at hB68 hg105 (fun hlt => by rcases hSb with hq | hq; exact hq; omega)
       have hB116 := fbU_new hB115 hg108
       have hr117 := row_kept_at hf66 hg105 (hbu)
       have hr118 := row_kept_new hr117 hg108
       refine dk0 0 (v := pt b 0) h101 rfl rfl ⟨hB116, hr118⟩ fun a119 h119 => ?_; clear h101
       refine dk0 1 (v := pt b 0) h119 rfl rfl ⟨hB116, hr118⟩ fun a120 h120 => ?_; clear h119
       refine dk0 2 (v := pt b 0) h120 rfl rfl ⟨hB116, hr118⟩ fun a121 h121 => ?_; clear h120
       refine dk0 3 (v := pt b 4) h121 rfl rfl ⟨hB116, hr118⟩ fun a122 h122 => ?_; clear h121
       refine dk0 5 (v := pt b 0) h122 rfl rfl ⟨hB116, hr118⟩ fun a123 h123 => ?_; clear h122
       refine dk0 6 (v := pt b 0) h123 rfl rfl ⟨hB116, hr118⟩ fun a124 h124 => ?_; clear h123
       refine dk0 7 (v := pt b 3) h124 rfl rfl ⟨hB116, hr118⟩ fun a125 h125 => ?_; clear h124
       refine dr_many [4, 8] (by kernel_rfl) (by simp) ⟨?_, ?_, trivial⟩
       ·
        have hk126 := hk103'.kept hg108 (by simp)
        refine dr_opVal (i := 4) (v := .int .i64 L.told) h125 rfl rfl rfl rfl (by kernel_rfl) rfl (rn_load1 rfl rfl Try.isAgg3 (hk126.cell rfl)) ⟨hB116, hr118⟩ (fun a127 h127 => ?_); clear h125
        refine dr_many [8] (by kernel_rfl) (by simp) ⟨?_, trivial⟩
        ·
         refine dr_opVal (i := 8) (v := u) h127 rfl rfl rfl rfl (by kernel_rfl) rfl (rn_load1 rfl rfl Try.isAgg38 (hk126.cell rfl)) ⟨hB116, hr118⟩ (fun a128 h128 => ?_); clear h127
         refine dk 9 (v := .int .i64 ((L.q.length : Nat) : Int)) h128 rfl rfl ⟨hB116, hr118⟩ (fun x hx => (rn_lenOwn rfl rfl Try.underlying38 hx.2)) fun a129 h129 => ?_; clear h128
         refine dk 10 (v := .int .i64 ((L.q.length : Nat) : Int)) h129 rfl rfl ⟨hB116, hr118⟩ (fun x hx => (rn_min1 rfl rfl rfl rfl (by omega))) fun a130 h130 => ?_; clear h129
         refine dk 11 (v := .int .i64 ((L.q.length : Nat) : Int)) h130 rfl rfl ⟨hB116, hr118⟩ (fun x hx => (rn_max2 rfl rfl rfl rfl (by omega))) fun a131 h131 => ?_; clear h130
         refine dk0 12 (v := pt b 0) h131 rfl rfl ⟨hB116, hr118⟩ fun a132 h132 => ?_; clear h131
         refine dk0 13 (v := pt b 4) h132 rfl rfl ⟨hB116, hr118⟩ fun a133 h133 => ?_; clear h132
         refine d1D 14 h133 rfl rfl (op_store1 rfl rfl rfl rfl Try.sizeOf3 hk126 rfl) ?_ ?_; clear h133
         ·
          rintro _ w135 ⟨hk136, hz137, hg138⟩
          have hk136' : Blk w135 b 74 #[.int .i64 L.boot, .int .i64 L.stream, .int .i64 L.first, u, .int .i64 ((L.q.length : Nat) : Int), .int .i64 L.peer, .int .i64 L.in0, .int .i64 L.next, .bool false] := hk136; clear hk136
          have hz139 := hg138.size
          have hB140 := fbU_at hB116 hg138 (fun hlt => by rcases hSb with hq | hq; exact hq; omega)
          have hr141 := row_kept_at hr118 hg138 (hbu)
          exact ⟨hB140, hr141⟩
         rintro _ w135 a134 ⟨hk136, hz137, hg138⟩ h134
         have hk136' : Blk w135 b 74 #[.int .i64 L.boot, .int .i64 L.stream, .int .i64 L.first, u, .int .i64 ((L.q.length : Nat) : Int), .int .i64 L.peer, .int .i64 L.in0, .int .i64 L.next, .bool false] := hk136; clear hk136
         have hz139 := hg138.size
         refine dr_done (by kernel_rfl) ?_
         refine co_then ?_
         refine co_seq ?_
         refine co_reg ?_
         refine pk0 (v := v) h134 rfl fun a140 h140 => ?_; clear h134
         refine pk0 (v := v) h140 rfl fun a141 h141 => ?_; clear h140
         refine pl_nil ?_
         refine co_then ?_
         refine wp_ret ?_
         refine co_ret1 h141 rfl rfl ?_
         have hr142 := row_kept_at hr118 hg138 (hbu)
         have hB143 := fbU_at hB116 hg138 (fun hlt => by rcases hSb with hq | hq; exact hq; omega)
         have hr144 := row_kept_at hf67 hg105 (own_neT hf67 hk69 (by decide))
         have hr145 := row_kept_new hr144 hg108
         have hr146 := row_kept_at hr145 hg138 (own_neT hr145 hk126 (by decide))
         have hk0 : (((L.q.length : Nat) : Int) : Int) = max L.told (L.to : Int) := by unfold LnT.to; omega
         have hbl : Blk w135 b 74 (lnC (outN L) u) := by have h := hk136'; rw [hk0] at h; exact h
         exact ⟨_, rfl, ⟨(LkU.same2 hU hbl hr142 rfl (outN_ok hok) hB143).1, (LkU.same2 hU hbl hr142 rfl (outN_ok hok) hB143).2⟩, row_lows (row_eq hr146 (by first | exact outs_a hF (by unfold LnT.to; omega) (by omega) | exact outs_b hF (by unfold LnT.to; omega) (by omega) (by first | assumption | simp_all) | exact outs_c hF (by unfold LnT.to; omega) (by omega) (by first | assumption | simp_all))) (by omega), hB143⟩
       ·
        have hk147 := hk103'.kept hg108 (by simp)
        refine dr_opVal (i := 8) (v := u) h125 rfl rfl rfl rfl (by kernel_rfl) rfl (rn_load1 rfl rfl Try.isAgg38 (hk147.cell rfl)) ⟨hB116, hr118⟩ (fun a148 h148 => ?_); clear h125
        refine dk 9 (v := .int .i64 ((L.q.length : Nat) : Int)) h148 rfl rfl ⟨hB116, hr118⟩ (fun x hx => (rn_lenOwn rfl rfl Try.underlying38 hx.2)) fun a149 h149 => ?_; clear h148
        refine dk 10 (v := .int .i64 ((L.q.length : Nat) : Int)) h149 rfl rfl ⟨hB116, hr118⟩ (fun x hx => (rn_min1 rfl rfl rfl rfl (by omega))) fun a150 h150 => ?_; clear h149
        refine dr_many [4] (by kernel_rfl) (by simp) ⟨?_, trivial⟩
        ·
         refine dr_opVal (i := 4) (v := .int .i64 L.told) h150 rfl rfl rfl rfl (by kernel_rfl) rfl (rn_load1 rfl rfl Try.isAgg3 (hk147.cell rfl)) ⟨hB116, hr118⟩ (fun a151 h151 => ?_); clear h150
         refine dk 11 (v := .int .i64 ((L.q.length : Nat) : Int)) h151 rfl rfl ⟨hB116, hr118⟩ (fun x hx => (rn_max2 rfl rfl rfl rfl (by omega))) fun a152 h152 => ?_; clear h151
         refine dk0 12 (v := pt b 0) h152 rfl rfl ⟨hB116, hr118⟩ fun a153 h153 => ?_; clear h152
         refine dk0 13 (v := pt b 4) h153 rfl rfl ⟨hB116, hr118⟩ fun a154 h154 => ?_; clear h153
         refine d1D 14 h154 rfl rfl (op_store1 rfl rfl rfl rfl Try.sizeOf3 hk147 rfl) ?_ ?_; clear h154
         ·
          rintro _ w156 ⟨hk157, hz158, hg159⟩
          have hk157' : Blk w156 b 74 #[.int .i64 L.boot, .int .i64 L.stream, .int .i64 L.first, u, .int .i64 ((L.q.length : Nat) : Int), .int .i64 L.peer, .int .i64 L.in0, .int .i64 L.next, .bool false] := hk157; clear hk157
          have hz160 := hg159.size
          have hB161 := fbU_at hB116 hg159 (fun hlt => by rcases hSb with hq | hq; exact hq; omega)
          have hr162 := row_kept_at hr118 hg159 (hbu)
          exact ⟨hB161, hr162⟩
         rintro _ w156 a155 ⟨hk157, hz158, hg159⟩ h155
         have hk157' : Blk w156 b 74 #[.int .i64 L.boot, .int .i64 L.stream, .int .i64 L.first, u, .int .i64 ((L.q.length : Nat) : Int), .int .i64 L.peer, .int .i64 L.in0, .int .i64 L.next, .bool false] := hk157; clear hk157
         have hz160 := hg159.size
         refine dr_done (by kernel_rfl) ?_
         refine co_then ?_
         refine co_seq ?_
         refine co_reg ?_
         refine pk0 (v := v) h155 rfl fun a161 h161 => ?_; clear h155
         refine pk0 (v := v) h161 rfl fun a162 h162 => ?_; clear h161
         refine pl_nil ?_
         refine co_then ?_
         refine wp_ret ?_
         refine co_ret1 h162 rfl rfl ?_
         have hr163 := row_kept_at hr118 hg159 (hbu)
         have hB164 := fbU_at hB116 hg159 (fun hlt => by rcases hSb with hq | hq; exact hq; omega)
         have hr165 := row_kept_at hf67 hg105 (own_neT hf67 hk69 (by decide))
         have hr166 := row_kept_new hr165 hg108
         have hr167 := row_kept_at hr166 hg159 (own_neT hr166 hk147 (by decide))
         have hk0 : (((L.q.length : Nat) : Int) : Int) = max L.told (L.to : Int) := by unfold LnT.to; omega
         have hbl : Blk w156 b 74 (lnC (outN L) u) := by have h := hk157'; rw [hk0] at h; exact h
         exact ⟨_, rfl, ⟨(LkU.same2 hU hbl hr163 rfl (outN_ok hok) hB164).1, (LkU.same2 hU hbl hr163 rfl (outN_ok hok) hB164).2⟩, row_lows (row_eq hr167 (by first | exact outs_a hF (by unfold LnT.to; omega) (by omega) | exact outs_b hF (by unfold LnT.to; omega) (by omega) (by first | assumption | simp_all) | exact outs_c hF (by unfold LnT.to; omega) (by omega) (by first | assumption | simp_all))) (by omega), hB164⟩
      ·
       rw [hc91] at h90
       have hp168 : (((outsL L F k).length : Nat) : Int) = 0 := by first | simpa using hc91 | simpa [and_assoc] using hc91
       clear hc91
       refine pk0 (v := pt b 0) h90 rfl fun a169 h169 => ?_; clear h90
       refine pk0 (v := pt b 0) h169 rfl fun a170 h170 => ?_; clear h169
       refine pk0 (v := pt b 8) h170 rfl fun a171 h171 => ?_; clear h170
       refine pk (v := .bool L.owes) h171 rfl (rn_load1 rfl rfl Try.isAgg4 (hk69.cell rfl)) fun a172 h172 => ?_; clear h171
       refine pk0 (v := .bool L.owes) h172 rfl fun a173 h173 => ?_; clear h172
       refine pl_nil ?_
       refine co_then ?_
       cases hc174 : (L.owes)
       ·
        rw [hc174] at h173
        refine co_false h173 rfl ?_
        refine wp_skip ?_
        refine co_then ?_
        refine co_seq ?_
        refine co_reg ?_
        refine pk0 (v := pt b 0) h173 rfl fun a175 h175 => ?_; clear h173
        refine pk0 (v := pt b 0) h175 rfl fun a176 h176 => ?_; clear h175
        refine pk0 (v := pt b 8) h176 rfl fun a177 h177 => ?_; clear h176
        refine pwD h177 rfl (op_store1 rfl rfl rfl rfl Try.sizeOf4 hk69 rfl) ?_; clear h177
        rintro _ w179 a178 ⟨hk180, hz181, hg182⟩ h178
        have hk180' : Blk w179 b 74 #[.int .i64 L.boot, .int .i64 L.stream, .int .i64 L.first, u, .int .i64 L.told, .int .i64 L.peer, .int .i64 L.in0, .int .i64 L.next, .bool false] := hk180; clear hk180
        have hz183 := hg182.size
        refine pl_nil ?_
        refine co_then ?_
        refine co_seq ?_
        refine dr_gen (fun x => But (S) w x ∧ x.ownsRow 0 9 1 u L.q.length (L.q.flatMap strE)) (by kernel_rfl) (fun w184 hg185 => ?_) (fun w184 hg185 => ?_)
        ·
         have hz186 := hg185.size
         have hB187 := fbU_at hB68 hg182 (fun hlt => by rcases hSb with hq | hq; exact hq; omega)
         have hB188 := fbU_new hB187 hg185
         have hr189 := row_kept_at hf66 hg182 (hbu)
         have hr190 := row_kept_new hr189 hg185
         exact ⟨hB188, hr190⟩
        have hz191 := hg185.size
        have hB192 := fbU_at hB68 hg182 (fun hlt => by rcases hSb with hq | hq; exact hq; omega)
        have hB193 := fbU_new hB192 hg185
        have hr194 := row_kept_at hf66 hg182 (hbu)
        have hr195 := row_kept_new hr194 hg185
        refine dk0 0 (v := pt b 0) h178 rfl rfl ⟨hB193, hr195⟩ fun a196 h196 => ?_; clear h178
        refine dk0 1 (v := pt b 0) h196 rfl rfl ⟨hB193, hr195⟩ fun a197 h197 => ?_; clear h196
        refine dk0 2 (v := pt b 0) h197 rfl rfl ⟨hB193, hr195⟩ fun a198 h198 => ?_; clear h197
        refine dk0 3 (v := pt b 4) h198 rfl rfl ⟨hB193, hr195⟩ fun a199 h199 => ?_; clear h198
        refine dk0 5 (v := pt b 0) h199 rfl rfl ⟨hB193, hr195⟩ fun a200 h200 => ?_; clear h199
        refine dk0 6 (v := pt b 0) h200 rfl rfl ⟨hB193, hr195⟩ fun a201 h201 => ?_; clear h200
        refine dk0 7 (v := pt b 3) h201 rfl rfl ⟨hB193, hr195⟩ fun a202 h202 => ?_; clear h201
        refine dr_many [4, 8] (by kernel_rfl) (by simp) ⟨?_, ?_, trivial⟩
        ·
         have hk203 := hk180'.kept hg185 (by simp)
         refine dr_opVal (i := 4) (v := .int .i64 L.told) h202 rfl rfl rfl rfl (by kernel_rfl) rfl (rn_load1 rfl rfl Try.isAgg3 (hk203.cell rfl)) ⟨hB193, hr195⟩ (fun a204 h204 => ?_); clear h202
         refine dr_many [8] (by kernel_rfl) (by simp) ⟨?_, trivial⟩
         ·
          refine dr_opVal (i := 8) (v := u) h204 rfl rfl rfl rfl (by kernel_rfl) rfl (rn_load1 rfl rfl Try.isAgg38 (hk203.cell rfl)) ⟨hB193, hr195⟩ (fun a205 h205 => ?_); clear h204
          refine dk 9 (v := .int .i64 ((L.q.length : Nat) : Int)) h205 rfl rfl ⟨hB193, hr195⟩ (fun x hx => (rn_lenOwn rfl rfl Try.underlying38 hx.2)) fun a206 h206 => ?_; clear h205
          refine dk 10 (v := .int .i64 ((L.q.length : Nat) : Int)) h206 rfl rfl ⟨hB193, hr195⟩ (fun x hx => (rn_min1 rfl rfl rfl rfl (by omega))) fun a207 h207 => ?_; clear h206
          refine dk 11 (v := .int .i64 L.told) h207 rfl rfl ⟨hB193, hr195⟩ (fun x hx => (rn_max1 rfl rfl rfl rfl (by omega))) fun a208 h208 => ?_; clear h207
          refine dk0 12 (v := pt b 0) h208 rfl rfl ⟨hB193, hr195⟩ fun a209 h209 => ?_; clear h208
          refine dk0 13 (v := pt b 4) h209 rfl rfl ⟨hB193, hr195⟩ fun a210 h210 => ?_; clear h209
          refine d1D 14 h210 rfl rfl (op_store1 rfl rfl rfl rfl Try.sizeOf3 hk203 rfl) ?_ ?_; clear h210
          ·
           rintro _ w212 ⟨hk213, hz214, hg215⟩
           have hk213' : Blk w212 b 74 #[.int .i64 L.boot, .int .i64 L.stream, .int .i64 L.first, u, .int .i64 L.told, .int .i64 L.peer, .int .i64 L.in0, .int .i64 L.next, .bool false] := hk213; clear hk213
           have hz216 := hg215.size
           have hB217 := fbU_at hB193 hg215 (fun hlt => by rcases hSb with hq | hq; exact hq; omega)
           have hr218 := row_kept_at hr195 hg215 (hbu)
           exact ⟨hB217, hr218⟩
          rintro _ w212 a211 ⟨hk213, hz214, hg215⟩ h211
          have hk213' : Blk w212 b 74 #[.int .i64 L.boot, .int .i64 L.stream, .int .i64 L.first, u, .int .i64 L.told, .int .i64 L.peer, .int .i64 L.in0, .int .i64 L.next, .bool false] := hk213; clear hk213
          have hz216 := hg215.size
          refine dr_done (by kernel_rfl) ?_
          refine co_then ?_
          refine co_seq ?_
          refine co_reg ?_
          refine pk0 (v := v) h211 rfl fun a217 h217 => ?_; clear h211
          refine pk0 (v := v) h217 rfl fun a218 h218 => ?_; clear h217
          refine pl_nil ?_
          refine co_then ?_
          refine wp_ret ?_
          refine co_ret1 h218 rfl rfl ?_
          have hr219 := row_kept_at hr195 hg215 (hbu)
          have hB220 := fbU_at hB193 hg215 (fun hlt => by rcases hSb with hq | hq; exact hq; omega)
          have hr221 := row_kept_at hf67 hg182 (own_neT hf67 hk69 (by decide))
          have hr222 := row_kept_new hr221 hg185
          have hr223 := row_kept_at hr222 hg215 (own_neT hr222 hk203 (by decide))
          have hk0 : (L.told : Int) = max L.told (L.to : Int) := by unfold LnT.to; omega
          have hbl : Blk w212 b 74 (lnC (outN L) u) := by have h := hk213'; rw [hk0] at h; exact h
          exact ⟨_, rfl, ⟨(LkU.same2 hU hbl hr219 rfl (outN_ok hok) hB220).1, (LkU.same2 hU hbl hr219 rfl (outN_ok hok) hB220).2⟩, row_lows (row_eq hr223 (by first | exact outs_a hF (by unfold LnT.to; omega) (by omega) | exact outs_b hF (by unfold LnT.to; omega) (by omega) (by first | assumption | simp_all) | exact outs_c hF (by unfold LnT.to; omega) (by omega) (by first | assumption | simp_all))) (by omega), hB220⟩
        ·
         have hk224 := hk180'.kept hg185 (by simp)
         refine dr_opVal (i := 8) (v := u) h202 rfl rfl rfl rfl (by kernel_rfl) rfl (rn_load1 rfl rfl Try.isAgg38 (hk224.cell rfl)) ⟨hB193, hr195⟩ (fun a225 h225 => ?_); clear h202
         refine dk 9 (v := .int .i64 ((L.q.length : Nat) : Int)) h225 rfl rfl ⟨hB193, hr195⟩ (fun x hx => (rn_lenOwn rfl rfl Try.underlying38 hx.2)) fun a226 h226 => ?_; clear h225
         refine dk 10 (v := .int .i64 ((L.q.length : Nat) : Int)) h226 rfl rfl ⟨hB193, hr195⟩ (fun x hx => (rn_min1 rfl rfl rfl rfl (by omega))) fun a227 h227 => ?_; clear h226
         refine dr_many [4] (by kernel_rfl) (by simp) ⟨?_, trivial⟩
         ·
          refine dr_opVal (i := 4) (v := .int .i64 L.told) h227 rfl rfl rfl rfl (by kernel_rfl) rfl (rn_load1 rfl rfl Try.isAgg3 (hk224.cell rfl)) ⟨hB193, hr195⟩ (fun a228 h228 => ?_); clear h227
          refine dk 11 (v := .int .i64 L.told) h228 rfl rfl ⟨hB193, hr195⟩ (fun x hx => (rn_max1 rfl rfl rfl rfl (by omega))) fun a229 h229 => ?_; clear h228
          refine dk0 12 (v := pt b 0) h229 rfl rfl ⟨hB193, hr195⟩ fun a230 h230 => ?_; clear h229
          refine dk0 13 (v := pt b 4) h230 rfl rfl ⟨hB193, hr195⟩ fun a231 h231 => ?_; clear h230
          refine d1D 14 h231 rfl rfl (op_store1 rfl rfl rfl rfl Try.sizeOf3 hk224 rfl) ?_ ?_; clear h231
          ·
           rintro _ w233 ⟨hk234, hz235, hg236⟩
           have hk234' : Blk w233 b 74 #[.int .i64 L.boot, .int .i64 L.stream, .int .i64 L.first, u, .int .i64 L.told, .int .i64 L.peer, .int .i64 L.in0, .int .i64 L.next, .bool false] := hk234; clear hk234
           have hz237 := hg236.size
           have hB238 := fbU_at hB193 hg236 (fun hlt => by rcases hSb with hq | hq; exact hq; omega)
           have hr239 := row_kept_at hr195 hg236 (hbu)
           exact ⟨hB238, hr239⟩
          rintro _ w233 a232 ⟨hk234, hz235, hg236⟩ h232
          have hk234' : Blk w233 b 74 #[.int .i64 L.boot, .int .i64 L.stream, .int .i64 L.first, u, .int .i64 L.told, .int .i64 L.peer, .int .i64 L.in0, .int .i64 L.next, .bool false] := hk234; clear hk234
          have hz237 := hg236.size
          refine dr_done (by kernel_rfl) ?_
          refine co_then ?_
          refine co_seq ?_
          refine co_reg ?_
          refine pk0 (v := v) h232 rfl fun a238 h238 => ?_; clear h232
          refine pk0 (v := v) h238 rfl fun a239 h239 => ?_; clear h238
          refine pl_nil ?_
          refine co_then ?_
          refine wp_ret ?_
          refine co_ret1 h239 rfl rfl ?_
          have hr240 := row_kept_at hr195 hg236 (hbu)
          have hB241 := fbU_at hB193 hg236 (fun hlt => by rcases hSb with hq | hq; exact hq; omega)
          have hr242 := row_kept_at hf67 hg182 (own_neT hf67 hk69 (by decide))
          have hr243 := row_kept_new hr242 hg185
          have hr244 := row_kept_at hr243 hg236 (own_neT hr243 hk224 (by decide))
          have hk0 : (L.told : Int) = max L.told (L.to : Int) := by unfold LnT.to; omega
          have hbl : Blk w233 b 74 (lnC (outN L) u) := by have h := hk234'; rw [hk0] at h; exact h
          exact ⟨_, rfl, ⟨(LkU.same2 hU hbl hr240 rfl (outN_ok hok) hB241).1, (LkU.same2 hU hbl hr240 rfl (outN_ok hok) hB241).2⟩, row_lows (row_eq hr244 (by first | exact outs_a hF (by unfold LnT.to; omega) (by omega) | exact outs_b hF (by unfold LnT.to; omega) (by omega) (by first | assumption | simp_all) | exact outs_c hF (by unfold LnT.to; omega) (by omega) (by first | assumption | simp_all))) (by omega), hB241⟩
       ·
        rw [hc174] at h173
        refine co_true h173 rfl ?_
        refine co_reg ?_
        refine pk0 (v := v) h173 rfl fun a245 h245 => ?_; clear h173
        refine pk (v := .agg #[.int .i64 L.boot, .int .i64 L.stream, .int .i64 L.first, .int .i64 L.peer, .int .i64 L.in0, .int .i64 L.next, .bool false, .string (⟨#[]⟩)]) h245 rfl (rn_loadN rfl rfl Try.underlying61 rfl (by kernel_rfl) hk70.all) fun a246 h246 => ?_; clear h245
        refine pw h246 rfl (op_new (v := fun N => .slice (some ⟨N, 0, none⟩) 1 1) (T := 61) (cs := #[.int .i64 L.boot, .int .i64 L.stream, .int .i64 L.first, .int .i64 L.peer, .int .i64 L.in0, .int .i64 L.next, .bool false, .string (⟨#[]⟩)]) (by kernel_rfl) (by kernel_rfl) (by kernel_rfl)) ?_; clear h246
        rintro _ w248 a247 ⟨N249, rfl, hN252, hz253, hk251, hg250⟩ h247
        have ha254 := row_fresh hf66 hN252
        have hu255 := row_under hf66 hN252
        have ha256 := row_fresh hf67 hN252
        have hu257 := row_under hf67 hN252
        have hz258 := hg250.size
        try dsimp only at h247
        have hr265 := row_kept_new hf67 hg250
        refine pw h247 rfl (op_append rfl (N38 + 1) 61 (z := .agg #[.int .i64 0, .int .i64 0, .int .i64 0, .int .i64 0, .int .i64 0, .int .i64 0, .bool false, .string (⟨#[]⟩)]) (size := 8) (bytes := 72) Try.underlying67 (by kernel_rfl) rfl rfl rfl hr265 rfl hk251 rfl (by kernel_rfl) (by first | omega | (simp only [List.length_nil, List.length_append, List.length_cons, List.length_take, List.length_drop]; omega)) (by first | omega | (simp only [List.length_nil, List.length_append, List.length_cons, List.length_take, List.length_drop]; omega)) (by omega)) ?_; clear h247
        rintro v261 w260 a259 ⟨hr262, hg263⟩ h259
        have hr262' : w260.ownsRow (N38 + 1) 61 8 v261 (((outsL L F k) ++ [(SegT.mk L.boot L.stream L.first L.peer L.in0 L.next false (⟨#[]⟩))]).length) (((outsL L F k) ++ [(SegT.mk L.boot L.stream L.first L.peer L.in0 L.next false (⟨#[]⟩))]).flatMap segE) := row_push (y := (SegT.mk L.boot L.stream L.first L.peer L.in0 L.next false (⟨#[]⟩))) hr262 rfl rfl; clear hr262
        have hz266 := hg263.size
        have hk267 := hk69.kept hg250 (by simp)
        refine pk0 (v := v261) h259 rfl fun a268 h268 => ?_; clear h259
        refine pl_nil ?_
        refine co_then ?_
        refine co_seq ?_
        refine co_reg ?_
        refine pk0 (v := pt b 0) h268 rfl fun a269 h269 => ?_; clear h268
        refine pk0 (v := pt b 0) h269 rfl fun a270 h270 => ?_; clear h269
        refine pk0 (v := pt b 8) h270 rfl fun a271 h271 => ?_; clear h270
        have hk277 := hk267.kept hg263 (own_neT hr265 hk267 (by decide))
        refine pwD h271 rfl (op_store1 rfl rfl rfl rfl Try.sizeOf4 hk277 rfl) ?_; clear h271
        rintro _ w273 a272 ⟨hk274, hz275, hg276⟩ h272
        have hk274' : Blk w273 b 74 #[.int .i64 L.boot, .int .i64 L.stream, .int .i64 L.first, u, .int .i64 L.told, .int .i64 L.peer, .int .i64 L.in0, .int .i64 L.next, .bool false] := hk274; clear hk274
        have hz278 := hg276.size
        refine pl_nil ?_
        refine co_then ?_
        refine co_seq ?_
        refine dr_gen (fun x => But (S) w x ∧ x.ownsRow 0 9 1 u L.q.length (L.q.flatMap strE)) (by kernel_rfl) (fun w279 hg280 => ?_) (fun w279 hg280 => ?_)
        ·
         have hz281 := hg280.size
         have hB282 := fbU_new hB68 hg250
         have hB283 := fbU_row hB282 (InS.low hr265 (by omega)) hg263
         have hB284 := fbU_at hB283 hg276 (fun hlt => by rcases hSb with hq | hq; exact hq; omega)
         have hB285 := fbU_new hB284 hg280
         have hr286 := row_kept_new hf66 hg250
         have hr287 := row_kept_row hr286 hr265 hg263 (by decide)
         have hr288 := row_kept_at hr287 hg276 (hbu)
         have hr289 := row_kept_new hr288 hg280
         exact ⟨hB285, hr289⟩
        have hz290 := hg280.size
        have hB291 := fbU_new hB68 hg250
        have hB292 := fbU_row hB291 (InS.low hr265 (by omega)) hg263
        have hB293 := fbU_at hB292 hg276 (fun hlt => by rcases hSb with hq | hq; exact hq; omega)
        have hB294 := fbU_new hB293 hg280
        have hr295 := row_kept_new hf66 hg250
        have hr296 := row_kept_row hr295 hr265 hg263 (by decide)
        have hr297 := row_kept_at hr296 hg276 (hbu)
        have hr298 := row_kept_new hr297 hg280
        refine dk0 0 (v := pt b 0) h272 rfl rfl ⟨hB294, hr298⟩ fun a299 h299 => ?_; clear h272
        refine dk0 1 (v := pt b 0) h299 rfl rfl ⟨hB294, hr298⟩ fun a300 h300 => ?_; clear h299
        refine dk0 2 (v := pt b 0) h300 rfl rfl ⟨hB294, hr298⟩ fun a301 h301 => ?_; clear h300
        refine dk0 3 (v := pt b 4) h301 rfl rfl ⟨hB294, hr298⟩ fun a302 h302 => ?_; clear h301
        refine dk0 5 (v := pt b 0) h302 rfl rfl ⟨hB294, hr298⟩ fun a303 h303 => ?_; clear h302
        refine dk0 6 (v := pt b 0) h303 rfl rfl ⟨hB294, hr298⟩ fun a304 h304 => ?_; clear h303
        refine dk0 7 (v := pt b 3) h304 rfl rfl ⟨hB294, hr298⟩ fun a305 h305 => ?_; clear h304
        refine dr_many [4, 8] (by kernel_rfl) (by simp) ⟨?_, ?_, trivial⟩
        ·
         have hk306 := hk274'.kept hg280 (by simp)
         refine dr_opVal (i := 4) (v := .int .i64 L.told) h305 rfl rfl rfl rfl (by kernel_rfl) rfl (rn_load1 rfl rfl Try.isAgg3 (hk306.cell rfl)) ⟨hB294, hr298⟩ (fun a307 h307 => ?_); clear h305
         refine dr_many [8] (by kernel_rfl) (by simp) ⟨?_, trivial⟩
         ·
          refine dr_opVal (i := 8) (v := u) h307 rfl rfl rfl rfl (by kernel_rfl) rfl (rn_load1 rfl rfl Try.isAgg38 (hk306.cell rfl)) ⟨hB294, hr298⟩ (fun a308 h308 => ?_); clear h307
          refine dk 9 (v := .int .i64 ((L.q.length : Nat) : Int)) h308 rfl rfl ⟨hB294, hr298⟩ (fun x hx => (rn_lenOwn rfl rfl Try.underlying38 hx.2)) fun a309 h309 => ?_; clear h308
          refine dk 10 (v := .int .i64 ((L.q.length : Nat) : Int)) h309 rfl rfl ⟨hB294, hr298⟩ (fun x hx => (rn_min1 rfl rfl rfl rfl (by omega))) fun a310 h310 => ?_; clear h309
          refine dk 11 (v := .int .i64 L.told) h310 rfl rfl ⟨hB294, hr298⟩ (fun x hx => (rn_max1 rfl rfl rfl rfl (by omega))) fun a311 h311 => ?_; clear h310
          refine dk0 12 (v := pt b 0) h311 rfl rfl ⟨hB294, hr298⟩ fun a312 h312 => ?_; clear h311
          refine dk0 13 (v := pt b 4) h312 rfl rfl ⟨hB294, hr298⟩ fun a313 h313 => ?_; clear h312
          refine d1D 14 h313 rfl rfl (op_store1 rfl rfl rfl rfl Try.sizeOf3 hk306 rfl) ?_ ?_; clear h313
          ·
           rintro _ w315 ⟨hk316, hz317, hg318⟩
           have hk316' : Blk w315 b 74 #[.int .i64 L.boot, .int .i64 L.stream, .int .i64 L.first, u, .int .i64 L.told, .int .i64 L.peer, .int .i64 L.in0, .int .i64 L.next, .bool false] := hk316; clear hk316
           have hz319 := hg318.size
           have hB320 := fbU_at hB294 hg318 (fun hlt => by rcases hSb with hq | hq; exact hq; omega)
           have hr321 := row_kept_at hr298 hg318 (hbu)
           exact ⟨hB320, hr321⟩
          rintro _ w315 a314 ⟨hk316, hz317, hg318⟩ h314
          have hk316' : Blk w315 b 74 #[.int .i64 L.boot, .int .i64 L.stream, .int .i64 L.first, u, .int .i64 L.told, .int .i64 L.peer, .int .i64 L.in0, .int .i64 L.next, .bool false] := hk316; clear hk316
          have hz319 := hg318.size
          refine dr_done (by kernel_rfl) ?_
          refine co_then ?_
          refine co_seq ?_
          refine co_reg ?_
          refine pk0 (v := v261) h314 rfl fun a320 h320 => ?_; clear h314
          refine pk0 (v := v261) h320 rfl fun a321 h321 => ?_; clear h320
          refine pl_nil ?_
          refine co_then ?_
          refine wp_ret ?_
          refine co_ret1 h321 rfl rfl ?_
          have hr322 := row_kept_at hr298 hg318 (hbu)
          have hB323 := fbU_at hB294 hg318 (fun hlt => by rcases hSb with hq | hq; exact hq; omega)
          have hr324 := row_kept_at hr262' hg276 (own_neT hr262' hk277 (by decide))
          have hr325 := row_kept_new hr324 hg280
          have hr326 := row_kept_at hr325 hg318 (own_neT hr325 hk306 (by decide))
          have hk0 : (L.told : Int) = max L.told (L.to : Int) := by unfold LnT.to; omega
          have hbl : Blk w315 b 74 (lnC (outN L) u) := by have h := hk316'; rw [hk0] at h; exact h
          exact ⟨_, rfl, ⟨(LkU.same2 hU hbl hr322 rfl (outN_ok hok) hB323).1, (LkU.same2 hU hbl hr322 rfl (outN_ok hok) hB323).2⟩, row_lows (row_eq hr326 (by first | exact outs_a hF (by unfold LnT.to; omega) (by omega) | exact outs_b hF (by unfold LnT.to; omega) (by omega) (by first | assumption | simp_all) | exact outs_c hF (by unfold LnT.to; omega) (by omega) (by first | assumption | simp_all))) (by omega), hB323⟩
        ·
         have hk327 := hk274'.kept hg280 (by simp)
         refine dr_opVal (i := 8) (v := u) h305 rfl rfl rfl rfl (by kernel_rfl) rfl (rn_load1 rfl rfl Try.isAgg38 (hk327.cell rfl)) ⟨hB294, hr298⟩ (fun a328 h328 => ?_); clear h305
         refine dk 9 (v := .int .i64 ((L.q.length : Nat) : Int)) h328 rfl rfl ⟨hB294, hr298⟩ (fun x hx => (rn_lenOwn rfl rfl Try.underlying38 hx.2)) fun a329 h329 => ?_; clear h328
         refine dk 10 (v := .int .i64 ((L.q.length : Nat) : Int)) h329 rfl rfl ⟨hB294, hr298⟩ (fun x hx => (rn_min1 rfl rfl rfl rfl (by omega))) fun a330 h330 => ?_; clear h329
         refine dr_many [4] (by kernel_rfl) (by simp) ⟨?_, trivial⟩
         ·
          refine dr_opVal (i := 4) (v := .int .i64 L.told) h330 rfl rfl rfl rfl (by kernel_rfl) rfl (rn_load1 rfl rfl Try.isAgg3 (hk327.cell rfl)) ⟨hB294, hr298⟩ (fun a331 h331 => ?_); clear h330
          refine dk 11 (v := .int .i64 L.told) h331 rfl rfl ⟨hB294, hr298⟩ (fun x hx => (rn_max1 rfl rfl rfl rfl (by omega))) fun a332 h332 => ?_; clear h331
          refine dk0 12 (v := pt b 0) h332 rfl rfl ⟨hB294, hr298⟩ fun a333 h333 => ?_; clear h332
          refine dk0 13 (v := pt b 4) h333 rfl rfl ⟨hB294, hr298⟩ fun a334 h334 => ?_; clear h333
          refine d1D 14 h334 rfl rfl (op_store1 rfl rfl rfl rfl Try.sizeOf3 hk327 rfl) ?_ ?_; clear h334
          ·
           rintro _ w336 ⟨hk337, hz338, hg339⟩
           have hk337' : Blk w336 b 74 #[.int .i64 L.boot, .int .i64 L.stream, .int .i64 L.first, u, .int .i64 L.told, .int .i64 L.peer, .int .i64 L.in0, .int .i64 L.next, .bool false] := hk337; clear hk337
           have hz340 := hg339.size
           have hB341 := fbU_at hB294 hg339 (fun hlt => by rcases hSb with hq | hq; exact hq; omega)
           have hr342 := row_kept_at hr298 hg339 (hbu)
           exact ⟨hB341, hr342⟩
          rintro _ w336 a335 ⟨hk337, hz338, hg339⟩ h335
          have hk337' : Blk w336 b 74 #[.int .i64 L.boot, .int .i64 L.stream, .int .i64 L.first, u, .int .i64 L.told, .int .i64 L.peer, .int .i64 L.in0, .int .i64 L.next, .bool false] := hk337; clear hk337
          have hz340 := hg339.size
          refine dr_done (by kernel_rfl) ?_
          refine co_then ?_
          refine co_seq ?_
          refine co_reg ?_
          refine pk0 (v := v261) h335 rfl fun a341 h341 => ?_; clear h335
          refine pk0 (v := v261) h341 rfl fun a342 h342 => ?_; clear h341
          refine pl_nil ?_
          refine co_then ?_
          refine wp_ret ?_
          refine co_ret1 h342 rfl rfl ?_
          have hr343 := row_kept_at hr298 hg339 (hbu)
          have hB344 := fbU_at hB294 hg339 (fun hlt => by rcases hSb with hq | hq; exact hq; omega)
          have hr345 := row_kept_at hr262' hg276 (own_neT hr262' hk277 (by decide))
          have hr346 := row_kept_new hr345 hg280
          have hr347 := row_kept_at hr346 hg339 (own_neT hr346 hk327 (by decide))
          have hk0 : (L.told : Int) = max L.told (L.to : Int) := by unfold LnT.to; omega
          have hbl : Blk w336 b 74 (lnC (outN L) u) := by have h := hk337'; rw [hk0] at h; exact h
          exact ⟨_, rfl, ⟨(LkU.same2 hU hbl hr343 rfl (outN_ok hok) hB344).1, (LkU.same2 hU hbl hr343 rfl (outN_ok hok) hB344).2⟩, row_lows (row_eq hr347 (by first | exact outs_a hF (by unfold LnT.to; omega) (by omega) | exact outs_b hF (by unfold LnT.to; omega) (by omega) (by first | assumption | simp_all) | exact outs_c hF (by unfold LnT.to; omega) (by omega) (by first | assumption | simp_all))) (by omega), hB344⟩
     ·
      rw [hc82] at h81
      have hp348 : ((k : Nat) : Int) < ((L.q.length : Nat) : Int) := of_decide_eq_true hc82
      clear hc82
      refine pk0 (v := .int .i64 ((k : Nat) : Int)) h81 rfl fun a349 h349 => ?_; clear h81
      refine pk0 (v := .bool (decide (((k : Nat) : Int) < 4))) h349 rfl fun a350 h350 => ?_; clear h349
      refine pk0 (v := .bool (decide (((k : Nat) : Int) < 4))) h350 rfl fun a351 h351 => ?_; clear h350
      refine pl_nil ?_
      refine co_then ?_
      cases hc352 : (decide (((k : Nat) : Int) < 4))
      ·
       rw [hc352] at h351
       have hp353 : ¬ (((k : Nat) : Int) < 4) := of_decide_eq_false hc352
       clear hc352
       refine co_false h351 rfl ?_
       refine wp_exit ?_
       refine co_thenX ?_
       refine co_thenX ?_
       refine co_blockX ?_
       refine co_then ?_
       refine co_seq ?_
       refine co_seq ?_
       refine co_reg ?_
       refine pk0 (v := v) h351 rfl fun a354 h354 => ?_; clear h351
       refine pk (v := .int .i64 (((outsL L F k).length : Nat) : Int)) h354 rfl (rn_lenOwn rfl rfl Try.underlying67 hf67) fun a355 h355 => ?_; clear h354
       refine pk0 (v := .bool ((((outsL L F k).length : Nat) : Int) == 0)) h355 rfl fun a356 h356 => ?_; clear h355
       refine pk0 (v := .bool ((((outsL L F k).length : Nat) : Int) == 0)) h356 rfl fun a357 h357 => ?_; clear h356
       cases hc358 : ((((outsL L F k).length : Nat) : Int) == 0)
       ·
        rw [hc358] at h357
        have hp359 : ¬ ((((outsL L F k).length : Nat) : Int) = 0) := by first | simpa using hc358 | simpa [and_assoc] using hc358
        clear hc358
        refine psk h357 rfl fun a360 h360 => ?_; clear h357
        refine psk h360 rfl fun a361 h361 => ?_; clear h360
        refine psk h361 rfl fun a362 h362 => ?_; clear h361
        refine psk h362 rfl fun a363 h363 => ?_; clear h362
        refine pk0 (v := .bool false) h363 rfl fun a364 h364 => ?_; clear h363
        refine pl_nil ?_
        refine co_then ?_
        refine co_false h364 rfl ?_
        refine wp_skip ?_
        refine co_then ?_
        refine co_seq ?_
        refine co_reg ?_
        refine pk0 (v := pt b 0) h364 rfl fun a365 h365 => ?_; clear h364
        refine pk0 (v := pt b 0) h365 rfl fun a366 h366 => ?_; clear h365
        refine pk0 (v := pt b 8) h366 rfl fun a367 h367 => ?_; clear h366
        refine pwD h367 rfl (op_store1 rfl rfl rfl rfl Try.sizeOf4 hk69 rfl) ?_; clear h367
        rintro _ w369 a368 ⟨hk370, hz371, hg372⟩ h368
        have hk370' : Blk w369 b 74 #[.int .i64 L.boot, .int .i64 L.stream, .int .i64 L.first, u, .int .i64 L.told, .int .i64 L.peer, .int .i64 L.in0, .int .i64 L.next, .bool false] := hk370; clear hk370
        have hz373 := hg372.size
        refine pl_nil ?_
        refine co_then ?_
        refine co_seq ?_
        refine dr_gen (fun x => But (S) w x ∧ x.ownsRow 0 9 1 u L.q.length (L.q.flatMap strE)) (by kernel_rfl) (fun w374 hg375 => ?_) (fun w374 hg375 => ?_)
        ·
         have hz376 := hg375.size
         have hB377 := fbU_at hB68 hg372 (fun hlt => by rcases hSb with hq | hq; exact hq; omega)
         have hB378 := fbU_new hB377 hg375
         have hr379 := row_kept_at hf66 hg372 (hbu)
         have hr380 := row_kept_new hr379 hg375
         exact ⟨hB378, hr380⟩
        have hz381 := hg375.size
        have hB382 := fbU_at hB68 hg372 (fun hlt => by rcases hSb with hq | hq; exact hq; omega)
        have hB383 := fbU_new hB382 hg375
        have hr384 := row_kept_at hf66 hg372 (hbu)
        have hr385 := row_kept_new hr384 hg375
        refine dk0 0 (v := pt b 0) h368 rfl rfl ⟨hB383, hr385⟩ fun a386 h386 => ?_; clear h368
        refine dk0 1 (v := pt b 0) h386 rfl rfl ⟨hB383, hr385⟩ fun a387 h387 => ?_; clear h386
        refine dk0 2 (v := pt b 0) h387 rfl rfl ⟨hB383, hr385⟩ fun a388 h388 => ?_; clear h387
        refine dk0 3 (v := pt b 4) h388 rfl rfl ⟨hB383, hr385⟩ fun a389 h389 => ?_; clear h388
        refine dk0 5 (v := pt b 0) h389 rfl rfl ⟨hB383, hr385⟩ fun a390 h390 => ?_; clear h389
        refine dk0 6 (v := pt b 0) h390 rfl rfl ⟨hB383, hr385⟩ fun a391 h391 => ?_; clear h390
        refine dk0 7 (v := pt b 3) h391 rfl rfl ⟨hB383, hr385⟩ fun a392 h392 => ?_; clear h391
        refine dr_many [4, 8] (by kernel_rfl) (by simp) ⟨?_, ?_, trivial⟩
        ·
         have hk393 := hk370'.kept hg375 (by simp)
         refine dr_opVal (i := 4) (v := .int .i64 L.told) h392 rfl rfl rfl rfl (by kernel_rfl) rfl (rn_load1 rfl rfl Try.isAgg3 (hk393.cell rfl)) ⟨hB383, hr385⟩ (fun a394 h394 => ?_); clear h392
         refine dr_many [8] (by kernel_rfl) (by simp) ⟨?_, trivial⟩
         ·
          refine dr_opVal (i := 8) (v := u) h394 rfl rfl rfl rfl (by kernel_rfl) rfl (rn_load1 rfl rfl Try.isAgg38 (hk393.cell rfl)) ⟨hB383, hr385⟩ (fun a395 h395 => ?_); clear h394
          refine dk 9 (v := .int .i64 ((L.q.length : Nat) : Int)) h395 rfl rfl ⟨hB383, hr385⟩ (fun x hx => (rn_lenOwn rfl rfl Try.underlying38 hx.2)) fun a396 h396 => ?_; clear h395
          refine dk 10 (v := .int .i64 4) h396 rfl rfl ⟨hB383, hr385⟩ (fun x hx => (rn_min2 rfl rfl rfl rfl (by omega))) fun a397 h397 => ?_; clear h396
          refine dk 11 (v := .int .i64 4) h397 rfl rfl ⟨hB383, hr385⟩ (fun x hx => (rn_max2 rfl rfl rfl rfl (by omega))) fun a398 h398 => ?_; clear h397
          refine dk0 12 (v := pt b 0) h398 rfl rfl ⟨hB383, hr385⟩ fun a399 h399 => ?_; clear h398
          refine dk0 13 (v := pt b 4) h399 rfl rfl ⟨hB383, hr385⟩ fun a400 h400 => ?_; clear h399
          refine d1D 14 h400 rfl rfl (op_store1 rfl rfl rfl rfl Try.sizeOf3 hk393 rfl) ?_ ?_; clear h400
          ·
           rintro _ w402 ⟨hk403, hz404, hg405⟩
           have hk403' : Blk w402 b 74 #[.int .i64 L.boot, .int .i64 L.stream, .int .i64 L.first, u, .int .i64 4, .int .i64 L.peer, .int .i64 L.in0, .int .i64 L.next, .bool false] := hk403; clear hk403
           have hz406 := hg405.size
           have hB407 := fbU_at hB383 hg405 (fun hlt => by rcases hSb with hq | hq; exact hq; omega)
           have hr408 := row_kept_at hr385 hg405 (hbu)
           exact ⟨hB407, hr408⟩
          rintro _ w402 a401 ⟨hk403, hz404, hg405⟩ h401
          have hk403' : Blk w402 b 74 #[.int .i64 L.boot, .int .i64 L.stream, .int .i64 L.first, u, .int .i64 4, .int .i64 L.peer, .int .i64 L.in0, .int .i64 L.next, .bool false] := hk403; clear hk403
          have hz406 := hg405.size
          refine dr_done (by kernel_rfl) ?_
          refine co_then ?_
          refine co_seq ?_
          refine co_reg ?_
          refine pk0 (v := v) h401 rfl fun a407 h407 => ?_; clear h401
          refine pk0 (v := v) h407 rfl fun a408 h408 => ?_; clear h407
          refine pl_nil ?_
          refine co_then ?_
          refine wp_ret ?_
          refine co_ret1 h408 rfl rfl ?_
          have hr409 := row_kept_at hr385 hg405 (hbu)
          have hB410 := fbU_at hB383 hg405 (fun hlt => by rcases hSb with hq | hq; exact hq; omega)
          have hr411 := row_kept_at hf67 hg372 (own_neT hf67 hk69 (by decide))
          have hr412 := row_kept_new hr411 hg375
          have hr413 := row_kept_at hr412 hg405 (own_neT hr412 hk393 (by decide))
          have hk0 : (4 : Int) = max L.told (L.to : Int) := by unfold LnT.to; omega
          have hbl : Blk w402 b 74 (lnC (outN L) u) := by have h := hk403'; rw [hk0] at h; exact h
          exact ⟨_, rfl, ⟨(LkU.same2 hU hbl hr409 rfl (outN_ok hok) hB410).1, (LkU.same2 hU hbl hr409 rfl (outN_ok hok) hB410).2⟩, row_lows (row_eq hr413 (by first | exact outs_a hF (by unfold LnT.to; omega) (by omega) | exact outs_b hF (by unfold LnT.to; omega) (by omega) (by first | assumption | simp_all) | exact outs_c hF (by unfold LnT.to; omega) (by omega) (by first | assumption | simp_all))) (by omega), hB410⟩
        ·
         have hk414 := hk370'.kept hg375 (by simp)
         refine dr_opVal (i := 8) (v := u) h392 rfl rfl rfl rfl (by kernel_rfl) rfl (rn_load1 rfl rfl Try.isAgg38 (hk414.cell rfl)) ⟨hB383, hr385⟩ (fun a415 h415 => ?_); clear h392
         refine dk 9 (v := .int .i64 ((L.q.length : Nat) : Int)) h415 rfl rfl ⟨hB383, hr385⟩ (fun x hx => (rn_lenOwn rfl rfl Try.underlying38 hx.2)) fun a416 h416 => ?_; clear h415
         refine dk 10 (v := .int .i64 4) h416 rfl rfl ⟨hB383, hr385⟩ (fun x hx => (rn_min2 rfl rfl rfl rfl (by omega))) fun a417 h417 => ?_; clear h416
         refine dr_many [4] (by kernel_rfl) (by simp) ⟨?_, trivial⟩
         ·
          refine dr_opVal (i := 4) (v := .int .i64 L.told) h417 rfl rfl rfl rfl (by kernel_rfl) rfl (rn_load1 rfl rfl Try.isAgg3 (hk414.cell rfl)) ⟨hB383, hr385⟩ (fun a418 h418 => ?_); clear h417
          refine dk 11 (v := .int .i64 4) h418 rfl rfl ⟨hB383, hr385⟩ (fun x hx => (rn_max2 rfl rfl rfl rfl (by omega))) fun a419 h419 => ?_; clear h418
          refine dk0 12 (v := pt b 0) h419 rfl rfl ⟨hB383, hr385⟩ fun a420 h420 => ?_; clear h419
          refine dk0 13 (v := pt b 4) h420 rfl rfl ⟨hB383, hr385⟩ fun a421 h421 => ?_; clear h420
          refine d1D 14 h421 rfl rfl (op_store1 rfl rfl rfl rfl Try.sizeOf3 hk414 rfl) ?_ ?_; clear h421
          ·
           rintro _ w423 ⟨hk424, hz425, hg426⟩
           have hk424' : Blk w423 b 74 #[.int .i64 L.boot, .int .i64 L.stream, .int .i64 L.first, u, .int .i64 4, .int .i64 L.peer, .int .i64 L.in0, .int .i64 L.next, .bool false] := hk424; clear hk424
           have hz427 := hg426.size
           have hB428 := fbU_at hB383 hg426 (fun hlt => by rcases hSb with hq | hq; exact hq; omega)
           have hr429 := row_kept_at hr385 hg426 (hbu)
           exact ⟨hB428, hr429⟩
          rintro _ w423 a422 ⟨hk424, hz425, hg426⟩ h422
          have hk424' : Blk w423 b 74 #[.int .i64 L.boot, .int .i64 L.stream, .int .i64 L.first, u, .int .i64 4, .int .i64 L.peer, .int .i64 L.in0, .int .i64 L.next, .bool false] := hk424; clear hk424
          have hz427 := hg426.size
          refine dr_done (by kernel_rfl) ?_
          refine co_then ?_
          refine co_seq ?_
          refine co_reg ?_
          refine pk0 (v := v) h422 rfl fun a428 h428 => ?_; clear h422
          refine pk0 (v := v) h428 rfl fun a429 h429 => ?_; clear h428
          refine pl_nil ?_
          refine co_then ?_
          refine wp_ret ?_
          refine co_ret1 h429 rfl rfl ?_
          have hr430 := row_kept_at hr385 hg426 (hbu)
          have hB431 := fbU_at hB383 hg426 (fun hlt => by rcases hSb with hq | hq; exact hq; omega)
          have hr432 := row_kept_at hf67 hg372 (own_neT hf67 hk69 (by decide))
          have hr433 := row_kept_new hr432 hg375
          have hr434 := row_kept_at hr433 hg426 (own_neT hr433 hk414 (by decide))
          have hk0 : (4 : Int) = max L.told (L.to : Int) := by unfold LnT.to; omega
          have hbl : Blk w423 b 74 (lnC (outN L) u) := by have h := hk424'; rw [hk0] at h; exact h
          exact ⟨_, rfl, ⟨(LkU.same2 hU hbl hr430 rfl (outN_ok hok) hB431).1, (LkU.same2 hU hbl hr430 rfl (outN_ok hok) hB431).2⟩, row_lows (row_eq hr434 (by first | exact outs_a hF (by unfold LnT.to; omega) (by omega) | exact outs_b hF (by unfold LnT.to; omega) (by omega) (by first | assumption | simp_all) | exact outs_c hF (by unfold LnT.to; omega) (by omega) (by first | assumption | simp_all))) (by omega), hB431⟩
       ·
        rw [hc358] at h357
        have hp435 : (((outsL L F k).length : Nat) : Int) = 0 := by first | simpa using hc358 | simpa [and_assoc] using hc358
        clear hc358
        refine pk0 (v := pt b 0) h357 rfl fun a436 h436 => ?_; clear h357
        refine pk0 (v := pt b 0) h436 rfl fun a437 h437 => ?_; clear h436
        refine pk0 (v := pt b 8) h437 rfl fun a438 h438 => ?_; clear h437
        refine pk (v := .bool L.owes) h438 rfl (rn_load1 rfl rfl Try.isAgg4 (hk69.cell rfl)) fun a439 h439 => ?_; clear h438
        refine pk0 (v := .bool L.owes) h439 rfl fun a440 h440 => ?_; clear h439
        refine pl_nil ?_
        refine co_then ?_
        cases hc441 : (L.owes)
        ·
         rw [hc441] at h440
         refine co_false h440 rfl ?_
         refine wp_skip ?_
         refine co_then ?_
         refine co_seq ?_
         refine co_reg ?_
         refine pk0 (v := pt b 0) h440 rfl fun a442 h442 => ?_; clear h440
         refine pk0 (v := pt b 0) h442 rfl fun a443 h443 => ?_; clear h442
         refine pk0 (v := pt b 8) h443 rfl fun a444 h444 => ?_; clear h443
         refine pwD h444 rfl (op_store1 rfl rfl rfl rfl Try.sizeOf4 hk69 rfl) ?_; clear h444
         rintro _ w446 a445 ⟨hk447, hz448, hg449⟩ h445
         have hk447' : Blk w446 b 74 #[.int .i64 L.boot, .int .i64 L.stream, .int .i64 L.first, u, .int .i64 L.told, .int .i64 L.peer, .int .i64 L.in0, .int .i64 L.next, .bool false] := hk447; clear hk447
         have hz450 := hg449.size
         refine pl_nil ?_
         refine co_then ?_
         refine co_seq ?_
         refine dr_gen (fun x => But (S) w x ∧ x.ownsRow 0 9 1 u L.q.length (L.q.flatMap strE)) (by kernel_rfl) (fun w451 hg452 => ?_) (fun w451 hg452 => ?_)
         ·
          have hz453 := hg452.size
          have hB454 := fbU_at hB68 hg449 (fun hlt => by rcases hSb with hq | hq; exact hq; omega)
          have hB455 := fbU_new hB454 hg452
          have hr456 := row_kept_at hf66 hg449 (hbu)
          have hr457 := row_kept_new hr456 hg452
          exact ⟨hB455, hr457⟩
         have hz458 := hg452.size
         have hB459 := fbU_at hB68 hg449 (fun hlt => by rcases hSb with hq | hq; exact hq; omega)
         have hB460 := fbU_new hB459 hg452
         have hr461 := row_kept_at hf66 hg449 (hbu)
         have hr462 := row_kept_new hr461 hg452
         refine dk0 0 (v := pt b 0) h445 rfl rfl ⟨hB460, hr462⟩ fun a463 h463 => ?_; clear h445
         refine dk0 1 (v := pt b 0) h463 rfl rfl ⟨hB460, hr462⟩ fun a464 h464 => ?_; clear h463
         refine dk0 2 (v := pt b 0) h464 rfl rfl ⟨hB460, hr462⟩ fun a465 h465 => ?_; clear h464
         refine dk0 3 (v := pt b 4) h465 rfl rfl ⟨hB460, hr462⟩ fun a466 h466 => ?_; clear h465
         refine dk0 5 (v := pt b 0) h466 rfl rfl ⟨hB460, hr462⟩ fun a467 h467 => ?_; clear h466
         refine dk0 6 (v := pt b 0) h467 rfl rfl ⟨hB460, hr462⟩ fun a468 h468 => ?_; clear h467
         refine dk0 7 (v := pt b 3) h468 rfl rfl ⟨hB460, hr462⟩ fun a469 h469 => ?_; clear h468
         refine dr_many [4, 8] (by kernel_rfl) (by simp) ⟨?_, ?_, trivial⟩
         ·
          have hk470 := hk447'.kept hg452 (by simp)
          refine dr_opVal (i := 4) (v := .int .i64 L.told) h469 rfl rfl rfl rfl (by kernel_rfl) rfl (rn_load1 rfl rfl Try.isAgg3 (hk470.cell rfl)) ⟨hB460, hr462⟩ (fun a471 h471 => ?_); clear h469
          refine dr_many [8] (by kernel_rfl) (by simp) ⟨?_, trivial⟩
          ·
           refine dr_opVal (i := 8) (v := u) h471 rfl rfl rfl rfl (by kernel_rfl) rfl (rn_load1 rfl rfl Try.isAgg38 (hk470.cell rfl)) ⟨hB460, hr462⟩ (fun a472 h472 => ?_); clear h471
           refine dk 9 (v := .int .i64 ((L.q.length : Nat) : Int)) h472 rfl rfl ⟨hB460, hr462⟩ (fun x hx => (rn_lenOwn rfl rfl Try.underlying38 hx.2)) fun a473 h473 => ?_; clear h472
           refine dk 10 (v := .int .i64 4) h473 rfl rfl ⟨hB460, hr462⟩ (fun x hx => (rn_min2 rfl rfl rfl rfl (by omega))) fun a474 h474 => ?_; clear h473
           refine dk 11 (v := .int .i64 L.told) h474 rfl rfl ⟨hB460, hr462⟩ (fun x hx => (rn_max1 rfl rfl rfl rfl (by omega))) fun a475 h475 => ?_; clear h474
           refine dk0 12 (v := pt b 0) h475 rfl rfl ⟨hB460, hr462⟩ fun a476 h476 => ?_; clear h475
           refine dk0 13 (v := pt b 4) h476 rfl rfl ⟨hB460, hr462⟩ fun a477 h477 => ?_; clear h476
           refine d1D 14 h477 rfl rfl (op_store1 rfl rfl rfl rfl Try.sizeOf3 hk470 rfl) ?_ ?_; clear h477
           ·
            rintro _ w479 ⟨hk480, hz481, hg482⟩
            have hk480' : Blk w479 b 74 #[.int .i64 L.boot, .int .i64 L.stream, .int .i64 L.first, u, .int .i64 L.told, .int .i64 L.peer, .int .i64 L.in0, .int .i64 L.next, .bool false] := hk480; clear hk480
            have hz483 := hg482.size
            have hB484 := fbU_at hB460 hg482 (fun hlt => by rcases hSb with hq | hq; exact hq; omega)
            have hr485 := row_kept_at hr462 hg482 (hbu)
            exact ⟨hB484, hr485⟩
           rintro _ w479 a478 ⟨hk480, hz481, hg482⟩ h478
           have hk480' : Blk w479 b 74 #[.int .i64 L.boot, .int .i64 L.stream, .int .i64 L.first, u, .int .i64 L.told, .int .i64 L.peer, .int .i64 L.in0, .int .i64 L.next, .bool false] := hk480; clear hk480
           have hz483 := hg482.size
           refine dr_done (by kernel_rfl) ?_
           refine co_then ?_
           refine co_seq ?_
           refine co_reg ?_
           refine pk0 (v := v) h478 rfl fun a484 h484 => ?_; clear h478
           refine pk0 (v := v) h484 rfl fun a485 h485 => ?_; clear h484
           refine pl_nil ?_
           refine co_then ?_
           refine wp_ret ?_
           refine co_ret1 h485 rfl rfl ?_
           have hr486 := row_kept_at hr462 hg482 (hbu)
           have hB487 := fbU_at hB460 hg482 (fun hlt => by rcases hSb with hq | hq; exact hq; omega)
           have hr488 := row_kept_at hf67 hg449 (own_neT hf67 hk69 (by decide))
           have hr489 := row_kept_new hr488 hg452
           have hr490 := row_kept_at hr489 hg482 (own_neT hr489 hk470 (by decide))
           have hk0 : (L.told : Int) = max L.told (L.to : Int) := by unfold LnT.to; omega
           have hbl : Blk w479 b 74 (lnC (outN L) u) := by have h := hk480'; rw [hk0] at h; exact h
           exact ⟨_, rfl, ⟨(LkU.same2 hU hbl hr486 rfl (outN_ok hok) hB487).1, (LkU.same2 hU hbl hr486 rfl (outN_ok hok) hB487).2⟩, row_lows (row_eq hr490 (by first | exact outs_a hF (by unfold LnT.to; omega) (by omega) | exact outs_b hF (by unfold LnT.to; omega) (by omega) (by first | assumption | simp_all) | exact outs_c hF (by unfold LnT.to; omega) (by omega) (by first | assumption | simp_all))) (by omega), hB487⟩
         ·
          have hk491 := hk447'.kept hg452 (by simp)
          refine dr_opVal (i := 8) (v := u) h469 rfl rfl rfl rfl (by kernel_rfl) rfl (rn_load1 rfl rfl Try.isAgg38 (hk491.cell rfl)) ⟨hB460, hr462⟩ (fun a492 h492 => ?_); clear h469
          refine dk 9 (v := .int .i64 ((L.q.length : Nat) : Int)) h492 rfl rfl ⟨hB460, hr462⟩ (fun x hx => (rn_lenOwn rfl rfl Try.underlying38 hx.2)) fun a493 h493 => ?_; clear h492
          refine dk 10 (v := .int .i64 4) h493 rfl rfl ⟨hB460, hr462⟩ (fun x hx => (rn_min2 rfl rfl rfl rfl (by omega))) fun a494 h494 => ?_; clear h493
          refine dr_many [4] (by kernel_rfl) (by simp) ⟨?_, trivial⟩
          ·
           refine dr_opVal (i := 4) (v := .int .i64 L.told) h494 rfl rfl rfl rfl (by kernel_rfl) rfl (rn_load1 rfl rfl Try.isAgg3 (hk491.cell rfl)) ⟨hB460, hr462⟩ (fun a495 h495 => ?_); clear h494
           refine dk 11 (v := .int .i64 L.told) h495 rfl rfl ⟨hB460, hr462⟩ (fun x hx => (rn_max1 rfl rfl rfl rfl (by omega))) fun a496 h496 => ?_; clear h495
           refine dk0 12 (v := pt b 0) h496 rfl rfl ⟨hB460, hr462⟩ fun a497 h497 => ?_; clear h496
           refine dk0 13 (v := pt b 4) h497 rfl rfl ⟨hB460, hr462⟩ fun a498 h498 => ?_; clear h497
           refine d1D 14 h498 rfl rfl (op_store1 rfl rfl rfl rfl Try.sizeOf3 hk491 rfl) ?_ ?_; clear h498
           ·
            rintro _ w500 ⟨hk501, hz502, hg503⟩
            have hk501' : Blk w500 b 74 #[.int .i64 L.boot, .int .i64 L.stream, .int .i64 L.first, u, .int .i64 L.told, .int .i64 L.peer, .int .i64 L.in0, .int .i64 L.next, .bool false] := hk501; clear hk501
            have hz504 := hg503.size
            have hB505 := fbU_at hB460 hg503 (fun hlt => by rcases hSb with hq | hq; exact hq; omega)
            have hr506 := row_kept_at hr462 hg503 (hbu)
            exact ⟨hB505, hr506⟩
           rintro _ w500 a499 ⟨hk501, hz502, hg503⟩ h499
           have hk501' : Blk w500 b 74 #[.int .i64 L.boot, .int .i64 L.stream, .int .i64 L.first, u, .int .i64 L.told, .int .i64 L.peer, .int .i64 L.in0, .int .i64 L.next, .bool false] := hk501; clear hk501
           have hz504 := hg503.size
           refine dr_done (by kernel_rfl) ?_
           refine co_then ?_
           refine co_seq ?_
           refine co_reg ?_
           refine pk0 (v := v) h499 rfl fun a505 h505 => ?_; clear h499
           refine pk0 (v := v) h505 rfl fun a506 h506 => ?_; clear h505
           refine pl_nil ?_
           refine co_then ?_
           refine wp_ret ?_
           refine co_ret1 h506 rfl rfl ?_
           have hr507 := row_kept_at hr462 hg503 (hbu)
           have hB508 := fbU_at hB460 hg503 (fun hlt => by rcases hSb with hq | hq; exact hq; omega)
           have hr509 := row_kept_at hf67 hg449 (own_neT hf67 hk69 (by decide))
           have hr510 := row_kept_new hr509 hg452
           have hr511 := row_kept_at hr510 hg503 (own_neT hr510 hk491 (by decide))
           have hk0 : (L.told : Int) = max L.told (L.to : Int) := by unfold LnT.to; omega
           have hbl : Blk w500 b 74 (lnC (outN L) u) := by have h := hk501'; rw [hk0] at h; exact h
           exact ⟨_, rfl, ⟨(LkU.same2 hU hbl hr507 rfl (outN_ok hok) hB508).1, (LkU.same2 hU hbl hr507 rfl (outN_ok hok) hB508).2⟩, row_lows (row_eq hr511 (by first | exact outs_a hF (by unfold LnT.to; omega) (by omega) | exact outs_b hF (by unfold LnT.to; omega) (by omega) (by first | assumption | simp_all) | exact outs_c hF (by unfold LnT.to; omega) (by omega) (by first | assumption | simp_all))) (by omega), hB508⟩
        ·
         rw [hc441] at h440
         refine co_true h440 rfl ?_
         refine co_reg ?_
         refine pk0 (v := v) h440 rfl fun a512 h512 => ?_; clear h440
         refine pk (v := .agg #[.int .i64 L.boot, .int .i64 L.stream, .int .i64 L.first, .int .i64 L.peer, .int .i64 L.in0, .int .i64 L.next, .bool false, .string (⟨#[]⟩)]) h512 rfl (rn_loadN rfl rfl Try.underlying61 rfl (by kernel_rfl) hk70.all) fun a513 h513 => ?_; clear h512
         refine pw h513 rfl (op_new (v := fun N => .slice (some ⟨N, 0, none⟩) 1 1) (T := 61) (cs := #[.int .i64 L.boot, .int .i64 L.stream, .int .i64 L.first, .int .i64 L.peer, .int .i64 L.in0, .int .i64 L.next, .bool false, .string (⟨#[]⟩)]) (by kernel_rfl) (by kernel_rfl) (by kernel_rfl)) ?_; clear h513
         rintro _ w515 a514 ⟨N516, rfl, hN519, hz520, hk518, hg517⟩ h514
         have ha521 := row_fresh hf66 hN519
         have hu522 := row_under hf66 hN519
         have ha523 := row_fresh hf67 hN519
         have hu524 := row_under hf67 hN519
         have hz525 := hg517.size
         try dsimp only at h514
         have hr532 := row_kept_new hf67 hg517
         refine pw h514 rfl (op_append rfl (N38 + 1) 61 (z := .agg #[.int .i64 0, .int .i64 0, .int .i64 0, .int .i64 0, .int .i64 0, .int .i64 0, .bool false, .string (⟨#[]⟩)]) (size := 8) (bytes := 72) Try.underlying67 (by kernel_rfl) rfl rfl rfl hr532 rfl hk518 rfl (by kernel_rfl) (by first | omega | (simp only [List.length_nil, List.length_append, List.length_cons, List.length_take, List.length_drop]; omega)) (by first | omega | (simp only [List.length_nil, List.length_append, List.length_cons, List.length_take, List.length_drop]; omega)) (by omega)) ?_; clear h514
         rintro v528 w527 a526 ⟨hr529, hg530⟩ h526
         have hr529' : w527.ownsRow (N38 + 1) 61 8 v528 (((outsL L F k) ++ [(SegT.mk L.boot L.stream L.first L.peer L.in0 L.next false (⟨#[]⟩))]).length) (((outsL L F k) ++ [(SegT.mk L.boot L.stream L.first L.peer L.in0 L.next false (⟨#[]⟩))]).flatMap segE) := row_push (y := (SegT.mk L.boot L.stream L.first L.peer L.in0 L.next false (⟨#[]⟩))) hr529 rfl rfl; clear hr529
         have hz533 := hg530.size
         have hk534 := hk69.kept hg517 (by simp)
         refine pk0 (v := v528) h526 rfl fun a535 h535 => ?_; clear h526
         refine pl_nil ?_
         refine co_then ?_
         refine co_seq ?_
         refine co_reg ?_
         refine pk0 (v := pt b 0) h535 rfl fun a536 h536 => ?_; clear h535
         refine pk0 (v := pt b 0) h536 rfl fun a537 h537 => ?_; clear h536
         refine pk0 (v := pt b 8) h537 rfl fun a538 h538 => ?_; clear h537
         have hk544 := hk534.kept hg530 (own_neT hr532 hk534 (by decide))
         refine pwD h538 rfl (op_store1 rfl rfl rfl rfl Try.sizeOf4 hk544 rfl) ?_; clear h538
         rintro _ w540 a539 ⟨hk541, hz542, hg543⟩ h539
         have hk541' : Blk w540 b 74 #[.int .i64 L.boot, .int .i64 L.stream, .int .i64 L.first, u, .int .i64 L.told, .int .i64 L.peer, .int .i64 L.in0, .int .i64 L.next, .bool false] := hk541; clear hk541
         have hz545 := hg543.size
         refine pl_nil ?_
         refine co_then ?_
         refine co_seq ?_
         refine dr_gen (fun x => But (S) w x ∧ x.ownsRow 0 9 1 u L.q.length (L.q.flatMap strE)) (by kernel_rfl) (fun w546 hg547 => ?_) (fun w546 hg547 => ?_)
         ·
          have hz548 := hg547.size
          have hB549 := fbU_new hB68 hg517
          have hB550 := fbU_row hB549 (InS.low hr532 (by omega)) hg530
          have hB551 := fbU_at hB550 hg543 (fun hlt => by rcases hSb with hq | hq; exact hq; omega)
          have hB552 := fbU_new hB551 hg547
          have hr553 := row_kept_new hf66 hg517
          have hr554 := row_kept_row hr553 hr532 hg530 (by decide)
          have hr555 := row_kept_at hr554 hg543 (hbu)
          have hr556 := row_kept_new hr555 hg547
          exact ⟨hB552, hr556⟩
         have hz557 := hg547.size
         have hB558 := fbU_new hB68 hg517
         have hB559 := fbU_row hB558 (InS.low hr532 (by omega)) hg530
         have hB560 := fbU_at hB559 hg543 (fun hlt => by rcases hSb with hq | hq; exact hq; omega)
         have hB561 := fbU_new hB560 hg547
         have hr562 := row_kept_new hf66 hg517
         have hr563 := row_kept_row hr562 hr532 hg530 (by decide)
         have hr564 := row_kept_at hr563 hg543 (hbu)
         have hr565 := row_kept_new hr564 hg547
         refine dk0 0 (v := pt b 0) h539 rfl rfl ⟨hB561, hr565⟩ fun a566 h566 => ?_; clear h539
         refine dk0 1 (v := pt b 0) h566 rfl rfl ⟨hB561, hr565⟩ fun a567 h567 => ?_; clear h566
         refine dk0 2 (v := pt b 0) h567 rfl rfl ⟨hB561, hr565⟩ fun a568 h568 => ?_; clear h567
         refine dk0 3 (v := pt b 4) h568 rfl rfl ⟨hB561, hr565⟩ fun a569 h569 => ?_; clear h568
         refine dk0 5 (v := pt b 0) h569 rfl rfl ⟨hB561, hr565⟩ fun a570 h570 => ?_; clear h569
         refine dk0 6 (v := pt b 0) h570 rfl rfl ⟨hB561, hr565⟩ fun a571 h571 => ?_; clear h570
         refine dk0 7 (v := pt b 3) h571 rfl rfl ⟨hB561, hr565⟩ fun a572 h572 => ?_; clear h571
         refine dr_many [4, 8] (by kernel_rfl) (by simp) ⟨?_, ?_, trivial⟩
         ·
          have hk573 := hk541'.kept hg547 (by simp)
          refine dr_opVal (i := 4) (v := .int .i64 L.told) h572 rfl rfl rfl rfl (by kernel_rfl) rfl (rn_load1 rfl rfl Try.isAgg3 (hk573.cell rfl)) ⟨hB561, hr565⟩ (fun a574 h574 => ?_); clear h572
          refine dr_many [8] (by kernel_rfl) (by simp) ⟨?_, trivial⟩
          ·
           refine dr_opVal (i := 8) (v := u) h574 rfl rfl rfl rfl (by kernel_rfl) rfl (rn_load1 rfl rfl Try.isAgg38 (hk573.cell rfl)) ⟨hB561, hr565⟩ (fun a575 h575 => ?_); clear h574
           refine dk 9 (v := .int .i64 ((L.q.length : Nat) : Int)) h575 rfl rfl ⟨hB561, hr565⟩ (fun x hx => (rn_lenOwn rfl rfl Try.underlying38 hx.2)) fun a576 h576 => ?_; clear h575
           refine dk 10 (v := .int .i64 4) h576 rfl rfl ⟨hB561, hr565⟩ (fun x hx => (rn_min2 rfl rfl rfl rfl (by omega))) fun a577 h577 => ?_; clear h576
           refine dk 11 (v := .int .i64 L.told) h577 rfl rfl ⟨hB561, hr565⟩ (fun x hx => (rn_max1 rfl rfl rfl rfl (by omega))) fun a578 h578 => ?_; clear h577
           refine dk0 12 (v := pt b 0) h578 rfl rfl ⟨hB561, hr565⟩ fun a579 h579 => ?_; clear h578
           refine dk0 13 (v := pt b 4) h579 rfl rfl ⟨hB561, hr565⟩ fun a580 h580 => ?_; clear h579
           refine d1D 14 h580 rfl rfl (op_store1 rfl rfl rfl rfl Try.sizeOf3 hk573 rfl) ?_ ?_; clear h580
           ·
            rintro _ w582 ⟨hk583, hz584, hg585⟩
            have hk583' : Blk w582 b 74 #[.int .i64 L.boot, .int .i64 L.stream, .int .i64 L.first, u, .int .i64 L.told, .int .i64 L.peer, .int .i64 L.in0, .int .i64 L.next, .bool false] := hk583; clear hk583
            have hz586 := hg585.size
            have hB587 := fbU_at hB561 hg585 (fun hlt => by rcases hSb with hq | hq; exact hq; omega)
            have hr588 := row_kept_at hr565 hg585 (hbu)
            exact ⟨hB587, hr588⟩
           rintro _ w582 a581 ⟨hk583, hz584, hg585⟩ h581
           have hk583' : Blk w582 b 74 #[.int .i64 L.boot, .int .i64 L.stream, .int .i64 L.first, u, .int .i64 L.told, .int .i64 L.peer, .int .i64 L.in0, .int .i64 L.next, .bool false] := hk583; clear hk583
           have hz586 := hg585.size
           refine dr_done (by kernel_rfl) ?_
           refine co_then ?_
           refine co_seq ?_
           refine co_reg ?_
           refine pk0 (v := v528) h581 rfl fun a587 h587 => ?_; clear h581
           refine pk0 (v := v528) h587 rfl fun a588 h588 => ?_; clear h587
           refine pl_nil ?_
           refine co_then ?_
           refine wp_ret ?_
           refine co_ret1 h588 rfl rfl ?_
           have hr589 := row_kept_at hr565 hg585 (hbu)
           have hB590 := fbU_at hB561 hg585 (fun hlt => by rcases hSb with hq | hq; exact hq; omega)
           have hr591 := row_kept_at hr529' hg543 (own_neT hr529' hk544 (by decide))
           have hr592 := row_kept_new hr591 hg547
           have hr593 := row_kept_at hr592 hg585 (own_neT hr592 hk573 (by decide))
           have hk0 : (L.told : Int) = max L.told (L.to : Int) := by unfold LnT.to; omega
           have hbl : Blk w582 b 74 (lnC (outN L) u) := by have h := hk583'; rw [hk0] at h; exact h
           exact ⟨_, rfl, ⟨(LkU.same2 hU hbl hr589 rfl (outN_ok hok) hB590).1, (LkU.same2 hU hbl hr589 rfl (outN_ok hok) hB590).2⟩, row_lows (row_eq hr593 (by first | exact outs_a hF (by unfold LnT.to; omega) (by omega) | exact outs_b hF (by unfold LnT.to; omega) (by omega) (by first | assumption | simp_all) | exact outs_c hF (by unfold LnT.to; omega) (by omega) (by first | assumption | simp_all))) (by omega), hB590⟩
         ·
          have hk594 := hk541'.kept hg547 (by simp)
          refine dr_opVal (i := 8) (v := u) h572 rfl rfl rfl rfl (by kernel_rfl) rfl (rn_load1 rfl rfl Try.isAgg38 (hk594.cell rfl)) ⟨hB561, hr565⟩ (fun a595 h595 => ?_); clear h572
          refine dk 9 (v := .int .i64 ((L.q.length : Nat) : Int)) h595 rfl rfl ⟨hB561, hr565⟩ (fun x hx => (rn_lenOwn rfl rfl Try.underlying38 hx.2)) fun a596 h596 => ?_; clear h595
          refine dk 10 (v := .int .i64 4) h596 rfl rfl ⟨hB561, hr565⟩ (fun x hx => (rn_min2 rfl rfl rfl rfl (by omega))) fun a597 h597 => ?_; clear h596
          refine dr_many [4] (by kernel_rfl) (by simp) ⟨?_, trivial⟩
          ·
           refine dr_opVal (i := 4) (v := .int .i64 L.told) h597 rfl rfl rfl rfl (by kernel_rfl) rfl (rn_load1 rfl rfl Try.isAgg3 (hk594.cell rfl)) ⟨hB561, hr565⟩ (fun a598 h598 => ?_); clear h597
           refine dk 11 (v := .int .i64 L.told) h598 rfl rfl ⟨hB561, hr565⟩ (fun x hx => (rn_max1 rfl rfl rfl rfl (by omega))) fun a599 h599 => ?_; clear h598
           refine dk0 12 (v := pt b 0) h599 rfl rfl ⟨hB561, hr565⟩ fun a600 h600 => ?_; clear h599
           refine dk0 13 (v := pt b 4) h600 rfl rfl ⟨hB561, hr565⟩ fun a601 h601 => ?_; clear h600
           refine d1D 14 h601 rfl rfl (op_store1 rfl rfl rfl rfl Try.sizeOf3 hk594 rfl) ?_ ?_; clear h601
           ·
            rintro _ w603 ⟨hk604, hz605, hg606⟩
            have hk604' : Blk w603 b 74 #[.int .i64 L.boot, .int .i64 L.stream, .int .i64 L.first, u, .int .i64 L.told, .int .i64 L.peer, .int .i64 L.in0, .int .i64 L.next, .bool false] := hk604; clear hk604
            have hz607 := hg606.size
            have hB608 := fbU_at hB561 hg606 (fun hlt => by rcases hSb with hq | hq; exact hq; omega)
            have hr609 := row_kept_at hr565 hg606 (hbu)
            exact ⟨hB608, hr609⟩
           rintro _ w603 a602 ⟨hk604, hz605, hg606⟩ h602
           have hk604' : Blk w603 b 74 #[.int .i64 L.boot, .int .i64 L.stream, .int .i64 L.first, u, .int .i64 L.told, .int .i64 L.peer, .int .i64 L.in0, .int .i64 L.next, .bool false] := hk604; clear hk604
           have hz607 := hg606.size
           refine dr_done (by kernel_rfl) ?_
           refine co_then ?_
           refine co_seq ?_
           refine co_reg ?_
           refine pk0 (v := v528) h602 rfl fun a608 h608 => ?_; clear h602
           refine pk0 (v := v528) h608 rfl fun a609 h609 => ?_; clear h608
           refine pl_nil ?_
           refine co_then ?_
           refine wp_ret ?_
           refine co_ret1 h609 rfl rfl ?_
           have hr610 := row_kept_at hr565 hg606 (hbu)
           have hB611 := fbU_at hB561 hg606 (fun hlt => by rcases hSb with hq | hq; exact hq; omega)
           have hr612 := row_kept_at hr529' hg543 (own_neT hr529' hk544 (by decide))
           have hr613 := row_kept_new hr612 hg547
           have hr614 := row_kept_at hr613 hg606 (own_neT hr613 hk594 (by decide))
           have hk0 : (L.told : Int) = max L.told (L.to : Int) := by unfold LnT.to; omega
           have hbl : Blk w603 b 74 (lnC (outN L) u) := by have h := hk604'; rw [hk0] at h; exact h
           exact ⟨_, rfl, ⟨(LkU.same2 hU hbl hr610 rfl (outN_ok hok) hB611).1, (LkU.same2 hU hbl hr610 rfl (outN_ok hok) hB611).2⟩, row_lows (row_eq hr614 (by first | exact outs_a hF (by unfold LnT.to; omega) (by omega) | exact outs_b hF (by unfold LnT.to; omega) (by omega) (by first | assumption | simp_all) | exact outs_c hF (by unfold LnT.to; omega) (by omega) (by first | assumption | simp_all))) (by omega), hB611⟩
      ·
       rw [hc352] at h351
       have hp615 : ((k : Nat) : Int) < 4 := of_decide_eq_true hc352
       clear hc352
       refine co_true h351 rfl ?_
       refine wp_skip ?_
       refine co_then ?_
       refine co_seq ?_
       refine wp_block ?_
       refine co_seq ?_
       refine co_reg ?_
       refine pk0 (v := .bool false) h351 rfl fun a616 h616 => ?_; clear h351
       refine pk0 (v := .bool false) h616 rfl fun a617 h617 => ?_; clear h616
       refine pk0 (v := .int .i64 ((k : Nat) : Int)) h617 rfl fun a618 h618 => ?_; clear h617
       refine pk0 (v := pt b 0) h618 rfl fun a619 h619 => ?_; clear h618
       refine pk0 (v := pt b 0) h619 rfl fun a620 h620 => ?_; clear h619
       refine pk0 (v := pt b 4) h620 rfl fun a621 h621 => ?_; clear h620
       refine pk (v := .int .i64 L.told) h621 rfl (rn_load1 rfl rfl Try.isAgg3 (hk69.cell rfl)) fun a622 h622 => ?_; clear h621
       refine pk0 (v := .bool (decide (((k : Nat) : Int) ≥ L.told))) h622 rfl fun a623 h623 => ?_; clear h622
       refine pk0 (v := .bool (decide (((k : Nat) : Int) ≥ L.told))) h623 rfl fun a624 h624 => ?_; clear h623
       refine pl_nil ?_
       refine co_then ?_
       cases hc625 : (decide (((k : Nat) : Int) ≥ L.told))
       ·
        rw [hc625] at h624
        have hp626 : ¬ (((k : Nat) : Int) ≥ L.told) := of_decide_eq_false hc625
        clear hc625
        refine co_false h624 rfl ?_
        refine wp_skip ?_
        refine co_blockN ?_
        refine co_then ?_
        refine co_reg ?_
        refine pk0 (v := .int .i64 ((k : Nat) : Int)) h624 rfl fun a627 h627 => ?_; clear h624
        refine pk (v := .int .i64 ((k + 1 : Nat) : Int)) h627 rfl (rn_arith' rfl rfl rfl rfl rfl rfl (IntWalk.i64_in _ (by omega)) (by omega)) fun a628 h628 => ?_; clear h627
        refine pk0 (v := .int .i64 ((k + 1 : Nat) : Int)) h628 rfl fun a629 h629 => ?_; clear h628
        refine pl_nil ?_
        refine co_then ?_
        refine ⟨(4 - (k + 1)), by omega, ?_⟩
        exact ⟨k + 1, v, h629.sub ⟨rfl, rfl, rfl, rfl, rfl, trivial⟩, rfl, by omega, by omega, hf66, (row_eq hf67 (by first | (exact (List.eq_nil_of_length_eq_zero (by rw [outsL_len]; omega)).symm) | exact outsL_no (by omega) | exact outsL_yes (by omega) (by assumption))), hB68, hk69, hk70⟩
       ·
        rw [hc625] at h624
        have hp630 : ((k : Nat) : Int) ≥ L.told := of_decide_eq_true hc625
        clear hc625
        refine co_true h624 rfl ?_
        refine co_seq ?_
        refine co_reg ?_
        refine pk (v := .agg #[.int .i64 L.boot, .int .i64 L.stream, .int .i64 L.first, .int .i64 L.peer, .int .i64 L.in0, .int .i64 L.next, .bool false, .string (⟨#[]⟩)]) h624 rfl (rn_loadN rfl rfl Try.underlying61 rfl (by kernel_rfl) hk70.all) fun a631 h631 => ?_; clear h624
        refine pw h631 rfl (op_new (v := fun N => pt N 0) (T := 61) (cs := #[.int .i64 0, .int .i64 0, .int .i64 0, .int .i64 0, .int .i64 0, .int .i64 0, .bool false, .string (⟨#[]⟩)]) (by kernel_rfl) (by kernel_rfl) (by kernel_rfl)) ?_; clear h631
        rintro _ w633 a632 ⟨N634, rfl, hN637, hz638, hk636, hg635⟩ h632
        have ha639 := row_fresh hf66 hN637
        have hu640 := row_under hf66 hN637
        have ha641 := row_fresh hf67 hN637
        have hu642 := row_under hf67 hN637
        have hz643 := hg635.size
        try dsimp only at h632
        refine pwD h632 rfl (op_storeN rfl rfl rfl (by kernel_rfl) (by kernel_rfl) hk636 rfl) ?_; clear h632
        rintro _ w645 a644 ⟨hk646, hz647, hg648⟩ h644
        have hk646' : Blk w645 N634 61 #[.int .i64 L.boot, .int .i64 L.stream, .int .i64 L.first, .int .i64 L.peer, .int .i64 L.in0, .int .i64 L.next, .bool false, .string (⟨#[]⟩)] := hk646; clear hk646
        have hz649 := hg648.size
        refine pl_nil ?_
        refine co_then ?_
        refine co_seq ?_
        refine co_reg ?_
        refine pk0 (v := pt b 0) h644 rfl fun a650 h650 => ?_; clear h644
        refine pk0 (v := pt b 0) h650 rfl fun a651 h651 => ?_; clear h650
        refine pk0 (v := pt b 2) h651 rfl fun a652 h652 => ?_; clear h651
        have hk653 := hk69.kept hg635 (by simp)
        have hk654 := hk653.kept hg648 (by simp; omega)
        refine pk (v := .int .i64 L.first) h652 rfl (rn_load1 rfl rfl Try.isAgg3 (hk654.cell rfl)) fun a655 h655 => ?_; clear h652
        refine pk0 (v := .int .i64 ((k : Nat) : Int)) h655 rfl fun a656 h656 => ?_; clear h655
        refine pk (v := .int .i64 (L.first + ((k : Nat) : Int))) h656 rfl (rn_arith rfl rfl rfl rfl rfl rfl (IntWalk.i64_in _ (by omega))) fun a657 h657 => ?_; clear h656
        refine pk0 (v := pt N634 2) h657 rfl fun a658 h658 => ?_; clear h657
        refine pwD h658 rfl (op_store1 rfl rfl rfl rfl Try.sizeOf3 hk646' rfl) ?_; clear h658
        rintro _ w660 a659 ⟨hk661, hz662, hg663⟩ h659
        have hk661' : Blk w660 N634 61 #[.int .i64 L.boot, .int .i64 L.stream, .int .i64 (L.first + ((k : Nat) : Int)), .int .i64 L.peer, .int .i64 L.in0, .int .i64 L.next, .bool false, .string (⟨#[]⟩)] := hk661; clear hk661
        have hz664 := hg663.size
        refine pl_nil ?_
        refine co_then ?_
        refine co_seq ?_
        refine co_reg ?_
        refine pk0 (v := pt N634 6) h659 rfl fun a665 h665 => ?_; clear h659
        refine pwD h665 rfl (op_store1 rfl rfl rfl rfl Try.sizeOf4 hk661' rfl) ?_; clear h665
        rintro _ w667 a666 ⟨hk668, hz669, hg670⟩ h666
        have hk668' : Blk w667 N634 61 #[.int .i64 L.boot, .int .i64 L.stream, .int .i64 (L.first + ((k : Nat) : Int)), .int .i64 L.peer, .int .i64 L.in0, .int .i64 L.next, .bool true, .string (⟨#[]⟩)] := hk668; clear hk668
        have hz671 := hg670.size
        refine pl_nil ?_
        refine co_then ?_
        refine co_seq ?_
        refine co_reg ?_
        refine pk0 (v := pt b 0) h666 rfl fun a672 h672 => ?_; clear h666
        refine pk0 (v := pt b 0) h672 rfl fun a673 h673 => ?_; clear h672
        refine pk0 (v := pt b 3) h673 rfl fun a674 h674 => ?_; clear h673
        have hk675 := hk654.kept hg663 (by simp; omega)
        have hk676 := hk675.kept hg670 (by simp; omega)
        refine pk (v := u) h674 rfl (rn_load1 rfl rfl Try.isAgg38 (hk676.cell rfl)) fun a677 h677 => ?_; clear h674
        refine pk0 (v := .int .i64 ((k : Nat) : Int)) h677 rfl fun a678 h678 => ?_; clear h677
        have hr680 := row_kept_new hf66 hg635
        have hr681 := row_kept_at hr680 hg648 (ha639)
        have hr682 := row_kept_at hr681 hg663 (ha639)
        have hr683 := row_kept_at hr682 hg670 (ha639)
        obtain ⟨y679, hy679⟩ : ∃ z, L.q[k]? = some z := ⟨_, List.getElem?_eq_getElem (by first | omega | (simp; done) | (simp; omega))⟩
        refine pk (v := pt (blkOf u) (offOf u + k * 1)) h678 rfl (rn_index rfl rfl rfl Try.underlying38 Try.sizeOf9 (row_sl hr683 strE_len) (by omega) (by first | omega | (simp; done) | (simp; omega))) fun a684 h684 => ?_; clear h678
        refine pk (v := .string y679) h684 rfl (rn_load1 rfl rfl Try.isAgg9 ((sl_at (row_sl hr683 strE_len) hy679) 0 _ rfl)) fun a685 h685 => ?_; clear h684
        refine pk0 (v := pt N634 7) h685 rfl fun a686 h686 => ?_; clear h685
        refine pwD h686 rfl (op_store1 rfl rfl rfl rfl Try.sizeOf9 hk668' rfl) ?_; clear h686
        rintro _ w688 a687 ⟨hk689, hz690, hg691⟩ h687
        have hk689' : Blk w688 N634 61 #[.int .i64 L.boot, .int .i64 L.stream, .int .i64 (L.first + ((k : Nat) : Int)), .int .i64 L.peer, .int .i64 L.in0, .int .i64 L.next, .bool true, .string y679] := hk689; clear hk689
        have hz692 := hg691.size
        refine pl_nil ?_
        refine co_then ?_
        refine co_reg ?_
        refine pk0 (v := v) h687 rfl fun a693 h693 => ?_; clear h687
        refine pk (v := .agg #[.int .i64 L.boot, .int .i64 L.stream, .int .i64 (L.first + ((k : Nat) : Int)), .int .i64 L.peer, .int .i64 L.in0, .int .i64 L.next, .bool true, .string y679]) h693 rfl (rn_loadN rfl rfl Try.underlying61 rfl (by kernel_rfl) hk689'.all) fun a694 h694 => ?_; clear h693
        refine pw h694 rfl (op_new (v := fun N => .slice (some ⟨N, 0, none⟩) 1 1) (T := 61) (cs := #[.int .i64 L.boot, .int .i64 L.stream, .int .i64 (L.first + ((k : Nat) : Int)), .int .i64 L.peer, .int .i64 L.in0, .int .i64 L.next, .bool true, .string y679]) (by kernel_rfl) (by kernel_rfl) (by kernel_rfl)) ?_; clear h694
        rintro _ w696 a695 ⟨N697, rfl, hN700, hz701, hk699, hg698⟩ h695
        have hr703 := row_kept_at hr683 hg691 (ha639)
        have ha702 := row_fresh hr703 hN700
        have hu704 := row_under hr703 hN700
        have hr706 := row_kept_new hf67 hg635
        have hr707 := row_kept_at hr706 hg648 (ha641)
        have hr708 := row_kept_at hr707 hg663 (ha641)
        have hr709 := row_kept_at hr708 hg670 (ha641)
        have hr710 := row_kept_at hr709 hg691 (ha641)
        have ha705 := row_fresh hr710 hN700
        have hu711 := row_under hr710 hN700
        have hz712 := hg698.size
        try dsimp only at h695
        have hr719 := row_kept_new hr710 hg698
        refine pw h695 rfl (op_append rfl (N38 + 1) 61 (z := .agg #[.int .i64 0, .int .i64 0, .int .i64 0, .int .i64 0, .int .i64 0, .int .i64 0, .bool false, .string (⟨#[]⟩)]) (size := 8) (bytes := 72) Try.underlying67 (by kernel_rfl) rfl rfl rfl hr719 rfl hk699 rfl (by kernel_rfl) (by first | omega | (simp only [List.length_nil, List.length_append, List.length_cons, List.length_take, List.length_drop]; omega)) (by first | omega | (simp only [List.length_nil, List.length_append, List.length_cons, List.length_take, List.length_drop]; omega)) (by omega)) ?_; clear h695
        rintro v715 w714 a713 ⟨hr716, hg717⟩ h713
        have hr716' : w714.ownsRow (N38 + 1) 61 8 v715 (((outsL L F k) ++ [(SegT.mk L.boot L.stream (L.first + ((k : Nat) : Int)) L.peer L.in0 L.next true y679)]).length) (((outsL L F k) ++ [(SegT.mk L.boot L.stream (L.first + ((k : Nat) : Int)) L.peer L.in0 L.next true y679)]).flatMap segE) := row_push (y := (SegT.mk L.boot L.stream (L.first + ((k : Nat) : Int)) L.peer L.in0 L.next true y679)) hr716 rfl rfl; clear hr716
        have hz720 := hg717.size
        have hk721 := hk676.kept hg691 (by simp; omega)
        have hk722 := hk721.kept hg698 (by simp)
        refine pk0 (v := v715) h713 rfl fun a723 h723 => ?_; clear h713
        refine pl_nil ?_
        refine co_blockN ?_
        refine co_then ?_
        refine co_reg ?_
        refine pk0 (v := .int .i64 ((k : Nat) : Int)) h723 rfl fun a724 h724 => ?_; clear h723
        refine pk (v := .int .i64 ((k + 1 : Nat) : Int)) h724 rfl (rn_arith' rfl rfl rfl rfl rfl rfl (IntWalk.i64_in _ (by omega)) (by omega)) fun a725 h725 => ?_; clear h724
        refine pk0 (v := .int .i64 ((k + 1 : Nat) : Int)) h725 rfl fun a726 h726 => ?_; clear h725
        refine pl_nil ?_
        refine co_then ?_
        refine ⟨(4 - (k + 1)), by omega, ?_⟩
        have hr727 := row_kept_new hr703 hg698
        have hr728 := row_kept_row hr727 hr719 hg717 (by decide)
        have hB729 := fbU_new hB68 hg635
        have hB730 := fbU_at hB729 hg648 (fun hlt => absurd hlt (by omega))
        have hB731 := fbU_at hB730 hg663 (fun hlt => absurd hlt (by omega))
        have hB732 := fbU_at hB731 hg670 (fun hlt => absurd hlt (by omega))
        have hB733 := fbU_at hB732 hg691 (fun hlt => absurd hlt (by omega))
        have hB734 := fbU_new hB733 hg698
        have hB735 := fbU_row hB734 (InS.low hr719 (by omega)) hg717
        have hk736 := hk722.kept hg717 (own_neT hr719 hk722 (by decide))
        have hk737 := hk70.kept hg635 (by simp)
        have hk738 := hk737.kept hg648 (by simp; omega)
        have hk739 := hk738.kept hg663 (by simp; omega)
        have hk740 := hk739.kept hg670 (by simp; omega)
        have hk741 := hk740.kept hg691 (by simp; omega)
        have hk742 := hk741.kept hg698 (by simp)
        have hk743 := hk742.kept hg717 (row_ne_lt hr719 (by omega))
        exact ⟨k + 1, v715, h726.sub ⟨rfl, rfl, rfl, rfl, rfl, trivial⟩, rfl, by omega, by omega, hr728, (row_eq hr716' (by first | (exact (List.eq_nil_of_length_eq_zero (by rw [outsL_len]; omega)).symm) | exact outsL_no (by omega) | exact outsL_yes (by omega) (by assumption))), hB735, hk736, hk743⟩
 · skip
   have hF0 : F = 0 := by rw [hF]; unfold LnT.fr; simp
   refine co_enter (n := 108) Try.func38 rfl rfl rfl [(0, pt b 0), (1, .bool true)] rfl (fun a h0 => ?_)
   refine co_seq ?_
   refine co_reg ?_
   refine pk0 (v := .slice none 0 0) h0 rfl fun a744 h744 => ?_; clear h0
   refine pl_nil ?_
   refine co_then ?_
   refine co_seq ?_
   refine co_reg ?_
   refine pk0 (v := .slice none 0 0) h744 rfl fun a745 h745 => ?_; clear h744
   refine pl_nil ?_
   refine co_then ?_
   refine co_seq ?_
   refine dr_gen (fun x => But (S) w x ∧ Blk x b 74 #[.int .i64 L.boot, .int .i64 L.stream, .int .i64 L.first, u, .int .i64 L.told, .int .i64 L.peer, .int .i64 L.in0, .int .i64 L.next, .bool L.owes]) (by kernel_rfl) (fun w746 hg747 => ?_) (fun w746 hg747 => ?_)
   ·
    have hz748 := hg747.size
    have hB749 := fbU_new hB0 hg747
    have hk750 := hB.kept hg747 (by simp)
    exact ⟨hB749, hk750⟩
   have hz751 := hg747.size
   have hB752 := fbU_new hB0 hg747
   have hk753 := hB.kept hg747 (by simp)
   refine dk0 0 (v := pt b 0) h745 rfl rfl ⟨hB752, hk753⟩ fun a754 h754 => ?_; clear h745
   refine dk0 1 (v := pt b 0) h754 rfl rfl ⟨hB752, hk753⟩ fun a755 h755 => ?_; clear h754
   refine dk0 2 (v := pt b 0) h755 rfl rfl ⟨hB752, hk753⟩ fun a756 h756 => ?_; clear h755
   refine dk 3 (v := .int .i64 L.boot) h756 rfl rfl ⟨hB752, hk753⟩ (fun x hx => (rn_load1 rfl rfl Try.isAgg3 (hx.2.cell rfl))) fun a757 h757 => ?_; clear h756
   refine dk0 4 (v := pt b 0) h757 rfl rfl ⟨hB752, hk753⟩ fun a758 h758 => ?_; clear h757
   refine dk0 5 (v := pt b 0) h758 rfl rfl ⟨hB752, hk753⟩ fun a759 h759 => ?_; clear h758
   refine dk0 6 (v := pt b 1) h759 rfl rfl ⟨hB752, hk753⟩ fun a760 h760 => ?_; clear h759
   refine dk 7 (v := .int .i64 L.stream) h760 rfl rfl ⟨hB752, hk753⟩ (fun x hx => (rn_load1 rfl rfl Try.isAgg3 (hx.2.cell rfl))) fun a761 h761 => ?_; clear h760
   refine dk0 8 (v := pt b 0) h761 rfl rfl ⟨hB752, hk753⟩ fun a762 h762 => ?_; clear h761
   refine dk0 9 (v := pt b 0) h762 rfl rfl ⟨hB752, hk753⟩ fun a763 h763 => ?_; clear h762
   refine dk0 10 (v := pt b 2) h763 rfl rfl ⟨hB752, hk753⟩ fun a764 h764 => ?_; clear h763
   refine dk 11 (v := .int .i64 L.first) h764 rfl rfl ⟨hB752, hk753⟩ (fun x hx => (rn_load1 rfl rfl Try.isAgg3 (hx.2.cell rfl))) fun a765 h765 => ?_; clear h764
   refine dk0 12 (v := pt b 0) h765 rfl rfl ⟨hB752, hk753⟩ fun a766 h766 => ?_; clear h765
   refine dk0 13 (v := pt b 0) h766 rfl rfl ⟨hB752, hk753⟩ fun a767 h767 => ?_; clear h766
   refine dk0 14 (v := pt b 5) h767 rfl rfl ⟨hB752, hk753⟩ fun a768 h768 => ?_; clear h767
   refine dk 15 (v := .int .i64 L.peer) h768 rfl rfl ⟨hB752, hk753⟩ (fun x hx => (rn_load1 rfl rfl Try.isAgg3 (hx.2.cell rfl))) fun a769 h769 => ?_; clear h768
   refine dk0 16 (v := pt b 0) h769 rfl rfl ⟨hB752, hk753⟩ fun a770 h770 => ?_; clear h769
   refine dk0 17 (v := pt b 0) h770 rfl rfl ⟨hB752, hk753⟩ fun a771 h771 => ?_; clear h770
   refine dk0 18 (v := pt b 6) h771 rfl rfl ⟨hB752, hk753⟩ fun a772 h772 => ?_; clear h771
   refine dk 19 (v := .int .i64 L.in0) h772 rfl rfl ⟨hB752, hk753⟩ (fun x hx => (rn_load1 rfl rfl Try.isAgg3 (hx.2.cell rfl))) fun a773 h773 => ?_; clear h772
   refine dk0 20 (v := pt b 0) h773 rfl rfl ⟨hB752, hk753⟩ fun a774 h774 => ?_; clear h773
   refine dk0 21 (v := pt b 0) h774 rfl rfl ⟨hB752, hk753⟩ fun a775 h775 => ?_; clear h774
   refine dk0 22 (v := pt b 7) h775 rfl rfl ⟨hB752, hk753⟩ fun a776 h776 => ?_; clear h775
   refine dk 23 (v := .int .i64 L.next) h776 rfl rfl ⟨hB752, hk753⟩ (fun x hx => (rn_load1 rfl rfl Try.isAgg3 (hx.2.cell rfl))) fun a777 h777 => ?_; clear h776
   refine dk0 24 (v := .agg #[.int .i64 L.boot, .int .i64 L.stream, .int .i64 L.first, .int .i64 L.peer, .int .i64 L.in0, .int .i64 L.next, .bool false, .string (⟨#[]⟩)]) h777 rfl rfl ⟨hB752, hk753⟩ fun a778 h778 => ?_; clear h777
   refine d1 25 h778 rfl rfl (op_new (v := fun N => pt N 0) (T := 61) (cs := #[.int .i64 0, .int .i64 0, .int .i64 0, .int .i64 0, .int .i64 0, .int .i64 0, .bool false, .string (⟨#[]⟩)]) (by kernel_rfl) (by kernel_rfl) (by kernel_rfl)) ?_ ?_; clear h778
   ·
    rintro _ w780 ⟨N781, rfl, hN784, hz785, hk783, hg782⟩
    have hr787 := row_kept_new hR hg747
    have ha786 := row_fresh hr787 hN784
    have hu788 := row_under hr787 hN784
    have hz789 := hg782.size
    have hB790 := fbU_new hB752 hg782
    have hk791 := hk753.kept hg782 (by simp)
    exact ⟨hB790, hk791⟩
   rintro _ w780 a779 ⟨N781, rfl, hN784, hz785, hk783, hg782⟩ h779
   have hr787 := row_kept_new hR hg747
   have ha786 := row_fresh hr787 hN784
   have hu788 := row_under hr787 hN784
   have hz789 := hg782.size
   try dsimp only at h779
   have hB790 := fbU_new hB752 hg782
   have hk791 := hk753.kept hg782 (by simp)
   refine d1D 26 h779 rfl rfl (op_storeN rfl rfl rfl (by kernel_rfl) (by kernel_rfl) hk783 rfl) ?_ ?_; clear h779
   ·
    rintro _ w793 ⟨hk794, hz795, hg796⟩
    have hk794' : Blk w793 N781 61 #[.int .i64 L.boot, .int .i64 L.stream, .int .i64 L.first, .int .i64 L.peer, .int .i64 L.in0, .int .i64 L.next, .bool false, .string (⟨#[]⟩)] := hk794; clear hk794
    have hz797 := hg796.size
    have hB798 := fbU_at hB790 hg796 (fun hlt => absurd hlt (by omega))
    have hk799 := hk791.kept hg796 (by simp; omega)
    exact ⟨hB798, hk799⟩
   rintro _ w793 a792 ⟨hk794, hz795, hg796⟩ h792
   have hk794' : Blk w793 N781 61 #[.int .i64 L.boot, .int .i64 L.stream, .int .i64 L.first, .int .i64 L.peer, .int .i64 L.in0, .int .i64 L.next, .bool false, .string (⟨#[]⟩)] := hk794; clear hk794
   have hz797 := hg796.size
   refine dr_done (by kernel_rfl) ?_
   refine co_then ?_
   refine co_seq ?_
   refine co_seq ?_
   refine co_reg ?_
   refine pk0 (v := .int .i64 0) h792 rfl fun a798 h798 => ?_; clear h792
   refine pl_nil ?_
   refine co_then ?_
   refine wp_block ?_
   have h799 : Slots 108 [(0, pt b 0), (1, .bool true), (5, .slice none 0 0), (6, pt N781 0), (7, .int .i64 0)] _ := h798.sub ⟨rfl, rfl, rfl, rfl, rfl, trivial⟩; clear h798
   refine co_loop (fun mm a x => ∃ (k : Nat) (v : Value), Slots 108 [(0, pt b 0), (1, .bool true), (5, v), (6, pt N781 0), (7, .int .i64 ((k : Nat) : Int))] a ∧ mm = 4 - k ∧ (k ≤ L.q.length) ∧ (k ≤ 4) ∧ x.ownsRow 0 9 1 u L.q.length (L.q.flatMap strE) ∧ x.ownsRow (N781 + 1) 61 8 v (outsL L F k).length ((outsL L F k).flatMap segE) ∧ But (S) w x ∧ Blk x b 74 #[.int .i64 L.boot, .int .i64 L.stream, .int .i64 L.first, u, .int .i64 L.told, .int .i64 L.peer, .int .i64 L.in0, .int .i64 L.next, .bool L.owes] ∧ Blk x N781 61 #[.int .i64 L.boot, .int .i64 L.stream, .int .i64 L.first, .int .i64 L.peer, .int .i64 L.in0, .int .i64 L.next, .bool false, .string (⟨#[]⟩)]) (4 - 0) ?_ ?_
   have hr800 := row_kept_new hr787 hg782
   have hr801 := row_kept_at hr800 hg796 (ha786)
   have hB802 := fbU_at hB790 hg796 (fun hlt => absurd hlt (by omega))
   have hk803 := hk791.kept hg796 (by simp; omega)
   · exact ⟨0, (.slice none 0 0), h799.sub ⟨rfl, rfl, rfl, rfl, (slot_eq rfl (congrArg (Value.int .i64) (by first | rfl | omega))), trivial⟩, rfl, by omega, by omega, hr801, (by rw [List.eq_nil_of_length_eq_zero (l := outsL L F 0) (by rw [outsL_len]; omega)]; exact row_nilL _ _ _ _ _), hB802, hk803, hk794'⟩
   · rintro k804 a805 w806 ⟨k, v, h805, rfl, hi807, hi808, hf809, hf810, hB811, hk812, hk813⟩
     have hz814 := hB811.size
     have hl815 := hk812.lt
     have hl816 := hk813.lt
     have hol := outsL_len L F k
     refine co_seq ?_
     refine co_seq ?_
     refine co_reg ?_
     refine pk0 (v := .int .i64 ((k : Nat) : Int)) h805 rfl fun a817 h817 => ?_; clear h805
     refine pk0 (v := pt b 0) h817 rfl fun a818 h818 => ?_; clear h817
     refine pk0 (v := pt b 0) h818 rfl fun a819 h819 => ?_; clear h818
     refine pk0 (v := pt b 3) h819 rfl fun a820 h820 => ?_; clear h819
     refine pk (v := u) h820 rfl (rn_load1 rfl rfl Try.isAgg38 (hk812.cell rfl)) fun a821 h821 => ?_; clear h820
     refine pk (v := .int .i64 ((L.q.length : Nat) : Int)) h821 rfl (rn_lenOwn rfl rfl Try.underlying38 hf809) fun a822 h822 => ?_; clear h821
     refine pk0 (v := .bool (decide (((k : Nat) : Int) < ((L.q.length : Nat) : Int)))) h822 rfl fun a823 h823 => ?_; clear h822
     refine pk0 (v := .bool (decide (((k : Nat) : Int) < ((L.q.length : Nat) : Int)))) h823 rfl fun a824 h824 => ?_; clear h823
     cases hc825 : (decide (((k : Nat) : Int) < ((L.q.length : Nat) : Int)))
     ·
      rw [hc825] at h824
      have hp826 : ¬ (((k : Nat) : Int) < ((L.q.length : Nat) : Int)) := of_decide_eq_false hc825
      clear hc825
      refine psk h824 rfl fun a827 h827 => ?_; clear h824
      refine psk h827 rfl fun a828 h828 => ?_; clear h827
      refine pk0 (v := .bool false) h828 rfl fun a829 h829 => ?_; clear h828
      refine pl_nil ?_
      refine co_then ?_
      refine co_false h829 rfl ?_
      refine wp_exit ?_
      refine co_thenX ?_
      refine co_thenX ?_
      refine co_blockX ?_
      refine co_then ?_
      refine co_seq ?_
      refine co_seq ?_
      refine co_reg ?_
      refine pk0 (v := v) h829 rfl fun a830 h830 => ?_; clear h829
      refine pk (v := .int .i64 (((outsL L F k).length : Nat) : Int)) h830 rfl (rn_lenOwn rfl rfl Try.underlying67 hf810) fun a831 h831 => ?_; clear h830
      refine pk0 (v := .bool ((((outsL L F k).length : Nat) : Int) == 0)) h831 rfl fun a832 h832 => ?_; clear h831
      refine pk0 (v := .bool ((((outsL L F k).length : Nat) : Int) == 0)) h832 rfl fun a833 h833 => ?_; clear h832
      cases hc834 : ((((outsL L F k).length : Nat) : Int) == 0)
      ·
       rw [hc834] at h833
       have hp835 : ¬ ((((outsL L F k).length : Nat) : Int) = 0) := by first | simpa using hc834 | simpa [and_assoc] using hc834
       clear hc834
       refine psk h833 rfl fun a836 h836 => ?_; clear h833
       refine psk h836 rfl fun a837 h837 => ?_; clear h836
       refine psk h837 rfl fun a838 h838 => ?_; clear h837
       refine psk h838 rfl fun a839 h839 => ?_; clear h838
       refine pk0 (v := .bool false) h839 rfl fun a840 h840 => ?_; clear h839
       refine pl_nil ?_
       refine co_then ?_
       refine co_false h840 rfl ?_
       refine wp_skip ?_
       refine co_then ?_
       refine co_seq ?_
       refine co_reg ?_
       refine pk0 (v := pt b 0) h840 rfl fun a841 h841 => ?_; clear h840
       refine pk0 (v := pt b 0) h841 rfl fun a842 h842 => ?_; clear h841
       refine pk0 (v := pt b 8) h842 rfl fun a843 h843 => ?_; clear h842
       refine pwD h843 rfl (op_store1 rfl rfl rfl rfl Try.sizeOf4 hk812 rfl) ?_; clear h843
       rintro _ w845 a844 ⟨hk846, hz847, hg848⟩ h844
       have hk846' : Blk w845 b 74 #[.int .i64 L.boot, .int .i64 L.stream, .int .i64 L.first, u, .int .i64 L.told, .int .i64 L.peer, .int .i64 L.in0, .int .i64 L.next, .bool false] := hk846; clear hk846
       have hz849 := hg848.size
       refine pl_nil ?_
       refine co_then ?_
       refine co_seq ?_
       refine dr_gen (fun x => But (S) w x ∧ x.ownsRow 0 9 1 u L.q.length (L.q.flatMap strE)) (by kernel_rfl) (fun w850 hg851 => ?_) (fun w850 hg851 => ?_)
       ·
        have hz852 := hg851.size
        have hB853 := fbU_at hB811 hg848 (fun hlt => by rcases hSb with hq | hq; exact hq; omega)
        have hB854 := fbU_new hB853 hg851
        have hr855 := row_kept_at hf809 hg848 (hbu)
        have hr856 := row_kept_new hr855 hg851
        exact ⟨hB854, hr856⟩
       have hz857 := hg851.size
       have hB858 := fbU_at hB811 hg848 (fun hlt => by rcases hSb with hq | hq; exact hq; omega)
       have hB859 := fbU_new hB858 hg851
       have hr860 := row_kept_at hf809 hg848 (hbu)
       have hr861 := row_kept_new hr860 hg851
       refine dk0 0 (v := pt b 0) h844 rfl rfl ⟨hB859, hr861⟩ fun a862 h862 => ?_; clear h844
       refine dk0 1 (v := pt b 0) h862 rfl rfl ⟨hB859, hr861⟩ fun a863 h863 => ?_; clear h862
       refine dk0 2 (v := pt b 0) h863 rfl rfl ⟨hB859, hr861⟩ fun a864 h864 => ?_; clear h863
       refine dk0 3 (v := pt b 4) h864 rfl rfl ⟨hB859, hr861⟩ fun a865 h865 => ?_; clear h864
       refine dk0 5 (v := pt b 0) h865 rfl rfl ⟨hB859, hr861⟩ fun a866 h866 => ?_; clear h865
       refine dk0 6 (v := pt b 0) h866 rfl rfl ⟨hB859, hr861⟩ fun a867 h867 => ?_; clear h866
       refine dk0 7 (v := pt b 3) h867 rfl rfl ⟨hB859, hr861⟩ fun a868 h868 => ?_; clear h867
       refine dr_many [4, 8] (by kernel_rfl) (by simp) ⟨?_, ?_, trivial⟩
       ·
        have hk869 := hk846'.kept hg851 (by simp)
        refine dr_opVal (i := 4) (v := .int .i64 L.told) h868 rfl rfl rfl rfl (by kernel_rfl) rfl (rn_load1 rfl rfl Try.isAgg3 (hk869.cell rfl)) ⟨hB859, hr861⟩ (fun a870 h870 => ?_); clear h868
        refine dr_many [8] (by kernel_rfl) (by simp) ⟨?_, trivial⟩
        ·
         refine dr_opVal (i := 8) (v := u) h870 rfl rfl rfl rfl (by kernel_rfl) rfl (rn_load1 rfl rfl Try.isAgg38 (hk869.cell rfl)) ⟨hB859, hr861⟩ (fun a871 h871 => ?_); clear h870
         refine dk 9 (v := .int .i64 ((L.q.length : Nat) : Int)) h871 rfl rfl ⟨hB859, hr861⟩ (fun x hx => (rn_lenOwn rfl rfl Try.underlying38 hx.2)) fun a872 h872 => ?_; clear h871
         refine dk 10 (v := .int .i64 ((L.q.length : Nat) : Int)) h872 rfl rfl ⟨hB859, hr861⟩ (fun x hx => (rn_min1 rfl rfl rfl rfl (by omega))) fun a873 h873 => ?_; clear h872
         by_cases hs874 : L.told < ((L.q.length : Nat) : Int)
         ·
          refine dk 11 (v := .int .i64 ((L.q.length : Nat) : Int)) h873 rfl rfl ⟨hB859, hr861⟩ (fun x hx => (rn_max2 rfl rfl rfl rfl (by omega))) fun a875 h875 => ?_; clear h873
          refine dk0 12 (v := pt b 0) h875 rfl rfl ⟨hB859, hr861⟩ fun a876 h876 => ?_; clear h875
          refine dk0 13 (v := pt b 4) h876 rfl rfl ⟨hB859, hr861⟩ fun a877 h877 => ?_; clear h876
          refine d1D 14 h877 rfl rfl (op_store1 rfl rfl rfl rfl Try.sizeOf3 hk869 rfl) ?_ ?_; clear h877
          ·
           rintro _ w879 ⟨hk880, hz881, hg882⟩
           have hk880' : Blk w879 b 74 #[.int .i64 L.boot, .int .i64 L.stream, .int .i64 L.first, u, .int .i64 ((L.q.length : Nat) : Int), .int .i64 L.peer, .int .i64 L.in0, .int .i64 L.next, .bool false] := hk880; clear hk880
           have hz883 := hg882.size
           have hB884 := fbU_at hB859 hg882 (fun hlt => by rcases hSb with hq | hq; exact hq; omega)
           have hr885 := row_kept_at hr861 hg882 (hbu)
           exact ⟨hB884, hr885⟩
          rintro _ w879 a878 ⟨hk880, hz881, hg882⟩ h878
          have hk880' : Blk w879 b 74 #[.int .i64 L.boot, .int .i64 L.stream, .int .i64 L.first, u, .int .i64 ((L.q.length : Nat) : Int), .int .i64 L.peer, .int .i64 L.in0, .int .i64 L.next, .bool false] := hk880; clear hk880
          have hz883 := hg882.size
          refine dr_done (by kernel_rfl) ?_
          refine co_then ?_
          refine co_seq ?_
          refine co_reg ?_
          refine pk0 (v := v) h878 rfl fun a884 h884 => ?_; clear h878
          refine pk0 (v := v) h884 rfl fun a885 h885 => ?_; clear h884
          refine pl_nil ?_
          refine co_then ?_
          refine wp_ret ?_
          refine co_ret1 h885 rfl rfl ?_
          have hr886 := row_kept_at hr861 hg882 (hbu)
          have hB887 := fbU_at hB859 hg882 (fun hlt => by rcases hSb with hq | hq; exact hq; omega)
          have hr888 := row_kept_at hf810 hg848 (own_neT hf810 hk812 (by decide))
          have hr889 := row_kept_new hr888 hg851
          have hr890 := row_kept_at hr889 hg882 (own_neT hr889 hk869 (by decide))
          have hk0 : (((L.q.length : Nat) : Int) : Int) = max L.told (L.to : Int) := by unfold LnT.to; omega
          have hbl : Blk w879 b 74 (lnC (outN L) u) := by have h := hk880'; rw [hk0] at h; exact h
          exact ⟨_, rfl, ⟨(LkU.same2 hU hbl hr886 rfl (outN_ok hok) hB887).1, (LkU.same2 hU hbl hr886 rfl (outN_ok hok) hB887).2⟩, row_lows (row_eq hr890 (by first | exact outs_a hF (by unfold LnT.to; omega) (by omega) | exact outs_b hF (by unfold LnT.to; omega) (by omega) (by first | assumption | simp_all) | exact outs_c hF (by unfold LnT.to; omega) (by omega) (by first | assumption | simp_all))) (by omega), hB887⟩
         ·
          refine dk 11 (v := .int .i64 L.told) h873 rfl rfl ⟨hB859, hr861⟩ (fun x hx => (rn_max1 rfl rfl rfl rfl (by omega))) fun a891 h891 => ?_; clear h873
          refine dk0 12 (v := pt b 0) h891 rfl rfl ⟨hB859, hr861⟩ fun a892 h892 => ?_; clear h891
          refine dk0 13 (v := pt b 4) h892 rfl rfl ⟨hB859, hr861⟩ fun a893 h893 => ?_; clear h892
          refine d1D 14 h893 rfl rfl (op_store1 rfl rfl rfl rfl Try.sizeOf3 hk869 rfl) ?_ ?_; clear h893
          ·
           rintro _ w895 ⟨hk896, hz897, hg898⟩
           have hk896' : Blk w895 b 74 #[.int .i64 L.boot, .int .i64 L.stream, .int .i64 L.first, u, .int .i64 L.told, .int .i64 L.peer, .int .i64 L.in0, .int .i64 L.next, .bool false] := hk896; clear hk896
           have hz899 := hg898.size
           have hB900 := fbU_at hB859 hg898 (fun hlt => by rcases hSb with hq | hq; exact hq; omega)
           have hr901 := row_kept_at hr861 hg898 (hbu)
           exact ⟨hB900, hr901⟩
          rintro _ w895 a894 ⟨hk896, hz897, hg898⟩ h894
          have hk896' : Blk w895 b 74 #[.int .i64 L.boot, .int .i64 L.stream, .int .i64 L.first, u, .int .i64 L.told, .int .i64 L.peer, .int .i64 L.in0, .int .i64 L.next, .bool false] := hk896; clear hk896
          have hz899 := hg898.size
          refine dr_done (by kernel_rfl) ?_
          refine co_then ?_
          refine co_seq ?_
          refine co_reg ?_
          refine pk0 (v := v) h894 rfl fun a900 h900 => ?_; clear h894
          refine pk0 (v := v) h900 rfl fun a901 h901 => ?_; clear h900
          refine pl_nil ?_
          refine co_then ?_
          refine wp_ret ?_
          refine co_ret1 h901 rfl rfl ?_
          have hr902 := row_kept_at hr861 hg898 (hbu)
          have hB903 := fbU_at hB859 hg898 (fun hlt => by rcases hSb with hq | hq; exact hq; omega)
          have hr904 := row_kept_at hf810 hg848 (own_neT hf810 hk812 (by decide))
          have hr905 := row_kept_new hr904 hg851
          have hr906 := row_kept_at hr905 hg898 (own_neT hr905 hk869 (by decide))
          have hk0 : (L.told : Int) = max L.told (L.to : Int) := by unfold LnT.to; omega
          have hbl : Blk w895 b 74 (lnC (outN L) u) := by have h := hk896'; rw [hk0] at h; exact h
          exact ⟨_, rfl, ⟨(LkU.same2 hU hbl hr902 rfl (outN_ok hok) hB903).1, (LkU.same2 hU hbl hr902 rfl (outN_ok hok) hB903).2⟩, row_lows (row_eq hr906 (by first | exact outs_a hF (by unfold LnT.to; omega) (by omega) | exact outs_b hF (by unfold LnT.to; omega) (by omega) (by first | assumption | simp_all) | exact outs_c hF (by unfold LnT.to; omega) (by omega) (by first | assumption | simp_all))) (by omega), hB903⟩
       ·
        have hk907 := hk846'.kept hg851 (by simp)
        refine dr_opVal (i := 8) (v := u) h868 rfl rfl rfl rfl (by kernel_rfl) rfl (rn_load1 rfl rfl Try.isAgg38 (hk907.cell rfl)) ⟨hB859, hr861⟩ (fun a908 h908 => ?_); clear h868
        refine dk 9 (v := .int .i64 ((L.q.length : Nat) : Int)) h908 rfl rfl ⟨hB859, hr861⟩ (fun x hx => (rn_lenOwn rfl rfl Try.underlying38 hx.2)) fun a909 h909 => ?_; clear h908
        refine dk 10 (v := .int .i64 ((L.q.length : Nat) : Int)) h909 rfl rfl ⟨hB859, hr861⟩ (fun x hx => (rn_min1 rfl rfl rfl rfl (by omega))) fun a910 h910 => ?_; clear h909
        refine dr_many [4] (by kernel_rfl) (by simp) ⟨?_, trivial⟩
        ·
         refine dr_opVal (i := 4) (v := .int .i64 L.told) h910 rfl rfl rfl rfl (by kernel_rfl) rfl (rn_load1 rfl rfl Try.isAgg3 (hk907.cell rfl)) ⟨hB859, hr861⟩ (fun a911 h911 => ?_); clear h910
         by_cases hs912 : L.told < ((L.q.length : Nat) : Int)
         ·
          refine dk 11 (v := .int .i64 ((L.q.length : Nat) : Int)) h911 rfl rfl ⟨hB859, hr861⟩ (fun x hx => (rn_max2 rfl rfl rfl rfl (by omega))) fun a913 h913 => ?_; clear h911
          refine dk0 12 (v := pt b 0) h913 rfl rfl ⟨hB859, hr861⟩ fun a914 h914 => ?_; clear h913
          refine dk0 13 (v := pt b 4) h914 rfl rfl ⟨hB859, hr861⟩ fun a915 h915 => ?_; clear h914
          refine d1D 14 h915 rfl rfl (op_store1 rfl rfl rfl rfl Try.sizeOf3 hk907 rfl) ?_ ?_; clear h915
          ·
           rintro _ w917 ⟨hk918, hz919, hg920⟩
           have hk918' : Blk w917 b 74 #[.int .i64 L.boot, .int .i64 L.stream, .int .i64 L.first, u, .int .i64 ((L.q.length : Nat) : Int), .int .i64 L.peer, .int .i64 L.in0, .int .i64 L.next, .bool false] := hk918; clear hk918
           have hz921 := hg920.size
           have hB922 := fbU_at hB859 hg920 (fun hlt => by rcases hSb with hq | hq; exact hq; omega)
           have hr923 := row_kept_at hr861 hg920 (hbu)
           exact ⟨hB922, hr923⟩
          rintro _ w917 a916 ⟨hk918, hz919, hg920⟩ h916
          have hk918' : Blk w917 b 74 #[.int .i64 L.boot, .int .i64 L.stream, .int .i64 L.first, u, .int .i64 ((L.q.length : Nat) : Int), .int .i64 L.peer, .int .i64 L.in0, .int .i64 L.next, .bool false] := hk918; clear hk918
          have hz921 := hg920.size
          refine dr_done (by kernel_rfl) ?_
          refine co_then ?_
          refine co_seq ?_
          refine co_reg ?_
          refine pk0 (v := v) h916 rfl fun a922 h922 => ?_; clear h916
          refine pk0 (v := v) h922 rfl fun a923 h923 => ?_; clear h922
          refine pl_nil ?_
          refine co_then ?_
          refine wp_ret ?_
          refine co_ret1 h923 rfl rfl ?_
          have hr924 := row_kept_at hr861 hg920 (hbu)
          have hB925 := fbU_at hB859 hg920 (fun hlt => by rcases hSb with hq | hq; exact hq; omega)
          have hr926 := row_kept_at hf810 hg848 (own_neT hf810 hk812 (by decide))
          have hr927 := row_kept_new hr926 hg851
          have hr928 := row_kept_at hr927 hg920 (own_neT hr927 hk907 (by decide))
          have hk0 : (((L.q.length : Nat) : Int) : Int) = max L.told (L.to : Int) := by unfold LnT.to; omega
          have hbl : Blk w917 b 74 (lnC (outN L) u) := by have h := hk918'; rw [hk0] at h; exact h
          exact ⟨_, rfl, ⟨(LkU.same2 hU hbl hr924 rfl (outN_ok hok) hB925).1, (LkU.same2 hU hbl hr924 rfl (outN_ok hok) hB925).2⟩, row_lows (row_eq hr928 (by first | exact outs_a hF (by unfold LnT.to; omega) (by omega) | exact outs_b hF (by unfold LnT.to; omega) (by omega) (by first | assumption | simp_all) | exact outs_c hF (by unfold LnT.to; omega) (by omega) (by first | assumption | simp_all))) (by omega), hB925⟩
         ·
          refine dk 11 (v := .int .i64 L.told) h911 rfl rfl ⟨hB859, hr861⟩ (fun x hx => (rn_max1 rfl rfl rfl rfl (by omega))) fun a929 h929 => ?_; clear h911
          refine dk0 12 (v := pt b 0) h929 rfl rfl ⟨hB859, hr861⟩ fun a930 h930 => ?_; clear h929
          refine dk0 13 (v := pt b 4) h930 rfl rfl ⟨hB859, hr861⟩ fun a931 h931 => ?_; clear h930
          refine d1D 14 h931 rfl rfl (op_store1 rfl rfl rfl rfl Try.sizeOf3 hk907 rfl) ?_ ?_; clear h931
          ·
           rintro _ w933 ⟨hk934, hz935, hg936⟩
           have hk934' : Blk w933 b 74 #[.int .i64 L.boot, .int .i64 L.stream, .int .i64 L.first, u, .int .i64 L.told, .int .i64 L.peer, .int .i64 L.in0, .int .i64 L.next, .bool false] := hk934; clear hk934
           have hz937 := hg936.size
           have hB938 := fbU_at hB859 hg936 (fun hlt => by rcases hSb with hq | hq; exact hq; omega)
           have hr939 := row_kept_at hr861 hg936 (hbu)
           exact ⟨hB938, hr939⟩
          rintro _ w933 a932 ⟨hk934, hz935, hg936⟩ h932
          have hk934' : Blk w933 b 74 #[.int .i64 L.boot, .int .i64 L.stream, .int .i64 L.first, u, .int .i64 L.told, .int .i64 L.peer, .int .i64 L.in0, .int .i64 L.next, .bool false] := hk934; clear hk934
          have hz937 := hg936.size
          refine dr_done (by kernel_rfl) ?_
          refine co_then ?_
          refine co_seq ?_
          refine co_reg ?_
          refine pk0 (v := v) h932 rfl fun a938 h938 => ?_; clear h932
          refine pk0 (v := v) h938 rfl fun a939 h939 => ?_; clear h938
          refine pl_nil ?_
          refine co_then ?_
          refine wp_ret ?_
          refine co_ret1 h939 rfl rfl ?_
          have hr940 := row_kept_at hr861 hg936 (hbu)
          have hB941 := fbU_at hB859 hg936 (fun hlt => by rcases hSb with hq | hq; exact hq; omega)
          have hr942 := row_kept_at hf810 hg848 (own_neT hf810 hk812 (by decide))
          have hr943 := row_kept_new hr942 hg851
          have hr944 := row_kept_at hr943 hg936 (own_neT hr943 hk907 (by decide))
          have hk0 : (L.told : Int) = max L.told (L.to : Int) := by unfold LnT.to; omega
          have hbl : Blk w933 b 74 (lnC (outN L) u) := by have h := hk934'; rw [hk0] at h; exact h
          exact ⟨_, rfl, ⟨(LkU.same2 hU hbl hr940 rfl (outN_ok hok) hB941).1, (LkU.same2 hU hbl hr940 rfl (outN_ok hok) hB941).2⟩, row_lows (row_eq hr944 (by first | exact outs_a hF (by unfold LnT.to; omega) (by omega) | exact outs_b hF (by unfold LnT.to; omega) (by omega) (by first | assumption | simp_all) | exact outs_c hF (by unfold LnT.to; omega) (by omega) (by first | assumption | simp_all))) (by omega), hB941⟩
      ·
       rw [hc834] at h833
       have hp945 : (((outsL L F k).length : Nat) : Int) = 0 := by first | simpa using hc834 | simpa [and_assoc] using hc834
       clear hc834
       refine pk0 (v := pt b 0) h833 rfl fun a946 h946 => ?_; clear h833
       refine pk0 (v := pt b 0) h946 rfl fun a947 h947 => ?_; clear h946
       refine pk0 (v := pt b 8) h947 rfl fun a948 h948 => ?_; clear h947
       refine pk (v := .bool L.owes) h948 rfl (rn_load1 rfl rfl Try.isAgg4 (hk812.cell rfl)) fun a949 h949 => ?_; clear h948
       refine pk0 (v := .bool L.owes) h949 rfl fun a950 h950 => ?_; clear h949
       refine pl_nil ?_
       refine co_then ?_
       cases hc951 : (L.owes)
       ·
        rw [hc951] at h950
        refine co_false h950 rfl ?_
        refine wp_skip ?_
        refine co_then ?_
        refine co_seq ?_
        refine co_reg ?_
        refine pk0 (v := pt b 0) h950 rfl fun a952 h952 => ?_; clear h950
        refine pk0 (v := pt b 0) h952 rfl fun a953 h953 => ?_; clear h952
        refine pk0 (v := pt b 8) h953 rfl fun a954 h954 => ?_; clear h953
        refine pwD h954 rfl (op_store1 rfl rfl rfl rfl Try.sizeOf4 hk812 rfl) ?_; clear h954
        rintro _ w956 a955 ⟨hk957, hz958, hg959⟩ h955
        have hk957' : Blk w956 b 74 #[.int .i64 L.boot, .int .i64 L.stream, .int .i64 L.first, u, .int .i64 L.told, .int .i64 L.peer, .int .i64 L.in0, .int .i64 L.next, .bool false] := hk957; clear hk957
        have hz960 := hg959.size
        refine pl_nil ?_
        refine co_then ?_
        refine co_seq ?_
        refine dr_gen (fun x => But (S) w x ∧ x.ownsRow 0 9 1 u L.q.length (L.q.flatMap strE)) (by kernel_rfl) (fun w961 hg962 => ?_) (fun w961 hg962 => ?_)
        ·
         have hz963 := hg962.size
         have hB964 := fbU_at hB811 hg959 (fun hlt => by rcases hSb with hq | hq; exact hq; omega)
         have hB965 := fbU_new hB964 hg962
         have hr966 := row_kept_at hf809 hg959 (hbu)
         have hr967 := row_kept_new hr966 hg962
         exact ⟨hB965, hr967⟩
        have hz968 := hg962.size
        have hB969 := fbU_at hB811 hg959 (fun hlt => by rcases hSb with hq | hq; exact hq; omega)
        have hB970 := fbU_new hB969 hg962
        have hr971 := row_kept_at hf809 hg959 (hbu)
        have hr972 := row_kept_new hr971 hg962
        refine dk0 0 (v := pt b 0) h955 rfl rfl ⟨hB970, hr972⟩ fun a973 h973 => ?_; clear h955
        refine dk0 1 (v := pt b 0) h973 rfl rfl ⟨hB970, hr972⟩ fun a974 h974 => ?_; clear h973
        refine dk0 2 (v := pt b 0) h974 rfl rfl ⟨hB970, hr972⟩ fun a975 h975 => ?_; clear h974
        refine dk0 3 (v := pt b 4) h975 rfl rfl ⟨hB970, hr972⟩ fun a976 h976 => ?_; clear h975
        refine dk0 5 (v := pt b 0) h976 rfl rfl ⟨hB970, hr972⟩ fun a977 h977 => ?_; clear h976
        refine dk0 6 (v := pt b 0) h977 rfl rfl ⟨hB970, hr972⟩ fun a978 h978 => ?_; clear h977
        refine dk0 7 (v := pt b 3) h978 rfl rfl ⟨hB970, hr972⟩ fun a979 h979 => ?_; clear h978
        refine dr_many [4, 8] (by kernel_rfl) (by simp) ⟨?_, ?_, trivial⟩
        ·
         have hk980 := hk957'.kept hg962 (by simp)
         refine dr_opVal (i := 4) (v := .int .i64 L.told) h979 rfl rfl rfl rfl (by kernel_rfl) rfl (rn_load1 rfl rfl Try.isAgg3 (hk980.cell rfl)) ⟨hB970, hr972⟩ (fun a981 h981 => ?_); clear h979
         refine dr_many [8] (by kernel_rfl) (by simp) ⟨?_, trivial⟩
         ·
          refine dr_opVal (i := 8) (v := u) h981 rfl rfl rfl rfl (by kernel_rfl) rfl (rn_load1 rfl rfl Try.isAgg38 (hk980.cell rfl)) ⟨hB970, hr972⟩ (fun a982 h982 => ?_); clear h981
          refine dk 9 (v := .int .i64 ((L.q.length : Nat) : Int)) h982 rfl rfl ⟨hB970, hr972⟩ (fun x hx => (rn_lenOwn rfl rfl Try.underlying38 hx.2)) fun a983 h983 => ?_; clear h982
          refine dk 10 (v := .int .i64 ((L.q.length : Nat) : Int)) h983 rfl rfl ⟨hB970, hr972⟩ (fun x hx => (rn_min1 rfl rfl rfl rfl (by omega))) fun a984 h984 => ?_; clear h983
          refine dk 11 (v := .int .i64 L.told) h984 rfl rfl ⟨hB970, hr972⟩ (fun x hx => (rn_max1 rfl rfl rfl rfl (by omega))) fun a985 h985 => ?_; clear h984
          refine dk0 12 (v := pt b 0) h985 rfl rfl ⟨hB970, hr972⟩ fun a986 h986 => ?_; clear h985
          refine dk0 13 (v := pt b 4) h986 rfl rfl ⟨hB970, hr972⟩ fun a987 h987 => ?_; clear h986
          refine d1D 14 h987 rfl rfl (op_store1 rfl rfl rfl rfl Try.sizeOf3 hk980 rfl) ?_ ?_; clear h987
          ·
           rintro _ w989 ⟨hk990, hz991, hg992⟩
           have hk990' : Blk w989 b 74 #[.int .i64 L.boot, .int .i64 L.stream, .int .i64 L.first, u, .int .i64 L.told, .int .i64 L.peer, .int .i64 L.in0, .int .i64 L.next, .bool false] := hk990; clear hk990
           have hz993 := hg992.size
           have hB994 := fbU_at hB970 hg992 (fun hlt => by rcases hSb with hq | hq; exact hq; omega)
           have hr995 := row_kept_at hr972 hg992 (hbu)
           exact ⟨hB994, hr995⟩
          rintro _ w989 a988 ⟨hk990, hz991, hg992⟩ h988
          have hk990' : Blk w989 b 74 #[.int .i64 L.boot, .int .i64 L.stream, .int .i64 L.first, u, .int .i64 L.told, .int .i64 L.peer, .int .i64 L.in0, .int .i64 L.next, .bool false] := hk990; clear hk990
          have hz993 := hg992.size
          refine dr_done (by kernel_rfl) ?_
          refine co_then ?_
          refine co_seq ?_
          refine co_reg ?_
          refine pk0 (v := v) h988 rfl fun a994 h994 => ?_; clear h988
          refine pk0 (v := v) h994 rfl fun a995 h995 => ?_; clear h994
          refine pl_nil ?_
          refine co_then ?_
          refine wp_ret ?_
          refine co_ret1 h995 rfl rfl ?_
          have hr996 := row_kept_at hr972 hg992 (hbu)
          have hB997 := fbU_at hB970 hg992 (fun hlt => by rcases hSb with hq | hq; exact hq; omega)
          have hr998 := row_kept_at hf810 hg959 (own_neT hf810 hk812 (by decide))
          have hr999 := row_kept_new hr998 hg962
          have hr1000 := row_kept_at hr999 hg992 (own_neT hr999 hk980 (by decide))
          have hk0 : (L.told : Int) = max L.told (L.to : Int) := by unfold LnT.to; omega
          have hbl : Blk w989 b 74 (lnC (outN L) u) := by have h := hk990'; rw [hk0] at h; exact h
          exact ⟨_, rfl, ⟨(LkU.same2 hU hbl hr996 rfl (outN_ok hok) hB997).1, (LkU.same2 hU hbl hr996 rfl (outN_ok hok) hB997).2⟩, row_lows (row_eq hr1000 (by first | exact outs_a hF (by unfold LnT.to; omega) (by omega) | exact outs_b hF (by unfold LnT.to; omega) (by omega) (by first | assumption | simp_all) | exact outs_c hF (by unfold LnT.to; omega) (by omega) (by first | assumption | simp_all))) (by omega), hB997⟩
        ·
         have hk1001 := hk957'.kept hg962 (by simp)
         refine dr_opVal (i := 8) (v := u) h979 rfl rfl rfl rfl (by kernel_rfl) rfl (rn_load1 rfl rfl Try.isAgg38 (hk1001.cell rfl)) ⟨hB970, hr972⟩ (fun a1002 h1002 => ?_); clear h979
         refine dk 9 (v := .int .i64 ((L.q.length : Nat) : Int)) h1002 rfl rfl ⟨hB970, hr972⟩ (fun x hx => (rn_lenOwn rfl rfl Try.underlying38 hx.2)) fun a1003 h1003 => ?_; clear h1002
         refine dk 10 (v := .int .i64 ((L.q.length : Nat) : Int)) h1003 rfl rfl ⟨hB970, hr972⟩ (fun x hx => (rn_min1 rfl rfl rfl rfl (by omega))) fun a1004 h1004 => ?_; clear h1003
         refine dr_many [4] (by kernel_rfl) (by simp) ⟨?_, trivial⟩
         ·
          refine dr_opVal (i := 4) (v := .int .i64 L.told) h1004 rfl rfl rfl rfl (by kernel_rfl) rfl (rn_load1 rfl rfl Try.isAgg3 (hk1001.cell rfl)) ⟨hB970, hr972⟩ (fun a1005 h1005 => ?_); clear h1004
          refine dk 11 (v := .int .i64 L.told) h1005 rfl rfl ⟨hB970, hr972⟩ (fun x hx => (rn_max1 rfl rfl rfl rfl (by omega))) fun a1006 h1006 => ?_; clear h1005
          refine dk0 12 (v := pt b 0) h1006 rfl rfl ⟨hB970, hr972⟩ fun a1007 h1007 => ?_; clear h1006
          refine dk0 13 (v := pt b 4) h1007 rfl rfl ⟨hB970, hr972⟩ fun a1008 h1008 => ?_; clear h1007
          refine d1D 14 h1008 rfl rfl (op_store1 rfl rfl rfl rfl Try.sizeOf3 hk1001 rfl) ?_ ?_; clear h1008
          ·
           rintro _ w1010 ⟨hk1011, hz1012, hg1013⟩
           have hk1011' : Blk w1010 b 74 #[.int .i64 L.boot, .int .i64 L.stream, .int .i64 L.first, u, .int .i64 L.told, .int .i64 L.peer, .int .i64 L.in0, .int .i64 L.next, .bool false] := hk1011; clear hk1011
           have hz1014 := hg1013.size
           have hB1015 := fbU_at hB970 hg1013 (fun hlt => by rcases hSb with hq | hq; exact hq; omega)
           have hr1016 := row_kept_at hr972 hg1013 (hbu)
           exact ⟨hB1015, hr1016⟩
          rintro _ w1010 a1009 ⟨hk1011, hz1012, hg1013⟩ h1009
          have hk1011' : Blk w1010 b 74 #[.int .i64 L.boot, .int .i64 L.stream, .int .i64 L.first, u, .int .i64 L.told, .int .i64 L.peer, .int .i64 L.in0, .int .i64 L.next, .bool false] := hk1011; clear hk1011
          have hz1014 := hg1013.size
          refine dr_done (by kernel_rfl) ?_
          refine co_then ?_
          refine co_seq ?_
          refine co_reg ?_
          refine pk0 (v := v) h1009 rfl fun a1015 h1015 => ?_; clear h1009
          refine pk0 (v := v) h1015 rfl fun a1016 h1016 => ?_; clear h1015
          refine pl_nil ?_
          refine co_then ?_
          refine wp_ret ?_
          refine co_ret1 h1016 rfl rfl ?_
          have hr1017 := row_kept_at hr972 hg1013 (hbu)
          have hB1018 := fbU_at hB970 hg1013 (fun hlt => by rcases hSb with hq | hq; exact hq; omega)
          have hr1019 := row_kept_at hf810 hg959 (own_neT hf810 hk812 (by decide))
          have hr1020 := row_kept_new hr1019 hg962
          have hr1021 := row_kept_at hr1020 hg1013 (own_neT hr1020 hk1001 (by decide))
          have hk0 : (L.told : Int) = max L.told (L.to : Int) := by unfold LnT.to; omega
          have hbl : Blk w1010 b 74 (lnC (outN L) u) := by have h := hk1011'; rw [hk0] at h; exact h
          exact ⟨_, rfl, ⟨(LkU.same2 hU hbl hr1017 rfl (outN_ok hok) hB1018).1, (LkU.same2 hU hbl hr1017 rfl (outN_ok hok) hB1018).2⟩, row_lows (row_eq hr1021 (by first | exact outs_a hF (by unfold LnT.to; omega) (by omega) | exact outs_b hF (by unfold LnT.to; omega) (by omega) (by first | assumption | simp_all) | exact outs_c hF (by unfold LnT.to; omega) (by omega) (by first | assumption | simp_all))) (by omega), hB1018⟩
       ·
        rw [hc951] at h950
        refine co_true h950 rfl ?_
        refine co_reg ?_
        refine pk0 (v := v) h950 rfl fun a1022 h1022 => ?_; clear h950
        refine pk (v := .agg #[.int .i64 L.boot, .int .i64 L.stream, .int .i64 L.first, .int .i64 L.peer, .int .i64 L.in0, .int .i64 L.next, .bool false, .string (⟨#[]⟩)]) h1022 rfl (rn_loadN rfl rfl Try.underlying61 rfl (by kernel_rfl) hk813.all) fun a1023 h1023 => ?_; clear h1022
        refine pw h1023 rfl (op_new (v := fun N => .slice (some ⟨N, 0, none⟩) 1 1) (T := 61) (cs := #[.int .i64 L.boot, .int .i64 L.stream, .int .i64 L.first, .int .i64 L.peer, .int .i64 L.in0, .int .i64 L.next, .bool false, .string (⟨#[]⟩)]) (by kernel_rfl) (by kernel_rfl) (by kernel_rfl)) ?_; clear h1023
        rintro _ w1025 a1024 ⟨N1026, rfl, hN1029, hz1030, hk1028, hg1027⟩ h1024
        have ha1031 := row_fresh hf809 hN1029
        have hu1032 := row_under hf809 hN1029
        have ha1033 := row_fresh hf810 hN1029
        have hu1034 := row_under hf810 hN1029
        have hz1035 := hg1027.size
        try dsimp only at h1024
        have hr1042 := row_kept_new hf810 hg1027
        refine pw h1024 rfl (op_append rfl (N781 + 1) 61 (z := .agg #[.int .i64 0, .int .i64 0, .int .i64 0, .int .i64 0, .int .i64 0, .int .i64 0, .bool false, .string (⟨#[]⟩)]) (size := 8) (bytes := 72) Try.underlying67 (by kernel_rfl) rfl rfl rfl hr1042 rfl hk1028 rfl (by kernel_rfl) (by first | omega | (simp only [List.length_nil, List.length_append, List.length_cons, List.length_take, List.length_drop]; omega)) (by first | omega | (simp only [List.length_nil, List.length_append, List.length_cons, List.length_take, List.length_drop]; omega)) (by omega)) ?_; clear h1024
        rintro v1038 w1037 a1036 ⟨hr1039, hg1040⟩ h1036
        have hr1039' : w1037.ownsRow (N781 + 1) 61 8 v1038 (((outsL L F k) ++ [(SegT.mk L.boot L.stream L.first L.peer L.in0 L.next false (⟨#[]⟩))]).length) (((outsL L F k) ++ [(SegT.mk L.boot L.stream L.first L.peer L.in0 L.next false (⟨#[]⟩))]).flatMap segE) := row_push (y := (SegT.mk L.boot L.stream L.first L.peer L.in0 L.next false (⟨#[]⟩))) hr1039 rfl rfl; clear hr1039
        have hz1043 := hg1040.size
        have hk1044 := hk812.kept hg1027 (by simp)
        refine pk0 (v := v1038) h1036 rfl fun a1045 h1045 => ?_; clear h1036
        refine pl_nil ?_
        refine co_then ?_
        refine co_seq ?_
        refine co_reg ?_
        refine pk0 (v := pt b 0) h1045 rfl fun a1046 h1046 => ?_; clear h1045
        refine pk0 (v := pt b 0) h1046 rfl fun a1047 h1047 => ?_; clear h1046
        refine pk0 (v := pt b 8) h1047 rfl fun a1048 h1048 => ?_; clear h1047
        have hk1054 := hk1044.kept hg1040 (own_neT hr1042 hk1044 (by decide))
        refine pwD h1048 rfl (op_store1 rfl rfl rfl rfl Try.sizeOf4 hk1054 rfl) ?_; clear h1048
        rintro _ w1050 a1049 ⟨hk1051, hz1052, hg1053⟩ h1049
        have hk1051' : Blk w1050 b 74 #[.int .i64 L.boot, .int .i64 L.stream, .int .i64 L.first, u, .int .i64 L.told, .int .i64 L.peer, .int .i64 L.in0, .int .i64 L.next, .bool false] := hk1051; clear hk1051
        have hz1055 := hg1053.size
        refine pl_nil ?_
        refine co_then ?_
        refine co_seq ?_
        refine dr_gen (fun x => But (S) w x ∧ x.ownsRow 0 9 1 u L.q.length (L.q.flatMap strE)) (by kernel_rfl) (fun w1056 hg1057 => ?_) (fun w1056 hg1057 => ?_)
        ·
         have hz1058 := hg1057.size
         have hB1059 := fbU_new hB811 hg1027
         have hB1060 := fbU_row hB1059 (InS.low hr1042 (by omega)) hg1040
         have hB1061 := fbU_at hB1060 hg1053 (fun hlt => by rcases hSb with hq | hq; exact hq; omega)
         have hB1062 := fbU_new hB1061 hg1057
         have hr1063 := row_kept_new hf809 hg1027
         have hr1064 := row_kept_row hr1063 hr1042 hg1040 (by decide)
         have hr1065 := row_kept_at hr1064 hg1053 (hbu)
         have hr1066 := row_kept_new hr1065 hg1057
         exact ⟨hB1062, hr1066⟩
        have hz1067 := hg1057.size
        have hB1068 := fbU_new hB811 hg1027
        have hB1069 := fbU_row hB1068 (InS.low hr1042 (by omega)) hg1040
        have hB1070 := fbU_at hB1069 hg1053 (fun hlt => by rcases hSb with hq | hq; exact hq; omega)
        have hB1071 := fbU_new hB1070 hg1057
        have hr1072 := row_kept_new hf809 hg1027
        have hr1073 := row_kept_row hr1072 hr1042 hg1040 (by decide)
        have hr1074 := row_kept_at hr1073 hg1053 (hbu)
        have hr1075 := row_kept_new hr1074 hg1057
        refine dk0 0 (v := pt b 0) h1049 rfl rfl ⟨hB1071, hr1075⟩ fun a1076 h1076 => ?_; clear h1049
        refine dk0 1 (v := pt b 0) h1076 rfl rfl ⟨hB1071, hr1075⟩ fun a1077 h1077 => ?_; clear h1076
        refine dk0 2 (v := pt b 0) h1077 rfl rfl ⟨hB1071, hr1075⟩ fun a1078 h1078 => ?_; clear h1077
        refine dk0 3 (v := pt b 4) h1078 rfl rfl ⟨hB1071, hr1075⟩ fun a1079 h1079 => ?_; clear h1078
        refine dk0 5 (v := pt b 0) h1079 rfl rfl ⟨hB1071, hr1075⟩ fun a1080 h1080 => ?_; clear h1079
        refine dk0 6 (v := pt b 0) h1080 rfl rfl ⟨hB1071, hr1075⟩ fun a1081 h1081 => ?_; clear h1080
        refine dk0 7 (v := pt b 3) h1081 rfl rfl ⟨hB1071, hr1075⟩ fun a1082 h1082 => ?_; clear h1081
        refine dr_many [4, 8] (by kernel_rfl) (by simp) ⟨?_, ?_, trivial⟩
        ·
         have hk1083 := hk1051'.kept hg1057 (by simp)
         refine dr_opVal (i := 4) (v := .int .i64 L.told) h1082 rfl rfl rfl rfl (by kernel_rfl) rfl (rn_load1 rfl rfl Try.isAgg3 (hk1083.cell rfl)) ⟨hB1071, hr1075⟩ (fun a1084 h1084 => ?_); clear h1082
         refine dr_many [8] (by kernel_rfl) (by simp) ⟨?_, trivial⟩
         ·
          refine dr_opVal (i := 8) (v := u) h1084 rfl rfl rfl rfl (by kernel_rfl) rfl (rn_load1 rfl rfl Try.isAgg38 (hk1083.cell rfl)) ⟨hB1071, hr1075⟩ (fun a1085 h1085 => ?_); clear h1084
          refine dk 9 (v := .int .i64 ((L.q.length : Nat) : Int)) h1085 rfl rfl ⟨hB1071, hr1075⟩ (fun x hx => (rn_lenOwn rfl rfl Try.underlying38 hx.2)) fun a1086 h1086 => ?_; clear h1085
          refine dk 10 (v := .int .i64 ((L.q.length : Nat) : Int)) h1086 rfl rfl ⟨hB1071, hr1075⟩ (fun x hx => (rn_min1 rfl rfl rfl rfl (by omega))) fun a1087 h1087 => ?_; clear h1086
          refine dk 11 (v := .int .i64 L.told) h1087 rfl rfl ⟨hB1071, hr1075⟩ (fun x hx => (rn_max1 rfl rfl rfl rfl (by omega))) fun a1088 h1088 => ?_; clear h1087
          refine dk0 12 (v := pt b 0) h1088 rfl rfl ⟨hB1071, hr1075⟩ fun a1089 h1089 => ?_; clear h1088
          refine dk0 13 (v := pt b 4) h1089 rfl rfl ⟨hB1071, hr1075⟩ fun a1090 h1090 => ?_; clear h1089
          refine d1D 14 h1090 rfl rfl (op_store1 rfl rfl rfl rfl Try.sizeOf3 hk1083 rfl) ?_ ?_; clear h1090
          ·
           rintro _ w1092 ⟨hk1093, hz1094, hg1095⟩
           have hk1093' : Blk w1092 b 74 #[.int .i64 L.boot, .int .i64 L.stream, .int .i64 L.first, u, .int .i64 L.told, .int .i64 L.peer, .int .i64 L.in0, .int .i64 L.next, .bool false] := hk1093; clear hk1093
           have hz1096 := hg1095.size
           have hB1097 := fbU_at hB1071 hg1095 (fun hlt => by rcases hSb with hq | hq; exact hq; omega)
           have hr1098 := row_kept_at hr1075 hg1095 (hbu)
           exact ⟨hB1097, hr1098⟩
          rintro _ w1092 a1091 ⟨hk1093, hz1094, hg1095⟩ h1091
          have hk1093' : Blk w1092 b 74 #[.int .i64 L.boot, .int .i64 L.stream, .int .i64 L.first, u, .int .i64 L.told, .int .i64 L.peer, .int .i64 L.in0, .int .i64 L.next, .bool false] := hk1093; clear hk1093
          have hz1096 := hg1095.size
          refine dr_done (by kernel_rfl) ?_
          refine co_then ?_
          refine co_seq ?_
          refine co_reg ?_
          refine pk0 (v := v1038) h1091 rfl fun a1097 h1097 => ?_; clear h1091
          refine pk0 (v := v1038) h1097 rfl fun a1098 h1098 => ?_; clear h1097
          refine pl_nil ?_
          refine co_then ?_
          refine wp_ret ?_
          refine co_ret1 h1098 rfl rfl ?_
          have hr1099 := row_kept_at hr1075 hg1095 (hbu)
          have hB1100 := fbU_at hB1071 hg1095 (fun hlt => by rcases hSb with hq | hq; exact hq; omega)
          have hr1101 := row_kept_at hr1039' hg1053 (own_neT hr1039' hk1054 (by decide))
          have hr1102 := row_kept_new hr1101 hg1057
          have hr1103 := row_kept_at hr1102 hg1095 (own_neT hr1102 hk1083 (by decide))
          have hk0 : (L.told : Int) = max L.told (L.to : Int) := by unfold LnT.to; omega
          have hbl : Blk w1092 b 74 (lnC (outN L) u) := by have h := hk1093'; rw [hk0] at h; exact h
          exact ⟨_, rfl, ⟨(LkU.same2 hU hbl hr1099 rfl (outN_ok hok) hB1100).1, (LkU.same2 hU hbl hr1099 rfl (outN_ok hok) hB1100).2⟩, row_lows (row_eq hr1103 (by first | exact outs_a hF (by unfold LnT.to; omega) (by omega) | exact outs_b hF (by unfold LnT.to; omega) (by omega) (by first | assumption | simp_all) | exact outs_c hF (by unfold LnT.to; omega) (by omega) (by first | assumption | simp_all))) (by omega), hB1100⟩
        ·
         have hk1104 := hk1051'.kept hg1057 (by simp)
         refine dr_opVal (i := 8) (v := u) h1082 rfl rfl rfl rfl (by kernel_rfl) rfl (rn_load1 rfl rfl Try.isAgg38 (hk1104.cell rfl)) ⟨hB1071, hr1075⟩ (fun a1105 h1105 => ?_); clear h1082
         refine dk 9 (v := .int .i64 ((L.q.length : Nat) : Int)) h1105 rfl rfl ⟨hB1071, hr1075⟩ (fun x hx => (rn_lenOwn rfl rfl Try.underlying38 hx.2)) fun a1106 h1106 => ?_; clear h1105
         refine dk 10 (v := .int .i64 ((L.q.length : Nat) : Int)) h1106 rfl rfl ⟨hB1071, hr1075⟩ (fun x hx => (rn_min1 rfl rfl rfl rfl (by omega))) fun a1107 h1107 => ?_; clear h1106
         refine dr_many [4] (by kernel_rfl) (by simp) ⟨?_, trivial⟩
         ·
          refine dr_opVal (i := 4) (v := .int .i64 L.told) h1107 rfl rfl rfl rfl (by kernel_rfl) rfl (rn_load1 rfl rfl Try.isAgg3 (hk1104.cell rfl)) ⟨hB1071, hr1075⟩ (fun a1108 h1108 => ?_); clear h1107
          refine dk 11 (v := .int .i64 L.told) h1108 rfl rfl ⟨hB1071, hr1075⟩ (fun x hx => (rn_max1 rfl rfl rfl rfl (by omega))) fun a1109 h1109 => ?_; clear h1108
          refine dk0 12 (v := pt b 0) h1109 rfl rfl ⟨hB1071, hr1075⟩ fun a1110 h1110 => ?_; clear h1109
          refine dk0 13 (v := pt b 4) h1110 rfl rfl ⟨hB1071, hr1075⟩ fun a1111 h1111 => ?_; clear h1110
          refine d1D 14 h1111 rfl rfl (op_store1 rfl rfl rfl rfl Try.sizeOf3 hk1104 rfl) ?_ ?_; clear h1111
          ·
           rintro _ w1113 ⟨hk1114, hz1115, hg1116⟩
           have hk1114' : Blk w1113 b 74 #[.int .i64 L.boot, .int .i64 L.stream, .int .i64 L.first, u, .int .i64 L.told, .int .i64 L.peer, .int .i64 L.in0, .int .i64 L.next, .bool false] := hk1114; clear hk1114
           have hz1117 := hg1116.size
           have hB1118 := fbU_at hB1071 hg1116 (fun hlt => by rcases hSb with hq | hq; exact hq; omega)
           have hr1119 := row_kept_at hr1075 hg1116 (hbu)
           exact ⟨hB1118, hr1119⟩
          rintro _ w1113 a1112 ⟨hk1114, hz1115, hg1116⟩ h1112
          have hk1114' : Blk w1113 b 74 #[.int .i64 L.boot, .int .i64 L.stream, .int .i64 L.first, u, .int .i64 L.told, .int .i64 L.peer, .int .i64 L.in0, .int .i64 L.next, .bool false] := hk1114; clear hk1114
          have hz1117 := hg1116.size
          refine dr_done (by kernel_rfl) ?_
          refine co_then ?_
          refine co_seq ?_
          refine co_reg ?_
          refine pk0 (v := v1038) h1112 rfl fun a1118 h1118 => ?_; clear h1112
          refine pk0 (v := v1038) h1118 rfl fun a1119 h1119 => ?_; clear h1118
          refine pl_nil ?_
          refine co_then ?_
          refine wp_ret ?_
          refine co_ret1 h1119 rfl rfl ?_
          have hr1120 := row_kept_at hr1075 hg1116 (hbu)
          have hB1121 := fbU_at hB1071 hg1116 (fun hlt => by rcases hSb with hq | hq; exact hq; omega)
          have hr1122 := row_kept_at hr1039' hg1053 (own_neT hr1039' hk1054 (by decide))
          have hr1123 := row_kept_new hr1122 hg1057
          have hr1124 := row_kept_at hr1123 hg1116 (own_neT hr1123 hk1104 (by decide))
          have hk0 : (L.told : Int) = max L.told (L.to : Int) := by unfold LnT.to; omega
          have hbl : Blk w1113 b 74 (lnC (outN L) u) := by have h := hk1114'; rw [hk0] at h; exact h
          exact ⟨_, rfl, ⟨(LkU.same2 hU hbl hr1120 rfl (outN_ok hok) hB1121).1, (LkU.same2 hU hbl hr1120 rfl (outN_ok hok) hB1121).2⟩, row_lows (row_eq hr1124 (by first | exact outs_a hF (by unfold LnT.to; omega) (by omega) | exact outs_b hF (by unfold LnT.to; omega) (by omega) (by first | assumption | simp_all) | exact outs_c hF (by unfold LnT.to; omega) (by omega) (by first | assumption | simp_all))) (by omega), hB1121⟩
     ·
      rw [hc825] at h824
      have hp1125 : ((k : Nat) : Int) < ((L.q.length : Nat) : Int) := of_decide_eq_true hc825
      clear hc825
      refine pk0 (v := .int .i64 ((k : Nat) : Int)) h824 rfl fun a1126 h1126 => ?_; clear h824
      refine pk0 (v := .bool (decide (((k : Nat) : Int) < 4))) h1126 rfl fun a1127 h1127 => ?_; clear h1126
      refine pk0 (v := .bool (decide (((k : Nat) : Int) < 4))) h1127 rfl fun a1128 h1128 => ?_; clear h1127
      refine pl_nil ?_
      refine co_then ?_
      cases hc1129 : (decide (((k : Nat) : Int) < 4))
      ·
       rw [hc1129] at h1128
       have hp1130 : ¬ (((k : Nat) : Int) < 4) := of_decide_eq_false hc1129
       clear hc1129
       refine co_false h1128 rfl ?_
       refine wp_exit ?_
       refine co_thenX ?_
       refine co_thenX ?_
       refine co_blockX ?_
       refine co_then ?_
       refine co_seq ?_
       refine co_seq ?_
       refine co_reg ?_
       refine pk0 (v := v) h1128 rfl fun a1131 h1131 => ?_; clear h1128
       refine pk (v := .int .i64 (((outsL L F k).length : Nat) : Int)) h1131 rfl (rn_lenOwn rfl rfl Try.underlying67 hf810) fun a1132 h1132 => ?_; clear h1131
       refine pk0 (v := .bool ((((outsL L F k).length : Nat) : Int) == 0)) h1132 rfl fun a1133 h1133 => ?_; clear h1132
       refine pk0 (v := .bool ((((outsL L F k).length : Nat) : Int) == 0)) h1133 rfl fun a1134 h1134 => ?_; clear h1133
       have hc1135 : ((((outsL L F k).length : Nat) : Int) == 0) = false := by first | (simp; done) | (simp; omega) | exact beq_false_of_ne (by omega) | exact beq_iff_eq.2 (by omega)
       rw [hc1135] at h1134; clear hc1135
       refine psk h1134 rfl fun a1136 h1136 => ?_; clear h1134
       refine psk h1136 rfl fun a1137 h1137 => ?_; clear h1136
       refine psk h1137 rfl fun a1138 h1138 => ?_; clear h1137
       refine psk h1138 rfl fun a1139 h1139 => ?_; clear h1138
       refine pk0 (v := .bool false) h1139 rfl fun a1140 h1140 => ?_; clear h1139
       refine pl_nil ?_
       refine co_then ?_
       refine co_false h1140 rfl ?_
       refine wp_skip ?_
       refine co_then ?_
       refine co_seq ?_
       refine co_reg ?_
       refine pk0 (v := pt b 0) h1140 rfl fun a1141 h1141 => ?_; clear h1140
       refine pk0 (v := pt b 0) h1141 rfl fun a1142 h1142 => ?_; clear h1141
       refine pk0 (v := pt b 8) h1142 rfl fun a1143 h1143 => ?_; clear h1142
       refine pwD h1143 rfl (op_store1 rfl rfl rfl rfl Try.sizeOf4 hk812 rfl) ?_; clear h1143
       rintro _ w1145 a1144 ⟨hk1146, hz1147, hg1148⟩ h1144
       have hk1146' : Blk w1145 b 74 #[.int .i64 L.boot, .int .i64 L.stream, .int .i64 L.first, u, .int .i64 L.told, .int .i64 L.peer, .int .i64 L.in0, .int .i64 L.next, .bool false] := hk1146; clear hk1146
       have hz1149 := hg1148.size
       refine pl_nil ?_
       refine co_then ?_
       refine co_seq ?_
       refine dr_gen (fun x => But (S) w x ∧ x.ownsRow 0 9 1 u L.q.length (L.q.flatMap strE)) (by kernel_rfl) (fun w1150 hg1151 => ?_) (fun w1150 hg1151 => ?_)
       ·
        have hz1152 := hg1151.size
        have hB1153 := fbU_at hB811 hg1148 (fun hlt => by rcases hSb with hq | hq; exact hq; omega)
        have hB1154 := fbU_new hB1153 hg1151
        have hr1155 := row_kept_at hf809 hg1148 (hbu)
        have hr1156 := row_kept_new hr1155 hg1151
        exact ⟨hB1154, hr1156⟩
       have hz1157 := hg1151.size
       have hB1158 := fbU_at hB811 hg1148 (fun hlt => by rcases hSb with hq | hq; exact hq; omega)
       have hB1159 := fbU_new hB1158 hg1151
       have hr1160 := row_kept_at hf809 hg1148 (hbu)
       have hr1161 := row_kept_new hr1160 hg1151
       refine dk0 0 (v := pt b 0) h1144 rfl rfl ⟨hB1159, hr1161⟩ fun a1162 h1162 => ?_; clear h1144
       refine dk0 1 (v := pt b 0) h1162 rfl rfl ⟨hB1159, hr1161⟩ fun a1163 h1163 => ?_; clear h1162
       refine dk0 2 (v := pt b 0) h1163 rfl rfl ⟨hB1159, hr1161⟩ fun a1164 h1164 => ?_; clear h1163
       refine dk0 3 (v := pt b 4) h1164 rfl rfl ⟨hB1159, hr1161⟩ fun a1165 h1165 => ?_; clear h1164
       refine dk0 5 (v := pt b 0) h1165 rfl rfl ⟨hB1159, hr1161⟩ fun a1166 h1166 => ?_; clear h1165
       refine dk0 6 (v := pt b 0) h1166 rfl rfl ⟨hB1159, hr1161⟩ fun a1167 h1167 => ?_; clear h1166
       refine dk0 7 (v := pt b 3) h1167 rfl rfl ⟨hB1159, hr1161⟩ fun a1168 h1168 => ?_; clear h1167
       refine dr_many [4, 8] (by kernel_rfl) (by simp) ⟨?_, ?_, trivial⟩
       ·
        have hk1169 := hk1146'.kept hg1151 (by simp)
        refine dr_opVal (i := 4) (v := .int .i64 L.told) h1168 rfl rfl rfl rfl (by kernel_rfl) rfl (rn_load1 rfl rfl Try.isAgg3 (hk1169.cell rfl)) ⟨hB1159, hr1161⟩ (fun a1170 h1170 => ?_); clear h1168
        refine dr_many [8] (by kernel_rfl) (by simp) ⟨?_, trivial⟩
        ·
         refine dr_opVal (i := 8) (v := u) h1170 rfl rfl rfl rfl (by kernel_rfl) rfl (rn_load1 rfl rfl Try.isAgg38 (hk1169.cell rfl)) ⟨hB1159, hr1161⟩ (fun a1171 h1171 => ?_); clear h1170
         refine dk 9 (v := .int .i64 ((L.q.length : Nat) : Int)) h1171 rfl rfl ⟨hB1159, hr1161⟩ (fun x hx => (rn_lenOwn rfl rfl Try.underlying38 hx.2)) fun a1172 h1172 => ?_; clear h1171
         refine dk 10 (v := .int .i64 4) h1172 rfl rfl ⟨hB1159, hr1161⟩ (fun x hx => (rn_min2 rfl rfl rfl rfl (by omega))) fun a1173 h1173 => ?_; clear h1172
         by_cases hs1174 : L.told < 4
         ·
          refine dk 11 (v := .int .i64 4) h1173 rfl rfl ⟨hB1159, hr1161⟩ (fun x hx => (rn_max2 rfl rfl rfl rfl (by omega))) fun a1175 h1175 => ?_; clear h1173
          refine dk0 12 (v := pt b 0) h1175 rfl rfl ⟨hB1159, hr1161⟩ fun a1176 h1176 => ?_; clear h1175
          refine dk0 13 (v := pt b 4) h1176 rfl rfl ⟨hB1159, hr1161⟩ fun a1177 h1177 => ?_; clear h1176
          refine d1D 14 h1177 rfl rfl (op_store1 rfl rfl rfl rfl Try.sizeOf3 hk1169 rfl) ?_ ?_; clear h1177
          ·
           rintro _ w1179 ⟨hk1180, hz1181, hg1182⟩
           have hk1180' : Blk w1179 b 74 #[.int .i64 L.boot, .int .i64 L.stream, .int .i64 L.first, u, .int .i64 4, .int .i64 L.peer, .int .i64 L.in0, .int .i64 L.next, .bool false] := hk1180; clear hk1180
           have hz1183 := hg1182.size
           have hB1184 := fbU_at hB1159 hg1182 (fun hlt => by rcases hSb with hq | hq; exact hq; omega)
           have hr1185 := row_kept_at hr1161 hg1182 (hbu)
           exact ⟨hB1184, hr1185⟩
          rintro _ w1179 a1178 ⟨hk1180, hz1181, hg1182⟩ h1178
          have hk1180' : Blk w1179 b 74 #[.int .i64 L.boot, .int .i64 L.stream, .int .i64 L.first, u, .int .i64 4, .int .i64 L.peer, .int .i64 L.in0, .int .i64 L.next, .bool false] := hk1180; clear hk1180
          have hz1183 := hg1182.size
          refine dr_done (by kernel_rfl) ?_
          refine co_then ?_
          refine co_seq ?_
          refine co_reg ?_
          refine pk0 (v := v) h1178 rfl fun a1184 h1184 => ?_; clear h1178
          refine pk0 (v := v) h1184 rfl fun a1185 h1185 => ?_; clear h1184
          refine pl_nil ?_
          refine co_then ?_
          refine wp_ret ?_
          refine co_ret1 h1185 rfl rfl ?_
          have hr1186 := row_kept_at hr1161 hg1182 (hbu)
          have hB1187 := fbU_at hB1159 hg1182 (fun hlt => by rcases hSb with hq | hq; exact hq; omega)
          have hr1188 := row_kept_at hf810 hg1148 (own_neT hf810 hk812 (by decide))
          have hr1189 := row_kept_new hr1188 hg1151
          have hr1190 := row_kept_at hr1189 hg1182 (own_neT hr1189 hk1169 (by decide))
          have hk0 : (4 : Int) = max L.told (L.to : Int) := by unfold LnT.to; omega
          have hbl : Blk w1179 b 74 (lnC (outN L) u) := by have h := hk1180'; rw [hk0] at h; exact h
          exact ⟨_, rfl, ⟨(LkU.same2 hU hbl hr1186 rfl (outN_ok hok) hB1187).1, (LkU.same2 hU hbl hr1186 rfl (outN_ok hok) hB1187).2⟩, row_lows (row_eq hr1190 (by first | exact outs_a hF (by unfold LnT.to; omega) (by omega) | exact outs_b hF (by unfold LnT.to; omega) (by omega) (by first | assumption | simp_all) | exact outs_c hF (by unfold LnT.to; omega) (by omega) (by first | assumption | simp_all))) (by omega), hB1187⟩
         ·
          refine dk 11 (v := .int .i64 L.told) h1173 rfl rfl ⟨hB1159, hr1161⟩ (fun x hx => (rn_max1 rfl rfl rfl rfl (by omega))) fun a1191 h1191 => ?_; clear h1173
          refine dk0 12 (v := pt b 0) h1191 rfl rfl ⟨hB1159, hr1161⟩ fun a1192 h1192 => ?_; clear h1191
          refine dk0 13 (v := pt b 4) h1192 rfl rfl ⟨hB1159, hr1161⟩ fun a1193 h1193 => ?_; clear h1192
          refine d1D 14 h1193 rfl rfl (op_store1 rfl rfl rfl rfl Try.sizeOf3 hk1169 rfl) ?_ ?_; clear h1193
          ·
           rintro _ w1195 ⟨hk1196, hz1197, hg1198⟩
           have hk1196' : Blk w1195 b 74 #[.int .i64 L.boot, .int .i64 L.stream, .int .i64 L.first, u, .int .i64 L.told, .int .i64 L.peer, .int .i64 L.in0, .int .i64 L.next, .bool false] := hk1196; clear hk1196
           have hz1199 := hg1198.size
           have hB1200 := fbU_at hB1159 hg1198 (fun hlt => by rcases hSb with hq | hq; exact hq; omega)
           have hr1201 := row_kept_at hr1161 hg1198 (hbu)
           exact ⟨hB1200, hr1201⟩
          rintro _ w1195 a1194 ⟨hk1196, hz1197, hg1198⟩ h1194
          have hk1196' : Blk w1195 b 74 #[.int .i64 L.boot, .int .i64 L.stream, .int .i64 L.first, u, .int .i64 L.told, .int .i64 L.peer, .int .i64 L.in0, .int .i64 L.next, .bool false] := hk1196; clear hk1196
          have hz1199 := hg1198.size
          refine dr_done (by kernel_rfl) ?_
          refine co_then ?_
          refine co_seq ?_
          refine co_reg ?_
          refine pk0 (v := v) h1194 rfl fun a1200 h1200 => ?_; clear h1194
          refine pk0 (v := v) h1200 rfl fun a1201 h1201 => ?_; clear h1200
          refine pl_nil ?_
          refine co_then ?_
          refine wp_ret ?_
          refine co_ret1 h1201 rfl rfl ?_
          have hr1202 := row_kept_at hr1161 hg1198 (hbu)
          have hB1203 := fbU_at hB1159 hg1198 (fun hlt => by rcases hSb with hq | hq; exact hq; omega)
          have hr1204 := row_kept_at hf810 hg1148 (own_neT hf810 hk812 (by decide))
          have hr1205 := row_kept_new hr1204 hg1151
          have hr1206 := row_kept_at hr1205 hg1198 (own_neT hr1205 hk1169 (by decide))
          have hk0 : (L.told : Int) = max L.told (L.to : Int) := by unfold LnT.to; omega
          have hbl : Blk w1195 b 74 (lnC (outN L) u) := by have h := hk1196'; rw [hk0] at h; exact h
          exact ⟨_, rfl, ⟨(LkU.same2 hU hbl hr1202 rfl (outN_ok hok) hB1203).1, (LkU.same2 hU hbl hr1202 rfl (outN_ok hok) hB1203).2⟩, row_lows (row_eq hr1206 (by first | exact outs_a hF (by unfold LnT.to; omega) (by omega) | exact outs_b hF (by unfold LnT.to; omega) (by omega) (by first | assumption | simp_all) | exact outs_c hF (by unfold LnT.to; omega) (by omega) (by first | assumption | simp_all))) (by omega), hB1203⟩
       ·
        have hk1207 := hk1146'.kept hg1151 (by simp)
        refine dr_opVal (i := 8) (v := u) h1168 rfl rfl rfl rfl (by kernel_rfl) rfl (rn_load1 rfl rfl Try.isAgg38 (hk1207.cell rfl)) ⟨hB1159, hr1161⟩ (fun a1208 h1208 => ?_); clear h1168
        refine dk 9 (v := .int .i64 ((L.q.length : Nat) : Int)) h1208 rfl rfl ⟨hB1159, hr1161⟩ (fun x hx => (rn_lenOwn rfl rfl Try.underlying38 hx.2)) fun a1209 h1209 => ?_; clear h1208
        refine dk 10 (v := .int .i64 4) h1209 rfl rfl ⟨hB1159, hr1161⟩ (fun x hx => (rn_min2 rfl rfl rfl rfl (by omega))) fun a1210 h1210 => ?_; clear h1209
        refine dr_many [4] (by kernel_rfl) (by simp) ⟨?_, trivial⟩
        ·
         refine dr_opVal (i := 4) (v := .int .i64 L.told) h1210 rfl rfl rfl rfl (by kernel_rfl) rfl (rn_load1 rfl rfl Try.isAgg3 (hk1207.cell rfl)) ⟨hB1159, hr1161⟩ (fun a1211 h1211 => ?_); clear h1210
         by_cases hs1212 : L.told < 4
         ·
          refine dk 11 (v := .int .i64 4) h1211 rfl rfl ⟨hB1159, hr1161⟩ (fun x hx => (rn_max2 rfl rfl rfl rfl (by omega))) fun a1213 h1213 => ?_; clear h1211
          refine dk0 12 (v := pt b 0) h1213 rfl rfl ⟨hB1159, hr1161⟩ fun a1214 h1214 => ?_; clear h1213
          refine dk0 13 (v := pt b 4) h1214 rfl rfl ⟨hB1159, hr1161⟩ fun a1215 h1215 => ?_; clear h1214
          refine d1D 14 h1215 rfl rfl (op_store1 rfl rfl rfl rfl Try.sizeOf3 hk1207 rfl) ?_ ?_; clear h1215
          ·
           rintro _ w1217 ⟨hk1218, hz1219, hg1220⟩
           have hk1218' : Blk w1217 b 74 #[.int .i64 L.boot, .int .i64 L.stream, .int .i64 L.first, u, .int .i64 4, .int .i64 L.peer, .int .i64 L.in0, .int .i64 L.next, .bool false] := hk1218; clear hk1218
           have hz1221 := hg1220.size
           have hB1222 := fbU_at hB1159 hg1220 (fun hlt => by rcases hSb with hq | hq; exact hq; omega)
           have hr1223 := row_kept_at hr1161 hg1220 (hbu)
           exact ⟨hB1222, hr1223⟩
          rintro _ w1217 a1216 ⟨hk1218, hz1219, hg1220⟩ h1216
          have hk1218' : Blk w1217 b 74 #[.int .i64 L.boot, .int .i64 L.stream, .int .i64 L.first, u, .int .i64 4, .int .i64 L.peer, .int .i64 L.in0, .int .i64 L.next, .bool false] := hk1218; clear hk1218
          have hz1221 := hg1220.size
          refine dr_done (by kernel_rfl) ?_
          refine co_then ?_
          refine co_seq ?_
          refine co_reg ?_
          refine pk0 (v := v) h1216 rfl fun a1222 h1222 => ?_; clear h1216
          refine pk0 (v := v) h1222 rfl fun a1223 h1223 => ?_; clear h1222
          refine pl_nil ?_
          refine co_then ?_
          refine wp_ret ?_
          refine co_ret1 h1223 rfl rfl ?_
          have hr1224 := row_kept_at hr1161 hg1220 (hbu)
          have hB1225 := fbU_at hB1159 hg1220 (fun hlt => by rcases hSb with hq | hq; exact hq; omega)
          have hr1226 := row_kept_at hf810 hg1148 (own_neT hf810 hk812 (by decide))
          have hr1227 := row_kept_new hr1226 hg1151
          have hr1228 := row_kept_at hr1227 hg1220 (own_neT hr1227 hk1207 (by decide))
          have hk0 : (4 : Int) = max L.told (L.to : Int) := by unfold LnT.to; omega
          have hbl : Blk w1217 b 74 (lnC (outN L) u) := by have h := hk1218'; rw [hk0] at h; exact h
          exact ⟨_, rfl, ⟨(LkU.same2 hU hbl hr1224 rfl (outN_ok hok) hB1225).1, (LkU.same2 hU hbl hr1224 rfl (outN_ok hok) hB1225).2⟩, row_lows (row_eq hr1228 (by first | exact outs_a hF (by unfold LnT.to; omega) (by omega) | exact outs_b hF (by unfold LnT.to; omega) (by omega) (by first | assumption | simp_all) | exact outs_c hF (by unfold LnT.to; omega) (by omega) (by first | assumption | simp_all))) (by omega), hB1225⟩
         ·
          refine dk 11 (v := .int .i64 L.told) h1211 rfl rfl ⟨hB1159, hr1161⟩ (fun x hx => (rn_max1 rfl rfl rfl rfl (by omega))) fun a1229 h1229 => ?_; clear h1211
          refine dk0 12 (v := pt b 0) h1229 rfl rfl ⟨hB1159, hr1161⟩ fun a1230 h1230 => ?_; clear h1229
          refine dk0 13 (v := pt b 4) h1230 rfl rfl ⟨hB1159, hr1161⟩ fun a1231 h1231 => ?_; clear h1230
          refine d1D 14 h1231 rfl rfl (op_store1 rfl rfl rfl rfl Try.sizeOf3 hk1207 rfl) ?_ ?_; clear h1231
          ·
           rintro _ w1233 ⟨hk1234, hz1235, hg1236⟩
           have hk1234' : Blk w1233 b 74 #[.int .i64 L.boot, .int .i64 L.stream, .int .i64 L.first, u, .int .i64 L.told, .int .i64 L.peer, .int .i64 L.in0, .int .i64 L.next, .bool false] := hk1234; clear hk1234
           have hz1237 := hg1236.size
           have hB1238 := fbU_at hB1159 hg1236 (fun hlt => by rcases hSb with hq | hq; exact hq; omega)
           have hr1239 := row_kept_at hr1161 hg1236 (hbu)
           exact ⟨hB1238, hr1239⟩
          rintro _ w1233 a1232 ⟨hk1234, hz1235, hg1236⟩ h1232
          have hk1234' : Blk w1233 b 74 #[.int .i64 L.boot, .int .i64 L.stream, .int .i64 L.first, u, .int .i64 L.told, .int .i64 L.peer, .int .i64 L.in0, .int .i64 L.next, .bool false] := hk1234; clear hk1234
          have hz1237 := hg1236.size
          refine dr_done (by kernel_rfl) ?_
          refine co_then ?_
          refine co_seq ?_
          refine co_reg ?_
          refine pk0 (v := v) h1232 rfl fun a1238 h1238 => ?_; clear h1232
          refine pk0 (v := v) h1238 rfl fun a1239 h1239 => ?_; clear h1238
          refine pl_nil ?_
          refine co_then ?_
          refine wp_ret ?_
          refine co_ret1 h1239 rfl rfl ?_
          have hr1240 := row_kept_at hr1161 hg1236 (hbu)
          have hB1241 := fbU_at hB1159 hg1236 (fun hlt => by rcases hSb with hq | hq; exact hq; omega)
          have hr1242 := row_kept_at hf810 hg1148 (own_neT hf810 hk812 (by decide))
          have hr1243 := row_kept_new hr1242 hg1151
          have hr1244 := row_kept_at hr1243 hg1236 (own_neT hr1243 hk1207 (by decide))
          have hk0 : (L.told : Int) = max L.told (L.to : Int) := by unfold LnT.to; omega
          have hbl : Blk w1233 b 74 (lnC (outN L) u) := by have h := hk1234'; rw [hk0] at h; exact h
          exact ⟨_, rfl, ⟨(LkU.same2 hU hbl hr1240 rfl (outN_ok hok) hB1241).1, (LkU.same2 hU hbl hr1240 rfl (outN_ok hok) hB1241).2⟩, row_lows (row_eq hr1244 (by first | exact outs_a hF (by unfold LnT.to; omega) (by omega) | exact outs_b hF (by unfold LnT.to; omega) (by omega) (by first | assumption | simp_all) | exact outs_c hF (by unfold LnT.to; omega) (by omega) (by first | assumption | simp_all))) (by omega), hB1241⟩
      ·
       rw [hc1129] at h1128
       have hp1245 : ((k : Nat) : Int) < 4 := of_decide_eq_true hc1129
       clear hc1129
       refine co_true h1128 rfl ?_
       refine wp_skip ?_
       refine co_then ?_
       refine co_seq ?_
       refine wp_block ?_
       refine co_seq ?_
       refine co_reg ?_
       refine pk0 (v := .bool true) h1128 rfl fun a1246 h1246 => ?_; clear h1128
       refine pk0 (v := .bool true) h1246 rfl fun a1247 h1247 => ?_; clear h1246
       refine psk h1247 rfl fun a1248 h1248 => ?_; clear h1247
       refine psk h1248 rfl fun a1249 h1249 => ?_; clear h1248
       refine psk h1249 rfl fun a1250 h1250 => ?_; clear h1249
       refine psk h1250 rfl fun a1251 h1251 => ?_; clear h1250
       refine psk h1251 rfl fun a1252 h1252 => ?_; clear h1251
       refine psk h1252 rfl fun a1253 h1253 => ?_; clear h1252
       refine pk0 (v := .bool true) h1253 rfl fun a1254 h1254 => ?_; clear h1253
       refine pl_nil ?_
       refine co_then ?_
       refine co_true h1254 rfl ?_
       refine co_seq ?_
       refine co_reg ?_
       refine pk (v := .agg #[.int .i64 L.boot, .int .i64 L.stream, .int .i64 L.first, .int .i64 L.peer, .int .i64 L.in0, .int .i64 L.next, .bool false, .string (⟨#[]⟩)]) h1254 rfl (rn_loadN rfl rfl Try.underlying61 rfl (by kernel_rfl) hk813.all) fun a1255 h1255 => ?_; clear h1254
       refine pw h1255 rfl (op_new (v := fun N => pt N 0) (T := 61) (cs := #[.int .i64 0, .int .i64 0, .int .i64 0, .int .i64 0, .int .i64 0, .int .i64 0, .bool false, .string (⟨#[]⟩)]) (by kernel_rfl) (by kernel_rfl) (by kernel_rfl)) ?_; clear h1255
       rintro _ w1257 a1256 ⟨N1258, rfl, hN1261, hz1262, hk1260, hg1259⟩ h1256
       have ha1263 := row_fresh hf809 hN1261
       have hu1264 := row_under hf809 hN1261
       have ha1265 := row_fresh hf810 hN1261
       have hu1266 := row_under hf810 hN1261
       have hz1267 := hg1259.size
       try dsimp only at h1256
       refine pwD h1256 rfl (op_storeN rfl rfl rfl (by kernel_rfl) (by kernel_rfl) hk1260 rfl) ?_; clear h1256
       rintro _ w1269 a1268 ⟨hk1270, hz1271, hg1272⟩ h1268
       have hk1270' : Blk w1269 N1258 61 #[.int .i64 L.boot, .int .i64 L.stream, .int .i64 L.first, .int .i64 L.peer, .int .i64 L.in0, .int .i64 L.next, .bool false, .string (⟨#[]⟩)] := hk1270; clear hk1270
       have hz1273 := hg1272.size
       refine pl_nil ?_
       refine co_then ?_
       refine co_seq ?_
       refine co_reg ?_
       refine pk0 (v := pt b 0) h1268 rfl fun a1274 h1274 => ?_; clear h1268
       refine pk0 (v := pt b 0) h1274 rfl fun a1275 h1275 => ?_; clear h1274
       refine pk0 (v := pt b 2) h1275 rfl fun a1276 h1276 => ?_; clear h1275
       have hk1277 := hk812.kept hg1259 (by simp)
       have hk1278 := hk1277.kept hg1272 (by simp; omega)
       refine pk (v := .int .i64 L.first) h1276 rfl (rn_load1 rfl rfl Try.isAgg3 (hk1278.cell rfl)) fun a1279 h1279 => ?_; clear h1276
       refine pk0 (v := .int .i64 ((k : Nat) : Int)) h1279 rfl fun a1280 h1280 => ?_; clear h1279
       refine pk (v := .int .i64 (L.first + ((k : Nat) : Int))) h1280 rfl (rn_arith rfl rfl rfl rfl rfl rfl (IntWalk.i64_in _ (by omega))) fun a1281 h1281 => ?_; clear h1280
       refine pk0 (v := pt N1258 2) h1281 rfl fun a1282 h1282 => ?_; clear h1281
       refine pwD h1282 rfl (op_store1 rfl rfl rfl rfl Try.sizeOf3 hk1270' rfl) ?_; clear h1282
       rintro _ w1284 a1283 ⟨hk1285, hz1286, hg1287⟩ h1283
       have hk1285' : Blk w1284 N1258 61 #[.int .i64 L.boot, .int .i64 L.stream, .int .i64 (L.first + ((k : Nat) : Int)), .int .i64 L.peer, .int .i64 L.in0, .int .i64 L.next, .bool false, .string (⟨#[]⟩)] := hk1285; clear hk1285
       have hz1288 := hg1287.size
       refine pl_nil ?_
       refine co_then ?_
       refine co_seq ?_
       refine co_reg ?_
       refine pk0 (v := pt N1258 6) h1283 rfl fun a1289 h1289 => ?_; clear h1283
       refine pwD h1289 rfl (op_store1 rfl rfl rfl rfl Try.sizeOf4 hk1285' rfl) ?_; clear h1289
       rintro _ w1291 a1290 ⟨hk1292, hz1293, hg1294⟩ h1290
       have hk1292' : Blk w1291 N1258 61 #[.int .i64 L.boot, .int .i64 L.stream, .int .i64 (L.first + ((k : Nat) : Int)), .int .i64 L.peer, .int .i64 L.in0, .int .i64 L.next, .bool true, .string (⟨#[]⟩)] := hk1292; clear hk1292
       have hz1295 := hg1294.size
       refine pl_nil ?_
       refine co_then ?_
       refine co_seq ?_
       refine co_reg ?_
       refine pk0 (v := pt b 0) h1290 rfl fun a1296 h1296 => ?_; clear h1290
       refine pk0 (v := pt b 0) h1296 rfl fun a1297 h1297 => ?_; clear h1296
       refine pk0 (v := pt b 3) h1297 rfl fun a1298 h1298 => ?_; clear h1297
       have hk1299 := hk1278.kept hg1287 (by simp; omega)
       have hk1300 := hk1299.kept hg1294 (by simp; omega)
       refine pk (v := u) h1298 rfl (rn_load1 rfl rfl Try.isAgg38 (hk1300.cell rfl)) fun a1301 h1301 => ?_; clear h1298
       refine pk0 (v := .int .i64 ((k : Nat) : Int)) h1301 rfl fun a1302 h1302 => ?_; clear h1301
       have hr1304 := row_kept_new hf809 hg1259
       have hr1305 := row_kept_at hr1304 hg1272 (ha1263)
       have hr1306 := row_kept_at hr1305 hg1287 (ha1263)
       have hr1307 := row_kept_at hr1306 hg1294 (ha1263)
       obtain ⟨y1303, hy1303⟩ : ∃ z, L.q[k]? = some z := ⟨_, List.getElem?_eq_getElem (by first | omega | (simp; done) | (simp; omega))⟩
       refine pk (v := pt (blkOf u) (offOf u + k * 1)) h1302 rfl (rn_index rfl rfl rfl Try.underlying38 Try.sizeOf9 (row_sl hr1307 strE_len) (by omega) (by first | omega | (simp; done) | (simp; omega))) fun a1308 h1308 => ?_; clear h1302
       refine pk (v := .string y1303) h1308 rfl (rn_load1 rfl rfl Try.isAgg9 ((sl_at (row_sl hr1307 strE_len) hy1303) 0 _ rfl)) fun a1309 h1309 => ?_; clear h1308
       refine pk0 (v := pt N1258 7) h1309 rfl fun a1310 h1310 => ?_; clear h1309
       refine pwD h1310 rfl (op_store1 rfl rfl rfl rfl Try.sizeOf9 hk1292' rfl) ?_; clear h1310
       rintro _ w1312 a1311 ⟨hk1313, hz1314, hg1315⟩ h1311
       have hk1313' : Blk w1312 N1258 61 #[.int .i64 L.boot, .int .i64 L.stream, .int .i64 (L.first + ((k : Nat) : Int)), .int .i64 L.peer, .int .i64 L.in0, .int .i64 L.next, .bool true, .string y1303] := hk1313; clear hk1313
       have hz1316 := hg1315.size
       refine pl_nil ?_
       refine co_then ?_
       refine co_reg ?_
       refine pk0 (v := v) h1311 rfl fun a1317 h1317 => ?_; clear h1311
       refine pk (v := .agg #[.int .i64 L.boot, .int .i64 L.stream, .int .i64 (L.first + ((k : Nat) : Int)), .int .i64 L.peer, .int .i64 L.in0, .int .i64 L.next, .bool true, .string y1303]) h1317 rfl (rn_loadN rfl rfl Try.underlying61 rfl (by kernel_rfl) hk1313'.all) fun a1318 h1318 => ?_; clear h1317
       refine pw h1318 rfl (op_new (v := fun N => .slice (some ⟨N, 0, none⟩) 1 1) (T := 61) (cs := #[.int .i64 L.boot, .int .i64 L.stream, .int .i64 (L.first + ((k : Nat) : Int)), .int .i64 L.peer, .int .i64 L.in0, .int .i64 L.next, .bool true, .string y1303]) (by kernel_rfl) (by kernel_rfl) (by kernel_rfl)) ?_; clear h1318
       rintro _ w1320 a1319 ⟨N1321, rfl, hN1324, hz1325, hk1323, hg1322⟩ h1319
       have hr1327 := row_kept_at hr1307 hg1315 (ha1263)
       have ha1326 := row_fresh hr1327 hN1324
       have hu1328 := row_under hr1327 hN1324
       have hr1330 := row_kept_new hf810 hg1259
       have hr1331 := row_kept_at hr1330 hg1272 (ha1265)
       have hr1332 := row_kept_at hr1331 hg1287 (ha1265)
       have hr1333 := row_kept_at hr1332 hg1294 (ha1265)
       have hr1334 := row_kept_at hr1333 hg1315 (ha1265)
       have ha1329 := row_fresh hr1334 hN1324
       have hu1335 := row_under hr1334 hN1324
       have hz1336 := hg1322.size
       try dsimp only at h1319
       have hr1343 := row_kept_new hr1334 hg1322
       refine pw h1319 rfl (op_append rfl (N781 + 1) 61 (z := .agg #[.int .i64 0, .int .i64 0, .int .i64 0, .int .i64 0, .int .i64 0, .int .i64 0, .bool false, .string (⟨#[]⟩)]) (size := 8) (bytes := 72) Try.underlying67 (by kernel_rfl) rfl rfl rfl hr1343 rfl hk1323 rfl (by kernel_rfl) (by first | omega | (simp only [List.length_nil, List.length_append, List.length_cons, List.length_take, List.length_drop]; omega)) (by first | omega | (simp only [List.length_nil, List.length_append, List.length_cons, List.length_take, List.length_drop]; omega)) (by omega)) ?_; clear h1319
       rintro v1339 w1338 a1337 ⟨hr1340, hg1341⟩ h1337
       have hr1340' : w1338.ownsRow (N781 + 1) 61 8 v1339 (((outsL L F k) ++ [(SegT.mk L.boot L.stream (L.first + ((k : Nat) : Int)) L.peer L.in0 L.next true y1303)]).length) (((outsL L F k) ++ [(SegT.mk L.boot L.stream (L.first + ((k : Nat) : Int)) L.peer L.in0 L.next true y1303)]).flatMap segE) := row_push (y := (SegT.mk L.boot L.stream (L.first + ((k : Nat) : Int)) L.peer L.in0 L.next true y1303)) hr1340 rfl rfl; clear hr1340
       have hz1344 := hg1341.size
       have hk1345 := hk1300.kept hg1315 (by simp; omega)
       have hk1346 := hk1345.kept hg1322 (by simp)
       refine pk0 (v := v1339) h1337 rfl fun a1347 h1347 => ?_; clear h1337
       refine pl_nil ?_
       refine co_blockN ?_
       refine co_then ?_
       refine co_reg ?_
       refine pk0 (v := .int .i64 ((k : Nat) : Int)) h1347 rfl fun a1348 h1348 => ?_; clear h1347
       refine pk (v := .int .i64 ((k + 1 : Nat) : Int)) h1348 rfl (rn_arith' rfl rfl rfl rfl rfl rfl (IntWalk.i64_in _ (by omega)) (by omega)) fun a1349 h1349 => ?_; clear h1348
       refine pk0 (v := .int .i64 ((k + 1 : Nat) : Int)) h1349 rfl fun a1350 h1350 => ?_; clear h1349
       refine pl_nil ?_
       refine co_then ?_
       refine ⟨(4 - (k + 1)), by omega, ?_⟩
       have hr1351 := row_kept_new hr1327 hg1322
       have hr1352 := row_kept_row hr1351 hr1343 hg1341 (by decide)
       have hB1353 := fbU_new hB811 hg1259
       have hB1354 := fbU_at hB1353 hg1272 (fun hlt => absurd hlt (by omega))
       have hB1355 := fbU_at hB1354 hg1287 (fun hlt => absurd hlt (by omega))
       have hB1356 := fbU_at hB1355 hg1294 (fun hlt => absurd hlt (by omega))
       have hB1357 := fbU_at hB1356 hg1315 (fun hlt => absurd hlt (by omega))
       have hB1358 := fbU_new hB1357 hg1322
       have hB1359 := fbU_row hB1358 (InS.low hr1343 (by omega)) hg1341
       have hk1360 := hk1346.kept hg1341 (own_neT hr1343 hk1346 (by decide))
       have hk1361 := hk813.kept hg1259 (by simp)
       have hk1362 := hk1361.kept hg1272 (by simp; omega)
       have hk1363 := hk1362.kept hg1287 (by simp; omega)
       have hk1364 := hk1363.kept hg1294 (by simp; omega)
       have hk1365 := hk1364.kept hg1315 (by simp; omega)
       have hk1366 := hk1365.kept hg1322 (by simp)
       have hk1367 := hk1366.kept hg1341 (row_ne_lt hr1343 (by omega))
       exact ⟨k + 1, v1339, h1350.sub ⟨rfl, rfl, rfl, rfl, rfl, trivial⟩, rfl, by omega, by omega, hr1352, (row_eq hr1340' (by first | (exact (List.eq_nil_of_length_eq_zero (by rw [outsL_len]; omega)).symm) | exact outsL_no (by omega) | exact outsL_yes (by omega) (by assumption))), hB1359, hk1360, hk1367⟩
end Go.Proofs.Ythmljllgfigebaa
