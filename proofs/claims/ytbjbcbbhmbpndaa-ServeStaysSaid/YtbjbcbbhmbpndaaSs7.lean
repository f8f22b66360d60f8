/- Put together: SrvGSv, SrvHSv. Conditions: as each says. -/
import Derived.Test.YtbjbcbbhmbpndaaSs6
import Derived.OpenShut
/- catenalaw31: ServeStays. Conditions: none. -/
namespace Go.Proofs.Ytbjbcbbhmbpndaa
open Go.RowKit Go.PlainAid
set_option linter.unusedVariables false
set_option linter.unusedSimpArgs false

set_option maxRecDepth 100000 in
set_option maxHeartbeats 6400000 in
theorem serveStays_any (v : Value) (l : List PutT) (v2 : Value) (l2 : List PutT) (mk : Int) (hz : Int) (ep : Int) (hd : Int) (h : Int) (d : MsgD) (mv : Value) (bv : Value) (ev : Value) (sv : Value) (pv : Value) (w : World) (hs : SliceOf putTE 2 w v l) (hok : ∀ z ∈ l, PutOk w z) (hs2 : SliceOf putTE 2 w v2 l2) (hok2 : ∀ z ∈ l2, PutOk w z) (hm : SliceOf memE 2 w mv d.cms) (hb : SliceOf opE 3 w bv d.bl) (he : SliceOf entE 4 w ev d.en) (ht : SliceOf (intE .u64) 1 w sv d.st) (hp : SliceOf prE 2 w pv d.pr) (hM : MsgOk w ⟨d, mv, bv, ev, sv, pv⟩) (hu : 0 ≤ mk ∧ mk < 18446744073709551616 ∧ 0 ≤ hz ∧ hz < 18446744073709551616 ∧ 0 ≤ h ∧ h < 18446744073709551616) :
    Calls Try.prog 4 #[v, v2, .agg #[.int .u64 mk, .int .u64 hz, .int .i64 ep, .int .i64 hd], .int .u64 h, .agg #[.int .i64 d.k, .int .i64 d.ep, .int .i64 d.rq, .int .i64 d.sr, .bool d.fg, .int .u64 d.at_, .int .u64 d.la, .int .i64 d.n, .int .i64 d.m, .int .i64 d.p, .int .i64 d.e, .string d.key, .string d.to_, .int .i64 d.cep, mv, .int .u64 d.cfl, .int .i64 d.bc, .int .i64 d.br, bv, ev, sv, pv]] w fun e w' => e = .returned (.bool true) ∧ Below w.heap.size w w' := by
 have hrng := hM.hR.rng
 have hB0 := Below.refl w.heap.size w
 have hl_hs := sl_len hs
 have hl_hs2 := sl_len hs2
 have hl_hm := sl_len hm
 have hl_hb := sl_len hb
 have hl_he := sl_len he
 have hl_ht := sl_len ht
 have hl_hp := sl_len hp
 rcases fewp_cases l l2 with ⟨hfew, hfew2⟩ | hfew | ⟨hfew, hfew2⟩
 · skip
   refine co_enter (n := 189) Try.func4 rfl rfl rfl [(0, v), (1, v2), (2, .agg #[.int .u64 mk, .int .u64 hz, .int .i64 ep, .int .i64 hd]), (3, .int .u64 h), (4, .agg #[.int .i64 d.k, .int .i64 d.ep, .int .i64 d.rq, .int .i64 d.sr, .bool d.fg, .int .u64 d.at_, .int .u64 d.la, .int .i64 d.n, .int .i64 d.m, .int .i64 d.p, .int .i64 d.e, .string d.key, .string d.to_, .int .i64 d.cep, mv, .int .u64 d.cfl, .int .i64 d.bc, .int .i64 d.br, bv, ev, sv, pv])] rfl (fun a h0 => ?_)
   refine co_seq ?_
   refine co_reg ?_
   refine pw h0 rfl (op_new (v := fun N => pt N 0) (T := 25) (cs := #[.int .u64 mk, .int .u64 hz, .int .i64 ep, .int .i64 hd]) (by kernel_rfl) (by kernel_rfl) (by kernel_rfl)) ?_; clear h0
   rintro _ w2 a1 ⟨N3, rfl, hN6, hz7, hk5, hg4⟩ h1
   have hz8 := hg4.size
   try dsimp only at h1
   refine pw h1 rfl (op_new (v := fun N => pt N 0) (T := 37) (cs := #[.int .i64 d.k, .int .i64 d.ep, .int .i64 d.rq, .int .i64 d.sr, .bool d.fg, .int .u64 d.at_, .int .u64 d.la, .int .i64 d.n, .int .i64 d.m, .int .i64 d.p, .int .i64 d.e, .string d.key, .string d.to_, .int .i64 d.cep, mv, .int .u64 d.cfl, .int .i64 d.bc, .int .i64 d.br, bv, ev, sv, pv]) (by kernel_rfl) (by kernel_rfl) (by kernel_rfl)) ?_; clear h1
   rintro _ w10 a9 ⟨N11, rfl, hN14, hz15, hk13, hg12⟩ h9
   have hz16 := hg12.size
   try dsimp only at h9
   refine pk0 (v := .bool false) h9 rfl fun a17 h17 => ?_; clear h9
   refine pl_nil ?_
   refine co_then ?_
   refine co_seq ?_
   refine co_seq ?_
   refine co_reg ?_
   refine pk0 (v := v) h17 rfl fun a18 h18 => ?_; clear h17
   have hB21 := hb_new hB0 hg4
   have hB22 := hb_new hB21 hg12
   refine pw h18 rfl (op_call (args := #[v]) (R := fun res xw => res = .bool (decide (FewP l 40)) ∧ Below w10.heap.size w10 xw) rfl rfl rfl (by kernel_rfl) (by kernel_rfl) (Try.call9 _ _) (few31_any v l w10 (hs.below hB22) (fun z hz => (hok z hz).below hB22)) (by rintro e x ⟨rfl, h⟩; exact ⟨_, rfl, rfl, h⟩)) ?_; clear h18
   rintro _ w20 a19 ⟨rfl, hb23⟩ h19
   have hz24 := hb23.size
   have hc25 : (decide (FewP l 40)) = true := by simp [hfew, hfew2]
   rw [hc25] at h19; clear hc25
   refine pk0 (v := .bool false) h19 rfl fun a26 h26 => ?_; clear h19
   refine pk0 (v := .bool false) h26 rfl fun a27 h27 => ?_; clear h26
   refine pk0 (v := v2) h27 rfl fun a28 h28 => ?_; clear h27
   have hB31 := hb_call hB22 hb23
   have hk32 := hk5.kept hg12 (by simp)
   have hk33 := hk32.below hb23
   refine pw h28 rfl (op_call (args := #[v2]) (R := fun res xw => res = .bool (decide (FewP l2 40)) ∧ Below w20.heap.size w20 xw) rfl rfl rfl (by kernel_rfl) (by kernel_rfl) (Try.call9 _ _) (few31_any v2 l2 w20 (hs2.below hB31) (fun z hz => (hok2 z hz).below hB31)) (by rintro e x ⟨rfl, h⟩; exact ⟨_, rfl, rfl, h⟩)) ?_; clear h28
   rintro _ w30 a29 ⟨rfl, hb34⟩ h29
   have hz35 := hb34.size
   have hc36 : (decide (FewP l2 40)) = true := by simp [hfew, hfew2]
   rw [hc36] at h29; clear hc36
   refine pk0 (v := .bool false) h29 rfl fun a37 h37 => ?_; clear h29
   refine pk0 (v := .bool false) h37 rfl fun a38 h38 => ?_; clear h37
   refine pk0 (v := .bool false) h38 rfl fun a39 h39 => ?_; clear h38
   refine pk0 (v := pt N11 13) h39 rfl fun a40 h40 => ?_; clear h39
   refine pk0 (v := pt N11 14) h40 rfl fun a41 h41 => ?_; clear h40
   have hk42 := hk13.below hb23
   have hk43 := hk42.below hb34
   refine pk (v := mv) h41 rfl (rn_load1 rfl rfl Try.isAgg27 (hk43.cell rfl)) fun a44 h44 => ?_; clear h41
   have hB45 := hb_call hB31 hb34
   refine pk (v := .int .i64 ((d.cms.length : Nat) : Int)) h44 rfl (rn_len rfl rfl Try.underlying27 (hm.below hB45)) fun a46 h46 => ?_; clear h44
   refine pk0 (v := .bool (decide (((d.cms.length : Nat) : Int) > 20))) h46 rfl fun a47 h47 => ?_; clear h46
   refine pk0 (v := .bool (decide (((d.cms.length : Nat) : Int) > 20))) h47 rfl fun a48 h48 => ?_; clear h47
   refine pk0 (v := .bool (decide (((d.cms.length : Nat) : Int) > 20))) h48 rfl fun a49 h49 => ?_; clear h48
   cases hc50 : (decide (((d.cms.length : Nat) : Int) > 20))
   ·
    rw [hc50] at h49
    have hp51 : ¬ (((d.cms.length : Nat) : Int) > 20) := of_decide_eq_false hc50
    clear hc50
    refine pk0 (v := pt N11 16) h49 rfl fun a52 h52 => ?_; clear h49
    refine pk0 (v := pt N11 18) h52 rfl fun a53 h53 => ?_; clear h52
    refine pk (v := bv) h53 rfl (rn_load1 rfl rfl Try.isAgg30 (hk43.cell rfl)) fun a54 h54 => ?_; clear h53
    refine pk (v := .int .i64 ((d.bl.length : Nat) : Int)) h54 rfl (rn_len rfl rfl Try.underlying30 (hb.below hB45)) fun a55 h55 => ?_; clear h54
    refine pk0 (v := .bool (decide (((d.bl.length : Nat) : Int) > 20))) h55 rfl fun a56 h56 => ?_; clear h55
    refine pk0 (v := .bool (decide (((d.bl.length : Nat) : Int) > 20))) h56 rfl fun a57 h57 => ?_; clear h56
    refine pk0 (v := .bool (decide (((d.bl.length : Nat) : Int) > 20))) h57 rfl fun a58 h58 => ?_; clear h57
    cases hc59 : (decide (((d.bl.length : Nat) : Int) > 20))
    ·
     rw [hc59] at h58
     have hp60 : ¬ (((d.bl.length : Nat) : Int) > 20) := of_decide_eq_false hc59
     clear hc59
     refine pk0 (v := pt N11 19) h58 rfl fun a61 h61 => ?_; clear h58
     refine pk (v := ev) h61 rfl (rn_load1 rfl rfl Try.isAgg33 (hk43.cell rfl)) fun a62 h62 => ?_; clear h61
     refine pk (v := .int .i64 ((d.en.length : Nat) : Int)) h62 rfl (rn_len rfl rfl Try.underlying33 (he.below hB45)) fun a63 h63 => ?_; clear h62
     refine pk0 (v := .bool (decide (((d.en.length : Nat) : Int) > 20))) h63 rfl fun a64 h64 => ?_; clear h63
     refine pk0 (v := .bool (decide (((d.en.length : Nat) : Int) > 20))) h64 rfl fun a65 h65 => ?_; clear h64
     refine pk0 (v := .bool (decide (((d.en.length : Nat) : Int) > 20))) h65 rfl fun a66 h66 => ?_; clear h65
     cases hc67 : (decide (((d.en.length : Nat) : Int) > 20))
     ·
      rw [hc67] at h66
      have hp68 : ¬ (((d.en.length : Nat) : Int) > 20) := of_decide_eq_false hc67
      clear hc67
      refine pk0 (v := pt N11 20) h66 rfl fun a69 h69 => ?_; clear h66
      refine pk (v := sv) h69 rfl (rn_load1 rfl rfl Try.isAgg34 (hk43.cell rfl)) fun a70 h70 => ?_; clear h69
      refine pk (v := .int .i64 ((d.st.length : Nat) : Int)) h70 rfl (rn_len rfl rfl Try.underlying34 (ht.below hB45)) fun a71 h71 => ?_; clear h70
      refine pk0 (v := .bool (decide (((d.st.length : Nat) : Int) > 20))) h71 rfl fun a72 h72 => ?_; clear h71
      refine pk0 (v := .bool (decide (((d.st.length : Nat) : Int) > 20))) h72 rfl fun a73 h73 => ?_; clear h72
      refine pk0 (v := .bool (decide (((d.st.length : Nat) : Int) > 20))) h73 rfl fun a74 h74 => ?_; clear h73
      cases hc75 : (decide (((d.st.length : Nat) : Int) > 20))
      ·
       rw [hc75] at h74
       have hp76 : ¬ (((d.st.length : Nat) : Int) > 20) := of_decide_eq_false hc75
       clear hc75
       refine pk0 (v := pt N11 21) h74 rfl fun a77 h77 => ?_; clear h74
       refine pk (v := pv) h77 rfl (rn_load1 rfl rfl Try.isAgg35 (hk43.cell rfl)) fun a78 h78 => ?_; clear h77
       refine pk (v := .int .i64 ((d.pr.length : Nat) : Int)) h78 rfl (rn_len rfl rfl Try.underlying35 (hp.below hB45)) fun a79 h79 => ?_; clear h78
       refine pk0 (v := .bool (decide (((d.pr.length : Nat) : Int) > 40))) h79 rfl fun a80 h80 => ?_; clear h79
       refine pk0 (v := .bool (decide (((d.pr.length : Nat) : Int) > 40))) h80 rfl fun a81 h81 => ?_; clear h80
       refine pl_nil ?_
       refine co_then ?_
       cases hc82 : (decide (((d.pr.length : Nat) : Int) > 40))
       ·
        rw [hc82] at h81
        have hp83 : ¬ (((d.pr.length : Nat) : Int) > 40) := of_decide_eq_false hc82
        clear hc82
        refine co_false h81 rfl ?_
        refine wp_skip ?_
        refine co_then ?_
        refine co_seq ?_
        refine co_reg ?_
        refine pk0 (v := v) h81 rfl fun a84 h84 => ?_; clear h81
        refine pw h84 rfl (op_call (args := #[v]) (R := fun res xw => ∃ (N d : Nat) (S D : Nat → Prop) (f : Fv) (la ce : Int) (m : Nat), res = .tuple #[pt N 0, pt d 0] ∧ MvO S xw N f la ce m ∧ RsO D xw d f la m ∧ m ≤ 30 ∧ (∀ q, S q → w30.heap.size ≤ q) ∧ (∀ q, D q → w30.heap.size ≤ q) ∧ (∀ q, S q → D q → False) ∧ Below w30.heap.size w30 xw) rfl rfl rfl (by kernel_rfl) (by kernel_rfl) (Try.call11 _ _) (stores31_any v l w30 (hs.below hB45) (fun z hz => (hok z hz).below hB45) hfew) (by rintro e x ⟨N, d, S, D, f, la, ce, m, rfl, h⟩; exact ⟨_, rfl, N, d, S, D, f, la, ce, m, rfl, h⟩)) ?_; clear h84
        rintro _ w86 a85 ⟨N87, d88, S89, D90, f91, la92, ce93, m94, rfl, hO95, hO96, hm97, hlo98, hlo99, hap100, hb101⟩ h85
        have hz102 := hb101.size
        have hlo103 : ∀ q, S89 q → w.heap.size ≤ q := fun q hq => by have := hlo98 q hq; omega
        have hlo104 : ∀ q, D90 q → w.heap.size ≤ q := fun q hq => by have := hlo99 q hq; omega
        have ho105 := off_lo (N := N3) hlo98 (by omega)
        have ho106 := off_lo (N := N11) hlo98 (by omega)
        have ho107 := off_lo (N := N3) hlo99 (by omega)
        have ho108 := off_lo (N := N11) hlo99 (by omega)
        have hla109 := MvO.laB hO95
        refine pk0 (v := .tuple #[pt N87 0, pt d88 0]) h85 rfl fun a110 h110 => ?_; clear h85
        refine pk0 (v := pt N87 0) h110 rfl fun a111 h111 => ?_; clear h110
        refine pk0 (v := pt d88 0) h111 rfl fun a112 h112 => ?_; clear h111
        refine pk0 (v := pt N87 0) h112 rfl fun a113 h113 => ?_; clear h112
        refine pk0 (v := pt d88 0) h113 rfl fun a114 h114 => ?_; clear h113
        refine pl_nil ?_
        refine co_then ?_
        refine co_seq ?_
        refine dr_eq (by kernel_rfl) (fun w115 hg116 => ?_)
        have hz117 := hg116.size
        refine dk0 0 (v := pt N3 0) h114 rfl rfl rfl fun a118 h118 => ?_; clear h114
        have hk119 := hk33.below hb34
        have hk120 := hk119.below hb101
        have hk121 := hk120.kept hg116 (by simp)
        refine dk 1 (v := .int .u64 mk) h118 rfl rfl rfl (fun x hx => by subst hx; exact (rn_load1 rfl rfl Try.isAgg23 (hk121.cell rfl))) fun a122 h122 => ?_; clear h118
        refine dk0 2 (v := pt d88 0) h122 rfl rfl rfl fun a123 h123 => ?_; clear h122
        refine dk0 3 (v := pt d88 0) h123 rfl rfl rfl fun a124 h124 => ?_; clear h123
        refine dk0 4 (v := pt d88 1) h124 rfl rfl rfl fun a125 h125 => ?_; clear h124
        have hO126 := RsO.gr hO96 hg116 (fun k e => by cases e)
        refine dk 5 (v := .int .u64 la92) h125 rfl rfl rfl (fun x hx => by subst hx; exact (rn_load1 rfl rfl Try.isAgg23 (RsO.last hO126))) fun a127 h127 => ?_; clear h125
        have hmm128 := mnI_p mk la92
        refine dk0 6 (v := .int .u64 (mnI mk la92)) h127 rfl rfl rfl fun a129 h129 => ?_; clear h127
        refine dk0 7 (v := .int .u64 (mnI mk la92)) h129 rfl rfl rfl fun a130 h130 => ?_; clear h129
        refine dr_done (by kernel_rfl) ?_
        refine co_then ?_
        have hB131 := hb_call hB45 hb101
        have hB132 := hb_new hB131 hg116
        have hk133 := hk43.below hb101
        have hk134 := hk133.kept hg116 (by simp)
        refine co_cut (fun a x => ∃ (NX : Nat) (kkX : Int) (epX : Int) (rqX : Int) (atX : Int) (nX : Int) (erX : Int) (keyX : ByteArray) (flX : Bool) (aoX : Option Addr) (nnX : Nat) (cpX : Nat) (LX : List PairT), Slots 189 [(0, v), (1, v2), (3, .int .u64 h), (7, pt N3 0), (9, pt N11 0), (10, .bool false), (11, pt N87 0), (14, pt NX 0), (15, .bool (decide (chkMg d = 0 ∧ (d.k = 8 ∨ d.k = 9))))] a ∧ (AnsP f91 d (mnI mk la92) hz kkX atX flX LX) ∧ (∀ i, (Value.slice aoX nnX cpX).ownBlock = some i → ¬ S89 i) ∧ (¬ S89 NX) ∧ ((¬ (chkMg d = 0 ∧ (d.k = 8 ∨ d.k = 9)) ∧ kkX = 0) ∨ ((chkMg d = 0 ∧ (d.k = 8 ∨ d.k = 9)) ∧ (kkX = 7 ∨ (kkX = 10 ∧ atX = d.at_)))) ∧ (¬ kkX = 10 → LX.length = 0) ∧ Blk x N3 25 #[.int .u64 mk, .int .u64 hz, .int .i64 ep, .int .i64 hd] ∧ Blk x N11 37 #[.int .i64 d.k, .int .i64 d.ep, .int .i64 d.rq, .int .i64 d.sr, .bool d.fg, .int .u64 d.at_, .int .u64 d.la, .int .i64 d.n, .int .i64 d.m, .int .i64 d.p, .int .i64 d.e, .string d.key, .string d.to_, .int .i64 d.cep, mv, .int .u64 d.cfl, .int .i64 d.bc, .int .i64 d.br, bv, ev, sv, pv] ∧ Blk x NX 37 #[.int .i64 kkX, .int .i64 epX, .int .i64 rqX, .int .i64 0, .bool flX, .int .u64 atX, .int .u64 0, .int .i64 nX, .int .i64 0, .int .i64 0, .int .i64 erX, .string keyX, .string (⟨#[]⟩), .int .i64 0, .slice none 0 0, .int .u64 0, .int .i64 0, .int .i64 0, .slice none 0 0, .slice none 0 0, .slice none 0 0, .slice aoX nnX cpX] ∧ x.ownsRow 0 88 2 (.slice aoX nnX cpX) LX.length (LX.flatMap pairE) ∧ MvO S89 x N87 f91 la92 ce93 m94 ∧ Below w.heap.size w x) ?_ ?_
        ·
         refine dr_gen (fun x => Below w.heap.size w x ∧ Blk x N3 25 #[.int .u64 mk, .int .u64 hz, .int .i64 ep, .int .i64 hd] ∧ Blk x N11 37 #[.int .i64 d.k, .int .i64 d.ep, .int .i64 d.rq, .int .i64 d.sr, .bool d.fg, .int .u64 d.at_, .int .u64 d.la, .int .i64 d.n, .int .i64 d.m, .int .i64 d.p, .int .i64 d.e, .string d.key, .string d.to_, .int .i64 d.cep, mv, .int .u64 d.cfl, .int .i64 d.bc, .int .i64 d.br, bv, ev, sv, pv]) (by kernel_rfl) (fun w135 hg136 => ?_) (fun w135 hg136 => ?_)
         ·
          have hz137 := hg136.size
          have hB138 := hb_new hB132 hg136
          have hk139 := hk121.kept hg136 (by simp)
          have hk140 := hk134.kept hg136 (by simp)
          exact ⟨hB138, hk139, hk140⟩
         have hz141 := hg136.size
         have hB142 := hb_new hB132 hg136
         have hk143 := hk121.kept hg136 (by simp)
         have hk144 := hk134.kept hg136 (by simp)
         refine dk0 0 (v := pt N87 0) h130 rfl rfl ⟨hB142, hk143, hk144⟩ fun a145 h145 => ?_; clear h130
         refine dk0 1 (v := .int .u64 (mnI mk la92)) h145 rfl rfl ⟨hB142, hk143, hk144⟩ fun a146 h146 => ?_; clear h145
         refine dk0 2 (v := pt N3 1) h146 rfl rfl ⟨hB142, hk143, hk144⟩ fun a147 h147 => ?_; clear h146
         refine dk 3 (v := .int .u64 hz) h147 rfl rfl ⟨hB142, hk143, hk144⟩ (fun x hx => (rn_load1 rfl rfl Try.isAgg23 (hx.2.1.cell rfl))) fun a148 h148 => ?_; clear h147
         refine dk 5 (v := .agg #[.int .i64 d.k, .int .i64 d.ep, .int .i64 d.rq, .int .i64 d.sr, .bool d.fg, .int .u64 d.at_, .int .u64 d.la, .int .i64 d.n, .int .i64 d.m, .int .i64 d.p, .int .i64 d.e, .string d.key, .string d.to_, .int .i64 d.cep, mv, .int .u64 d.cfl, .int .i64 d.bc, .int .i64 d.br, bv, ev, sv, pv]) h148 rfl rfl ⟨hB142, hk143, hk144⟩ (fun x hx => (rn_loadN rfl rfl Try.underlying37 rfl (by kernel_rfl) hx.2.2.all)) fun a149 h149 => ?_; clear h148
         refine dr_many [4, 10] (by kernel_rfl) (by simp) ⟨?_, ?_, trivial⟩
         ·
          refine dr_op (i := 4) h149 rfl rfl rfl rfl (op_call (args := #[.int .u64 (mnI mk la92), .int .u64 hz, .int .i64 1, .int .i64 1]) (R := fun res xw => res = .agg #[.int .u64 (mnI mk la92), .int .u64 hz, .int .i64 (mxI 1 0), .int .i64 (mxI 1 0)] ∧ Below w135.heap.size w135 xw) rfl rfl rfl (by kernel_rfl) (by kernel_rfl) (Try.call12 _ _) (srvAt_any (mnI mk la92) hz 1 1 w135 ) (by rintro e x ⟨rfl, hb152⟩; exact ⟨_, rfl, ⟨rfl, hb152⟩⟩)) ?_ ?_; clear h149
          ·
           rintro _ w151 ⟨rfl, hb152⟩
           have hz153 := hb152.size
           have hO155 := MvO.gr hO95 hg116 (fun k e => by cases e)
           have hO156 := MvO.gr hO155 hg136 (fun k e => by cases e)
           have ho154 := MvO.ofS hO156
           have hO158 := RsO.gr hO126 hg136 (fun k e => by cases e)
           have ho157 := RsO.ofS hO158
           have hB159 := hb_call hB142 hb152
           have hk160 := hk143.below hb152
           have hk161 := hk144.below hb152
           exact ⟨hB159, hk160, hk161⟩
          rintro _ w151 a150 ⟨rfl, hb152⟩ h150
          have hz153 := hb152.size
          have hO155 := MvO.gr hO95 hg116 (fun k e => by cases e)
          have hO156 := MvO.gr hO155 hg136 (fun k e => by cases e)
          have ho154 := MvO.ofS hO156
          have hO158 := RsO.gr hO126 hg136 (fun k e => by cases e)
          have ho157 := RsO.ofS hO158
          have hB159 := hb_call hB142 hb152
          have hk160 := hk143.below hb152
          have hk161 := hk144.below hb152
          refine dr_many [6, 10] (by kernel_rfl) (by simp) ⟨?_, ?_, trivial⟩
          ·
           have hO165 := MvO.gr hO156 (below_grown hb152) (fun k e => by cases e)
           have ho164 := MvO.ofS hO165
           have hO167 := RsO.gr hO158 (below_grown hb152) (fun k e => by cases e)
           have ho166 := RsO.ofS hO167
           refine dr_op (i := 6) h150 rfl rfl rfl rfl (op_call (args := #[pt N87 0, .agg #[.int .u64 (mnI mk la92), .int .u64 hz, .int .i64 (mxI 1 0), .int .i64 (mxI 1 0)], .agg #[.int .i64 d.k, .int .i64 d.ep, .int .i64 d.rq, .int .i64 d.sr, .bool d.fg, .int .u64 d.at_, .int .u64 d.la, .int .i64 d.n, .int .i64 d.m, .int .i64 d.p, .int .i64 d.e, .string d.key, .string d.to_, .int .i64 d.cep, mv, .int .u64 d.cfl, .int .i64 d.bc, .int .i64 d.br, bv, ev, sv, pv]]) (R := fun res xw => ∃ (kk ep' rq' at' n' er : Int) (key' : ByteArray) (fl' : Bool) (ao : Option Addr) (nn cap : Nat) (L : List PairT), res = .tuple #[.agg #[.int .i64 kk, .int .i64 ep', .int .i64 rq', .int .i64 0, .bool fl', .int .u64 at', .int .u64 0, .int .i64 n', .int .i64 0, .int .i64 0, .int .i64 er, .string key', .string (⟨#[]⟩), .int .i64 0, .slice none 0 0, .int .u64 0, .int .i64 0, .int .i64 0, .slice none 0 0, .slice none 0 0, .slice none 0 0, .slice ao nn cap], .bool (decide (chkMg d = 0 ∧ (d.k = 8 ∨ d.k = 9)))] ∧ xw.ownsRow w151.heap.size 88 2 (.slice ao nn cap) L.length (L.flatMap pairE) ∧ AnsP f91 d (mnI mk la92) hz kk at' fl' L ∧ Below w151.heap.size w151 xw) rfl rfl rfl (by kernel_rfl) (by kernel_rfl) (Try.call13 _ _) (srvAnswerX S89 N87 f91 la92 ce93 m94 (mnI mk la92) hz (mxI 1 0) (mxI 1 0) d mv bv ev sv pv w151 hO165 (by omega) (hM.below hB159)) (by rintro e x ⟨kk, ep', rq', at', n', er, key', fl', u, L, h0, h⟩; obtain ⟨ao, nn, cap, rfl⟩ := own_sliceT h.1; exact ⟨_, h0, kk, ep', rq', at', n', er, key', fl', ao, nn, cap, L, rfl, h⟩)) ?_ ?_; clear h150
           ·
            rintro _ w163 ⟨kk168, ep169, rq170, at171, n172, er173, key174, fl175, ao177, nn178, cp179, L176, rfl, hr180, hA181, hb182⟩
            have hz183 := hb182.size
            have ho184 := MvO.ofS hO165
            have ho185 := RsO.ofS hO167
            have hkd186 := AnsP.kd hA181
            have hem187 := AnsP.emp hA181
            have hB188 := hb_call hB159 hb182
            have hk189 := hk160.below hb182
            have hk190 := hk161.below hb182
            exact ⟨hB188, hk189, hk190⟩
           rintro _ w163 a162 ⟨kk168, ep169, rq170, at171, n172, er173, key174, fl175, ao177, nn178, cp179, L176, rfl, hr180, hA181, hb182⟩ h162
           have hz183 := hb182.size
           have ho184 := MvO.ofS hO165
           have ho185 := RsO.ofS hO167
           have hkd186 := AnsP.kd hA181
           have hem187 := AnsP.emp hA181
           have hB188 := hb_call hB159 hb182
           have hk189 := hk160.below hb182
           have hk190 := hk161.below hb182
           refine dk0 7 (v := .tuple #[.agg #[.int .i64 kk168, .int .i64 ep169, .int .i64 rq170, .int .i64 0, .bool fl175, .int .u64 at171, .int .u64 0, .int .i64 n172, .int .i64 0, .int .i64 0, .int .i64 er173, .string key174, .string (⟨#[]⟩), .int .i64 0, .slice none 0 0, .int .u64 0, .int .i64 0, .int .i64 0, .slice none 0 0, .slice none 0 0, .slice none 0 0, .slice ao177 nn178 cp179], .bool (decide (chkMg d = 0 ∧ (d.k = 8 ∨ d.k = 9)))]) h162 rfl rfl ⟨hB188, hk189, hk190⟩ fun a191 h191 => ?_; clear h162
           refine dk0 8 (v := .agg #[.int .i64 kk168, .int .i64 ep169, .int .i64 rq170, .int .i64 0, .bool fl175, .int .u64 at171, .int .u64 0, .int .i64 n172, .int .i64 0, .int .i64 0, .int .i64 er173, .string key174, .string (⟨#[]⟩), .int .i64 0, .slice none 0 0, .int .u64 0, .int .i64 0, .int .i64 0, .slice none 0 0, .slice none 0 0, .slice none 0 0, .slice ao177 nn178 cp179]) h191 rfl rfl ⟨hB188, hk189, hk190⟩ fun a192 h192 => ?_; clear h191
           refine dk0 9 (v := .bool (decide (chkMg d = 0 ∧ (d.k = 8 ∨ d.k = 9)))) h192 rfl rfl ⟨hB188, hk189, hk190⟩ fun a193 h193 => ?_; clear h192
           refine d1 10 h193 rfl rfl (op_new (v := fun N => pt N 0) (T := 37) (cs := #[.int .i64 0, .int .i64 0, .int .i64 0, .int .i64 0, .bool false, .int .u64 0, .int .u64 0, .int .i64 0, .int .i64 0, .int .i64 0, .int .i64 0, .string (⟨#[]⟩), .string (⟨#[]⟩), .int .i64 0, .slice none 0 0, .int .u64 0, .int .i64 0, .int .i64 0, .slice none 0 0, .slice none 0 0, .slice none 0 0, .slice none 0 0]) (by kernel_rfl) (by kernel_rfl) (by kernel_rfl)) ?_ ?_; clear h193
           ·
            rintro _ w195 ⟨N196, rfl, hN199, hz200, hk198, hg197⟩
            have ha201 := row_fresh hr180 hN199
            have hz202 := hg197.size
            have hO204 := MvO.gr hO165 (below_grown hb182) (fun k e => by cases e)
            have ho203 := off_new (MvO.ofS hO204) hN199
            have hO206 := RsO.gr hO167 (below_grown hb182) (fun k e => by cases e)
            have ho205 := off_new (RsO.ofS hO206) hN199
            have hB207 := hb_new hB188 hg197
            have hk208 := hk189.kept hg197 (by simp)
            have hk209 := hk190.kept hg197 (by simp)
            exact ⟨hB207, hk208, hk209⟩
           rintro _ w195 a194 ⟨N196, rfl, hN199, hz200, hk198, hg197⟩ h194
           have ha201 := row_fresh hr180 hN199
           have hz202 := hg197.size
           have hO204 := MvO.gr hO165 (below_grown hb182) (fun k e => by cases e)
           have ho203 := off_new (MvO.ofS hO204) hN199
           have hO206 := RsO.gr hO167 (below_grown hb182) (fun k e => by cases e)
           have ho205 := off_new (RsO.ofS hO206) hN199
           try dsimp only at h194
           have hB207 := hb_new hB188 hg197
           have hk208 := hk189.kept hg197 (by simp)
           have hk209 := hk190.kept hg197 (by simp)
           refine d1D 11 h194 rfl rfl (op_storeN rfl rfl rfl (all_cons rfl (all_cons rfl (all_cons rfl (all_cons rfl (all_cons rfl (all_cons rfl (all_cons rfl (all_cons rfl (all_cons rfl (all_cons rfl (all_cons rfl (all_cons rfl (all_cons rfl (all_cons rfl (all_cons rfl (all_cons rfl (all_cons rfl (all_cons rfl (all_cons rfl (all_cons rfl (all_cons rfl (all_cons rfl all_nil)))))))))))))))))))))) (by kernel_rfl) hk198 rfl) ?_ ?_; clear h194
           ·
            rintro _ w211 ⟨hk212, hz213, hg214⟩
            have hk212' : Blk w211 N196 37 #[.int .i64 kk168, .int .i64 ep169, .int .i64 rq170, .int .i64 0, .bool fl175, .int .u64 at171, .int .u64 0, .int .i64 n172, .int .i64 0, .int .i64 0, .int .i64 er173, .string key174, .string (⟨#[]⟩), .int .i64 0, .slice none 0 0, .int .u64 0, .int .i64 0, .int .i64 0, .slice none 0 0, .slice none 0 0, .slice none 0 0, .slice ao177 nn178 cp179] := hk212; clear hk212
            have hz215 := hg214.size
            have hB216 := hb_at hB207 hg214 (by omega)
            have hk217 := hk208.kept hg214 (by simp; omega)
            have hk218 := hk209.kept hg214 (by simp; omega)
            exact ⟨hB216, hk217, hk218⟩
           rintro _ w211 a210 ⟨hk212, hz213, hg214⟩ h210
           have hk212' : Blk w211 N196 37 #[.int .i64 kk168, .int .i64 ep169, .int .i64 rq170, .int .i64 0, .bool fl175, .int .u64 at171, .int .u64 0, .int .i64 n172, .int .i64 0, .int .i64 0, .int .i64 er173, .string key174, .string (⟨#[]⟩), .int .i64 0, .slice none 0 0, .int .u64 0, .int .i64 0, .int .i64 0, .slice none 0 0, .slice none 0 0, .slice none 0 0, .slice ao177 nn178 cp179] := hk212; clear hk212
           have hz215 := hg214.size
           have hB216 := hb_at hB207 hg214 (by omega)
           have hk217 := hk208.kept hg214 (by simp; omega)
           have hk218 := hk209.kept hg214 (by simp; omega)
           refine dk0 12 (v := .bool (decide (chkMg d = 0 ∧ (d.k = 8 ∨ d.k = 9)))) h210 rfl rfl ⟨hB216, hk217, hk218⟩ fun a219 h219 => ?_; clear h210
           refine dr_done (by kernel_rfl) ?_
           refine co_then ?_
           have hO221 := MvO.gr hO204 hg197 (fun k e => by cases e)
           have hO222 := MvO.gr hO221 hg214 (fun k e => by cases e; exact ho203)
           have ho220 := MvO.ofS hO222
           have hO224 := RsO.gr hO206 hg197 (fun k e => by cases e)
           have hO225 := RsO.gr hO224 hg214 (fun k e => by cases e; exact ho205)
           have ho223 := RsO.ofS hO225
           have hr226 := row_kept_new hr180 hg197
           have hr227 := row_kept_at hr226 hg214 (ha201)
           have hor9 : ∀ i, (Value.slice ao177 nn178 cp179).ownBlock = some i → ¬ S89 i := (offR_row ho164 hr227 (Nat.le_refl _))
           have hob9 : ¬ S89 N196 := ho203
           exact ⟨N196, kk168, ep169, rq170, at171, n172, er173, key174, fl175, ao177, nn178, cp179, L176, h219.sub ⟨rfl, rfl, rfl, rfl, rfl, rfl, rfl, rfl, rfl, trivial⟩, hA181, by exact hor9, by exact hob9, AnsP.kd hA181, AnsP.emp hA181, hk217, hk218, hk212', (row_lows hr227 (by omega)), hO222, hB216⟩
          ·
           refine dr_op (i := 10) h150 rfl rfl rfl rfl (op_new (v := fun N => pt N 0) (T := 37) (cs := #[.int .i64 0, .int .i64 0, .int .i64 0, .int .i64 0, .bool false, .int .u64 0, .int .u64 0, .int .i64 0, .int .i64 0, .int .i64 0, .int .i64 0, .string (⟨#[]⟩), .string (⟨#[]⟩), .int .i64 0, .slice none 0 0, .int .u64 0, .int .i64 0, .int .i64 0, .slice none 0 0, .slice none 0 0, .slice none 0 0, .slice none 0 0]) (by kernel_rfl) (by kernel_rfl) (by kernel_rfl)) ?_ ?_; clear h150
           ·
            rintro _ w229 ⟨N230, rfl, hN233, hz234, hk232, hg231⟩
            have hz235 := hg231.size
            have hO237 := MvO.gr hO156 (below_grown hb152) (fun k e => by cases e)
            have ho236 := off_new (MvO.ofS hO237) hN233
            have hO239 := RsO.gr hO158 (below_grown hb152) (fun k e => by cases e)
            have ho238 := off_new (RsO.ofS hO239) hN233
            have hB240 := hb_new hB159 hg231
            have hk241 := hk160.kept hg231 (by simp)
            have hk242 := hk161.kept hg231 (by simp)
            exact ⟨hB240, hk241, hk242⟩
           rintro _ w229 a228 ⟨N230, rfl, hN233, hz234, hk232, hg231⟩ h228
           have hz235 := hg231.size
           have hO237 := MvO.gr hO156 (below_grown hb152) (fun k e => by cases e)
           have ho236 := off_new (MvO.ofS hO237) hN233
           have hO239 := RsO.gr hO158 (below_grown hb152) (fun k e => by cases e)
           have ho238 := off_new (RsO.ofS hO239) hN233
           try dsimp only at h228
           have hB240 := hb_new hB159 hg231
           have hk241 := hk160.kept hg231 (by simp)
           have hk242 := hk161.kept hg231 (by simp)
           have hO246 := MvO.gr hO237 hg231 (fun k e => by cases e)
           have ho245 := MvO.ofS hO246
           have hO248 := RsO.gr hO239 hg231 (fun k e => by cases e)
           have ho247 := RsO.ofS hO248
           refine d1 6 h228 rfl rfl (op_call (args := #[pt N87 0, .agg #[.int .u64 (mnI mk la92), .int .u64 hz, .int .i64 (mxI 1 0), .int .i64 (mxI 1 0)], .agg #[.int .i64 d.k, .int .i64 d.ep, .int .i64 d.rq, .int .i64 d.sr, .bool d.fg, .int .u64 d.at_, .int .u64 d.la, .int .i64 d.n, .int .i64 d.m, .int .i64 d.p, .int .i64 d.e, .string d.key, .string d.to_, .int .i64 d.cep, mv, .int .u64 d.cfl, .int .i64 d.bc, .int .i64 d.br, bv, ev, sv, pv]]) (R := fun res xw => ∃ (kk ep' rq' at' n' er : Int) (key' : ByteArray) (fl' : Bool) (ao : Option Addr) (nn cap : Nat) (L : List PairT), res = .tuple #[.agg #[.int .i64 kk, .int .i64 ep', .int .i64 rq', .int .i64 0, .bool fl', .int .u64 at', .int .u64 0, .int .i64 n', .int .i64 0, .int .i64 0, .int .i64 er, .string key', .string (⟨#[]⟩), .int .i64 0, .slice none 0 0, .int .u64 0, .int .i64 0, .int .i64 0, .slice none 0 0, .slice none 0 0, .slice none 0 0, .slice ao nn cap], .bool (decide (chkMg d = 0 ∧ (d.k = 8 ∨ d.k = 9)))] ∧ xw.ownsRow w229.heap.size 88 2 (.slice ao nn cap) L.length (L.flatMap pairE) ∧ AnsP f91 d (mnI mk la92) hz kk at' fl' L ∧ Below w229.heap.size w229 xw) rfl rfl rfl (by kernel_rfl) (by kernel_rfl) (Try.call13 _ _) (srvAnswerX S89 N87 f91 la92 ce93 m94 (mnI mk la92) hz (mxI 1 0) (mxI 1 0) d mv bv ev sv pv w229 hO246 (by omega) (hM.below hB240)) (by rintro e x ⟨kk, ep', rq', at', n', er, key', fl', u, L, h0, h⟩; obtain ⟨ao, nn, cap, rfl⟩ := own_sliceT h.1; exact ⟨_, h0, kk, ep', rq', at', n', er, key', fl', ao, nn, cap, L, rfl, h⟩)) ?_ ?_; clear h228
           ·
            rintro _ w244 ⟨kk249, ep250, rq251, at252, n253, er254, key255, fl256, ao258, nn259, cp260, L257, rfl, hr261, hA262, hb263⟩
            have hz264 := hb263.size
            have ho265 := MvO.ofS hO246
            have ho266 := RsO.ofS hO248
            have hkd267 := AnsP.kd hA262
            have hem268 := AnsP.emp hA262
            have hB269 := hb_call hB240 hb263
            have hk270 := hk241.below hb263
            have hk271 := hk242.below hb263
            exact ⟨hB269, hk270, hk271⟩
           rintro _ w244 a243 ⟨kk249, ep250, rq251, at252, n253, er254, key255, fl256, ao258, nn259, cp260, L257, rfl, hr261, hA262, hb263⟩ h243
           have hz264 := hb263.size
           have ho265 := MvO.ofS hO246
           have ho266 := RsO.ofS hO248
           have hkd267 := AnsP.kd hA262
           have hem268 := AnsP.emp hA262
           have hB269 := hb_call hB240 hb263
           have hk270 := hk241.below hb263
           have hk271 := hk242.below hb263
           refine dk0 7 (v := .tuple #[.agg #[.int .i64 kk249, .int .i64 ep250, .int .i64 rq251, .int .i64 0, .bool fl256, .int .u64 at252, .int .u64 0, .int .i64 n253, .int .i64 0, .int .i64 0, .int .i64 er254, .string key255, .string (⟨#[]⟩), .int .i64 0, .slice none 0 0, .int .u64 0, .int .i64 0, .int .i64 0, .slice none 0 0, .slice none 0 0, .slice none 0 0, .slice ao258 nn259 cp260], .bool (decide (chkMg d = 0 ∧ (d.k = 8 ∨ d.k = 9)))]) h243 rfl rfl ⟨hB269, hk270, hk271⟩ fun a272 h272 => ?_; clear h243
           refine dk0 8 (v := .agg #[.int .i64 kk249, .int .i64 ep250, .int .i64 rq251, .int .i64 0, .bool fl256, .int .u64 at252, .int .u64 0, .int .i64 n253, .int .i64 0, .int .i64 0, .int .i64 er254, .string key255, .string (⟨#[]⟩), .int .i64 0, .slice none 0 0, .int .u64 0, .int .i64 0, .int .i64 0, .slice none 0 0, .slice none 0 0, .slice none 0 0, .slice ao258 nn259 cp260]) h272 rfl rfl ⟨hB269, hk270, hk271⟩ fun a273 h273 => ?_; clear h272
           refine dk0 9 (v := .bool (decide (chkMg d = 0 ∧ (d.k = 8 ∨ d.k = 9)))) h273 rfl rfl ⟨hB269, hk270, hk271⟩ fun a274 h274 => ?_; clear h273
           have hk280 := hk232.below hb263
           refine d1D 11 h274 rfl rfl (op_storeN rfl rfl rfl (all_cons rfl (all_cons rfl (all_cons rfl (all_cons rfl (all_cons rfl (all_cons rfl (all_cons rfl (all_cons rfl (all_cons rfl (all_cons rfl (all_cons rfl (all_cons rfl (all_cons rfl (all_cons rfl (all_cons rfl (all_cons rfl (all_cons rfl (all_cons rfl (all_cons rfl (all_cons rfl (all_cons rfl (all_cons rfl all_nil)))))))))))))))))))))) (by kernel_rfl) hk280 rfl) ?_ ?_; clear h274
           ·
            rintro _ w276 ⟨hk277, hz278, hg279⟩
            have hk277' : Blk w276 N230 37 #[.int .i64 kk249, .int .i64 ep250, .int .i64 rq251, .int .i64 0, .bool fl256, .int .u64 at252, .int .u64 0, .int .i64 n253, .int .i64 0, .int .i64 0, .int .i64 er254, .string key255, .string (⟨#[]⟩), .int .i64 0, .slice none 0 0, .int .u64 0, .int .i64 0, .int .i64 0, .slice none 0 0, .slice none 0 0, .slice none 0 0, .slice ao258 nn259 cp260] := hk277; clear hk277
            have hz281 := hg279.size
            have hB282 := hb_at hB269 hg279 (by omega)
            have hk283 := hk270.kept hg279 (by simp; omega)
            have hk284 := hk271.kept hg279 (by simp; omega)
            exact ⟨hB282, hk283, hk284⟩
           rintro _ w276 a275 ⟨hk277, hz278, hg279⟩ h275
           have hk277' : Blk w276 N230 37 #[.int .i64 kk249, .int .i64 ep250, .int .i64 rq251, .int .i64 0, .bool fl256, .int .u64 at252, .int .u64 0, .int .i64 n253, .int .i64 0, .int .i64 0, .int .i64 er254, .string key255, .string (⟨#[]⟩), .int .i64 0, .slice none 0 0, .int .u64 0, .int .i64 0, .int .i64 0, .slice none 0 0, .slice none 0 0, .slice none 0 0, .slice ao258 nn259 cp260] := hk277; clear hk277
           have hz281 := hg279.size
           have hB282 := hb_at hB269 hg279 (by omega)
           have hk283 := hk270.kept hg279 (by simp; omega)
           have hk284 := hk271.kept hg279 (by simp; omega)
           refine dk0 12 (v := .bool (decide (chkMg d = 0 ∧ (d.k = 8 ∨ d.k = 9)))) h275 rfl rfl ⟨hB282, hk283, hk284⟩ fun a285 h285 => ?_; clear h275
           refine dr_done (by kernel_rfl) ?_
           refine co_then ?_
           have hO287 := MvO.gr hO246 (below_grown hb263) (fun k e => by cases e)
           have hO288 := MvO.gr hO287 hg279 (fun k e => by cases e; exact ho236)
           have ho286 := MvO.ofS hO288
           have hO290 := RsO.gr hO248 (below_grown hb263) (fun k e => by cases e)
           have hO291 := RsO.gr hO290 hg279 (fun k e => by cases e; exact ho238)
           have ho289 := RsO.ofS hO291
           have hr292 := row_kept_at hr261 hg279 (own_neT hr261 hk280 (by decide))
           have hor9 : ∀ i, (Value.slice ao258 nn259 cp260).ownBlock = some i → ¬ S89 i := (offR_row ho245 hr292 (Nat.le_refl _))
           have hob9 : ¬ S89 N230 := ho236
           exact ⟨N230, kk249, ep250, rq251, at252, n253, er254, key255, fl256, ao258, nn259, cp260, L257, h285.sub ⟨rfl, rfl, rfl, rfl, rfl, rfl, rfl, rfl, rfl, trivial⟩, hA262, by exact hor9, by exact hob9, AnsP.kd hA262, AnsP.emp hA262, hk283, hk284, hk277', (row_lows hr292 (by omega)), hO288, hB282⟩
         ·
          refine dr_op (i := 10) h149 rfl rfl rfl rfl (op_new (v := fun N => pt N 0) (T := 37) (cs := #[.int .i64 0, .int .i64 0, .int .i64 0, .int .i64 0, .bool false, .int .u64 0, .int .u64 0, .int .i64 0, .int .i64 0, .int .i64 0, .int .i64 0, .string (⟨#[]⟩), .string (⟨#[]⟩), .int .i64 0, .slice none 0 0, .int .u64 0, .int .i64 0, .int .i64 0, .slice none 0 0, .slice none 0 0, .slice none 0 0, .slice none 0 0]) (by kernel_rfl) (by kernel_rfl) (by kernel_rfl)) ?_ ?_; clear h149
          ·
           rintro _ w294 ⟨N295, rfl, hN298, hz299, hk297, hg296⟩
           have hz300 := hg296.size
           have hO302 := MvO.gr hO95 hg116 (fun k e => by cases e)
           have hO303 := MvO.gr hO302 hg136 (fun k e => by cases e)
           have ho301 := off_new (MvO.ofS hO303) hN298
           have hO305 := RsO.gr hO126 hg136 (fun k e => by cases e)
           have ho304 := off_new (RsO.ofS hO305) hN298
           have hB306 := hb_new hB142 hg296
           have hk307 := hk143.kept hg296 (by simp)
           have hk308 := hk144.kept hg296 (by simp)
           exact ⟨hB306, hk307, hk308⟩
          rintro _ w294 a293 ⟨N295, rfl, hN298, hz299, hk297, hg296⟩ h293
          have hz300 := hg296.size
          have hO302 := MvO.gr hO95 hg116 (fun k e => by cases e)
          have hO303 := MvO.gr hO302 hg136 (fun k e => by cases e)
          have ho301 := off_new (MvO.ofS hO303) hN298
          have hO305 := RsO.gr hO126 hg136 (fun k e => by cases e)
          have ho304 := off_new (RsO.ofS hO305) hN298
          try dsimp only at h293
          have hB306 := hb_new hB142 hg296
          have hk307 := hk143.kept hg296 (by simp)
          have hk308 := hk144.kept hg296 (by simp)
          refine d1 4 h293 rfl rfl (op_call (args := #[.int .u64 (mnI mk la92), .int .u64 hz, .int .i64 1, .int .i64 1]) (R := fun res xw => res = .agg #[.int .u64 (mnI mk la92), .int .u64 hz, .int .i64 (mxI 1 0), .int .i64 (mxI 1 0)] ∧ Below w294.heap.size w294 xw) rfl rfl rfl (by kernel_rfl) (by kernel_rfl) (Try.call12 _ _) (srvAt_any (mnI mk la92) hz 1 1 w294 ) (by rintro e x ⟨rfl, hb311⟩; exact ⟨_, rfl, ⟨rfl, hb311⟩⟩)) ?_ ?_; clear h293
          ·
           rintro _ w310 ⟨rfl, hb311⟩
           have hz312 := hb311.size
           have hO314 := MvO.gr hO303 hg296 (fun k e => by cases e)
           have ho313 := MvO.ofS hO314
           have hO316 := RsO.gr hO305 hg296 (fun k e => by cases e)
           have ho315 := RsO.ofS hO316
           have hB317 := hb_call hB306 hb311
           have hk318 := hk307.below hb311
           have hk319 := hk308.below hb311
           exact ⟨hB317, hk318, hk319⟩
          rintro _ w310 a309 ⟨rfl, hb311⟩ h309
          have hz312 := hb311.size
          have hO314 := MvO.gr hO303 hg296 (fun k e => by cases e)
          have ho313 := MvO.ofS hO314
          have hO316 := RsO.gr hO305 hg296 (fun k e => by cases e)
          have ho315 := RsO.ofS hO316
          have hB317 := hb_call hB306 hb311
          have hk318 := hk307.below hb311
          have hk319 := hk308.below hb311
          have hO323 := MvO.gr hO314 (below_grown hb311) (fun k e => by cases e)
          have ho322 := MvO.ofS hO323
          have hO325 := RsO.gr hO316 (below_grown hb311) (fun k e => by cases e)
          have ho324 := RsO.ofS hO325
          refine d1 6 h309 rfl rfl (op_call (args := #[pt N87 0, .agg #[.int .u64 (mnI mk la92), .int .u64 hz, .int .i64 (mxI 1 0), .int .i64 (mxI 1 0)], .agg #[.int .i64 d.k, .int .i64 d.ep, .int .i64 d.rq, .int .i64 d.sr, .bool d.fg, .int .u64 d.at_, .int .u64 d.la, .int .i64 d.n, .int .i64 d.m, .int .i64 d.p, .int .i64 d.e, .string d.key, .string d.to_, .int .i64 d.cep, mv, .int .u64 d.cfl, .int .i64 d.bc, .int .i64 d.br, bv, ev, sv, pv]]) (R := fun res xw => ∃ (kk ep' rq' at' n' er : Int) (key' : ByteArray) (fl' : Bool) (ao : Option Addr) (nn cap : Nat) (L : List PairT), res = .tuple #[.agg #[.int .i64 kk, .int .i64 ep', .int .i64 rq', .int .i64 0, .bool fl', .int .u64 at', .int .u64 0, .int .i64 n', .int .i64 0, .int .i64 0, .int .i64 er, .string key', .string (⟨#[]⟩), .int .i64 0, .slice none 0 0, .int .u64 0, .int .i64 0, .int .i64 0, .slice none 0 0, .slice none 0 0, .slice none 0 0, .slice ao nn cap], .bool (decide (chkMg d = 0 ∧ (d.k = 8 ∨ d.k = 9)))] ∧ xw.ownsRow w310.heap.size 88 2 (.slice ao nn cap) L.length (L.flatMap pairE) ∧ AnsP f91 d (mnI mk la92) hz kk at' fl' L ∧ Below w310.heap.size w310 xw) rfl rfl rfl (by kernel_rfl) (by kernel_rfl) (Try.call13 _ _) (srvAnswerX S89 N87 f91 la92 ce93 m94 (mnI mk la92) hz (mxI 1 0) (mxI 1 0) d mv bv ev sv pv w310 hO323 (by omega) (hM.below hB317)) (by rintro e x ⟨kk, ep', rq', at', n', er, key', fl', u, L, h0, h⟩; obtain ⟨ao, nn, cap, rfl⟩ := own_sliceT h.1; exact ⟨_, h0, kk, ep', rq', at', n', er, key', fl', ao, nn, cap, L, rfl, h⟩)) ?_ ?_; clear h309
          ·
           rintro _ w321 ⟨kk326, ep327, rq328, at329, n330, er331, key332, fl333, ao335, nn336, cp337, L334, rfl, hr338, hA339, hb340⟩
           have hz341 := hb340.size
           have ho342 := MvO.ofS hO323
           have ho343 := RsO.ofS hO325
           have hkd344 := AnsP.kd hA339
           have hem345 := AnsP.emp hA339
           have hB346 := hb_call hB317 hb340
           have hk347 := hk318.below hb340
           have hk348 := hk319.below hb340
           exact ⟨hB346, hk347, hk348⟩
          rintro _ w321 a320 ⟨kk326, ep327, rq328, at329, n330, er331, key332, fl333, ao335, nn336, cp337, L334, rfl, hr338, hA339, hb340⟩ h320
          have hz341 := hb340.size
          have ho342 := MvO.ofS hO323
          have ho343 := RsO.ofS hO325
          have hkd344 := AnsP.kd hA339
          have hem345 := AnsP.emp hA339
          have hB346 := hb_call hB317 hb340
          have hk347 := hk318.below hb340
          have hk348 := hk319.below hb340
          refine dk0 7 (v := .tuple #[.agg #[.int .i64 kk326, .int .i64 ep327, .int .i64 rq328, .int .i64 0, .bool fl333, .int .u64 at329, .int .u64 0, .int .i64 n330, .int .i64 0, .int .i64 0, .int .i64 er331, .string key332, .string (⟨#[]⟩), .int .i64 0, .slice none 0 0, .int .u64 0, .int .i64 0, .int .i64 0, .slice none 0 0, .slice none 0 0, .slice none 0 0, .slice ao335 nn336 cp337], .bool (decide (chkMg d = 0 ∧ (d.k = 8 ∨ d.k = 9)))]) h320 rfl rfl ⟨hB346, hk347, hk348⟩ fun a349 h349 => ?_; clear h320
          refine dk0 8 (v := .agg #[.int .i64 kk326, .int .i64 ep327, .int .i64 rq328, .int .i64 0, .bool fl333, .int .u64 at329, .int .u64 0, .int .i64 n330, .int .i64 0, .int .i64 0, .int .i64 er331, .string key332, .string (⟨#[]⟩), .int .i64 0, .slice none 0 0, .int .u64 0, .int .i64 0, .int .i64 0, .slice none 0 0, .slice none 0 0, .slice none 0 0, .slice ao335 nn336 cp337]) h349 rfl rfl ⟨hB346, hk347, hk348⟩ fun a350 h350 => ?_; clear h349
          refine dk0 9 (v := .bool (decide (chkMg d = 0 ∧ (d.k = 8 ∨ d.k = 9)))) h350 rfl rfl ⟨hB346, hk347, hk348⟩ fun a351 h351 => ?_; clear h350
          have hk357 := hk297.below hb311
          have hk358 := hk357.below hb340
          refine d1D 11 h351 rfl rfl (op_storeN rfl rfl rfl (all_cons rfl (all_cons rfl (all_cons rfl (all_cons rfl (all_cons rfl (all_cons rfl (all_cons rfl (all_cons rfl (all_cons rfl (all_cons rfl (all_cons rfl (all_cons rfl (all_cons rfl (all_cons rfl (all_cons rfl (all_cons rfl (all_cons rfl (all_cons rfl (all_cons rfl (all_cons rfl (all_cons rfl (all_cons rfl all_nil)))))))))))))))))))))) (by kernel_rfl) hk358 rfl) ?_ ?_; clear h351
          ·
           rintro _ w353 ⟨hk354, hz355, hg356⟩
           have hk354' : Blk w353 N295 37 #[.int .i64 kk326, .int .i64 ep327, .int .i64 rq328, .int .i64 0, .bool fl333, .int .u64 at329, .int .u64 0, .int .i64 n330, .int .i64 0, .int .i64 0, .int .i64 er331, .string key332, .string (⟨#[]⟩), .int .i64 0, .slice none 0 0, .int .u64 0, .int .i64 0, .int .i64 0, .slice none 0 0, .slice none 0 0, .slice none 0 0, .slice ao335 nn336 cp337] := hk354; clear hk354
           have hz359 := hg356.size
           have hB360 := hb_at hB346 hg356 (by omega)
           have hk361 := hk347.kept hg356 (by simp; omega)
           have hk362 := hk348.kept hg356 (by simp; omega)
           exact ⟨hB360, hk361, hk362⟩
          rintro _ w353 a352 ⟨hk354, hz355, hg356⟩ h352
          have hk354' : Blk w353 N295 37 #[.int .i64 kk326, .int .i64 ep327, .int .i64 rq328, .int .i64 0, .bool fl333, .int .u64 at329, .int .u64 0, .int .i64 n330, .int .i64 0, .int .i64 0, .int .i64 er331, .string key332, .string (⟨#[]⟩), .int .i64 0, .slice none 0 0, .int .u64 0, .int .i64 0, .int .i64 0, .slice none 0 0, .slice none 0 0, .slice none 0 0, .slice ao335 nn336 cp337] := hk354; clear hk354
          have hz359 := hg356.size
          have hB360 := hb_at hB346 hg356 (by omega)
          have hk361 := hk347.kept hg356 (by simp; omega)
          have hk362 := hk348.kept hg356 (by simp; omega)
          refine dk0 12 (v := .bool (decide (chkMg d = 0 ∧ (d.k = 8 ∨ d.k = 9)))) h352 rfl rfl ⟨hB360, hk361, hk362⟩ fun a363 h363 => ?_; clear h352
          refine dr_done (by kernel_rfl) ?_
          refine co_then ?_
          have hO365 := MvO.gr hO323 (below_grown hb340) (fun k e => by cases e)
          have hO366 := MvO.gr hO365 hg356 (fun k e => by cases e; exact ho301)
          have ho364 := MvO.ofS hO366
          have hO368 := RsO.gr hO325 (below_grown hb340) (fun k e => by cases e)
          have hO369 := RsO.gr hO368 hg356 (fun k e => by cases e; exact ho304)
          have ho367 := RsO.ofS hO369
          have hr370 := row_kept_at hr338 hg356 (own_neT hr338 hk358 (by decide))
          have hor9 : ∀ i, (Value.slice ao335 nn336 cp337).ownBlock = some i → ¬ S89 i := (offR_row ho322 hr370 (Nat.le_refl _))
          have hob9 : ¬ S89 N295 := ho301
          exact ⟨N295, kk326, ep327, rq328, at329, n330, er331, key332, fl333, ao335, nn336, cp337, L334, h363.sub ⟨rfl, rfl, rfl, rfl, rfl, rfl, rfl, rfl, rfl, trivial⟩, hA339, by exact hor9, by exact hob9, AnsP.kd hA339, AnsP.emp hA339, hk361, hk362, hk354', (row_lows hr370 (by omega)), hO366, hB360⟩
        rintro a371 w372 ⟨NX, kkX, epX, rqX, atX, nX, erX, keyX, flX, aoX, nnX, cpX, LX, h371, hi373, hi374, hi375, hi376, hi377, hf378, hf379, hf380, hf381, hf382, hB383⟩
        have hz384 := hB383.size
        have hl385 := hf378.lt
        have hl386 := hf379.lt
        have hl387 := hf380.lt
        have hA1 : AnsP f91 d (mnI mk la92) hz kkX atX flX LX := by assumption
        have horX : ∀ i, (Value.slice aoX nnX cpX).ownBlock = some i → ¬ S89 i := by assumption
        have hobX : ¬ S89 NX := by assumption
        refine co_seq ?_
        refine co_seq ?_
        refine co_reg ?_
        refine pk0 (v := .int .i64 0) h371 rfl fun a388 h388 => ?_; clear h371
        refine pl_nil ?_
        refine co_then ?_
        refine wp_block ?_
        have hkA := MvO.kof hf382
        have hlo9 := hlo103
        have hor9 : ∀ i, (Value.slice aoX nnX cpX).ownBlock = some i → ¬ S89 i := horX
        have hob0 : ¬ S89 N3 := ho105
        have hob1 : ¬ S89 N11 := ho106
        have hob2 : ¬ S89 NX := hobX
        have hle9 : la92 ≤ la92 := by omega
        have hat9 : ∀ t, t ≤ la92 → ∀ x, atS (f91 x) t = atS (f91 x) t := fun _ _ _ => rfl
        have h389 : Slots 189 [(0, v), (1, v2), (3, .int .u64 h), (7, pt N3 0), (9, pt N11 0), (10, .bool false), (11, pt N87 0), (14, pt NX 0), (15, .bool (decide (chkMg d = 0 ∧ (d.k = 8 ∨ d.k = 9)))), (16, .int .i64 0)] _ := h388.sub ⟨rfl, rfl, rfl, rfl, rfl, rfl, rfl, rfl, rfl, rfl, trivial⟩; clear h388
        refine co_loop (fun mm a x => ∃ (j : Nat) (SB : Nat → Prop) (fB : Fv) (lB : Int) (cB : Int), Slots 189 [(0, v), (1, v2), (3, .int .u64 h), (7, pt N3 0), (9, pt N11 0), (10, .bool false), (11, pt N87 0), (14, pt NX 0), (15, .bool (decide (chkMg d = 0 ∧ (d.k = 8 ∨ d.k = 9)))), (16, .int .i64 ((j : Nat) : Int))] a ∧ mm = l2.length - j ∧ (j ≤ l2.length) ∧ (j ≤ 30) ∧ (∀ q, SB q → w.heap.size ≤ q) ∧ (la92 ≤ lB) ∧ (∀ t, t ≤ la92 → ∀ x, atS (fB x) t = atS (f91 x) t) ∧ (∀ i, (Value.slice aoX nnX cpX).ownBlock = some i → ¬ SB i) ∧ (¬ SB N3) ∧ (¬ SB N11) ∧ (¬ SB NX) ∧ MvO SB x N87 fB lB cB (m94 + j) ∧ x.ownsRow 0 88 2 (.slice aoX nnX cpX) LX.length (LX.flatMap pairE) ∧ Below w.heap.size w x ∧ Blk x N3 25 #[.int .u64 mk, .int .u64 hz, .int .i64 ep, .int .i64 hd] ∧ Blk x N11 37 #[.int .i64 d.k, .int .i64 d.ep, .int .i64 d.rq, .int .i64 d.sr, .bool d.fg, .int .u64 d.at_, .int .u64 d.la, .int .i64 d.n, .int .i64 d.m, .int .i64 d.p, .int .i64 d.e, .string d.key, .string d.to_, .int .i64 d.cep, mv, .int .u64 d.cfl, .int .i64 d.bc, .int .i64 d.br, bv, ev, sv, pv] ∧ Blk x NX 37 #[.int .i64 kkX, .int .i64 epX, .int .i64 rqX, .int .i64 0, .bool flX, .int .u64 atX, .int .u64 0, .int .i64 nX, .int .i64 0, .int .i64 0, .int .i64 erX, .string keyX, .string (⟨#[]⟩), .int .i64 0, .slice none 0 0, .int .u64 0, .int .i64 0, .int .i64 0, .slice none 0 0, .slice none 0 0, .slice none 0 0, .slice aoX nnX cpX]) (l2.length - 0) ?_ ?_
        · exact ⟨0, S89, f91, la92, ce93, h389.sub ⟨rfl, rfl, rfl, rfl, rfl, rfl, rfl, rfl, rfl, (slot_eq rfl (congrArg (Value.int .i64) (by first | rfl | omega))), trivial⟩, rfl, by omega, by omega, by exact hlo9, by exact hle9, by exact hat9, by exact hor9, by exact hob0, by exact hob1, by exact hob2, hf382, hf381, hB383, hf378, hf379, hf380⟩
        · rintro k390 a391 w392 ⟨j, SB, fB, lB, cB, h391, rfl, hi393, hi394, hi395, hi396, hi397, hi398, hi399, hi400, hi401, hf402, hf403, hB404, hk405, hk406, hk407⟩
          have hz408 := hB404.size
          have hl409 := hk405.lt
          have hl410 := hk406.lt
          have hl411 := hk407.lt
          have hlo412 : ∀ q, SB q → w.heap.size ≤ q := by assumption
          have hleB : la92 ≤ lB := by assumption
          have hatB : ∀ t, t ≤ la92 → ∀ x, atS (fB x) t = atS (f91 x) t := by assumption
          have horB : ∀ i, (Value.slice aoX nnX cpX).ownBlock = some i → ¬ SB i := by assumption
          have hobB0 : ¬ SB N3 := by assumption
          have hobB1 : ¬ SB N11 := by assumption
          have hobB2 : ¬ SB NX := by assumption
          have hfokB := MvO.fok hf402
          have hlaB := MvO.laB hf402
          refine co_seq ?_
          refine co_seq ?_
          refine co_reg ?_
          refine pk0 (v := .int .i64 ((j : Nat) : Int)) h391 rfl fun a413 h413 => ?_; clear h391
          refine pk0 (v := v2) h413 rfl fun a414 h414 => ?_; clear h413
          refine pk (v := .int .i64 ((l2.length : Nat) : Int)) h414 rfl (rn_len rfl rfl Try.underlying22 (hs2.below hB404)) fun a415 h415 => ?_; clear h414
          refine pk0 (v := .bool (decide (((j : Nat) : Int) < ((l2.length : Nat) : Int)))) h415 rfl fun a416 h416 => ?_; clear h415
          refine pk0 (v := .bool (decide (((j : Nat) : Int) < ((l2.length : Nat) : Int)))) h416 rfl fun a417 h417 => ?_; clear h416
          cases hc418 : (decide (((j : Nat) : Int) < ((l2.length : Nat) : Int)))
          ·
           rw [hc418] at h417
           have hp419 : ¬ (((j : Nat) : Int) < ((l2.length : Nat) : Int)) := of_decide_eq_false hc418
           clear hc418
           refine psk h417 rfl fun a420 h420 => ?_; clear h417
           refine psk h420 rfl fun a421 h421 => ?_; clear h420
           refine pk0 (v := .bool false) h421 rfl fun a422 h422 => ?_; clear h421
           refine pl_nil ?_
           refine co_then ?_
           refine co_false h422 rfl ?_
           refine wp_exit ?_
           refine co_thenX ?_
           refine co_thenX ?_
           refine co_blockX ?_
           refine co_then ?_
           refine co_seq ?_
           refine co_reg ?_
           refine pk0 (v := pt N87 0) h422 rfl fun a423 h423 => ?_; clear h422
           refine pk0 (v := .int .u64 h) h423 rfl fun a424 h424 => ?_; clear h423
           have ho427 := MvO.ofS hf402
           refine pw h424 rfl (op_call (args := #[pt N87 0, .int .u64 h]) (R := fun res xw => ∃ g' : Int, ∃ S' : Nat → Prop, res = .int .i64 g' ∧ MvO S' xw N87 (pruneF fB h) lB (cB - g') (m94 + j + 1) ∧ Grew SB S' w392 xw) rfl rfl rfl (by kernel_rfl) (by kernel_rfl) (Try.call23 _ _) (mvPrune w392 h hf402 ⟨by omega, by omega⟩ (by omega)) (by rintro e x ⟨g', S', h0, h⟩; exact ⟨_, h0, g', S', rfl, h⟩)) ?_; clear h424
           rintro _ w426 a425 ⟨g'428, S429, rfl, hO430, hx431⟩ h425
           have hlo433 : ∀ q, S429 q → w.heap.size ≤ q := hx431.lo hlo412 (by omega)
           have hB432 := hbL hB404 hlo412 hx431.but
           have hz434 := hB432.size
           have hz435 := hx431.but.size
           refine pl_nil ?_
           refine co_then ?_
           refine co_cut (fun a x => ∃ (NY : Nat) (kkY : Int) (epY : Int) (rqY : Int) (atY : Int) (nY : Int) (erY : Int) (keyY : ByteArray) (flY : Bool) (aoY : Option Addr) (nnY : Nat) (cpY : Nat) (LY : List PairT), Slots 189 [(10, .bool false), (14, pt NX 0), (15, .bool (decide (chkMg d = 0 ∧ (d.k = 8 ∨ d.k = 9)))), (17, pt NY 0), (18, .bool (decide (chkMg d = 0 ∧ (d.k = 8 ∨ d.k = 9))))] a ∧ (kkX = 10 → kkY = 10 → LX = LY ∧ flX = flY) ∧ ((¬ (chkMg d = 0 ∧ (d.k = 8 ∨ d.k = 9)) ∧ kkX = 0) ∨ ((chkMg d = 0 ∧ (d.k = 8 ∨ d.k = 9)) ∧ (kkX = 7 ∨ (kkX = 10 ∧ atX = d.at_)))) ∧ ((¬ (chkMg d = 0 ∧ (d.k = 8 ∨ d.k = 9)) ∧ kkY = 0) ∨ ((chkMg d = 0 ∧ (d.k = 8 ∨ d.k = 9)) ∧ (kkY = 7 ∨ (kkY = 10 ∧ atY = d.at_)))) ∧ (¬ kkX = 10 → LX.length = 0) ∧ (¬ kkY = 10 → LY.length = 0) ∧ Blk x NX 37 #[.int .i64 kkX, .int .i64 epX, .int .i64 rqX, .int .i64 0, .bool flX, .int .u64 atX, .int .u64 0, .int .i64 nX, .int .i64 0, .int .i64 0, .int .i64 erX, .string keyX, .string (⟨#[]⟩), .int .i64 0, .slice none 0 0, .int .u64 0, .int .i64 0, .int .i64 0, .slice none 0 0, .slice none 0 0, .slice none 0 0, .slice aoX nnX cpX] ∧ Blk x NY 37 #[.int .i64 kkY, .int .i64 epY, .int .i64 rqY, .int .i64 0, .bool flY, .int .u64 atY, .int .u64 0, .int .i64 nY, .int .i64 0, .int .i64 0, .int .i64 erY, .string keyY, .string (⟨#[]⟩), .int .i64 0, .slice none 0 0, .int .u64 0, .int .i64 0, .int .i64 0, .slice none 0 0, .slice none 0 0, .slice none 0 0, .slice aoY nnY cpY] ∧ x.ownsRow 0 88 2 (.slice aoX nnX cpX) LX.length (LX.flatMap pairE) ∧ x.ownsRow 0 88 2 (.slice aoY nnY cpY) LY.length (LY.flatMap pairE) ∧ Below w.heap.size w x) ?_ ?_
           ·
            refine dr_gen (fun x => Below w.heap.size w x ∧ Blk x N3 25 #[.int .u64 mk, .int .u64 hz, .int .i64 ep, .int .i64 hd] ∧ Blk x N11 37 #[.int .i64 d.k, .int .i64 d.ep, .int .i64 d.rq, .int .i64 d.sr, .bool d.fg, .int .u64 d.at_, .int .u64 d.la, .int .i64 d.n, .int .i64 d.m, .int .i64 d.p, .int .i64 d.e, .string d.key, .string d.to_, .int .i64 d.cep, mv, .int .u64 d.cfl, .int .i64 d.bc, .int .i64 d.br, bv, ev, sv, pv]) (by kernel_rfl) (fun w436 hg437 => ?_) (fun w436 hg437 => ?_)
            ·
             have hz438 := hg437.size
             have hB439 := hb_new hB432 hg437
             have hk440 := Blk.butS hk405 hx431.but hobB0
             have hk441 := hk440.kept hg437 (by simp)
             have hk442 := Blk.butS hk406 hx431.but hobB1
             have hk443 := hk442.kept hg437 (by simp)
             exact ⟨hB439, hk441, hk443⟩
            have hz444 := hg437.size
            have hB445 := hb_new hB432 hg437
            have hk446 := Blk.butS hk405 hx431.but hobB0
            have hk447 := hk446.kept hg437 (by simp)
            have hk448 := Blk.butS hk406 hx431.but hobB1
            have hk449 := hk448.kept hg437 (by simp)
            refine dk0 0 (v := pt N87 0) h425 rfl rfl ⟨hB445, hk447, hk449⟩ fun a450 h450 => ?_; clear h425
            refine dk0 1 (v := pt N87 0) h450 rfl rfl ⟨hB445, hk447, hk449⟩ fun a451 h451 => ?_; clear h450
            refine dk0 3 (v := .int .u64 h) h451 rfl rfl ⟨hB445, hk447, hk449⟩ fun a452 h452 => ?_; clear h451
            refine dk0 4 (v := pt N3 1) h452 rfl rfl ⟨hB445, hk447, hk449⟩ fun a453 h453 => ?_; clear h452
            refine dk 5 (v := .int .u64 hz) h453 rfl rfl ⟨hB445, hk447, hk449⟩ (fun x hx => (rn_load1 rfl rfl Try.isAgg23 (hx.2.1.cell rfl))) fun a454 h454 => ?_; clear h453
            have hmm455 := mxI_p h hz
            refine dk0 6 (v := .int .u64 (mxI h hz)) h454 rfl rfl ⟨hB445, hk447, hk449⟩ fun a456 h456 => ?_; clear h454
            refine dk 8 (v := .agg #[.int .i64 d.k, .int .i64 d.ep, .int .i64 d.rq, .int .i64 d.sr, .bool d.fg, .int .u64 d.at_, .int .u64 d.la, .int .i64 d.n, .int .i64 d.m, .int .i64 d.p, .int .i64 d.e, .string d.key, .string d.to_, .int .i64 d.cep, mv, .int .u64 d.cfl, .int .i64 d.bc, .int .i64 d.br, bv, ev, sv, pv]) h456 rfl rfl ⟨hB445, hk447, hk449⟩ (fun x hx => (rn_loadN rfl rfl Try.underlying37 rfl (by kernel_rfl) hx.2.2.all)) fun a457 h457 => ?_; clear h456
            refine dr_many [2, 13] (by kernel_rfl) (by simp) ⟨?_, ?_, trivial⟩
            ·
             have hk460 := Blk.butS hk407 hx431.but hobB2
             have hk461 := hk460.kept hg437 (by simp)
             have hr462 := own_butS hf403 hx431.but horB
             have hr463 := row_kept_new hr462 hg437
             have hO464 := MvO.gr hO430 hg437 (fun k e => by cases e)
             refine dr_op (i := 2) h457 rfl rfl rfl rfl (op_call (args := #[pt N87 0]) (R := fun res xw => res = .int .u64 lB ∧ w436 = xw) rfl rfl rfl (by kernel_rfl) (by kernel_rfl) (Try.call24 _ _) (mvLast w436 hO464) (by rintro e x ⟨rfl, rfl⟩; exact ⟨_, rfl, rfl, rfl⟩)) ?_ ?_; clear h457
             ·
              rintro _ _ ⟨rfl, rfl⟩
              exact ⟨hB445, hk447, hk449⟩
             rintro _ _ a458 ⟨rfl, rfl⟩ h458
             refine dr_many [7, 13] (by kernel_rfl) (by simp) ⟨?_, ?_, trivial⟩
             ·
              refine dr_op (i := 7) h458 rfl rfl rfl rfl (op_call (args := #[.int .u64 lB, .int .u64 (mxI h hz), .int .i64 1, .int .i64 1]) (R := fun res xw => res = .agg #[.int .u64 lB, .int .u64 (mxI h hz), .int .i64 (mxI 1 0), .int .i64 (mxI 1 0)] ∧ Below w436.heap.size w436 xw) rfl rfl rfl (by kernel_rfl) (by kernel_rfl) (Try.call12 _ _) (srvAt_any lB (mxI h hz) 1 1 w436 ) (by rintro e x ⟨rfl, hb467⟩; exact ⟨_, rfl, ⟨rfl, hb467⟩⟩)) ?_ ?_; clear h458
              ·
               rintro _ w466 ⟨rfl, hb467⟩
               have hz468 := hb467.size
               have ho469 := MvO.ofS hO464
               have hB470 := hb_call hB445 hb467
               have hk471 := hk447.below hb467
               have hk472 := hk449.below hb467
               exact ⟨hB470, hk471, hk472⟩
              rintro _ w466 a465 ⟨rfl, hb467⟩ h465
              have hz468 := hb467.size
              have ho469 := MvO.ofS hO464
              have hB470 := hb_call hB445 hb467
              have hk471 := hk447.below hb467
              have hk472 := hk449.below hb467
              refine dr_many [9, 13] (by kernel_rfl) (by simp) ⟨?_, ?_, trivial⟩
              ·
               have hO476 := MvO.gr hO464 (below_grown hb467) (fun k e => by cases e)
               have ho475 := MvO.ofS hO476
               have hr492 := row_kept_new hr463 (below_grown hb467)
               refine dr_op (i := 9) h465 rfl rfl rfl rfl (op_call (args := #[pt N87 0, .agg #[.int .u64 lB, .int .u64 (mxI h hz), .int .i64 (mxI 1 0), .int .i64 (mxI 1 0)], .agg #[.int .i64 d.k, .int .i64 d.ep, .int .i64 d.rq, .int .i64 d.sr, .bool d.fg, .int .u64 d.at_, .int .u64 d.la, .int .i64 d.n, .int .i64 d.m, .int .i64 d.p, .int .i64 d.e, .string d.key, .string d.to_, .int .i64 d.cep, mv, .int .u64 d.cfl, .int .i64 d.bc, .int .i64 d.br, bv, ev, sv, pv]]) (R := fun res xw => ∃ (kk ep' rq' at' n' er : Int) (key' : ByteArray) (fl' : Bool) (ao : Option Addr) (nn cap : Nat) (L : List PairT), res = .tuple #[.agg #[.int .i64 kk, .int .i64 ep', .int .i64 rq', .int .i64 0, .bool fl', .int .u64 at', .int .u64 0, .int .i64 n', .int .i64 0, .int .i64 0, .int .i64 er, .string key', .string (⟨#[]⟩), .int .i64 0, .slice none 0 0, .int .u64 0, .int .i64 0, .int .i64 0, .slice none 0 0, .slice none 0 0, .slice none 0 0, .slice ao nn cap], .bool (decide (chkMg d = 0 ∧ (d.k = 8 ∨ d.k = 9)))] ∧ xw.ownsRow w466.heap.size 88 2 (.slice ao nn cap) L.length (L.flatMap pairE) ∧ AnsP (pruneF fB h) d lB (mxI h hz) kk at' fl' L ∧ Below w466.heap.size w466 xw) rfl rfl rfl (by kernel_rfl) (by kernel_rfl) (Try.call13 _ _) (srvAnswerX S429 N87 (pruneF fB h) lB (cB - g'428) (m94 + j + 1) lB (mxI h hz) (mxI 1 0) (mxI 1 0) d mv bv ev sv pv w466 hO476 (by omega) (hM.below hB470)) (by rintro e x ⟨kk, ep', rq', at', n', er, key', fl', u, L, h0, h⟩; obtain ⟨ao, nn, cap, rfl⟩ := own_sliceT h.1; exact ⟨_, h0, kk, ep', rq', at', n', er, key', fl', ao, nn, cap, L, rfl, h⟩)) ?_ ?_; clear h465
               ·
                rintro _ w474 ⟨kk477, ep478, rq479, at480, n481, er482, key483, fl484, ao486, nn487, cp488, L485, rfl, hr489, hA490, hb491⟩
                have hz493 := hb491.size
                have ho494 := MvO.ofS hO476
                have hkd495 := AnsP.kd hA490
                have hem496 := AnsP.emp hA490
                have hra497 : ∀ i, (Value.slice ao486 nn487 cp488).ownBlock = some i → Value.ownBlock (.slice aoX nnX cpX) ≠ some i := fun i hi h1 => by have e1 := (hr489.lt i hi).1; have e2 := (hr492.lt i h1).2; omega
                have hB498 := hb_call hB470 hb491
                have hk499 := hk471.below hb491
                have hk500 := hk472.below hb491
                exact ⟨hB498, hk499, hk500⟩
               rintro _ w474 a473 ⟨kk477, ep478, rq479, at480, n481, er482, key483, fl484, ao486, nn487, cp488, L485, rfl, hr489, hA490, hb491⟩ h473
               have hz493 := hb491.size
               have ho494 := MvO.ofS hO476
               have hkd495 := AnsP.kd hA490
               have hem496 := AnsP.emp hA490
               have hra497 : ∀ i, (Value.slice ao486 nn487 cp488).ownBlock = some i → Value.ownBlock (.slice aoX nnX cpX) ≠ some i := fun i hi h1 => by have e1 := (hr489.lt i hi).1; have e2 := (hr492.lt i h1).2; omega
               have hB498 := hb_call hB470 hb491
               have hk499 := hk471.below hb491
               have hk500 := hk472.below hb491
               refine dk0 10 (v := .tuple #[.agg #[.int .i64 kk477, .int .i64 ep478, .int .i64 rq479, .int .i64 0, .bool fl484, .int .u64 at480, .int .u64 0, .int .i64 n481, .int .i64 0, .int .i64 0, .int .i64 er482, .string key483, .string (⟨#[]⟩), .int .i64 0, .slice none 0 0, .int .u64 0, .int .i64 0, .int .i64 0, .slice none 0 0, .slice none 0 0, .slice none 0 0, .slice ao486 nn487 cp488], .bool (decide (chkMg d = 0 ∧ (d.k = 8 ∨ d.k = 9)))]) h473 rfl rfl ⟨hB498, hk499, hk500⟩ fun a501 h501 => ?_; clear h473
               refine dk0 11 (v := .agg #[.int .i64 kk477, .int .i64 ep478, .int .i64 rq479, .int .i64 0, .bool fl484, .int .u64 at480, .int .u64 0, .int .i64 n481, .int .i64 0, .int .i64 0, .int .i64 er482, .string key483, .string (⟨#[]⟩), .int .i64 0, .slice none 0 0, .int .u64 0, .int .i64 0, .int .i64 0, .slice none 0 0, .slice none 0 0, .slice none 0 0, .slice ao486 nn487 cp488]) h501 rfl rfl ⟨hB498, hk499, hk500⟩ fun a502 h502 => ?_; clear h501
               refine dk0 12 (v := .bool (decide (chkMg d = 0 ∧ (d.k = 8 ∨ d.k = 9)))) h502 rfl rfl ⟨hB498, hk499, hk500⟩ fun a503 h503 => ?_; clear h502
               refine d1 13 h503 rfl rfl (op_new (v := fun N => pt N 0) (T := 37) (cs := #[.int .i64 0, .int .i64 0, .int .i64 0, .int .i64 0, .bool false, .int .u64 0, .int .u64 0, .int .i64 0, .int .i64 0, .int .i64 0, .int .i64 0, .string (⟨#[]⟩), .string (⟨#[]⟩), .int .i64 0, .slice none 0 0, .int .u64 0, .int .i64 0, .int .i64 0, .slice none 0 0, .slice none 0 0, .slice none 0 0, .slice none 0 0]) (by kernel_rfl) (by kernel_rfl) (by kernel_rfl)) ?_ ?_; clear h503
               ·
                rintro _ w505 ⟨N506, rfl, hN509, hz510, hk508, hg507⟩
                have hr512 := row_kept_new hr492 (below_grown hb491)
                have ha511 := row_fresh hr512 hN509
                have ha513 := row_fresh hr489 hN509
                have hz514 := hg507.size
                have hO516 := MvO.gr hO476 (below_grown hb491) (fun k e => by cases e)
                have ho515 := off_new (MvO.ofS hO516) hN509
                have hB517 := hb_new hB498 hg507
                have hk518 := hk499.kept hg507 (by simp)
                have hk519 := hk500.kept hg507 (by simp)
                exact ⟨hB517, hk518, hk519⟩
               rintro _ w505 a504 ⟨N506, rfl, hN509, hz510, hk508, hg507⟩ h504
               have hr512 := row_kept_new hr492 (below_grown hb491)
               have ha511 := row_fresh hr512 hN509
               have ha513 := row_fresh hr489 hN509
               have hz514 := hg507.size
               have hO516 := MvO.gr hO476 (below_grown hb491) (fun k e => by cases e)
               have ho515 := off_new (MvO.ofS hO516) hN509
               try dsimp only at h504
               have hB517 := hb_new hB498 hg507
               have hk518 := hk499.kept hg507 (by simp)
               have hk519 := hk500.kept hg507 (by simp)
               refine d1D 14 h504 rfl rfl (op_storeN rfl rfl rfl (all_cons rfl (all_cons rfl (all_cons rfl (all_cons rfl (all_cons rfl (all_cons rfl (all_cons rfl (all_cons rfl (all_cons rfl (all_cons rfl (all_cons rfl (all_cons rfl (all_cons rfl (all_cons rfl (all_cons rfl (all_cons rfl (all_cons rfl (all_cons rfl (all_cons rfl (all_cons rfl (all_cons rfl (all_cons rfl all_nil)))))))))))))))))))))) (by kernel_rfl) hk508 rfl) ?_ ?_; clear h504
               ·
                rintro _ w521 ⟨hk522, hz523, hg524⟩
                have hk522' : Blk w521 N506 37 #[.int .i64 kk477, .int .i64 ep478, .int .i64 rq479, .int .i64 0, .bool fl484, .int .u64 at480, .int .u64 0, .int .i64 n481, .int .i64 0, .int .i64 0, .int .i64 er482, .string key483, .string (⟨#[]⟩), .int .i64 0, .slice none 0 0, .int .u64 0, .int .i64 0, .int .i64 0, .slice none 0 0, .slice none 0 0, .slice none 0 0, .slice ao486 nn487 cp488] := hk522; clear hk522
                have hz525 := hg524.size
                have hB526 := hb_at hB517 hg524 (by omega)
                have hk527 := hk518.kept hg524 (by simp; omega)
                have hk528 := hk519.kept hg524 (by simp; omega)
                exact ⟨hB526, hk527, hk528⟩
               rintro _ w521 a520 ⟨hk522, hz523, hg524⟩ h520
               have hk522' : Blk w521 N506 37 #[.int .i64 kk477, .int .i64 ep478, .int .i64 rq479, .int .i64 0, .bool fl484, .int .u64 at480, .int .u64 0, .int .i64 n481, .int .i64 0, .int .i64 0, .int .i64 er482, .string key483, .string (⟨#[]⟩), .int .i64 0, .slice none 0 0, .int .u64 0, .int .i64 0, .int .i64 0, .slice none 0 0, .slice none 0 0, .slice none 0 0, .slice ao486 nn487 cp488] := hk522; clear hk522
               have hz525 := hg524.size
               have hB526 := hb_at hB517 hg524 (by omega)
               have hk527 := hk518.kept hg524 (by simp; omega)
               have hk528 := hk519.kept hg524 (by simp; omega)
               refine dk0 15 (v := .bool (decide (chkMg d = 0 ∧ (d.k = 8 ∨ d.k = 9)))) h520 rfl rfl ⟨hB526, hk527, hk528⟩ fun a529 h529 => ?_; clear h520
               refine dr_done (by kernel_rfl) ?_
               refine co_then ?_
               have hIm9 : kkX = 10 → kk477 = 10 → LX = L485 ∧ flX = fl484 := by
                 intro e1 e2
                 have hg1 := AnsP.got hA1 e1
                 have hg2 := AnsP.got hA490 e2
                 have hbd1 := bd_0 hg1.1
                 have hbd2 := bd_0 hg2.1
                 have hmx1 := mxI_p h hz
                 have hmn1 := mnI_p mk la92
                 have hat3 : ∀ x, atS ((pruneF fB h) x) d.at_ = atS (f91 x) d.at_ := fun x => (prune_at hfokB (by omega) x).trans (hatB d.at_ (by omega) x)
                 obtain ⟨hps, hfl⟩ := ps_same hkA (MvO.kof hO476) hat3
                 exact ⟨by rw [hg1.2.2, hg2.2.2, hps], by rw [hg1.2.1, hg2.2.1, hfl]⟩
               have hk530 := hk461.below hb467
               have hk531 := hk530.below hb491
               have hk532 := hk531.kept hg507 (by simp)
               have hk533 := hk532.kept hg524 (by simp; omega)
               have hr534 := row_kept_new hr512 hg507
               have hr535 := row_kept_at hr534 hg524 (ha511)
               have hr536 := row_kept_new hr489 hg507
               have hr537 := row_kept_at hr536 hg524 (ha513)
               exact ⟨N506, kk477, ep478, rq479, at480, n481, er482, key483, fl484, ao486, nn487, cp488, L485, h529.sub ⟨rfl, rfl, rfl, rfl, rfl, trivial⟩, by exact hIm9, by assumption, AnsP.kd hA490, by assumption, AnsP.emp hA490, hk533, hk522', (row_lows hr535 (by omega)), (row_lows hr537 (by omega)), hB526⟩
              ·
               refine dr_op (i := 13) h465 rfl rfl rfl rfl (op_new (v := fun N => pt N 0) (T := 37) (cs := #[.int .i64 0, .int .i64 0, .int .i64 0, .int .i64 0, .bool false, .int .u64 0, .int .u64 0, .int .i64 0, .int .i64 0, .int .i64 0, .int .i64 0, .string (⟨#[]⟩), .string (⟨#[]⟩), .int .i64 0, .slice none 0 0, .int .u64 0, .int .i64 0, .int .i64 0, .slice none 0 0, .slice none 0 0, .slice none 0 0, .slice none 0 0]) (by kernel_rfl) (by kernel_rfl) (by kernel_rfl)) ?_ ?_; clear h465
               ·
                rintro _ w539 ⟨N540, rfl, hN543, hz544, hk542, hg541⟩
                have hr546 := row_kept_new hr463 (below_grown hb467)
                have ha545 := row_fresh hr546 hN543
                have hz547 := hg541.size
                have hO549 := MvO.gr hO464 (below_grown hb467) (fun k e => by cases e)
                have ho548 := off_new (MvO.ofS hO549) hN543
                have hB550 := hb_new hB470 hg541
                have hk551 := hk471.kept hg541 (by simp)
                have hk552 := hk472.kept hg541 (by simp)
                exact ⟨hB550, hk551, hk552⟩
               rintro _ w539 a538 ⟨N540, rfl, hN543, hz544, hk542, hg541⟩ h538
               have hr546 := row_kept_new hr463 (below_grown hb467)
               have ha545 := row_fresh hr546 hN543
               have hz547 := hg541.size
               have hO549 := MvO.gr hO464 (below_grown hb467) (fun k e => by cases e)
               have ho548 := off_new (MvO.ofS hO549) hN543
               try dsimp only at h538
               have hB550 := hb_new hB470 hg541
               have hk551 := hk471.kept hg541 (by simp)
               have hk552 := hk472.kept hg541 (by simp)
               have hk555 := hk461.below hb467
               have hk556 := hk555.kept hg541 (by simp)
               have hO558 := MvO.gr hO549 hg541 (fun k e => by cases e)
               have ho557 := MvO.ofS hO558
               have hr574 := row_kept_new hr546 hg541
               refine d1 9 h538 rfl rfl (op_call (args := #[pt N87 0, .agg #[.int .u64 lB, .int .u64 (mxI h hz), .int .i64 (mxI 1 0), .int .i64 (mxI 1 0)], .agg #[.int .i64 d.k, .int .i64 d.ep, .int .i64 d.rq, .int .i64 d.sr, .bool d.fg, .int .u64 d.at_, .int .u64 d.la, .int .i64 d.n, .int .i64 d.m, .int .i64 d.p, .int .i64 d.e, .string d.key, .string d.to_, .int .i64 d.cep, mv, .int .u64 d.cfl, .int .i64 d.bc, .int .i64 d.br, bv, ev, sv, pv]]) (R := fun res xw => ∃ (kk ep' rq' at' n' er : Int) (key' : ByteArray) (fl' : Bool) (ao : Option Addr) (nn cap : Nat) (L : List PairT), res = .tuple #[.agg #[.int .i64 kk, .int .i64 ep', .int .i64 rq', .int .i64 0, .bool fl', .int .u64 at', .int .u64 0, .int .i64 n', .int .i64 0, .int .i64 0, .int .i64 er, .string key', .string (⟨#[]⟩), .int .i64 0, .slice none 0 0, .int .u64 0, .int .i64 0, .int .i64 0, .slice none 0 0, .slice none 0 0, .slice none 0 0, .slice ao nn cap], .bool (decide (chkMg d = 0 ∧ (d.k = 8 ∨ d.k = 9)))] ∧ xw.ownsRow w539.heap.size 88 2 (.slice ao nn cap) L.length (L.flatMap pairE) ∧ AnsP (pruneF fB h) d lB (mxI h hz) kk at' fl' L ∧ Below w539.heap.size w539 xw) rfl rfl rfl (by kernel_rfl) (by kernel_rfl) (Try.call13 _ _) (srvAnswerX S429 N87 (pruneF fB h) lB (cB - g'428) (m94 + j + 1) lB (mxI h hz) (mxI 1 0) (mxI 1 0) d mv bv ev sv pv w539 hO558 (by omega) (hM.below hB550)) (by rintro e x ⟨kk, ep', rq', at', n', er, key', fl', u, L, h0, h⟩; obtain ⟨ao, nn, cap, rfl⟩ := own_sliceT h.1; exact ⟨_, h0, kk, ep', rq', at', n', er, key', fl', ao, nn, cap, L, rfl, h⟩)) ?_ ?_; clear h538
               ·
                rintro _ w554 ⟨kk559, ep560, rq561, at562, n563, er564, key565, fl566, ao568, nn569, cp570, L567, rfl, hr571, hA572, hb573⟩
                have hz575 := hb573.size
                have ho576 := MvO.ofS hO558
                have hkd577 := AnsP.kd hA572
                have hem578 := AnsP.emp hA572
                have hra579 : ∀ i, (Value.slice ao568 nn569 cp570).ownBlock = some i → Value.ownBlock (.slice aoX nnX cpX) ≠ some i := fun i hi h1 => by have e1 := (hr571.lt i hi).1; have e2 := (hr574.lt i h1).2; omega
                have hB580 := hb_call hB550 hb573
                have hk581 := hk551.below hb573
                have hk582 := hk552.below hb573
                exact ⟨hB580, hk581, hk582⟩
               rintro _ w554 a553 ⟨kk559, ep560, rq561, at562, n563, er564, key565, fl566, ao568, nn569, cp570, L567, rfl, hr571, hA572, hb573⟩ h553
               have hz575 := hb573.size
               have ho576 := MvO.ofS hO558
               have hkd577 := AnsP.kd hA572
               have hem578 := AnsP.emp hA572
               have hra579 : ∀ i, (Value.slice ao568 nn569 cp570).ownBlock = some i → Value.ownBlock (.slice aoX nnX cpX) ≠ some i := fun i hi h1 => by have e1 := (hr571.lt i hi).1; have e2 := (hr574.lt i h1).2; omega
               have hB580 := hb_call hB550 hb573
               have hk581 := hk551.below hb573
               have hk582 := hk552.below hb573
               refine dk0 10 (v := .tuple #[.agg #[.int .i64 kk559, .int .i64 ep560, .int .i64 rq561, .int .i64 0, .bool fl566, .int .u64 at562, .int .u64 0, .int .i64 n563, .int .i64 0, .int .i64 0, .int .i64 er564, .string key565, .string (⟨#[]⟩), .int .i64 0, .slice none 0 0, .int .u64 0, .int .i64 0, .int .i64 0, .slice none 0 0, .slice none 0 0, .slice none 0 0, .slice ao568 nn569 cp570], .bool (decide (chkMg d = 0 ∧ (d.k = 8 ∨ d.k = 9)))]) h553 rfl rfl ⟨hB580, hk581, hk582⟩ fun a583 h583 => ?_; clear h553
               refine dk0 11 (v := .agg #[.int .i64 kk559, .int .i64 ep560, .int .i64 rq561, .int .i64 0, .bool fl566, .int .u64 at562, .int .u64 0, .int .i64 n563, .int .i64 0, .int .i64 0, .int .i64 er564, .string key565, .string (⟨#[]⟩), .int .i64 0, .slice none 0 0, .int .u64 0, .int .i64 0, .int .i64 0, .slice none 0 0, .slice none 0 0, .slice none 0 0, .slice ao568 nn569 cp570]) h583 rfl rfl ⟨hB580, hk581, hk582⟩ fun a584 h584 => ?_; clear h583
               refine dk0 12 (v := .bool (decide (chkMg d = 0 ∧ (d.k = 8 ∨ d.k = 9)))) h584 rfl rfl ⟨hB580, hk581, hk582⟩ fun a585 h585 => ?_; clear h584
               have hk591 := hk542.below hb573
               refine d1D 14 h585 rfl rfl (op_storeN rfl rfl rfl (all_cons rfl (all_cons rfl (all_cons rfl (all_cons rfl (all_cons rfl (all_cons rfl (all_cons rfl (all_cons rfl (all_cons rfl (all_cons rfl (all_cons rfl (all_cons rfl (all_cons rfl (all_cons rfl (all_cons rfl (all_cons rfl (all_cons rfl (all_cons rfl (all_cons rfl (all_cons rfl (all_cons rfl (all_cons rfl all_nil)))))))))))))))))))))) (by kernel_rfl) hk591 rfl) ?_ ?_; clear h585
               ·
                rintro _ w587 ⟨hk588, hz589, hg590⟩
                have hk588' : Blk w587 N540 37 #[.int .i64 kk559, .int .i64 ep560, .int .i64 rq561, .int .i64 0, .bool fl566, .int .u64 at562, .int .u64 0, .int .i64 n563, .int .i64 0, .int .i64 0, .int .i64 er564, .string key565, .string (⟨#[]⟩), .int .i64 0, .slice none 0 0, .int .u64 0, .int .i64 0, .int .i64 0, .slice none 0 0, .slice none 0 0, .slice none 0 0, .slice ao568 nn569 cp570] := hk588; clear hk588
                have hz592 := hg590.size
                have hB593 := hb_at hB580 hg590 (by omega)
                have hk594 := hk581.kept hg590 (by simp; omega)
                have hk595 := hk582.kept hg590 (by simp; omega)
                exact ⟨hB593, hk594, hk595⟩
               rintro _ w587 a586 ⟨hk588, hz589, hg590⟩ h586
               have hk588' : Blk w587 N540 37 #[.int .i64 kk559, .int .i64 ep560, .int .i64 rq561, .int .i64 0, .bool fl566, .int .u64 at562, .int .u64 0, .int .i64 n563, .int .i64 0, .int .i64 0, .int .i64 er564, .string key565, .string (⟨#[]⟩), .int .i64 0, .slice none 0 0, .int .u64 0, .int .i64 0, .int .i64 0, .slice none 0 0, .slice none 0 0, .slice none 0 0, .slice ao568 nn569 cp570] := hk588; clear hk588
               have hz592 := hg590.size
               have hB593 := hb_at hB580 hg590 (by omega)
               have hk594 := hk581.kept hg590 (by simp; omega)
               have hk595 := hk582.kept hg590 (by simp; omega)
               refine dk0 15 (v := .bool (decide (chkMg d = 0 ∧ (d.k = 8 ∨ d.k = 9)))) h586 rfl rfl ⟨hB593, hk594, hk595⟩ fun a596 h596 => ?_; clear h586
               refine dr_done (by kernel_rfl) ?_
               refine co_then ?_
               have hIm9 : kkX = 10 → kk559 = 10 → LX = L567 ∧ flX = fl566 := by
                 intro e1 e2
                 have hg1 := AnsP.got hA1 e1
                 have hg2 := AnsP.got hA572 e2
                 have hbd1 := bd_0 hg1.1
                 have hbd2 := bd_0 hg2.1
                 have hmx1 := mxI_p h hz
                 have hmn1 := mnI_p mk la92
                 have hat3 : ∀ x, atS ((pruneF fB h) x) d.at_ = atS (f91 x) d.at_ := fun x => (prune_at hfokB (by omega) x).trans (hatB d.at_ (by omega) x)
                 obtain ⟨hps, hfl⟩ := ps_same hkA (MvO.kof hO558) hat3
                 exact ⟨by rw [hg1.2.2, hg2.2.2, hps], by rw [hg1.2.1, hg2.2.1, hfl]⟩
               have hk597 := hk556.below hb573
               have hk598 := hk597.kept hg590 (by simp; omega)
               have hr599 := row_kept_new hr574 (below_grown hb573)
               have hr600 := row_kept_at hr599 hg590 (ha545)
               have hr601 := row_kept_at hr571 hg590 (own_neT hr571 hk591 (by decide))
               exact ⟨N540, kk559, ep560, rq561, at562, n563, er564, key565, fl566, ao568, nn569, cp570, L567, h596.sub ⟨rfl, rfl, rfl, rfl, rfl, trivial⟩, by exact hIm9, by assumption, AnsP.kd hA572, by assumption, AnsP.emp hA572, hk598, hk588', (row_lows hr600 (by omega)), (row_lows hr601 (by omega)), hB593⟩
             ·
              refine dr_op (i := 13) h458 rfl rfl rfl rfl (op_new (v := fun N => pt N 0) (T := 37) (cs := #[.int .i64 0, .int .i64 0, .int .i64 0, .int .i64 0, .bool false, .int .u64 0, .int .u64 0, .int .i64 0, .int .i64 0, .int .i64 0, .int .i64 0, .string (⟨#[]⟩), .string (⟨#[]⟩), .int .i64 0, .slice none 0 0, .int .u64 0, .int .i64 0, .int .i64 0, .slice none 0 0, .slice none 0 0, .slice none 0 0, .slice none 0 0]) (by kernel_rfl) (by kernel_rfl) (by kernel_rfl)) ?_ ?_; clear h458
              ·
               rintro _ w603 ⟨N604, rfl, hN607, hz608, hk606, hg605⟩
               have ha609 := row_fresh hr463 hN607
               have hz610 := hg605.size
               have ho611 := off_new (MvO.ofS hO464) hN607
               have hB612 := hb_new hB445 hg605
               have hk613 := hk447.kept hg605 (by simp)
               have hk614 := hk449.kept hg605 (by simp)
               exact ⟨hB612, hk613, hk614⟩
              rintro _ w603 a602 ⟨N604, rfl, hN607, hz608, hk606, hg605⟩ h602
              have ha609 := row_fresh hr463 hN607
              have hz610 := hg605.size
              have ho611 := off_new (MvO.ofS hO464) hN607
              try dsimp only at h602
              have hB612 := hb_new hB445 hg605
              have hk613 := hk447.kept hg605 (by simp)
              have hk614 := hk449.kept hg605 (by simp)
              refine d1 7 h602 rfl rfl (op_call (args := #[.int .u64 lB, .int .u64 (mxI h hz), .int .i64 1, .int .i64 1]) (R := fun res xw => res = .agg #[.int .u64 lB, .int .u64 (mxI h hz), .int .i64 (mxI 1 0), .int .i64 (mxI 1 0)] ∧ Below w603.heap.size w603 xw) rfl rfl rfl (by kernel_rfl) (by kernel_rfl) (Try.call12 _ _) (srvAt_any lB (mxI h hz) 1 1 w603 ) (by rintro e x ⟨rfl, hb617⟩; exact ⟨_, rfl, ⟨rfl, hb617⟩⟩)) ?_ ?_; clear h602
              ·
               rintro _ w616 ⟨rfl, hb617⟩
               have hz618 := hb617.size
               have hO620 := MvO.gr hO464 hg605 (fun k e => by cases e)
               have ho619 := MvO.ofS hO620
               have hB621 := hb_call hB612 hb617
               have hk622 := hk613.below hb617
               have hk623 := hk614.below hb617
               exact ⟨hB621, hk622, hk623⟩
              rintro _ w616 a615 ⟨rfl, hb617⟩ h615
              have hz618 := hb617.size
              have hO620 := MvO.gr hO464 hg605 (fun k e => by cases e)
              have ho619 := MvO.ofS hO620
              have hB621 := hb_call hB612 hb617
              have hk622 := hk613.below hb617
              have hk623 := hk614.below hb617
              have hk626 := hk461.kept hg605 (by simp)
              have hk627 := hk626.below hb617
              have hr628 := row_kept_new hr463 hg605
              have hr629 := row_kept_new hr628 (below_grown hb617)
              have hO631 := MvO.gr hO620 (below_grown hb617) (fun k e => by cases e)
              have ho630 := MvO.ofS hO631
              refine d1 9 h615 rfl rfl (op_call (args := #[pt N87 0, .agg #[.int .u64 lB, .int .u64 (mxI h hz), .int .i64 (mxI 1 0), .int .i64 (mxI 1 0)], .agg #[.int .i64 d.k, .int .i64 d.ep, .int .i64 d.rq, .int .i64 d.sr, .bool d.fg, .int .u64 d.at_, .int .u64 d.la, .int .i64 d.n, .int .i64 d.m, .int .i64 d.p, .int .i64 d.e, .string d.key, .string d.to_, .int .i64 d.cep, mv, .int .u64 d.cfl, .int .i64 d.bc, .int .i64 d.br, bv, ev, sv, pv]]) (R := fun res xw => ∃ (kk ep' rq' at' n' er : Int) (key' : ByteArray) (fl' : Bool) (ao : Option Addr) (nn cap : Nat) (L : List PairT), res = .tuple #[.agg #[.int .i64 kk, .int .i64 ep', .int .i64 rq', .int .i64 0, .bool fl', .int .u64 at', .int .u64 0, .int .i64 n', .int .i64 0, .int .i64 0, .int .i64 er, .string key', .string (⟨#[]⟩), .int .i64 0, .slice none 0 0, .int .u64 0, .int .i64 0, .int .i64 0, .slice none 0 0, .slice none 0 0, .slice none 0 0, .slice ao nn cap], .bool (decide (chkMg d = 0 ∧ (d.k = 8 ∨ d.k = 9)))] ∧ xw.ownsRow w616.heap.size 88 2 (.slice ao nn cap) L.length (L.flatMap pairE) ∧ AnsP (pruneF fB h) d lB (mxI h hz) kk at' fl' L ∧ Below w616.heap.size w616 xw) rfl rfl rfl (by kernel_rfl) (by kernel_rfl) (Try.call13 _ _) (srvAnswerX S429 N87 (pruneF fB h) lB (cB - g'428) (m94 + j + 1) lB (mxI h hz) (mxI 1 0) (mxI 1 0) d mv bv ev sv pv w616 hO631 (by omega) (hM.below hB621)) (by rintro e x ⟨kk, ep', rq', at', n', er, key', fl', u, L, h0, h⟩; obtain ⟨ao, nn, cap, rfl⟩ := own_sliceT h.1; exact ⟨_, h0, kk, ep', rq', at', n', er, key', fl', ao, nn, cap, L, rfl, h⟩)) ?_ ?_; clear h615
              ·
               rintro _ w625 ⟨kk632, ep633, rq634, at635, n636, er637, key638, fl639, ao641, nn642, cp643, L640, rfl, hr644, hA645, hb646⟩
               have hz647 := hb646.size
               have ho648 := MvO.ofS hO631
               have hkd649 := AnsP.kd hA645
               have hem650 := AnsP.emp hA645
               have hra651 : ∀ i, (Value.slice ao641 nn642 cp643).ownBlock = some i → Value.ownBlock (.slice aoX nnX cpX) ≠ some i := fun i hi h1 => by have e1 := (hr644.lt i hi).1; have e2 := (hr629.lt i h1).2; omega
               have hB652 := hb_call hB621 hb646
               have hk653 := hk622.below hb646
               have hk654 := hk623.below hb646
               exact ⟨hB652, hk653, hk654⟩
              rintro _ w625 a624 ⟨kk632, ep633, rq634, at635, n636, er637, key638, fl639, ao641, nn642, cp643, L640, rfl, hr644, hA645, hb646⟩ h624
              have hz647 := hb646.size
              have ho648 := MvO.ofS hO631
              have hkd649 := AnsP.kd hA645
              have hem650 := AnsP.emp hA645
              have hra651 : ∀ i, (Value.slice ao641 nn642 cp643).ownBlock = some i → Value.ownBlock (.slice aoX nnX cpX) ≠ some i := fun i hi h1 => by have e1 := (hr644.lt i hi).1; have e2 := (hr629.lt i h1).2; omega
              have hB652 := hb_call hB621 hb646
              have hk653 := hk622.below hb646
              have hk654 := hk623.below hb646
              refine dk0 10 (v := .tuple #[.agg #[.int .i64 kk632, .int .i64 ep633, .int .i64 rq634, .int .i64 0, .bool fl639, .int .u64 at635, .int .u64 0, .int .i64 n636, .int .i64 0, .int .i64 0, .int .i64 er637, .string key638, .string (⟨#[]⟩), .int .i64 0, .slice none 0 0, .int .u64 0, .int .i64 0, .int .i64 0, .slice none 0 0, .slice none 0 0, .slice none 0 0, .slice ao641 nn642 cp643], .bool (decide (chkMg d = 0 ∧ (d.k = 8 ∨ d.k = 9)))]) h624 rfl rfl ⟨hB652, hk653, hk654⟩ fun a655 h655 => ?_; clear h624
              refine dk0 11 (v := .agg #[.int .i64 kk632, .int .i64 ep633, .int .i64 rq634, .int .i64 0, .bool fl639, .int .u64 at635, .int .u64 0, .int .i64 n636, .int .i64 0, .int .i64 0, .int .i64 er637, .string key638, .string (⟨#[]⟩), .int .i64 0, .slice none 0 0, .int .u64 0, .int .i64 0, .int .i64 0, .slice none 0 0, .slice none 0 0, .slice none 0 0, .slice ao641 nn642 cp643]) h655 rfl rfl ⟨hB652, hk653, hk654⟩ fun a656 h656 => ?_; clear h655
              refine dk0 12 (v := .bool (decide (chkMg d = 0 ∧ (d.k = 8 ∨ d.k = 9)))) h656 rfl rfl ⟨hB652, hk653, hk654⟩ fun a657 h657 => ?_; clear h656
              have hk663 := hk606.below hb617
              have hk664 := hk663.below hb646
              refine d1D 14 h657 rfl rfl (op_storeN rfl rfl rfl (all_cons rfl (all_cons rfl (all_cons rfl (all_cons rfl (all_cons rfl (all_cons rfl (all_cons rfl (all_cons rfl (all_cons rfl (all_cons rfl (all_cons rfl (all_cons rfl (all_cons rfl (all_cons rfl (all_cons rfl (all_cons rfl (all_cons rfl (all_cons rfl (all_cons rfl (all_cons rfl (all_cons rfl (all_cons rfl all_nil)))))))))))))))))))))) (by kernel_rfl) hk664 rfl) ?_ ?_; clear h657
              ·
               rintro _ w659 ⟨hk660, hz661, hg662⟩
               have hk660' : Blk w659 N604 37 #[.int .i64 kk632, .int .i64 ep633, .int .i64 rq634, .int .i64 0, .bool fl639, .int .u64 at635, .int .u64 0, .int .i64 n636, .int .i64 0, .int .i64 0, .int .i64 er637, .string key638, .string (⟨#[]⟩), .int .i64 0, .slice none 0 0, .int .u64 0, .int .i64 0, .int .i64 0, .slice none 0 0, .slice none 0 0, .slice none 0 0, .slice ao641 nn642 cp643] := hk660; clear hk660
               have hz665 := hg662.size
               have hB666 := hb_at hB652 hg662 (by omega)
               have hk667 := hk653.kept hg662 (by simp; omega)
               have hk668 := hk654.kept hg662 (by simp; omega)
               exact ⟨hB666, hk667, hk668⟩
              rintro _ w659 a658 ⟨hk660, hz661, hg662⟩ h658
              have hk660' : Blk w659 N604 37 #[.int .i64 kk632, .int .i64 ep633, .int .i64 rq634, .int .i64 0, .bool fl639, .int .u64 at635, .int .u64 0, .int .i64 n636, .int .i64 0, .int .i64 0, .int .i64 er637, .string key638, .string (⟨#[]⟩), .int .i64 0, .slice none 0 0, .int .u64 0, .int .i64 0, .int .i64 0, .slice none 0 0, .slice none 0 0, .slice none 0 0, .slice ao641 nn642 cp643] := hk660; clear hk660
              have hz665 := hg662.size
              have hB666 := hb_at hB652 hg662 (by omega)
              have hk667 := hk653.kept hg662 (by simp; omega)
              have hk668 := hk654.kept hg662 (by simp; omega)
              refine dk0 15 (v := .bool (decide (chkMg d = 0 ∧ (d.k = 8 ∨ d.k = 9)))) h658 rfl rfl ⟨hB666, hk667, hk668⟩ fun a669 h669 => ?_; clear h658
              refine dr_done (by kernel_rfl) ?_
              refine co_then ?_
              have hIm9 : kkX = 10 → kk632 = 10 → LX = L640 ∧ flX = fl639 := by
                intro e1 e2
                have hg1 := AnsP.got hA1 e1
                have hg2 := AnsP.got hA645 e2
                have hbd1 := bd_0 hg1.1
                have hbd2 := bd_0 hg2.1
                have hmx1 := mxI_p h hz
                have hmn1 := mnI_p mk la92
                have hat3 : ∀ x, atS ((pruneF fB h) x) d.at_ = atS (f91 x) d.at_ := fun x => (prune_at hfokB (by omega) x).trans (hatB d.at_ (by omega) x)
                obtain ⟨hps, hfl⟩ := ps_same hkA (MvO.kof hO631) hat3
                exact ⟨by rw [hg1.2.2, hg2.2.2, hps], by rw [hg1.2.1, hg2.2.1, hfl]⟩
              have hk670 := hk627.below hb646
              have hk671 := hk670.kept hg662 (by simp; omega)
              have hr672 := row_kept_new hr629 (below_grown hb646)
              have hr673 := row_kept_at hr672 hg662 (ha609)
              have hr674 := row_kept_at hr644 hg662 (own_neT hr644 hk664 (by decide))
              exact ⟨N604, kk632, ep633, rq634, at635, n636, er637, key638, fl639, ao641, nn642, cp643, L640, h669.sub ⟨rfl, rfl, rfl, rfl, rfl, trivial⟩, by exact hIm9, by assumption, AnsP.kd hA645, by assumption, AnsP.emp hA645, hk671, hk660', (row_lows hr673 (by omega)), (row_lows hr674 (by omega)), hB666⟩
            ·
             refine dr_op (i := 13) h457 rfl rfl rfl rfl (op_new (v := fun N => pt N 0) (T := 37) (cs := #[.int .i64 0, .int .i64 0, .int .i64 0, .int .i64 0, .bool false, .int .u64 0, .int .u64 0, .int .i64 0, .int .i64 0, .int .i64 0, .int .i64 0, .string (⟨#[]⟩), .string (⟨#[]⟩), .int .i64 0, .slice none 0 0, .int .u64 0, .int .i64 0, .int .i64 0, .slice none 0 0, .slice none 0 0, .slice none 0 0, .slice none 0 0]) (by kernel_rfl) (by kernel_rfl) (by kernel_rfl)) ?_ ?_; clear h457
             ·
              rintro _ w676 ⟨N677, rfl, hN680, hz681, hk679, hg678⟩
              have hr683 := own_butS hf403 hx431.but horB
              have hr684 := row_kept_new hr683 hg437
              have ha682 := row_fresh hr684 hN680
              have hz685 := hg678.size
              have hO687 := MvO.gr hO430 hg437 (fun k e => by cases e)
              have ho686 := off_new (MvO.ofS hO687) hN680
              have hB688 := hb_new hB445 hg678
              have hk689 := hk447.kept hg678 (by simp)
              have hk690 := hk449.kept hg678 (by simp)
              exact ⟨hB688, hk689, hk690⟩
             rintro _ w676 a675 ⟨N677, rfl, hN680, hz681, hk679, hg678⟩ h675
             have hr683 := own_butS hf403 hx431.but horB
             have hr684 := row_kept_new hr683 hg437
             have ha682 := row_fresh hr684 hN680
             have hz685 := hg678.size
             have hO687 := MvO.gr hO430 hg437 (fun k e => by cases e)
             have ho686 := off_new (MvO.ofS hO687) hN680
             try dsimp only at h675
             have hB688 := hb_new hB445 hg678
             have hk689 := hk447.kept hg678 (by simp)
             have hk690 := hk449.kept hg678 (by simp)
             have hk693 := Blk.butS hk407 hx431.but hobB2
             have hk694 := hk693.kept hg437 (by simp)
             have hk695 := hk694.kept hg678 (by simp)
             have hO696 := MvO.gr hO687 hg678 (fun k e => by cases e)
             refine d1 2 h675 rfl rfl (op_call (args := #[pt N87 0]) (R := fun res xw => res = .int .u64 lB ∧ w676 = xw) rfl rfl rfl (by kernel_rfl) (by kernel_rfl) (Try.call24 _ _) (mvLast w676 hO696) (by rintro e x ⟨rfl, rfl⟩; exact ⟨_, rfl, rfl, rfl⟩)) ?_ ?_; clear h675
             ·
              rintro _ _ ⟨rfl, rfl⟩
              exact ⟨hB688, hk689, hk690⟩
             rintro _ _ a691 ⟨rfl, rfl⟩ h691
             refine d1 7 h691 rfl rfl (op_call (args := #[.int .u64 lB, .int .u64 (mxI h hz), .int .i64 1, .int .i64 1]) (R := fun res xw => res = .agg #[.int .u64 lB, .int .u64 (mxI h hz), .int .i64 (mxI 1 0), .int .i64 (mxI 1 0)] ∧ Below w676.heap.size w676 xw) rfl rfl rfl (by kernel_rfl) (by kernel_rfl) (Try.call12 _ _) (srvAt_any lB (mxI h hz) 1 1 w676 ) (by rintro e x ⟨rfl, hb699⟩; exact ⟨_, rfl, ⟨rfl, hb699⟩⟩)) ?_ ?_; clear h691
             ·
              rintro _ w698 ⟨rfl, hb699⟩
              have hz700 := hb699.size
              have ho701 := MvO.ofS hO696
              have hB702 := hb_call hB688 hb699
              have hk703 := hk689.below hb699
              have hk704 := hk690.below hb699
              exact ⟨hB702, hk703, hk704⟩
             rintro _ w698 a697 ⟨rfl, hb699⟩ h697
             have hz700 := hb699.size
             have ho701 := MvO.ofS hO696
             have hB702 := hb_call hB688 hb699
             have hk703 := hk689.below hb699
             have hk704 := hk690.below hb699
             have hr707 := row_kept_new hr684 hg678
             have hr708 := row_kept_new hr707 (below_grown hb699)
             have hO710 := MvO.gr hO696 (below_grown hb699) (fun k e => by cases e)
             have ho709 := MvO.ofS hO710
             refine d1 9 h697 rfl rfl (op_call (args := #[pt N87 0, .agg #[.int .u64 lB, .int .u64 (mxI h hz), .int .i64 (mxI 1 0), .int .i64 (mxI 1 0)], .agg #[.int .i64 d.k, .int .i64 d.ep, .int .i64 d.rq, .int .i64 d.sr, .bool d.fg, .int .u64 d.at_, .int .u64 d.la, .int .i64 d.n, .int .i64 d.m, .int .i64 d.p, .int .i64 d.e, .string d.key, .string d.to_, .int .i64 d.cep, mv, .int .u64 d.cfl, .int .i64 d.bc, .int .i64 d.br, bv, ev, sv, pv]]) (R := fun res xw => ∃ (kk ep' rq' at' n' er : Int) (key' : ByteArray) (fl' : Bool) (ao : Option Addr) (nn cap : Nat) (L : List PairT), res = .tuple #[.agg #[.int .i64 kk, .int .i64 ep', .int .i64 rq', .int .i64 0, .bool fl', .int .u64 at', .int .u64 0, .int .i64 n', .int .i64 0, .int .i64 0, .int .i64 er, .string key', .string (⟨#[]⟩), .int .i64 0, .slice none 0 0, .int .u64 0, .int .i64 0, .int .i64 0, .slice none 0 0, .slice none 0 0, .slice none 0 0, .slice ao nn cap], .bool (decide (chkMg d = 0 ∧ (d.k = 8 ∨ d.k = 9)))] ∧ xw.ownsRow w698.heap.size 88 2 (.slice ao nn cap) L.length (L.flatMap pairE) ∧ AnsP (pruneF fB h) d lB (mxI h hz) kk at' fl' L ∧ Below w698.heap.size w698 xw) rfl rfl rfl (by kernel_rfl) (by kernel_rfl) (Try.call13 _ _) (srvAnswerX S429 N87 (pruneF fB h) lB (cB - g'428) (m94 + j + 1) lB (mxI h hz) (mxI 1 0) (mxI 1 0) d mv bv ev sv pv w698 hO710 (by omega) (hM.below hB702)) (by rintro e x ⟨kk, ep', rq', at', n', er, key', fl', u, L, h0, h⟩; obtain ⟨ao, nn, cap, rfl⟩ := own_sliceT h.1; exact ⟨_, h0, kk, ep', rq', at', n', er, key', fl', ao, nn, cap, L, rfl, h⟩)) ?_ ?_; clear h697
             ·
              rintro _ w706 ⟨kk711, ep712, rq713, at714, n715, er716, key717, fl718, ao720, nn721, cp722, L719, rfl, hr723, hA724, hb725⟩
              have hz726 := hb725.size
              have ho727 := MvO.ofS hO710
              have hkd728 := AnsP.kd hA724
              have hem729 := AnsP.emp hA724
              have hra730 : ∀ i, (Value.slice ao720 nn721 cp722).ownBlock = some i → Value.ownBlock (.slice aoX nnX cpX) ≠ some i := fun i hi h1 => by have e1 := (hr723.lt i hi).1; have e2 := (hr708.lt i h1).2; omega
              have hB731 := hb_call hB702 hb725
              have hk732 := hk703.below hb725
              have hk733 := hk704.below hb725
              exact ⟨hB731, hk732, hk733⟩
             rintro _ w706 a705 ⟨kk711, ep712, rq713, at714, n715, er716, key717, fl718, ao720, nn721, cp722, L719, rfl, hr723, hA724, hb725⟩ h705
             have hz726 := hb725.size
             have ho727 := MvO.ofS hO710
             have hkd728 := AnsP.kd hA724
             have hem729 := AnsP.emp hA724
             have hra730 : ∀ i, (Value.slice ao720 nn721 cp722).ownBlock = some i → Value.ownBlock (.slice aoX nnX cpX) ≠ some i := fun i hi h1 => by have e1 := (hr723.lt i hi).1; have e2 := (hr708.lt i h1).2; omega
             have hB731 := hb_call hB702 hb725
             have hk732 := hk703.below hb725
             have hk733 := hk704.below hb725
             refine dk0 10 (v := .tuple #[.agg #[.int .i64 kk711, .int .i64 ep712, .int .i64 rq713, .int .i64 0, .bool fl718, .int .u64 at714, .int .u64 0, .int .i64 n715, .int .i64 0, .int .i64 0, .int .i64 er716, .string key717, .string (⟨#[]⟩), .int .i64 0, .slice none 0 0, .int .u64 0, .int .i64 0, .int .i64 0, .slice none 0 0, .slice none 0 0, .slice none 0 0, .slice ao720 nn721 cp722], .bool (decide (chkMg d = 0 ∧ (d.k = 8 ∨ d.k = 9)))]) h705 rfl rfl ⟨hB731, hk732, hk733⟩ fun a734 h734 => ?_; clear h705
             refine dk0 11 (v := .agg #[.int .i64 kk711, .int .i64 ep712, .int .i64 rq713, .int .i64 0, .bool fl718, .int .u64 at714, .int .u64 0, .int .i64 n715, .int .i64 0, .int .i64 0, .int .i64 er716, .string key717, .string (⟨#[]⟩), .int .i64 0, .slice none 0 0, .int .u64 0, .int .i64 0, .int .i64 0, .slice none 0 0, .slice none 0 0, .slice none 0 0, .slice ao720 nn721 cp722]) h734 rfl rfl ⟨hB731, hk732, hk733⟩ fun a735 h735 => ?_; clear h734
             refine dk0 12 (v := .bool (decide (chkMg d = 0 ∧ (d.k = 8 ∨ d.k = 9)))) h735 rfl rfl ⟨hB731, hk732, hk733⟩ fun a736 h736 => ?_; clear h735
             have hk742 := hk679.below hb699
             have hk743 := hk742.below hb725
             refine d1D 14 h736 rfl rfl (op_storeN rfl rfl rfl (all_cons rfl (all_cons rfl (all_cons rfl (all_cons rfl (all_cons rfl (all_cons rfl (all_cons rfl (all_cons rfl (all_cons rfl (all_cons rfl (all_cons rfl (all_cons rfl (all_cons rfl (all_cons rfl (all_cons rfl (all_cons rfl (all_cons rfl (all_cons rfl (all_cons rfl (all_cons rfl (all_cons rfl (all_cons rfl all_nil)))))))))))))))))))))) (by kernel_rfl) hk743 rfl) ?_ ?_; clear h736
             ·
              rintro _ w738 ⟨hk739, hz740, hg741⟩
              have hk739' : Blk w738 N677 37 #[.int .i64 kk711, .int .i64 ep712, .int .i64 rq713, .int .i64 0, .bool fl718, .int .u64 at714, .int .u64 0, .int .i64 n715, .int .i64 0, .int .i64 0, .int .i64 er716, .string key717, .string (⟨#[]⟩), .int .i64 0, .slice none 0 0, .int .u64 0, .int .i64 0, .int .i64 0, .slice none 0 0, .slice none 0 0, .slice none 0 0, .slice ao720 nn721 cp722] := hk739; clear hk739
              have hz744 := hg741.size
              have hB745 := hb_at hB731 hg741 (by omega)
              have hk746 := hk732.kept hg741 (by simp; omega)
              have hk747 := hk733.kept hg741 (by simp; omega)
              exact ⟨hB745, hk746, hk747⟩
             rintro _ w738 a737 ⟨hk739, hz740, hg741⟩ h737
             have hk739' : Blk w738 N677 37 #[.int .i64 kk711, .int .i64 ep712, .int .i64 rq713, .int .i64 0, .bool fl718, .int .u64 at714, .int .u64 0, .int .i64 n715, .int .i64 0, .int .i64 0, .int .i64 er716, .string key717, .string (⟨#[]⟩), .int .i64 0, .slice none 0 0, .int .u64 0, .int .i64 0, .int .i64 0, .slice none 0 0, .slice none 0 0, .slice none 0 0, .slice ao720 nn721 cp722] := hk739; clear hk739
             have hz744 := hg741.size
             have hB745 := hb_at hB731 hg741 (by omega)
             have hk746 := hk732.kept hg741 (by simp; omega)
             have hk747 := hk733.kept hg741 (by simp; omega)
             refine dk0 15 (v := .bool (decide (chkMg d = 0 ∧ (d.k = 8 ∨ d.k = 9)))) h737 rfl rfl ⟨hB745, hk746, hk747⟩ fun a748 h748 => ?_; clear h737
             refine dr_done (by kernel_rfl) ?_
             refine co_then ?_
             have hIm9 : kkX = 10 → kk711 = 10 → LX = L719 ∧ flX = fl718 := by
               intro e1 e2
               have hg1 := AnsP.got hA1 e1
               have hg2 := AnsP.got hA724 e2
               have hbd1 := bd_0 hg1.1
               have hbd2 := bd_0 hg2.1
               have hmx1 := mxI_p h hz
               have hmn1 := mnI_p mk la92
               have hat3 : ∀ x, atS ((pruneF fB h) x) d.at_ = atS (f91 x) d.at_ := fun x => (prune_at hfokB (by omega) x).trans (hatB d.at_ (by omega) x)
               obtain ⟨hps, hfl⟩ := ps_same hkA (MvO.kof hO710) hat3
               exact ⟨by rw [hg1.2.2, hg2.2.2, hps], by rw [hg1.2.1, hg2.2.1, hfl]⟩
             have hk749 := hk695.below hb699
             have hk750 := hk749.below hb725
             have hk751 := hk750.kept hg741 (by simp; omega)
             have hr752 := row_kept_new hr708 (below_grown hb725)
             have hr753 := row_kept_at hr752 hg741 (ha682)
             have hr754 := row_kept_at hr723 hg741 (own_neT hr723 hk743 (by decide))
             exact ⟨N677, kk711, ep712, rq713, at714, n715, er716, key717, fl718, ao720, nn721, cp722, L719, h748.sub ⟨rfl, rfl, rfl, rfl, rfl, trivial⟩, by exact hIm9, by assumption, AnsP.kd hA724, by assumption, AnsP.emp hA724, hk751, hk739', (row_lows hr753 (by omega)), (row_lows hr754 (by omega)), hB745⟩
           rintro a755 w756 ⟨NY, kkY, epY, rqY, atY, nY, erY, keyY, flY, aoY, nnY, cpY, LY, h755, hi757, hi758, hi759, hi760, hi761, hf762, hf763, hf764, hf765, hB766⟩
           have hz767 := hB766.size
           have hl768 := hf762.lt
           have hl769 := hf763.lt
           have hImp : kkX = 10 → kkY = 10 → LX = LY ∧ flX = flY := by assumption
           refine co_seq ?_
           refine co_seq ?_
           refine co_reg ?_
           refine pk0 (v := .bool (decide (chkMg d = 0 ∧ (d.k = 8 ∨ d.k = 9)))) h755 rfl fun a770 h770 => ?_; clear h755
           refine pk0 (v := .bool (decide (chkMg d = 0 ∧ (d.k = 8 ∨ d.k = 9)))) h770 rfl fun a771 h771 => ?_; clear h770
           refine pk0 (v := .bool ((decide (chkMg d = 0 ∧ (d.k = 8 ∨ d.k = 9))) != (decide (chkMg d = 0 ∧ (d.k = 8 ∨ d.k = 9))))) h771 rfl fun a772 h772 => ?_; clear h771
           refine pl_nil ?_
           refine co_then ?_
           have hc773 : ((decide (chkMg d = 0 ∧ (d.k = 8 ∨ d.k = 9))) != (decide (chkMg d = 0 ∧ (d.k = 8 ∨ d.k = 9)))) = false := by first | (simp; done) | (simp; omega) | (rw [bne_eq_false_iff_eq]; omega)
           rw [hc773] at h772; clear hc773
           refine co_false h772 rfl ?_
           refine wp_skip ?_
           refine co_then ?_
           refine co_seq ?_
           refine co_seq ?_
           refine co_reg ?_
           refine pk0 (v := .bool (decide (chkMg d = 0 ∧ (d.k = 8 ∨ d.k = 9)))) h772 rfl fun a774 h774 => ?_; clear h772
           cases hc775 : (decide (chkMg d = 0 ∧ (d.k = 8 ∨ d.k = 9)))
           ·
            rw [hc775] at h774
            have hp776 : ¬ (chkMg d = 0 ∧ (d.k = 8 ∨ d.k = 9)) := of_decide_eq_false hc775
            clear hc775
            refine pk0 (v := .bool true) h774 rfl fun a777 h777 => ?_; clear h774
            refine pl_nil ?_
            refine co_then ?_
            refine co_true h777 rfl ?_
            refine co_seq ?_
            refine co_reg ?_
            refine pk0 (v := pt NX 0) h777 rfl fun a778 h778 => ?_; clear h777
            refine pk (v := .int .i64 kkX) h778 rfl (rn_load1 rfl rfl Try.isAgg3 (hf762.cell rfl)) fun a779 h779 => ?_; clear h778
            refine pk0 (v := .bool (kkX == 0)) h779 rfl fun a780 h780 => ?_; clear h779
            refine pk0 (v := .bool (kkX == 0)) h780 rfl fun a781 h781 => ?_; clear h780
            have hc782 : (kkX == 0) = true := by first | (simp; done) | (simp; omega) | exact beq_false_of_ne (by omega) | exact beq_iff_eq.2 (by omega)
            rw [hc782] at h781; clear hc782
            refine pk0 (v := pt NY 0) h781 rfl fun a783 h783 => ?_; clear h781
            refine pk (v := .int .i64 kkY) h783 rfl (rn_load1 rfl rfl Try.isAgg3 (hf763.cell rfl)) fun a784 h784 => ?_; clear h783
            refine pk0 (v := .bool (kkY == 0)) h784 rfl fun a785 h785 => ?_; clear h784
            refine pk0 (v := .bool (kkY == 0)) h785 rfl fun a786 h786 => ?_; clear h785
            refine pk0 (v := .bool (kkY == 0)) h786 rfl fun a787 h787 => ?_; clear h786
            have hc788 : (kkY == 0) = true := by first | (simp; done) | (simp; omega) | exact beq_false_of_ne (by omega) | exact beq_iff_eq.2 (by omega)
            rw [hc788] at h787; clear hc788
            refine pw h787 rfl (op_call (args := #[]) (R := fun res xw => res = .bool true ∧ Below w756.heap.size w756 xw) rfl rfl rfl (by kernel_rfl) (by kernel_rfl) (Try.call10 _ _) (awake31 w756) (by rintro e x ⟨rfl, h⟩; exact ⟨_, rfl, rfl, h⟩)) ?_; clear h787
            rintro _ w790 a789 ⟨rfl, hb791⟩ h789
            have hz792 := hb791.size
            refine pk0 (v := .bool true) h789 rfl fun a793 h793 => ?_; clear h789
            refine pk0 (v := .bool true) h793 rfl fun a794 h794 => ?_; clear h793
            refine pl_nil ?_
            refine co_then ?_
            refine wp_ret ?_
            refine co_thenR ?_
            refine co_ret1 h794 rfl rfl ?_
            have hB795 := hb_call hB766 hb791
            exact ⟨rfl, hB795⟩
           ·
            rw [hc775] at h774
            have hp796 : chkMg d = 0 ∧ (d.k = 8 ∨ d.k = 9) := of_decide_eq_true hc775
            clear hc775
            refine pk0 (v := .bool false) h774 rfl fun a797 h797 => ?_; clear h774
            refine pl_nil ?_
            refine co_then ?_
            refine co_false h797 rfl ?_
            refine wp_skip ?_
            refine co_then ?_
            refine co_seq ?_
            refine co_seq ?_
            refine co_reg ?_
            refine pk0 (v := pt NX 0) h797 rfl fun a798 h798 => ?_; clear h797
            refine pk (v := .int .i64 kkX) h798 rfl (rn_load1 rfl rfl Try.isAgg3 (hf762.cell rfl)) fun a799 h799 => ?_; clear h798
            refine pk0 (v := .bool (kkX == 7)) h799 rfl fun a800 h800 => ?_; clear h799
            refine pk0 (v := .bool (kkX == 7)) h800 rfl fun a801 h801 => ?_; clear h800
            cases hc802 : (kkX == 7)
            ·
             rw [hc802] at h801
             have hp803 : ¬ (kkX = 7) := by first | simpa using hc802 | simpa [and_assoc] using hc802
             clear hc802
             refine pk0 (v := pt NY 0) h801 rfl fun a804 h804 => ?_; clear h801
             refine pk (v := .int .i64 kkY) h804 rfl (rn_load1 rfl rfl Try.isAgg3 (hf763.cell rfl)) fun a805 h805 => ?_; clear h804
             refine pk0 (v := .bool (kkY == 7)) h805 rfl fun a806 h806 => ?_; clear h805
             refine pk0 (v := .bool (kkY == 7)) h806 rfl fun a807 h807 => ?_; clear h806
             refine pl_nil ?_
             refine co_then ?_
             cases hc808 : (kkY == 7)
             ·
              rw [hc808] at h807
              have hp809 : ¬ (kkY = 7) := by first | simpa using hc808 | simpa [and_assoc] using hc808
              clear hc808
              refine co_false h807 rfl ?_
              refine wp_skip ?_
              refine co_then ?_
              refine co_seq ?_
              refine co_reg ?_
              refine pk0 (v := pt NX 21) h807 rfl fun a810 h810 => ?_; clear h807
              refine pk (v := .slice aoX nnX cpX) h810 rfl (rn_load1 rfl rfl Try.isAgg35 (hf762.cell rfl)) fun a811 h811 => ?_; clear h810
              refine pk0 (v := pt NY 21) h811 rfl fun a812 h812 => ?_; clear h811
              refine pk (v := .slice aoY nnY cpY) h812 rfl (rn_load1 rfl rfl Try.isAgg35 (hf763.cell rfl)) fun a813 h813 => ?_; clear h812
              obtain ⟨hLL, hFF⟩ := hImp (by omega) (by omega)
              refine pw h813 rfl (op_call (args := #[.slice aoX nnX cpX, .slice aoY nnY cpY]) (R := fun res xw => res = .bool true ∧ Below w756.heap.size w756 xw) rfl rfl rfl (by kernel_rfl) (by kernel_rfl) (Try.call25 _ _) (rsamePairs_any (.slice aoX nnX cpX) LX (.slice aoY nnY cpY) LY w756 (row_sl hf764 pairE_len) (row_sl hf765 pairE_len)) (by rintro e x ⟨h0, h⟩; rw [sameP_eq hLL] at h0; exact ⟨_, h0, rfl, h⟩)) ?_; clear h813
              rintro _ w815 a814 ⟨rfl, hb816⟩ h814
              have hz817 := hb816.size
              refine pk0 (v := .bool true) h814 rfl fun a818 h818 => ?_; clear h814
              refine pk0 (v := pt NX 4) h818 rfl fun a819 h819 => ?_; clear h818
              have hk820 := hf762.below hb816
              refine pk (v := .bool flX) h819 rfl (rn_load1 rfl rfl Try.isAgg4 (hk820.cell rfl)) fun a821 h821 => ?_; clear h819
              refine pk0 (v := pt NY 4) h821 rfl fun a822 h822 => ?_; clear h821
              have hk823 := hf763.below hb816
              refine pk (v := .bool flY) h822 rfl (rn_load1 rfl rfl Try.isAgg4 (hk823.cell rfl)) fun a824 h824 => ?_; clear h822
              refine pk0 (v := .bool (flX == flY)) h824 rfl fun a825 h825 => ?_; clear h824
              refine pk0 (v := .bool (flX == flY)) h825 rfl fun a826 h826 => ?_; clear h825
              refine pk0 (v := .bool (flX == flY)) h826 rfl fun a827 h827 => ?_; clear h826
              have hc828 : (flX == flY) = true := by rw [hFF]; simp
              rw [hc828] at h827; clear hc828
              refine pk0 (v := pt NX 5) h827 rfl fun a829 h829 => ?_; clear h827
              refine pk (v := .int .u64 atX) h829 rfl (rn_load1 rfl rfl Try.isAgg23 (hk820.cell rfl)) fun a830 h830 => ?_; clear h829
              refine pk0 (v := pt NY 5) h830 rfl fun a831 h831 => ?_; clear h830
              refine pk (v := .int .u64 atY) h831 rfl (rn_load1 rfl rfl Try.isAgg23 (hk823.cell rfl)) fun a832 h832 => ?_; clear h831
              refine pk0 (v := .bool (atX == atY)) h832 rfl fun a833 h833 => ?_; clear h832
              refine pk0 (v := .bool (atX == atY)) h833 rfl fun a834 h834 => ?_; clear h833
              refine pk0 (v := .bool (atX == atY)) h834 rfl fun a835 h835 => ?_; clear h834
              have hc836 : (atX == atY) = true := by first | (simp; done) | (simp; omega) | exact beq_false_of_ne (by omega) | exact beq_iff_eq.2 (by omega)
              rw [hc836] at h835; clear hc836
              have hB839 := hb_call hB766 hb816
              refine pw h835 rfl (op_call (args := #[]) (R := fun res xw => res = .bool true ∧ Below w815.heap.size w815 xw) rfl rfl rfl (by kernel_rfl) (by kernel_rfl) (Try.call10 _ _) (awake31 w815) (by rintro e x ⟨rfl, h⟩; exact ⟨_, rfl, rfl, h⟩)) ?_; clear h835
              rintro _ w838 a837 ⟨rfl, hb840⟩ h837
              have hz841 := hb840.size
              refine pk0 (v := .bool true) h837 rfl fun a842 h842 => ?_; clear h837
              refine pk0 (v := .bool true) h842 rfl fun a843 h843 => ?_; clear h842
              refine pl_nil ?_
              refine co_then ?_
              refine wp_ret ?_
              refine co_ret1 h843 rfl rfl ?_
              have hB844 := hb_call hB839 hb840
              exact ⟨rfl, hB844⟩
             ·
              rw [hc808] at h807
              have hp845 : kkY = 7 := by first | simpa using hc808 | simpa [and_assoc] using hc808
              clear hc808
              refine co_true h807 rfl ?_
              refine co_seq ?_
              refine co_reg ?_
              refine pk0 (v := pt NX 0) h807 rfl fun a846 h846 => ?_; clear h807
              refine pk (v := .int .i64 kkX) h846 rfl (rn_load1 rfl rfl Try.isAgg3 (hf762.cell rfl)) fun a847 h847 => ?_; clear h846
              refine pk0 (v := .bool (kkX != 7)) h847 rfl fun a848 h848 => ?_; clear h847
              refine pk0 (v := .bool (kkX != 7)) h848 rfl fun a849 h849 => ?_; clear h848
              have hc850 : (kkX != 7) = true := by first | (simp; done) | (simp; omega) | exact beq_false_of_ne (by omega) | exact beq_iff_eq.2 (by omega)
              rw [hc850] at h849; clear hc850
              refine psk h849 rfl fun a851 h851 => ?_; clear h849
              refine psk h851 rfl fun a852 h852 => ?_; clear h851
              refine psk h852 rfl fun a853 h853 => ?_; clear h852
              refine psk h853 rfl fun a854 h854 => ?_; clear h853
              refine pk0 (v := .bool true) h854 rfl fun a855 h855 => ?_; clear h854
              refine pk0 (v := .bool true) h855 rfl fun a856 h856 => ?_; clear h855
              refine pk0 (v := pt NY 0) h856 rfl fun a857 h857 => ?_; clear h856
              refine pk (v := .int .i64 kkY) h857 rfl (rn_load1 rfl rfl Try.isAgg3 (hf763.cell rfl)) fun a858 h858 => ?_; clear h857
              refine pk0 (v := .bool (kkY != 7)) h858 rfl fun a859 h859 => ?_; clear h858
              refine pk0 (v := .bool (kkY != 7)) h859 rfl fun a860 h860 => ?_; clear h859
              have hc861 : (kkY != 7) = false := by first | (simp; done) | (simp; omega) | exact beq_false_of_ne (by omega) | exact beq_iff_eq.2 (by omega)
              rw [hc861] at h860; clear hc861
              refine pk0 (v := pt NY 21) h860 rfl fun a862 h862 => ?_; clear h860
              refine pk (v := .slice aoY nnY cpY) h862 rfl (rn_load1 rfl rfl Try.isAgg35 (hf763.cell rfl)) fun a863 h863 => ?_; clear h862
              refine pk (v := .int .i64 ((LY.length : Nat) : Int)) h863 rfl (rn_lenOwn rfl rfl Try.underlying35 hf765) fun a864 h864 => ?_; clear h863
              refine pk0 (v := .bool (((LY.length : Nat) : Int) == 0)) h864 rfl fun a865 h865 => ?_; clear h864
              refine pk0 (v := .bool (((LY.length : Nat) : Int) == 0)) h865 rfl fun a866 h866 => ?_; clear h865
              refine pk0 (v := .bool (((LY.length : Nat) : Int) == 0)) h866 rfl fun a867 h867 => ?_; clear h866
              refine pk0 (v := .bool (((LY.length : Nat) : Int) == 0)) h867 rfl fun a868 h868 => ?_; clear h867
              have hc869 : (((LY.length : Nat) : Int) == 0) = true := by first | (simp; done) | (simp; omega) | exact beq_false_of_ne (by omega) | exact beq_iff_eq.2 (by omega)
              rw [hc869] at h868; clear hc869
              refine pw h868 rfl (op_call (args := #[]) (R := fun res xw => res = .bool true ∧ Below w756.heap.size w756 xw) rfl rfl rfl (by kernel_rfl) (by kernel_rfl) (Try.call10 _ _) (awake31 w756) (by rintro e x ⟨rfl, h⟩; exact ⟨_, rfl, rfl, h⟩)) ?_; clear h868
              rintro _ w871 a870 ⟨rfl, hb872⟩ h870
              have hz873 := hb872.size
              refine pk0 (v := .bool true) h870 rfl fun a874 h874 => ?_; clear h870
              refine pk0 (v := .bool true) h874 rfl fun a875 h875 => ?_; clear h874
              refine pl_nil ?_
              refine co_then ?_
              refine wp_ret ?_
              refine co_thenR ?_
              refine co_ret1 h875 rfl rfl ?_
              have hB876 := hb_call hB766 hb872
              exact ⟨rfl, hB876⟩
            ·
             rw [hc802] at h801
             have hp877 : kkX = 7 := by first | simpa using hc802 | simpa [and_assoc] using hc802
             clear hc802
             refine psk h801 rfl fun a878 h878 => ?_; clear h801
             refine psk h878 rfl fun a879 h879 => ?_; clear h878
             refine psk h879 rfl fun a880 h880 => ?_; clear h879
             refine pk0 (v := .bool true) h880 rfl fun a881 h881 => ?_; clear h880
             refine pl_nil ?_
             refine co_then ?_
             refine co_true h881 rfl ?_
             refine co_seq ?_
             refine co_reg ?_
             refine pk0 (v := pt NX 0) h881 rfl fun a882 h882 => ?_; clear h881
             refine pk (v := .int .i64 kkX) h882 rfl (rn_load1 rfl rfl Try.isAgg3 (hf762.cell rfl)) fun a883 h883 => ?_; clear h882
             refine pk0 (v := .bool (kkX != 7)) h883 rfl fun a884 h884 => ?_; clear h883
             refine pk0 (v := .bool (kkX != 7)) h884 rfl fun a885 h885 => ?_; clear h884
             have hc886 : (kkX != 7) = false := by first | (simp; done) | (simp; omega) | exact beq_false_of_ne (by omega) | exact beq_iff_eq.2 (by omega)
             rw [hc886] at h885; clear hc886
             refine pk0 (v := pt NX 21) h885 rfl fun a887 h887 => ?_; clear h885
             refine pk (v := .slice aoX nnX cpX) h887 rfl (rn_load1 rfl rfl Try.isAgg35 (hf762.cell rfl)) fun a888 h888 => ?_; clear h887
             refine pk (v := .int .i64 ((LX.length : Nat) : Int)) h888 rfl (rn_lenOwn rfl rfl Try.underlying35 hf764) fun a889 h889 => ?_; clear h888
             refine pk0 (v := .bool (((LX.length : Nat) : Int) == 0)) h889 rfl fun a890 h890 => ?_; clear h889
             refine pk0 (v := .bool (((LX.length : Nat) : Int) == 0)) h890 rfl fun a891 h891 => ?_; clear h890
             refine pk0 (v := .bool (((LX.length : Nat) : Int) == 0)) h891 rfl fun a892 h892 => ?_; clear h891
             have hc893 : (((LX.length : Nat) : Int) == 0) = true := by first | (simp; done) | (simp; omega) | exact beq_false_of_ne (by omega) | exact beq_iff_eq.2 (by omega)
             rw [hc893] at h892; clear hc893
             refine pk0 (v := pt NY 0) h892 rfl fun a894 h894 => ?_; clear h892
             refine pk (v := .int .i64 kkY) h894 rfl (rn_load1 rfl rfl Try.isAgg3 (hf763.cell rfl)) fun a895 h895 => ?_; clear h894
             refine pk0 (v := .bool (kkY != 7)) h895 rfl fun a896 h896 => ?_; clear h895
             refine pk0 (v := .bool (kkY != 7)) h896 rfl fun a897 h897 => ?_; clear h896
             cases hc898 : (kkY != 7)
             ·
              rw [hc898] at h897
              have hp899 : ¬ (kkY ≠ 7) := by first | simpa using hc898 | simpa [and_assoc] using hc898
              clear hc898
              refine pk0 (v := pt NY 21) h897 rfl fun a900 h900 => ?_; clear h897
              refine pk (v := .slice aoY nnY cpY) h900 rfl (rn_load1 rfl rfl Try.isAgg35 (hf763.cell rfl)) fun a901 h901 => ?_; clear h900
              refine pk (v := .int .i64 ((LY.length : Nat) : Int)) h901 rfl (rn_lenOwn rfl rfl Try.underlying35 hf765) fun a902 h902 => ?_; clear h901
              refine pk0 (v := .bool (((LY.length : Nat) : Int) == 0)) h902 rfl fun a903 h903 => ?_; clear h902
              refine pk0 (v := .bool (((LY.length : Nat) : Int) == 0)) h903 rfl fun a904 h904 => ?_; clear h903
              refine pk0 (v := .bool (((LY.length : Nat) : Int) == 0)) h904 rfl fun a905 h905 => ?_; clear h904
              refine pk0 (v := .bool (((LY.length : Nat) : Int) == 0)) h905 rfl fun a906 h906 => ?_; clear h905
              have hc907 : (((LY.length : Nat) : Int) == 0) = true := by first | (simp; done) | (simp; omega) | exact beq_false_of_ne (by omega) | exact beq_iff_eq.2 (by omega)
              rw [hc907] at h906; clear hc907
              refine pw h906 rfl (op_call (args := #[]) (R := fun res xw => res = .bool true ∧ Below w756.heap.size w756 xw) rfl rfl rfl (by kernel_rfl) (by kernel_rfl) (Try.call10 _ _) (awake31 w756) (by rintro e x ⟨rfl, h⟩; exact ⟨_, rfl, rfl, h⟩)) ?_; clear h906
              rintro _ w909 a908 ⟨rfl, hb910⟩ h908
              have hz911 := hb910.size
              refine pk0 (v := .bool true) h908 rfl fun a912 h912 => ?_; clear h908
              refine pk0 (v := .bool true) h912 rfl fun a913 h913 => ?_; clear h912
              refine pl_nil ?_
              refine co_then ?_
              refine wp_ret ?_
              refine co_thenR ?_
              refine co_ret1 h913 rfl rfl ?_
              have hB914 := hb_call hB766 hb910
              exact ⟨rfl, hB914⟩
             ·
              rw [hc898] at h897
              have hp915 : kkY ≠ 7 := by first | simpa using hc898 | simpa [and_assoc] using hc898
              clear hc898
              refine psk h897 rfl fun a916 h916 => ?_; clear h897
              refine psk h916 rfl fun a917 h917 => ?_; clear h916
              refine psk h917 rfl fun a918 h918 => ?_; clear h917
              refine psk h918 rfl fun a919 h919 => ?_; clear h918
              refine pk0 (v := .bool true) h919 rfl fun a920 h920 => ?_; clear h919
              refine pk0 (v := .bool true) h920 rfl fun a921 h921 => ?_; clear h920
              refine pk0 (v := .bool true) h921 rfl fun a922 h922 => ?_; clear h921
              refine pw h922 rfl (op_call (args := #[]) (R := fun res xw => res = .bool true ∧ Below w756.heap.size w756 xw) rfl rfl rfl (by kernel_rfl) (by kernel_rfl) (Try.call10 _ _) (awake31 w756) (by rintro e x ⟨rfl, h⟩; exact ⟨_, rfl, rfl, h⟩)) ?_; clear h922
              rintro _ w924 a923 ⟨rfl, hb925⟩ h923
              have hz926 := hb925.size
              refine pk0 (v := .bool true) h923 rfl fun a927 h927 => ?_; clear h923
              refine pk0 (v := .bool true) h927 rfl fun a928 h928 => ?_; clear h927
              refine pl_nil ?_
              refine co_then ?_
              refine wp_ret ?_
              refine co_thenR ?_
              refine co_ret1 h928 rfl rfl ?_
              have hB929 := hb_call hB766 hb925
              exact ⟨rfl, hB929⟩
          ·
           rw [hc418] at h417
           have hp930 : ((j : Nat) : Int) < ((l2.length : Nat) : Int) := of_decide_eq_true hc418
           clear hc418
           refine pk0 (v := .int .i64 ((j : Nat) : Int)) h417 rfl fun a931 h931 => ?_; clear h417
           refine pk0 (v := .bool (decide (((j : Nat) : Int) < 30))) h931 rfl fun a932 h932 => ?_; clear h931
           refine pk0 (v := .bool (decide (((j : Nat) : Int) < 30))) h932 rfl fun a933 h933 => ?_; clear h932
           refine pl_nil ?_
           refine co_then ?_
           cases hc934 : (decide (((j : Nat) : Int) < 30))
           ·
            rw [hc934] at h933
            have hp935 : ¬ (((j : Nat) : Int) < 30) := of_decide_eq_false hc934
            clear hc934
            refine co_false h933 rfl ?_
            refine wp_exit ?_
            refine co_thenX ?_
            refine co_thenX ?_
            refine co_blockX ?_
            refine co_then ?_
            refine co_seq ?_
            refine co_reg ?_
            refine pk0 (v := pt N87 0) h933 rfl fun a936 h936 => ?_; clear h933
            refine pk0 (v := .int .u64 h) h936 rfl fun a937 h937 => ?_; clear h936
            have ho940 := MvO.ofS hf402
            refine pw h937 rfl (op_call (args := #[pt N87 0, .int .u64 h]) (R := fun res xw => ∃ g' : Int, ∃ S' : Nat → Prop, res = .int .i64 g' ∧ MvO S' xw N87 (pruneF fB h) lB (cB - g') (m94 + j + 1) ∧ Grew SB S' w392 xw) rfl rfl rfl (by kernel_rfl) (by kernel_rfl) (Try.call23 _ _) (mvPrune w392 h hf402 ⟨by omega, by omega⟩ (by omega)) (by rintro e x ⟨g', S', h0, h⟩; exact ⟨_, h0, g', S', rfl, h⟩)) ?_; clear h937
            rintro _ w939 a938 ⟨g'941, S942, rfl, hO943, hx944⟩ h938
            have hlo946 : ∀ q, S942 q → w.heap.size ≤ q := hx944.lo hlo412 (by omega)
            have hB945 := hbL hB404 hlo412 hx944.but
            have hz947 := hB945.size
            have hz948 := hx944.but.size
            refine pl_nil ?_
            refine co_then ?_
            refine co_cut (fun a x => ∃ (NY : Nat) (kkY : Int) (epY : Int) (rqY : Int) (atY : Int) (nY : Int) (erY : Int) (keyY : ByteArray) (flY : Bool) (aoY : Option Addr) (nnY : Nat) (cpY : Nat) (LY : List PairT), Slots 189 [(10, .bool false), (14, pt NX 0), (15, .bool (decide (chkMg d = 0 ∧ (d.k = 8 ∨ d.k = 9)))), (17, pt NY 0), (18, .bool (decide (chkMg d = 0 ∧ (d.k = 8 ∨ d.k = 9))))] a ∧ (kkX = 10 → kkY = 10 → LX = LY ∧ flX = flY) ∧ ((¬ (chkMg d = 0 ∧ (d.k = 8 ∨ d.k = 9)) ∧ kkX = 0) ∨ ((chkMg d = 0 ∧ (d.k = 8 ∨ d.k = 9)) ∧ (kkX = 7 ∨ (kkX = 10 ∧ atX = d.at_)))) ∧ ((¬ (chkMg d = 0 ∧ (d.k = 8 ∨ d.k = 9)) ∧ kkY = 0) ∨ ((chkMg d = 0 ∧ (d.k = 8 ∨ d.k = 9)) ∧ (kkY = 7 ∨ (kkY = 10 ∧ atY = d.at_)))) ∧ (¬ kkX = 10 → LX.length = 0) ∧ (¬ kkY = 10 → LY.length = 0) ∧ Blk x NX 37 #[.int .i64 kkX, .int .i64 epX, .int .i64 rqX, .int .i64 0, .bool flX, .int .u64 atX, .int .u64 0, .int .i64 nX, .int .i64 0, .int .i64 0, .int .i64 erX, .string keyX, .string (⟨#[]⟩), .int .i64 0, .slice none 0 0, .int .u64 0, .int .i64 0, .int .i64 0, .slice none 0 0, .slice none 0 0, .slice none 0 0, .slice aoX nnX cpX] ∧ Blk x NY 37 #[.int .i64 kkY, .int .i64 epY, .int .i64 rqY, .int .i64 0, .bool flY, .int .u64 atY, .int .u64 0, .int .i64 nY, .int .i64 0, .int .i64 0, .int .i64 erY, .string keyY, .string (⟨#[]⟩), .int .i64 0, .slice none 0 0, .int .u64 0, .int .i64 0, .int .i64 0, .slice none 0 0, .slice none 0 0, .slice none 0 0, .slice aoY nnY cpY] ∧ x.ownsRow 0 88 2 (.slice aoX nnX cpX) LX.length (LX.flatMap pairE) ∧ x.ownsRow 0 88 2 (.slice aoY nnY cpY) LY.length (LY.flatMap pairE) ∧ Below w.heap.size w x) ?_ ?_
            ·
             refine dr_gen (fun x => Below w.heap.size w x ∧ Blk x N3 25 #[.int .u64 mk, .int .u64 hz, .int .i64 ep, .int .i64 hd] ∧ Blk x N11 37 #[.int .i64 d.k, .int .i64 d.ep, .int .i64 d.rq, .int .i64 d.sr, .bool d.fg, .int .u64 d.at_, .int .u64 d.la, .int .i64 d.n, .int .i64 d.m, .int .i64 d.p, .int .i64 d.e, .string d.key, .string d.to_, .int .i64 d.cep, mv, .int .u64 d.cfl, .int .i64 d.bc, .int .i64 d.br, bv, ev, sv, pv]) (by kernel_rfl) (fun w949 hg950 => ?_) (fun w949 hg950 => ?_)
             ·
              have hz951 := hg950.size
              have hB952 := hb_new hB945 hg950
              have hk953 := Blk.butS hk405 hx944.but hobB0
              have hk954 := hk953.kept hg950 (by simp)
              have hk955 := Blk.butS hk406 hx944.but hobB1
              have hk956 := hk955.kept hg950 (by simp)
              exact ⟨hB952, hk954, hk956⟩
             have hz957 := hg950.size
             have hB958 := hb_new hB945 hg950
             have hk959 := Blk.butS hk405 hx944.but hobB0
             have hk960 := hk959.kept hg950 (by simp)
             have hk961 := Blk.butS hk406 hx944.but hobB1
             have hk962 := hk961.kept hg950 (by simp)
             refine dk0 0 (v := pt N87 0) h938 rfl rfl ⟨hB958, hk960, hk962⟩ fun a963 h963 => ?_; clear h938
             refine dk0 1 (v := pt N87 0) h963 rfl rfl ⟨hB958, hk960, hk962⟩ fun a964 h964 => ?_; clear h963
             refine dk0 3 (v := .int .u64 h) h964 rfl rfl ⟨hB958, hk960, hk962⟩ fun a965 h965 => ?_; clear h964
             refine dk0 4 (v := pt N3 1) h965 rfl rfl ⟨hB958, hk960, hk962⟩ fun a966 h966 => ?_; clear h965
             refine dk 5 (v := .int .u64 hz) h966 rfl rfl ⟨hB958, hk960, hk962⟩ (fun x hx => (rn_load1 rfl rfl Try.isAgg23 (hx.2.1.cell rfl))) fun a967 h967 => ?_; clear h966
             have hmm968 := mxI_p h hz
             refine dk0 6 (v := .int .u64 (mxI h hz)) h967 rfl rfl ⟨hB958, hk960, hk962⟩ fun a969 h969 => ?_; clear h967
             refine dk 8 (v := .agg #[.int .i64 d.k, .int .i64 d.ep, .int .i64 d.rq, .int .i64 d.sr, .bool d.fg, .int .u64 d.at_, .int .u64 d.la, .int .i64 d.n, .int .i64 d.m, .int .i64 d.p, .int .i64 d.e, .string d.key, .string d.to_, .int .i64 d.cep, mv, .int .u64 d.cfl, .int .i64 d.bc, .int .i64 d.br, bv, ev, sv, pv]) h969 rfl rfl ⟨hB958, hk960, hk962⟩ (fun x hx => (rn_loadN rfl rfl Try.underlying37 rfl (by kernel_rfl) hx.2.2.all)) fun a970 h970 => ?_; clear h969
             refine dr_many [2, 13] (by kernel_rfl) (by simp) ⟨?_, ?_, trivial⟩
             ·
              have hk973 := Blk.butS hk407 hx944.but hobB2
              have hk974 := hk973.kept hg950 (by simp)
              have hr975 := own_butS hf403 hx944.but horB
              have hr976 := row_kept_new hr975 hg950
              have hO977 := MvO.gr hO943 hg950 (fun k e => by cases e)
              refine dr_op (i := 2) h970 rfl rfl rfl rfl (op_call (args := #[pt N87 0]) (R := fun res xw => res = .int .u64 lB ∧ w949 = xw) rfl rfl rfl (by kernel_rfl) (by kernel_rfl) (Try.call24 _ _) (mvLast w949 hO977) (by rintro e x ⟨rfl, rfl⟩; exact ⟨_, rfl, rfl, rfl⟩)) ?_ ?_; clear h970
              ·
               rintro _ _ ⟨rfl, rfl⟩
               exact ⟨hB958, hk960, hk962⟩
              rintro _ _ a971 ⟨rfl, rfl⟩ h971
              refine dr_many [7, 13] (by kernel_rfl) (by simp) ⟨?_, ?_, trivial⟩
              ·
               refine dr_op (i := 7) h971 rfl rfl rfl rfl (op_call (args := #[.int .u64 lB, .int .u64 (mxI h hz), .int .i64 1, .int .i64 1]) (R := fun res xw => res = .agg #[.int .u64 lB, .int .u64 (mxI h hz), .int .i64 (mxI 1 0), .int .i64 (mxI 1 0)] ∧ Below w949.heap.size w949 xw) rfl rfl rfl (by kernel_rfl) (by kernel_rfl) (Try.call12 _ _) (srvAt_any lB (mxI h hz) 1 1 w949 ) (by rintro e x ⟨rfl, hb980⟩; exact ⟨_, rfl, ⟨rfl, hb980⟩⟩)) ?_ ?_; clear h971
               ·
                rintro _ w979 ⟨rfl, hb980⟩
                have hz981 := hb980.size
                have ho982 := MvO.ofS hO977
                have hB983 := hb_call hB958 hb980
                have hk984 := hk960.below hb980
                have hk985 := hk962.below hb980
                exact ⟨hB983, hk984, hk985⟩
               rintro _ w979 a978 ⟨rfl, hb980⟩ h978
               have hz981 := hb980.size
               have ho982 := MvO.ofS hO977
               have hB983 := hb_call hB958 hb980
               have hk984 := hk960.below hb980
               have hk985 := hk962.below hb980
               refine dr_many [9, 13] (by kernel_rfl) (by simp) ⟨?_, ?_, trivial⟩
               ·
                have hO989 := MvO.gr hO977 (below_grown hb980) (fun k e => by cases e)
                have ho988 := MvO.ofS hO989
                have hr1005 := row_kept_new hr976 (below_grown hb980)
                refine dr_op (i := 9) h978 rfl rfl rfl rfl (op_call (args := #[pt N87 0, .agg #[.int .u64 lB, .int .u64 (mxI h hz), .int .i64 (mxI 1 0), .int .i64 (mxI 1 0)], .agg #[.int .i64 d.k, .int .i64 d.ep, .int .i64 d.rq, .int .i64 d.sr, .bool d.fg, .int .u64 d.at_, .int .u64 d.la, .int .i64 d.n, .int .i64 d.m, .int .i64 d.p, .int .i64 d.e, .string d.key, .string d.to_, .int .i64 d.cep, mv, .int .u64 d.cfl, .int .i64 d.bc, .int .i64 d.br, bv, ev, sv, pv]]) (R := fun res xw => ∃ (kk ep' rq' at' n' er : Int) (key' : ByteArray) (fl' : Bool) (ao : Option Addr) (nn cap : Nat) (L : List PairT), res = .tuple #[.agg #[.int .i64 kk, .int .i64 ep', .int .i64 rq', .int .i64 0, .bool fl', .int .u64 at', .int .u64 0, .int .i64 n', .int .i64 0, .int .i64 0, .int .i64 er, .string key', .string (⟨#[]⟩), .int .i64 0, .slice none 0 0, .int .u64 0, .int .i64 0, .int .i64 0, .slice none 0 0, .slice none 0 0, .slice none 0 0, .slice ao nn cap], .bool (decide (chkMg d = 0 ∧ (d.k = 8 ∨ d.k = 9)))] ∧ xw.ownsRow w979.heap.size 88 2 (.slice ao nn cap) L.length (L.flatMap pairE) ∧ AnsP (pruneF fB h) d lB (mxI h hz) kk at' fl' L ∧ Below w979.heap.size w979 xw) rfl rfl rfl (by kernel_rfl) (by kernel_rfl) (Try.call13 _ _) (srvAnswerX S942 N87 (pruneF fB h) lB (cB - g'941) (m94 + j + 1) lB (mxI h hz) (mxI 1 0) (mxI 1 0) d mv bv ev sv pv w979 hO989 (by omega) (hM.below hB983)) (by rintro e x ⟨kk, ep', rq', at', n', er, key', fl', u, L, h0, h⟩; obtain ⟨ao, nn, cap, rfl⟩ := own_sliceT h.1; exact ⟨_, h0, kk, ep', rq', at', n', er, key', fl', ao, nn, cap, L, rfl, h⟩)) ?_ ?_; clear h978
                ·
                 rintro _ w987 ⟨kk990, ep991, rq992, at993, n994, er995, key996, fl997, ao999, nn1000, cp1001, L998, rfl, hr1002, hA1003, hb1004⟩
                 have hz1006 := hb1004.size
                 have ho1007 := MvO.ofS hO989
                 have hkd1008 := AnsP.kd hA1003
                 have hem1009 := AnsP.emp hA1003
                 have hra1010 : ∀ i, (Value.slice ao999 nn1000 cp1001).ownBlock = some i → Value.ownBlock (.slice aoX nnX cpX) ≠ some i := fun i hi h1 => by have e1 := (hr1002.lt i hi).1; have e2 := (hr1005.lt i h1).2; omega
                 have hB1011 := hb_call hB983 hb1004
                 have hk1012 := hk984.below hb1004
                 have hk1013 := hk985.below hb1004
                 exact ⟨hB1011, hk1012, hk1013⟩
                rintro _ w987 a986 ⟨kk990, ep991, rq992, at993, n994, er995, key996, fl997, ao999, nn1000, cp1001, L998, rfl, hr1002, hA1003, hb1004⟩ h986
                have hz1006 := hb1004.size
                have ho1007 := MvO.ofS hO989
                have hkd1008 := AnsP.kd hA1003
                have hem1009 := AnsP.emp hA1003
                have hra1010 : ∀ i, (Value.slice ao999 nn1000 cp1001).ownBlock = some i → Value.ownBlock (.slice aoX nnX cpX) ≠ some i := fun i hi h1 => by have e1 := (hr1002.lt i hi).1; have e2 := (hr1005.lt i h1).2; omega
                have hB1011 := hb_call hB983 hb1004
                have hk1012 := hk984.below hb1004
                have hk1013 := hk985.below hb1004
                refine dk0 10 (v := .tuple #[.agg #[.int .i64 kk990, .int .i64 ep991, .int .i64 rq992, .int .i64 0, .bool fl997, .int .u64 at993, .int .u64 0, .int .i64 n994, .int .i64 0, .int .i64 0, .int .i64 er995, .string key996, .string (⟨#[]⟩), .int .i64 0, .slice none 0 0, .int .u64 0, .int .i64 0, .int .i64 0, .slice none 0 0, .slice none 0 0, .slice none 0 0, .slice ao999 nn1000 cp1001], .bool (decide (chkMg d = 0 ∧ (d.k = 8 ∨ d.k = 9)))]) h986 rfl rfl ⟨hB1011, hk1012, hk1013⟩ fun a1014 h1014 => ?_; clear h986
                refine dk0 11 (v := .agg #[.int .i64 kk990, .int .i64 ep991, .int .i64 rq992, .int .i64 0, .bool fl997, .int .u64 at993, .int .u64 0, .int .i64 n994, .int .i64 0, .int .i64 0, .int .i64 er995, .string key996, .string (⟨#[]⟩), .int .i64 0, .slice none 0 0, .int .u64 0, .int .i64 0, .int .i64 0, .slice none 0 0, .slice none 0 0, .slice none 0 0, .slice ao999 nn1000 cp1001]) h1014 rfl rfl ⟨hB1011, hk1012, hk1013⟩ fun a1015 h1015 => ?_; clear h1014
                refine dk0 12 (v := .bool (decide (chkMg d = 0 ∧ (d.k = 8 ∨ d.k = 9)))) h1015 rfl rfl ⟨hB1011, hk1012, hk1013⟩ fun a1016 h1016 => ?_; clear h1015
                refine d1 13 h1016 rfl rfl (op_new (v := fun N => pt N 0) (T := 37) (cs := #[.int .i64 0, .int .i64 0, .int .i64 0, .int .i64 0, .bool false, .int .u64 0, .int .u64 0, .int .i64 0, .int .i64 0, .int .i64 0, .int .i64 0, .string (⟨#[]⟩), .string (⟨#[]⟩), .int .i64 0, .slice none 0 0, .int .u64 0, .int .i64 0, .int .i64 0, .slice none 0 0, .slice none 0 0, .slice none 0 0, .slice none 0 0]) (by kernel_rfl) (by kernel_rfl) (by kernel_rfl)) ?_ ?_; clear h1016
                ·
                 rintro _ w1018 ⟨N1019, rfl, hN1022, hz1023, hk1021, hg1020⟩
                 have hr1025 := row_kept_new hr1005 (below_grown hb1004)
                 have ha1024 := row_fresh hr1025 hN1022
                 have ha1026 := row_fresh hr1002 hN1022
                 have hz1027 := hg1020.size
                 have hO1029 := MvO.gr hO989 (below_grown hb1004) (fun k e => by cases e)
                 have ho1028 := off_new (MvO.ofS hO1029) hN1022
                 have hB1030 := hb_new hB1011 hg1020
                 have hk1031 := hk1012.kept hg1020 (by simp)
                 have hk1032 := hk1013.kept hg1020 (by simp)
                 exact ⟨hB1030, hk1031, hk1032⟩
                rintro _ w1018 a1017 ⟨N1019, rfl, hN1022, hz1023, hk1021, hg1020⟩ h1017
                have hr1025 := row_kept_new hr1005 (below_grown hb1004)
                have ha1024 := row_fresh hr1025 hN1022
                have ha1026 := row_fresh hr1002 hN1022
                have hz1027 := hg1020.size
                have hO1029 := MvO.gr hO989 (below_grown hb1004) (fun k e => by cases e)
                have ho1028 := off_new (MvO.ofS hO1029) hN1022
                try dsimp only at h1017
                have hB1030 := hb_new hB1011 hg1020
                have hk1031 := hk1012.kept hg1020 (by simp)
                have hk1032 := hk1013.kept hg1020 (by simp)
                refine d1D 14 h1017 rfl rfl (op_storeN rfl rfl rfl (all_cons rfl (all_cons rfl (all_cons rfl (all_cons rfl (all_cons rfl (all_cons rfl (all_cons rfl (all_cons rfl (all_cons rfl (all_cons rfl (all_cons rfl (all_cons rfl (all_cons rfl (all_cons rfl (all_cons rfl (all_cons rfl (all_cons rfl (all_cons rfl (all_cons rfl (all_cons rfl (all_cons rfl (all_cons rfl all_nil)))))))))))))))))))))) (by kernel_rfl) hk1021 rfl) ?_ ?_; clear h1017
                ·
                 rintro _ w1034 ⟨hk1035, hz1036, hg1037⟩
                 have hk1035' : Blk w1034 N1019 37 #[.int .i64 kk990, .int .i64 ep991, .int .i64 rq992, .int .i64 0, .bool fl997, .int .u64 at993, .int .u64 0, .int .i64 n994, .int .i64 0, .int .i64 0, .int .i64 er995, .string key996, .string (⟨#[]⟩), .int .i64 0, .slice none 0 0, .int .u64 0, .int .i64 0, .int .i64 0, .slice none 0 0, .slice none 0 0, .slice none 0 0, .slice ao999 nn1000 cp1001] := hk1035; clear hk1035
                 have hz1038 := hg1037.size
                 have hB1039 := hb_at hB1030 hg1037 (by omega)
                 have hk1040 := hk1031.kept hg1037 (by simp; omega)
                 have hk1041 := hk1032.kept hg1037 (by simp; omega)
                 exact ⟨hB1039, hk1040, hk1041⟩
                rintro _ w1034 a1033 ⟨hk1035, hz1036, hg1037⟩ h1033
                have hk1035' : Blk w1034 N1019 37 #[.int .i64 kk990, .int .i64 ep991, .int .i64 rq992, .int .i64 0, .bool fl997, .int .u64 at993, .int .u64 0, .int .i64 n994, .int .i64 0, .int .i64 0, .int .i64 er995, .string key996, .string (⟨#[]⟩), .int .i64 0, .slice none 0 0, .int .u64 0, .int .i64 0, .int .i64 0, .slice none 0 0, .slice none 0 0, .slice none 0 0, .slice ao999 nn1000 cp1001] := hk1035; clear hk1035
                have hz1038 := hg1037.size
                have hB1039 := hb_at hB1030 hg1037 (by omega)
                have hk1040 := hk1031.kept hg1037 (by simp; omega)
                have hk1041 := hk1032.kept hg1037 (by simp; omega)
                refine dk0 15 (v := .bool (decide (chkMg d = 0 ∧ (d.k = 8 ∨ d.k = 9)))) h1033 rfl rfl ⟨hB1039, hk1040, hk1041⟩ fun a1042 h1042 => ?_; clear h1033
                refine dr_done (by kernel_rfl) ?_
                refine co_then ?_
                have hIm9 : kkX = 10 → kk990 = 10 → LX = L998 ∧ flX = fl997 := by
                  intro e1 e2
                  have hg1 := AnsP.got hA1 e1
                  have hg2 := AnsP.got hA1003 e2
                  have hbd1 := bd_0 hg1.1
                  have hbd2 := bd_0 hg2.1
                  have hmx1 := mxI_p h hz
                  have hmn1 := mnI_p mk la92
                  have hat3 : ∀ x, atS ((pruneF fB h) x) d.at_ = atS (f91 x) d.at_ := fun x => (prune_at hfokB (by omega) x).trans (hatB d.at_ (by omega) x)
                  obtain ⟨hps, hfl⟩ := ps_same hkA (MvO.kof hO989) hat3
                  exact ⟨by rw [hg1.2.2, hg2.2.2, hps], by rw [hg1.2.1, hg2.2.1, hfl]⟩
                have hk1043 := hk974.below hb980
                have hk1044 := hk1043.below hb1004
                have hk1045 := hk1044.kept hg1020 (by simp)
                have hk1046 := hk1045.kept hg1037 (by simp; omega)
                have hr1047 := row_kept_new hr1025 hg1020
                have hr1048 := row_kept_at hr1047 hg1037 (ha1024)
                have hr1049 := row_kept_new hr1002 hg1020
                have hr1050 := row_kept_at hr1049 hg1037 (ha1026)
                exact ⟨N1019, kk990, ep991, rq992, at993, n994, er995, key996, fl997, ao999, nn1000, cp1001, L998, h1042.sub ⟨rfl, rfl, rfl, rfl, rfl, trivial⟩, by exact hIm9, by assumption, AnsP.kd hA1003, by assumption, AnsP.emp hA1003, hk1046, hk1035', (row_lows hr1048 (by omega)), (row_lows hr1050 (by omega)), hB1039⟩
               ·
                refine dr_op (i := 13) h978 rfl rfl rfl rfl (op_new (v := fun N => pt N 0) (T := 37) (cs := #[.int .i64 0, .int .i64 0, .int .i64 0, .int .i64 0, .bool false, .int .u64 0, .int .u64 0, .int .i64 0, .int .i64 0, .int .i64 0, .int .i64 0, .string (⟨#[]⟩), .string (⟨#[]⟩), .int .i64 0, .slice none 0 0, .int .u64 0, .int .i64 0, .int .i64 0, .slice none 0 0, .slice none 0 0, .slice none 0 0, .slice none 0 0]) (by kernel_rfl) (by kernel_rfl) (by kernel_rfl)) ?_ ?_; clear h978
                ·
                 rintro _ w1052 ⟨N1053, rfl, hN1056, hz1057, hk1055, hg1054⟩
                 have hr1059 := row_kept_new hr976 (below_grown hb980)
                 have ha1058 := row_fresh hr1059 hN1056
                 have hz1060 := hg1054.size
                 have hO1062 := MvO.gr hO977 (below_grown hb980) (fun k e => by cases e)
                 have ho1061 := off_new (MvO.ofS hO1062) hN1056
                 have hB1063 := hb_new hB983 hg1054
                 have hk1064 := hk984.kept hg1054 (by simp)
                 have hk1065 := hk985.kept hg1054 (by simp)
                 exact ⟨hB1063, hk1064, hk1065⟩
                rintro _ w1052 a1051 ⟨N1053, rfl, hN1056, hz1057, hk1055, hg1054⟩ h1051
                have hr1059 := row_kept_new hr976 (below_grown hb980)
                have ha1058 := row_fresh hr1059 hN1056
                have hz1060 := hg1054.size
                have hO1062 := MvO.gr hO977 (below_grown hb980) (fun k e => by cases e)
                have ho1061 := off_new (MvO.ofS hO1062) hN1056
                try dsimp only at h1051
                have hB1063 := hb_new hB983 hg1054
                have hk1064 := hk984.kept hg1054 (by simp)
                have hk1065 := hk985.kept hg1054 (by simp)
                have hk1068 := hk974.below hb980
                have hk1069 := hk1068.kept hg1054 (by simp)
                have hO1071 := MvO.gr hO1062 hg1054 (fun k e => by cases e)
                have ho1070 := MvO.ofS hO1071
                have hr1087 := row_kept_new hr1059 hg1054
                refine d1 9 h1051 rfl rfl (op_call (args := #[pt N87 0, .agg #[.int .u64 lB, .int .u64 (mxI h hz), .int .i64 (mxI 1 0), .int .i64 (mxI 1 0)], .agg #[.int .i64 d.k, .int .i64 d.ep, .int .i64 d.rq, .int .i64 d.sr, .bool d.fg, .int .u64 d.at_, .int .u64 d.la, .int .i64 d.n, .int .i64 d.m, .int .i64 d.p, .int .i64 d.e, .string d.key, .string d.to_, .int .i64 d.cep, mv, .int .u64 d.cfl, .int .i64 d.bc, .int .i64 d.br, bv, ev, sv, pv]]) (R := fun res xw => ∃ (kk ep' rq' at' n' er : Int) (key' : ByteArray) (fl' : Bool) (ao : Option Addr) (nn cap : Nat) (L : List PairT), res = .tuple #[.agg #[.int .i64 kk, .int .i64 ep', .int .i64 rq', .int .i64 0, .bool fl', .int .u64 at', .int .u64 0, .int .i64 n', .int .i64 0, .int .i64 0, .int .i64 er, .string key', .string (⟨#[]⟩), .int .i64 0, .slice none 0 0, .int .u64 0, .int .i64 0, .int .i64 0, .slice none 0 0, .slice none 0 0, .slice none 0 0, .slice ao nn cap], .bool (decide (chkMg d = 0 ∧ (d.k = 8 ∨ d.k = 9)))] ∧ xw.ownsRow w1052.heap.size 88 2 (.slice ao nn cap) L.length (L.flatMap pairE) ∧ AnsP (pruneF fB h) d lB (mxI h hz) kk at' fl' L ∧ Below w1052.heap.size w1052 xw) rfl rfl rfl (by kernel_rfl) (by kernel_rfl) (Try.call13 _ _) (srvAnswerX S942 N87 (pruneF fB h) lB (cB - g'941) (m94 + j + 1) lB (mxI h hz) (mxI 1 0) (mxI 1 0) d mv bv ev sv pv w1052 hO1071 (by omega) (hM.below hB1063)) (by rintro e x ⟨kk, ep', rq', at', n', er, key', fl', u, L, h0, h⟩; obtain ⟨ao, nn, cap, rfl⟩ := own_sliceT h.1; exact ⟨_, h0, kk, ep', rq', at', n', er, key', fl', ao, nn, cap, L, rfl, h⟩)) ?_ ?_; clear h1051
                ·
                 rintro _ w1067 ⟨kk1072, ep1073, rq1074, at1075, n1076, er1077, key1078, fl1079, ao1081, nn1082, cp1083, L1080, rfl, hr1084, hA1085, hb1086⟩
                 have hz1088 := hb1086.size
                 have ho1089 := MvO.ofS hO1071
                 have hkd1090 := AnsP.kd hA1085
                 have hem1091 := AnsP.emp hA1085
                 have hra1092 : ∀ i, (Value.slice ao1081 nn1082 cp1083).ownBlock = some i → Value.ownBlock (.slice aoX nnX cpX) ≠ some i := fun i hi h1 => by have e1 := (hr1084.lt i hi).1; have e2 := (hr1087.lt i h1).2; omega
                 have hB1093 := hb_call hB1063 hb1086
                 have hk1094 := hk1064.below hb1086
                 have hk1095 := hk1065.below hb1086
                 exact ⟨hB1093, hk1094, hk1095⟩
                rintro _ w1067 a1066 ⟨kk1072, ep1073, rq1074, at1075, n1076, er1077, key1078, fl1079, ao1081, nn1082, cp1083, L1080, rfl, hr1084, hA1085, hb1086⟩ h1066
                have hz1088 := hb1086.size
                have ho1089 := MvO.ofS hO1071
                have hkd1090 := AnsP.kd hA1085
                have hem1091 := AnsP.emp hA1085
                have hra1092 : ∀ i, (Value.slice ao1081 nn1082 cp1083).ownBlock = some i → Value.ownBlock (.slice aoX nnX cpX) ≠ some i := fun i hi h1 => by have e1 := (hr1084.lt i hi).1; have e2 := (hr1087.lt i h1).2; omega
                have hB1093 := hb_call hB1063 hb1086
                have hk1094 := hk1064.below hb1086
                have hk1095 := hk1065.below hb1086
                refine dk0 10 (v := .tuple #[.agg #[.int .i64 kk1072, .int .i64 ep1073, .int .i64 rq1074, .int .i64 0, .bool fl1079, .int .u64 at1075, .int .u64 0, .int .i64 n1076, .int .i64 0, .int .i64 0, .int .i64 er1077, .string key1078, .string (⟨#[]⟩), .int .i64 0, .slice none 0 0, .int .u64 0, .int .i64 0, .int .i64 0, .slice none 0 0, .slice none 0 0, .slice none 0 0, .slice ao1081 nn1082 cp1083], .bool (decide (chkMg d = 0 ∧ (d.k = 8 ∨ d.k = 9)))]) h1066 rfl rfl ⟨hB1093, hk1094, hk1095⟩ fun a1096 h1096 => ?_; clear h1066
                refine dk0 11 (v := .agg #[.int .i64 kk1072, .int .i64 ep1073, .int .i64 rq1074, .int .i64 0, .bool fl1079, .int .u64 at1075, .int .u64 0, .int .i64 n1076, .int .i64 0, .int .i64 0, .int .i64 er1077, .string key1078, .string (⟨#[]⟩), .int .i64 0, .slice none 0 0, .int .u64 0, .int .i64 0, .int .i64 0, .slice none 0 0, .slice none 0 0, .slice none 0 0, .slice ao1081 nn1082 cp1083]) h1096 rfl rfl ⟨hB1093, hk1094, hk1095⟩ fun a1097 h1097 => ?_; clear h1096
                refine dk0 12 (v := .bool (decide (chkMg d = 0 ∧ (d.k = 8 ∨ d.k = 9)))) h1097 rfl rfl ⟨hB1093, hk1094, hk1095⟩ fun a1098 h1098 => ?_; clear h1097
                have hk1104 := hk1055.below hb1086
                refine d1D 14 h1098 rfl rfl (op_storeN rfl rfl rfl (all_cons rfl (all_cons rfl (all_cons rfl (all_cons rfl (all_cons rfl (all_cons rfl (all_cons rfl (all_cons rfl (all_cons rfl (all_cons rfl (all_cons rfl (all_cons rfl (all_cons rfl (all_cons rfl (all_cons rfl (all_cons rfl (all_cons rfl (all_cons rfl (all_cons rfl (all_cons rfl (all_cons rfl (all_cons rfl all_nil)))))))))))))))))))))) (by kernel_rfl) hk1104 rfl) ?_ ?_; clear h1098
                ·
                 rintro _ w1100 ⟨hk1101, hz1102, hg1103⟩
                 have hk1101' : Blk w1100 N1053 37 #[.int .i64 kk1072, .int .i64 ep1073, .int .i64 rq1074, .int .i64 0, .bool fl1079, .int .u64 at1075, .int .u64 0, .int .i64 n1076, .int .i64 0, .int .i64 0, .int .i64 er1077, .string key1078, .string (⟨#[]⟩), .int .i64 0, .slice none 0 0, .int .u64 0, .int .i64 0, .int .i64 0, .slice none 0 0, .slice none 0 0, .slice none 0 0, .slice ao1081 nn1082 cp1083] := hk1101; clear hk1101
                 have hz1105 := hg1103.size
                 have hB1106 := hb_at hB1093 hg1103 (by omega)
                 have hk1107 := hk1094.kept hg1103 (by simp; omega)
                 have hk1108 := hk1095.kept hg1103 (by simp; omega)
                 exact ⟨hB1106, hk1107, hk1108⟩
                rintro _ w1100 a1099 ⟨hk1101, hz1102, hg1103⟩ h1099
                have hk1101' : Blk w1100 N1053 37 #[.int .i64 kk1072, .int .i64 ep1073, .int .i64 rq1074, .int .i64 0, .bool fl1079, .int .u64 at1075, .int .u64 0, .int .i64 n1076, .int .i64 0, .int .i64 0, .int .i64 er1077, .string key1078, .string (⟨#[]⟩), .int .i64 0, .slice none 0 0, .int .u64 0, .int .i64 0, .int .i64 0, .slice none 0 0, .slice none 0 0, .slice none 0 0, .slice ao1081 nn1082 cp1083] := hk1101; clear hk1101
                have hz1105 := hg1103.size
                have hB1106 := hb_at hB1093 hg1103 (by omega)
                have hk1107 := hk1094.kept hg1103 (by simp; omega)
                have hk1108 := hk1095.kept hg1103 (by simp; omega)
                refine dk0 15 (v := .bool (decide (chkMg d = 0 ∧ (d.k = 8 ∨ d.k = 9)))) h1099 rfl rfl ⟨hB1106, hk1107, hk1108⟩ fun a1109 h1109 => ?_; clear h1099
                refine dr_done (by kernel_rfl) ?_
                refine co_then ?_
                have hIm9 : kkX = 10 → kk1072 = 10 → LX = L1080 ∧ flX = fl1079 := by
                  intro e1 e2
                  have hg1 := AnsP.got hA1 e1
                  have hg2 := AnsP.got hA1085 e2
                  have hbd1 := bd_0 hg1.1
                  have hbd2 := bd_0 hg2.1
                  have hmx1 := mxI_p h hz
                  have hmn1 := mnI_p mk la92
                  have hat3 : ∀ x, atS ((pruneF fB h) x) d.at_ = atS (f91 x) d.at_ := fun x => (prune_at hfokB (by omega) x).trans (hatB d.at_ (by omega) x)
                  obtain ⟨hps, hfl⟩ := ps_same hkA (MvO.kof hO1071) hat3
                  exact ⟨by rw [hg1.2.2, hg2.2.2, hps], by rw [hg1.2.1, hg2.2.1, hfl]⟩
                have hk1110 := hk1069.below hb1086
                have hk1111 := hk1110.kept hg1103 (by simp; omega)
                have hr1112 := row_kept_new hr1087 (below_grown hb1086)
                have hr1113 := row_kept_at hr1112 hg1103 (ha1058)
                have hr1114 := row_kept_at hr1084 hg1103 (own_neT hr1084 hk1104 (by decide))
                exact ⟨N1053, kk1072, ep1073, rq1074, at1075, n1076, er1077, key1078, fl1079, ao1081, nn1082, cp1083, L1080, h1109.sub ⟨rfl, rfl, rfl, rfl, rfl, trivial⟩, by exact hIm9, by assumption, AnsP.kd hA1085, by assumption, AnsP.emp hA1085, hk1111, hk1101', (row_lows hr1113 (by omega)), (row_lows hr1114 (by omega)), hB1106⟩
              ·
               refine dr_op (i := 13) h971 rfl rfl rfl rfl (op_new (v := fun N => pt N 0) (T := 37) (cs := #[.int .i64 0, .int .i64 0, .int .i64 0, .int .i64 0, .bool false, .int .u64 0, .int .u64 0, .int .i64 0, .int .i64 0, .int .i64 0, .int .i64 0, .string (⟨#[]⟩), .string (⟨#[]⟩), .int .i64 0, .slice none 0 0, .int .u64 0, .int .i64 0, .int .i64 0, .slice none 0 0, .slice none 0 0, .slice none 0 0, .slice none 0 0]) (by kernel_rfl) (by kernel_rfl) (by kernel_rfl)) ?_ ?_; clear h971
               ·
                rintro _ w1116 ⟨N1117, rfl, hN1120, hz1121, hk1119, hg1118⟩
                have ha1122 := row_fresh hr976 hN1120
                have hz1123 := hg1118.size
                have ho1124 := off_new (MvO.ofS hO977) hN1120
                have hB1125 := hb_new hB958 hg1118
                have hk1126 := hk960.kept hg1118 (by simp)
                have hk1127 := hk962.kept hg1118 (by simp)
                exact ⟨hB1125, hk1126, hk1127⟩
               rintro _ w1116 a1115 ⟨N1117, rfl, hN1120, hz1121, hk1119, hg1118⟩ h1115
               have ha1122 := row_fresh hr976 hN1120
               have hz1123 := hg1118.size
               have ho1124 := off_new (MvO.ofS hO977) hN1120
               try dsimp only at h1115
               have hB1125 := hb_new hB958 hg1118
               have hk1126 := hk960.kept hg1118 (by simp)
               have hk1127 := hk962.kept hg1118 (by simp)
               refine d1 7 h1115 rfl rfl (op_call (args := #[.int .u64 lB, .int .u64 (mxI h hz), .int .i64 1, .int .i64 1]) (R := fun res xw => res = .agg #[.int .u64 lB, .int .u64 (mxI h hz), .int .i64 (mxI 1 0), .int .i64 (mxI 1 0)] ∧ Below w1116.heap.size w1116 xw) rfl rfl rfl (by kernel_rfl) (by kernel_rfl) (Try.call12 _ _) (srvAt_any lB (mxI h hz) 1 1 w1116 ) (by rintro e x ⟨rfl, hb1130⟩; exact ⟨_, rfl, ⟨rfl, hb1130⟩⟩)) ?_ ?_; clear h1115
               ·
                rintro _ w1129 ⟨rfl, hb1130⟩
                have hz1131 := hb1130.size
                have hO1133 := MvO.gr hO977 hg1118 (fun k e => by cases e)
                have ho1132 := MvO.ofS hO1133
                have hB1134 := hb_call hB1125 hb1130
                have hk1135 := hk1126.below hb1130
                have hk1136 := hk1127.below hb1130
                exact ⟨hB1134, hk1135, hk1136⟩
               rintro _ w1129 a1128 ⟨rfl, hb1130⟩ h1128
               have hz1131 := hb1130.size
               have hO1133 := MvO.gr hO977 hg1118 (fun k e => by cases e)
               have ho1132 := MvO.ofS hO1133
               have hB1134 := hb_call hB1125 hb1130
               have hk1135 := hk1126.below hb1130
               have hk1136 := hk1127.below hb1130
               have hk1139 := hk974.kept hg1118 (by simp)
               have hk1140 := hk1139.below hb1130
               have hr1141 := row_kept_new hr976 hg1118
               have hr1142 := row_kept_new hr1141 (below_grown hb1130)
               have hO1144 := MvO.gr hO1133 (below_grown hb1130) (fun k e => by cases e)
               have ho1143 := MvO.ofS hO1144
               refine d1 9 h1128 rfl rfl (op_call (args := #[pt N87 0, .agg #[.int .u64 lB, .int .u64 (mxI h hz), .int .i64 (mxI 1 0), .int .i64 (mxI 1 0)], .agg #[.int .i64 d.k, .int .i64 d.ep, .int .i64 d.rq, .int .i64 d.sr, .bool d.fg, .int .u64 d.at_, .int .u64 d.la, .int .i64 d.n, .int .i64 d.m, .int .i64 d.p, .int .i64 d.e, .string d.key, .string d.to_, .int .i64 d.cep, mv, .int .u64 d.cfl, .int .i64 d.bc, .int .i64 d.br, bv, ev, sv, pv]]) (R := fun res xw => ∃ (kk ep' rq' at' n' er : Int) (key' : ByteArray) (fl' : Bool) (ao : Option Addr) (nn cap : Nat) (L : List PairT), res = .tuple #[.agg #[.int .i64 kk, .int .i64 ep', .int .i64 rq', .int .i64 0, .bool fl', .int .u64 at', .int .u64 0, .int .i64 n', .int .i64 0, .int .i64 0, .int .i64 er, .string key', .string (⟨#[]⟩), .int .i64 0, .slice none 0 0, .int .u64 0, .int .i64 0, .int .i64 0, .slice none 0 0, .slice none 0 0, .slice none 0 0, .slice ao nn cap], .bool (decide (chkMg d = 0 ∧ (d.k = 8 ∨ d.k = 9)))] ∧ xw.ownsRow w1129.heap.size 88 2 (.slice ao nn cap) L.length (L.flatMap pairE) ∧ AnsP (pruneF fB h) d lB (mxI h hz) kk at' fl' L ∧ Below w1129.heap.size w1129 xw) rfl rfl rfl (by kernel_rfl) (by kernel_rfl) (Try.call13 _ _) (srvAnswerX S942 N87 (pruneF fB h) lB (cB - g'941) (m94 + j + 1) lB (mxI h hz) (mxI 1 0) (mxI 1 0) d mv bv ev sv pv w1129 hO1144 (by omega) (hM.below hB1134)) (by rintro e x ⟨kk, ep', rq', at', n', er, key', fl', u, L, h0, h⟩; obtain ⟨ao, nn, cap, rfl⟩ := own_sliceT h.1; exact ⟨_, h0, kk, ep', rq', at', n', er, key', fl', ao, nn, cap, L, rfl, h⟩)) ?_ ?_; clear h1128
               ·
                rintro _ w1138 ⟨kk1145, ep1146, rq1147, at1148, n1149, er1150, key1151, fl1152, ao1154, nn1155, cp1156, L1153, rfl, hr1157, hA1158, hb1159⟩
                have hz1160 := hb1159.size
                have ho1161 := MvO.ofS hO1144
                have hkd1162 := AnsP.kd hA1158
                have hem1163 := AnsP.emp hA1158
                have hra1164 : ∀ i, (Value.slice ao1154 nn1155 cp1156).ownBlock = some i → Value.ownBlock (.slice aoX nnX cpX) ≠ some i := fun i hi h1 => by have e1 := (hr1157.lt i hi).1; have e2 := (hr1142.lt i h1).2; omega
                have hB1165 := hb_call hB1134 hb1159
                have hk1166 := hk1135.below hb1159
                have hk1167 := hk1136.below hb1159
                exact ⟨hB1165, hk1166, hk1167⟩
               rintro _ w1138 a1137 ⟨kk1145, ep1146, rq1147, at1148, n1149, er1150, key1151, fl1152, ao1154, nn1155, cp1156, L1153, rfl, hr1157, hA1158, hb1159⟩ h1137
               have hz1160 := hb1159.size
               have ho1161 := MvO.ofS hO1144
               have hkd1162 := AnsP.kd hA1158
               have hem1163 := AnsP.emp hA1158
               have hra1164 : ∀ i, (Value.slice ao1154 nn1155 cp1156).ownBlock = some i → Value.ownBlock (.slice aoX nnX cpX) ≠ some i := fun i hi h1 => by have e1 := (hr1157.lt i hi).1; have e2 := (hr1142.lt i h1).2; omega
               have hB1165 := hb_call hB1134 hb1159
               have hk1166 := hk1135.below hb1159
               have hk1167 := hk1136.below hb1159
               refine dk0 10 (v := .tuple #[.agg #[.int .i64 kk1145, .int .i64 ep1146, .int .i64 rq1147, .int .i64 0, .bool fl1152, .int .u64 at1148, .int .u64 0, .int .i64 n1149, .int .i64 0, .int .i64 0, .int .i64 er1150, .string key1151, .string (⟨#[]⟩), .int .i64 0, .slice none 0 0, .int .u64 0, .int .i64 0, .int .i64 0, .slice none 0 0, .slice none 0 0, .slice none 0 0, .slice ao1154 nn1155 cp1156], .bool (decide (chkMg d = 0 ∧ (d.k = 8 ∨ d.k = 9)))]) h1137 rfl rfl ⟨hB1165, hk1166, hk1167⟩ fun a1168 h1168 => ?_; clear h1137
               refine dk0 11 (v := .agg #[.int .i64 kk1145, .int .i64 ep1146, .int .i64 rq1147, .int .i64 0, .bool fl1152, .int .u64 at1148, .int .u64 0, .int .i64 n1149, .int .i64 0, .int .i64 0, .int .i64 er1150, .string key1151, .string (⟨#[]⟩), .int .i64 0, .slice none 0 0, .int .u64 0, .int .i64 0, .int .i64 0, .slice none 0 0, .slice none 0 0, .slice none 0 0, .slice ao1154 nn1155 cp1156]) h1168 rfl rfl ⟨hB1165, hk1166, hk1167⟩ fun a1169 h1169 => ?_; clear h1168
               refine dk0 12 (v := .bool (decide (chkMg d = 0 ∧ (d.k = 8 ∨ d.k = 9)))) h1169 rfl rfl ⟨hB1165, hk1166, hk1167⟩ fun a1170 h1170 => ?_; clear h1169
               have hk1176 := hk1119.below hb1130
               have hk1177 := hk1176.below hb1159
               refine d1D 14 h1170 rfl rfl (op_storeN rfl rfl rfl (all_cons rfl (all_cons rfl (all_cons rfl (all_cons rfl (all_cons rfl (all_cons rfl (all_cons rfl (all_cons rfl (all_cons rfl (all_cons rfl (all_cons rfl (all_cons rfl (all_cons rfl (all_cons rfl (all_cons rfl (all_cons rfl (all_cons rfl (all_cons rfl (all_cons rfl (all_cons rfl (all_cons rfl (all_cons rfl all_nil)))))))))))))))))))))) (by kernel_rfl) hk1177 rfl) ?_ ?_; clear h1170
               ·
                rintro _ w1172 ⟨hk1173, hz1174, hg1175⟩
                have hk1173' : Blk w1172 N1117 37 #[.int .i64 kk1145, .int .i64 ep1146, .int .i64 rq1147, .int .i64 0, .bool fl1152, .int .u64 at1148, .int .u64 0, .int .i64 n1149, .int .i64 0, .int .i64 0, .int .i64 er1150, .string key1151, .string (⟨#[]⟩), .int .i64 0, .slice none 0 0, .int .u64 0, .int .i64 0, .int .i64 0, .slice none 0 0, .slice none 0 0, .slice none 0 0, .slice ao1154 nn1155 cp1156] := hk1173; clear hk1173
                have hz1178 := hg1175.size
                have hB1179 := hb_at hB1165 hg1175 (by omega)
                have hk1180 := hk1166.kept hg1175 (by simp; omega)
                have hk1181 := hk1167.kept hg1175 (by simp; omega)
                exact ⟨hB1179, hk1180, hk1181⟩
               rintro _ w1172 a1171 ⟨hk1173, hz1174, hg1175⟩ h1171
               have hk1173' : Blk w1172 N1117 37 #[.int .i64 kk1145, .int .i64 ep1146, .int .i64 rq1147, .int .i64 0, .bool fl1152, .int .u64 at1148, .int .u64 0, .int .i64 n1149, .int .i64 0, .int .i64 0, .int .i64 er1150, .string key1151, .string (⟨#[]⟩), .int .i64 0, .slice none 0 0, .int .u64 0, .int .i64 0, .int .i64 0, .slice none 0 0, .slice none 0 0, .slice none 0 0, .slice ao1154 nn1155 cp1156] := hk1173; clear hk1173
               have hz1178 := hg1175.size
               have hB1179 := hb_at hB1165 hg1175 (by omega)
               have hk1180 := hk1166.kept hg1175 (by simp; omega)
               have hk1181 := hk1167.kept hg1175 (by simp; omega)
               refine dk0 15 (v := .bool (decide (chkMg d = 0 ∧ (d.k = 8 ∨ d.k = 9)))) h1171 rfl rfl ⟨hB1179, hk1180, hk1181⟩ fun a1182 h1182 => ?_; clear h1171
               refine dr_done (by kernel_rfl) ?_
               refine co_then ?_
               have hIm9 : kkX = 10 → kk1145 = 10 → LX = L1153 ∧ flX = fl1152 := by
                 intro e1 e2
                 have hg1 := AnsP.got hA1 e1
                 have hg2 := AnsP.got hA1158 e2
                 have hbd1 := bd_0 hg1.1
                 have hbd2 := bd_0 hg2.1
                 have hmx1 := mxI_p h hz
                 have hmn1 := mnI_p mk la92
                 have hat3 : ∀ x, atS ((pruneF fB h) x) d.at_ = atS (f91 x) d.at_ := fun x => (prune_at hfokB (by omega) x).trans (hatB d.at_ (by omega) x)
                 obtain ⟨hps, hfl⟩ := ps_same hkA (MvO.kof hO1144) hat3
                 exact ⟨by rw [hg1.2.2, hg2.2.2, hps], by rw [hg1.2.1, hg2.2.1, hfl]⟩
               have hk1183 := hk1140.below hb1159
               have hk1184 := hk1183.kept hg1175 (by simp; omega)
               have hr1185 := row_kept_new hr1142 (below_grown hb1159)
               have hr1186 := row_kept_at hr1185 hg1175 (ha1122)
               have hr1187 := row_kept_at hr1157 hg1175 (own_neT hr1157 hk1177 (by decide))
               exact ⟨N1117, kk1145, ep1146, rq1147, at1148, n1149, er1150, key1151, fl1152, ao1154, nn1155, cp1156, L1153, h1182.sub ⟨rfl, rfl, rfl, rfl, rfl, trivial⟩, by exact hIm9, by assumption, AnsP.kd hA1158, by assumption, AnsP.emp hA1158, hk1184, hk1173', (row_lows hr1186 (by omega)), (row_lows hr1187 (by omega)), hB1179⟩
             ·
              refine dr_op (i := 13) h970 rfl rfl rfl rfl (op_new (v := fun N => pt N 0) (T := 37) (cs := #[.int .i64 0, .int .i64 0, .int .i64 0, .int .i64 0, .bool false, .int .u64 0, .int .u64 0, .int .i64 0, .int .i64 0, .int .i64 0, .int .i64 0, .string (⟨#[]⟩), .string (⟨#[]⟩), .int .i64 0, .slice none 0 0, .int .u64 0, .int .i64 0, .int .i64 0, .slice none 0 0, .slice none 0 0, .slice none 0 0, .slice none 0 0]) (by kernel_rfl) (by kernel_rfl) (by kernel_rfl)) ?_ ?_; clear h970
              ·
               rintro _ w1189 ⟨N1190, rfl, hN1193, hz1194, hk1192, hg1191⟩
               have hr1196 := own_butS hf403 hx944.but horB
               have hr1197 := row_kept_new hr1196 hg950
               have ha1195 := row_fresh hr1197 hN1193
               have hz1198 := hg1191.size
               have hO1200 := MvO.gr hO943 hg950 (fun k e => by cases e)
               have ho1199 := off_new (MvO.ofS hO1200) hN1193
               have hB1201 := hb_new hB958 hg1191
               have hk1202 := hk960.kept hg1191 (by simp)
               have hk1203 := hk962.kept hg1191 (by simp)
               exact ⟨hB1201, hk1202, hk1203⟩
              rintro _ w1189 a1188 ⟨N1190, rfl, hN1193, hz1194, hk1192, hg1191⟩ h1188
              have hr1196 := own_butS hf403 hx944.but horB
              have hr1197 := row_kept_new hr1196 hg950
              have ha1195 := row_fresh hr1197 hN1193
              have hz1198 := hg1191.size
              have hO1200 := MvO.gr hO943 hg950 (fun k e => by cases e)
              have ho1199 := off_new (MvO.ofS hO1200) hN1193
              try dsimp only at h1188
              have hB1201 := hb_new hB958 hg1191
              have hk1202 := hk960.kept hg1191 (by simp)
              have hk1203 := hk962.kept hg1191 (by simp)
              have hk1206 := Blk.butS hk407 hx944.but hobB2
              have hk1207 := hk1206.kept hg950 (by simp)
              have hk1208 := hk1207.kept hg1191 (by simp)
              have hO1209 := MvO.gr hO1200 hg1191 (fun k e => by cases e)
              refine d1 2 h1188 rfl rfl (op_call (args := #[pt N87 0]) (R := fun res xw => res = .int .u64 lB ∧ w1189 = xw) rfl rfl rfl (by kernel_rfl) (by kernel_rfl) (Try.call24 _ _) (mvLast w1189 hO1209) (by rintro e x ⟨rfl, rfl⟩; exact ⟨_, rfl, rfl, rfl⟩)) ?_ ?_; clear h1188
              ·
               rintro _ _ ⟨rfl, rfl⟩
               exact ⟨hB1201, hk1202, hk1203⟩
              rintro _ _ a1204 ⟨rfl, rfl⟩ h1204
              refine d1 7 h1204 rfl rfl (op_call (args := #[.int .u64 lB, .int .u64 (mxI h hz), .int .i64 1, .int .i64 1]) (R := fun res xw => res = .agg #[.int .u64 lB, .int .u64 (mxI h hz), .int .i64 (mxI 1 0), .int .i64 (mxI 1 0)] ∧ Below w1189.heap.size w1189 xw) rfl rfl rfl (by kernel_rfl) (by kernel_rfl) (Try.call12 _ _) (srvAt_any lB (mxI h hz) 1 1 w1189 ) (by rintro e x ⟨rfl, hb1212⟩; exact ⟨_, rfl, ⟨rfl, hb1212⟩⟩)) ?_ ?_; clear h1204
              ·
               rintro _ w1211 ⟨rfl, hb1212⟩
               have hz1213 := hb1212.size
               have ho1214 := MvO.ofS hO1209
               have hB1215 := hb_call hB1201 hb1212
               have hk1216 := hk1202.below hb1212
               have hk1217 := hk1203.below hb1212
               exact ⟨hB1215, hk1216, hk1217⟩
              rintro _ w1211 a1210 ⟨rfl, hb1212⟩ h1210
              have hz1213 := hb1212.size
              have ho1214 := MvO.ofS hO1209
              have hB1215 := hb_call hB1201 hb1212
              have hk1216 := hk1202.below hb1212
              have hk1217 := hk1203.below hb1212
              have hr1220 := row_kept_new hr1197 hg1191
              have hr1221 := row_kept_new hr1220 (below_grown hb1212)
              have hO1223 := MvO.gr hO1209 (below_grown hb1212) (fun k e => by cases e)
              have ho1222 := MvO.ofS hO1223
              refine d1 9 h1210 rfl rfl (op_call (args := #[pt N87 0, .agg #[.int .u64 lB, .int .u64 (mxI h hz), .int .i64 (mxI 1 0), .int .i64 (mxI 1 0)], .agg #[.int .i64 d.k, .int .i64 d.ep, .int .i64 d.rq, .int .i64 d.sr, .bool d.fg, .int .u64 d.at_, .int .u64 d.la, .int .i64 d.n, .int .i64 d.m, .int .i64 d.p, .int .i64 d.e, .string d.key, .string d.to_, .int .i64 d.cep, mv, .int .u64 d.cfl, .int .i64 d.bc, .int .i64 d.br, bv, ev, sv, pv]]) (R := fun res xw => ∃ (kk ep' rq' at' n' er : Int) (key' : ByteArray) (fl' : Bool) (ao : Option Addr) (nn cap : Nat) (L : List PairT), res = .tuple #[.agg #[.int .i64 kk, .int .i64 ep', .int .i64 rq', .int .i64 0, .bool fl', .int .u64 at', .int .u64 0, .int .i64 n', .int .i64 0, .int .i64 0, .int .i64 er, .string key', .string (⟨#[]⟩), .int .i64 0, .slice none 0 0, .int .u64 0, .int .i64 0, .int .i64 0, .slice none 0 0, .slice none 0 0, .slice none 0 0, .slice ao nn cap], .bool (decide (chkMg d = 0 ∧ (d.k = 8 ∨ d.k = 9)))] ∧ xw.ownsRow w1211.heap.size 88 2 (.slice ao nn cap) L.length (L.flatMap pairE) ∧ AnsP (pruneF fB h) d lB (mxI h hz) kk at' fl' L ∧ Below w1211.heap.size w1211 xw) rfl rfl rfl (by kernel_rfl) (by kernel_rfl) (Try.call13 _ _) (srvAnswerX S942 N87 (pruneF fB h) lB (cB - g'941) (m94 + j + 1) lB (mxI h hz) (mxI 1 0) (mxI 1 0) d mv bv ev sv pv w1211 hO1223 (by omega) (hM.below hB1215)) (by rintro e x ⟨kk, ep', rq', at', n', er, key', fl', u, L, h0, h⟩; obtain ⟨ao, nn, cap, rfl⟩ := own_sliceT h.1; exact ⟨_, h0, kk, ep', rq', at', n', er, key', fl', ao, nn, cap, L, rfl, h⟩)) ?_ ?_; clear h1210
              ·
               rintro _ w1219 ⟨kk1224, ep1225, rq1226, at1227, n1228, er1229, key1230, fl1231, ao1233, nn1234, cp1235, L1232, rfl, hr1236, hA1237, hb1238⟩
               have hz1239 := hb1238.size
               have ho1240 := MvO.ofS hO1223
               have hkd1241 := AnsP.kd hA1237
               have hem1242 := AnsP.emp hA1237
               have hra1243 : ∀ i, (Value.slice ao1233 nn1234 cp1235).ownBlock = some i → Value.ownBlock (.slice aoX nnX cpX) ≠ some i := fun i hi h1 => by have e1 := (hr1236.lt i hi).1; have e2 := (hr1221.lt i h1).2; omega
               have hB1244 := hb_call hB1215 hb1238
               have hk1245 := hk1216.below hb1238
               have hk1246 := hk1217.below hb1238
               exact ⟨hB1244, hk1245, hk1246⟩
              rintro _ w1219 a1218 ⟨kk1224, ep1225, rq1226, at1227, n1228, er1229, key1230, fl1231, ao1233, nn1234, cp1235, L1232, rfl, hr1236, hA1237, hb1238⟩ h1218
              have hz1239 := hb1238.size
              have ho1240 := MvO.ofS hO1223
              have hkd1241 := AnsP.kd hA1237
              have hem1242 := AnsP.emp hA1237
              have hra1243 : ∀ i, (Value.slice ao1233 nn1234 cp1235).ownBlock = some i → Value.ownBlock (.slice aoX nnX cpX) ≠ some i := fun i hi h1 => by have e1 := (hr1236.lt i hi).1; have e2 := (hr1221.lt i h1).2; omega
              have hB1244 := hb_call hB1215 hb1238
              have hk1245 := hk1216.below hb1238
              have hk1246 := hk1217.below hb1238
              refine dk0 10 (v := .tuple #[.agg #[.int .i64 kk1224, .int .i64 ep1225, .int .i64 rq1226, .int .i64 0, .bool fl1231, .int .u64 at1227, .int .u64 0, .int .i64 n1228, .int .i64 0, .int .i64 0, .int .i64 er1229, .string key1230, .string (⟨#[]⟩), .int .i64 0, .slice none 0 0, .int .u64 0, .int .i64 0, .int .i64 0, .slice none 0 0, .slice none 0 0, .slice none 0 0, .slice ao1233 nn1234 cp1235], .bool (decide (chkMg d = 0 ∧ (d.k = 8 ∨ d.k = 9)))]) h1218 rfl rfl ⟨hB1244, hk1245, hk1246⟩ fun a1247 h1247 => ?_; clear h1218
              refine dk0 11 (v := .agg #[.int .i64 kk1224, .int .i64 ep1225, .int .i64 rq1226, .int .i64 0, .bool fl1231, .int .u64 at1227, .int .u64 0, .int .i64 n1228, .int .i64 0, .int .i64 0, .int .i64 er1229, .string key1230, .string (⟨#[]⟩), .int .i64 0, .slice none 0 0, .int .u64 0, .int .i64 0, .int .i64 0, .slice none 0 0, .slice none 0 0, .slice none 0 0, .slice ao1233 nn1234 cp1235]) h1247 rfl rfl ⟨hB1244, hk1245, hk1246⟩ fun a1248 h1248 => ?_; clear h1247
              refine dk0 12 (v := .bool (decide (chkMg d = 0 ∧ (d.k = 8 ∨ d.k = 9)))) h1248 rfl rfl ⟨hB1244, hk1245, hk1246⟩ fun a1249 h1249 => ?_; clear h1248
              have hk1255 := hk1192.below hb1212
              have hk1256 := hk1255.below hb1238
              refine d1D 14 h1249 rfl rfl (op_storeN rfl rfl rfl (all_cons rfl (all_cons rfl (all_cons rfl (all_cons rfl (all_cons rfl (all_cons rfl (all_cons rfl (all_cons rfl (all_cons rfl (all_cons rfl (all_cons rfl (all_cons rfl (all_cons rfl (all_cons rfl (all_cons rfl (all_cons rfl (all_cons rfl (all_cons rfl (all_cons rfl (all_cons rfl (all_cons rfl (all_cons rfl all_nil)))))))))))))))))))))) (by kernel_rfl) hk1256 rfl) ?_ ?_; clear h1249
              ·
               rintro _ w1251 ⟨hk1252, hz1253, hg1254⟩
               have hk1252' : Blk w1251 N1190 37 #[.int .i64 kk1224, .int .i64 ep1225, .int .i64 rq1226, .int .i64 0, .bool fl1231, .int .u64 at1227, .int .u64 0, .int .i64 n1228, .int .i64 0, .int .i64 0, .int .i64 er1229, .string key1230, .string (⟨#[]⟩), .int .i64 0, .slice none 0 0, .int .u64 0, .int .i64 0, .int .i64 0, .slice none 0 0, .slice none 0 0, .slice none 0 0, .slice ao1233 nn1234 cp1235] := hk1252; clear hk1252
               have hz1257 := hg1254.size
               have hB1258 := hb_at hB1244 hg1254 (by omega)
               have hk1259 := hk1245.kept hg1254 (by simp; omega)
               have hk1260 := hk1246.kept hg1254 (by simp; omega)
               exact ⟨hB1258, hk1259, hk1260⟩
              rintro _ w1251 a1250 ⟨hk1252, hz1253, hg1254⟩ h1250
              have hk1252' : Blk w1251 N1190 37 #[.int .i64 kk1224, .int .i64 ep1225, .int .i64 rq1226, .int .i64 0, .bool fl1231, .int .u64 at1227, .int .u64 0, .int .i64 n1228, .int .i64 0, .int .i64 0, .int .i64 er1229, .string key1230, .string (⟨#[]⟩), .int .i64 0, .slice none 0 0, .int .u64 0, .int .i64 0, .int .i64 0, .slice none 0 0, .slice none 0 0, .slice none 0 0, .slice ao1233 nn1234 cp1235] := hk1252; clear hk1252
              have hz1257 := hg1254.size
              have hB1258 := hb_at hB1244 hg1254 (by omega)
              have hk1259 := hk1245.kept hg1254 (by simp; omega)
              have hk1260 := hk1246.kept hg1254 (by simp; omega)
              refine dk0 15 (v := .bool (decide (chkMg d = 0 ∧ (d.k = 8 ∨ d.k = 9)))) h1250 rfl rfl ⟨hB1258, hk1259, hk1260⟩ fun a1261 h1261 => ?_; clear h1250
              refine dr_done (by kernel_rfl) ?_
              refine co_then ?_
              have hIm9 : kkX = 10 → kk1224 = 10 → LX = L1232 ∧ flX = fl1231 := by
                intro e1 e2
                have hg1 := AnsP.got hA1 e1
                have hg2 := AnsP.got hA1237 e2
                have hbd1 := bd_0 hg1.1
                have hbd2 := bd_0 hg2.1
                have hmx1 := mxI_p h hz
                have hmn1 := mnI_p mk la92
                have hat3 : ∀ x, atS ((pruneF fB h) x) d.at_ = atS (f91 x) d.at_ := fun x => (prune_at hfokB (by omega) x).trans (hatB d.at_ (by omega) x)
                obtain ⟨hps, hfl⟩ := ps_same hkA (MvO.kof hO1223) hat3
                exact ⟨by rw [hg1.2.2, hg2.2.2, hps], by rw [hg1.2.1, hg2.2.1, hfl]⟩
              have hk1262 := hk1208.below hb1212
              have hk1263 := hk1262.below hb1238
              have hk1264 := hk1263.kept hg1254 (by simp; omega)
              have hr1265 := row_kept_new hr1221 (below_grown hb1238)
              have hr1266 := row_kept_at hr1265 hg1254 (ha1195)
              have hr1267 := row_kept_at hr1236 hg1254 (own_neT hr1236 hk1256 (by decide))
              exact ⟨N1190, kk1224, ep1225, rq1226, at1227, n1228, er1229, key1230, fl1231, ao1233, nn1234, cp1235, L1232, h1261.sub ⟨rfl, rfl, rfl, rfl, rfl, trivial⟩, by exact hIm9, by assumption, AnsP.kd hA1237, by assumption, AnsP.emp hA1237, hk1264, hk1252', (row_lows hr1266 (by omega)), (row_lows hr1267 (by omega)), hB1258⟩
            rintro a1268 w1269 ⟨NY, kkY, epY, rqY, atY, nY, erY, keyY, flY, aoY, nnY, cpY, LY, h1268, hi1270, hi1271, hi1272, hi1273, hi1274, hf1275, hf1276, hf1277, hf1278, hB1279⟩
            have hz1280 := hB1279.size
            have hl1281 := hf1275.lt
            have hl1282 := hf1276.lt
            have hImp : kkX = 10 → kkY = 10 → LX = LY ∧ flX = flY := by assumption
            refine co_seq ?_
            refine co_seq ?_
            refine co_reg ?_
            refine pk0 (v := .bool (decide (chkMg d = 0 ∧ (d.k = 8 ∨ d.k = 9)))) h1268 rfl fun a1283 h1283 => ?_; clear h1268
            refine pk0 (v := .bool (decide (chkMg d = 0 ∧ (d.k = 8 ∨ d.k = 9)))) h1283 rfl fun a1284 h1284 => ?_; clear h1283
            refine pk0 (v := .bool ((decide (chkMg d = 0 ∧ (d.k = 8 ∨ d.k = 9))) != (decide (chkMg d = 0 ∧ (d.k = 8 ∨ d.k = 9))))) h1284 rfl fun a1285 h1285 => ?_; clear h1284
            refine pl_nil ?_
            refine co_then ?_
            have hc1286 : ((decide (chkMg d = 0 ∧ (d.k = 8 ∨ d.k = 9))) != (decide (chkMg d = 0 ∧ (d.k = 8 ∨ d.k = 9)))) = false := by first | (simp; done) | (simp; omega) | (rw [bne_eq_false_iff_eq]; omega)
            rw [hc1286] at h1285; clear hc1286
            refine co_false h1285 rfl ?_
            refine wp_skip ?_
            refine co_then ?_
            refine co_seq ?_
            refine co_seq ?_
            refine co_reg ?_
            refine pk0 (v := .bool (decide (chkMg d = 0 ∧ (d.k = 8 ∨ d.k = 9)))) h1285 rfl fun a1287 h1287 => ?_; clear h1285
            cases hc1288 : (decide (chkMg d = 0 ∧ (d.k = 8 ∨ d.k = 9)))
            ·
             rw [hc1288] at h1287
             have hp1289 : ¬ (chkMg d = 0 ∧ (d.k = 8 ∨ d.k = 9)) := of_decide_eq_false hc1288
             clear hc1288
             refine pk0 (v := .bool true) h1287 rfl fun a1290 h1290 => ?_; clear h1287
             refine pl_nil ?_
             refine co_then ?_
             refine co_true h1290 rfl ?_
             refine co_seq ?_
             refine co_reg ?_
             refine pk0 (v := pt NX 0) h1290 rfl fun a1291 h1291 => ?_; clear h1290
             refine pk (v := .int .i64 kkX) h1291 rfl (rn_load1 rfl rfl Try.isAgg3 (hf1275.cell rfl)) fun a1292 h1292 => ?_; clear h1291
             refine pk0 (v := .bool (kkX == 0)) h1292 rfl fun a1293 h1293 => ?_; clear h1292
             refine pk0 (v := .bool (kkX == 0)) h1293 rfl fun a1294 h1294 => ?_; clear h1293
             have hc1295 : (kkX == 0) = true := by first | (simp; done) | (simp; omega) | exact beq_false_of_ne (by omega) | exact beq_iff_eq.2 (by omega)
             rw [hc1295] at h1294; clear hc1295
             refine pk0 (v := pt NY 0) h1294 rfl fun a1296 h1296 => ?_; clear h1294
             refine pk (v := .int .i64 kkY) h1296 rfl (rn_load1 rfl rfl Try.isAgg3 (hf1276.cell rfl)) fun a1297 h1297 => ?_; clear h1296
             refine pk0 (v := .bool (kkY == 0)) h1297 rfl fun a1298 h1298 => ?_; clear h1297
             refine pk0 (v := .bool (kkY == 0)) h1298 rfl fun a1299 h1299 => ?_; clear h1298
             refine pk0 (v := .bool (kkY == 0)) h1299 rfl fun a1300 h1300 => ?_; clear h1299
             have hc1301 : (kkY == 0) = true := by first | (simp; done) | (simp; omega) | exact beq_false_of_ne (by omega) | exact beq_iff_eq.2 (by omega)
             rw [hc1301] at h1300; clear hc1301
             refine pw h1300 rfl (op_call (args := #[]) (R := fun res xw => res = .bool true ∧ Below w1269.heap.size w1269 xw) rfl rfl rfl (by kernel_rfl) (by kernel_rfl) (Try.call10 _ _) (awake31 w1269) (by rintro e x ⟨rfl, h⟩; exact ⟨_, rfl, rfl, h⟩)) ?_; clear h1300
             rintro _ w1303 a1302 ⟨rfl, hb1304⟩ h1302
             have hz1305 := hb1304.size
             refine pk0 (v := .bool true) h1302 rfl fun a1306 h1306 => ?_; clear h1302
             refine pk0 (v := .bool true) h1306 rfl fun a1307 h1307 => ?_; clear h1306
             refine pl_nil ?_
             refine co_then ?_
             refine wp_ret ?_
             refine co_thenR ?_
             refine co_ret1 h1307 rfl rfl ?_
             have hB1308 := hb_call hB1279 hb1304
             exact ⟨rfl, hB1308⟩
            ·
             rw [hc1288] at h1287
             have hp1309 : chkMg d = 0 ∧ (d.k = 8 ∨ d.k = 9) := of_decide_eq_true hc1288
             clear hc1288
             refine pk0 (v := .bool false) h1287 rfl fun a1310 h1310 => ?_; clear h1287
             refine pl_nil ?_
             refine co_then ?_
             refine co_false h1310 rfl ?_
             refine wp_skip ?_
             refine co_then ?_
             refine co_seq ?_
             refine co_seq ?_
             refine co_reg ?_
             refine pk0 (v := pt NX 0) h1310 rfl fun a1311 h1311 => ?_; clear h1310
             refine pk (v := .int .i64 kkX) h1311 rfl (rn_load1 rfl rfl Try.isAgg3 (hf1275.cell rfl)) fun a1312 h1312 => ?_; clear h1311
             refine pk0 (v := .bool (kkX == 7)) h1312 rfl fun a1313 h1313 => ?_; clear h1312
             refine pk0 (v := .bool (kkX == 7)) h1313 rfl fun a1314 h1314 => ?_; clear h1313
             cases hc1315 : (kkX == 7)
             ·
              rw [hc1315] at h1314
              have hp1316 : ¬ (kkX = 7) := by first | simpa using hc1315 | simpa [and_assoc] using hc1315
              clear hc1315
              refine pk0 (v := pt NY 0) h1314 rfl fun a1317 h1317 => ?_; clear h1314
              refine pk (v := .int .i64 kkY) h1317 rfl (rn_load1 rfl rfl Try.isAgg3 (hf1276.cell rfl)) fun a1318 h1318 => ?_; clear h1317
              refine pk0 (v := .bool (kkY == 7)) h1318 rfl fun a1319 h1319 => ?_; clear h1318
              refine pk0 (v := .bool (kkY == 7)) h1319 rfl fun a1320 h1320 => ?_; clear h1319
              refine pl_nil ?_
              refine co_then ?_
              cases hc1321 : (kkY == 7)
              ·
               rw [hc1321] at h1320
               have hp1322 : ¬ (kkY = 7) := by first | simpa using hc1321 | simpa [and_assoc] using hc1321
               clear hc1321
               refine co_false h1320 rfl ?_
               refine wp_skip ?_
               refine co_then ?_
               refine co_seq ?_
               refine co_reg ?_
               refine pk0 (v := pt NX 21) h1320 rfl fun a1323 h1323 => ?_; clear h1320
               refine pk (v := .slice aoX nnX cpX) h1323 rfl (rn_load1 rfl rfl Try.isAgg35 (hf1275.cell rfl)) fun a1324 h1324 => ?_; clear h1323
               refine pk0 (v := pt NY 21) h1324 rfl fun a1325 h1325 => ?_; clear h1324
               refine pk (v := .slice aoY nnY cpY) h1325 rfl (rn_load1 rfl rfl Try.isAgg35 (hf1276.cell rfl)) fun a1326 h1326 => ?_; clear h1325
               obtain ⟨hLL, hFF⟩ := hImp (by omega) (by omega)
               refine pw h1326 rfl (op_call (args := #[.slice aoX nnX cpX, .slice aoY nnY cpY]) (R := fun res xw => res = .bool true ∧ Below w1269.heap.size w1269 xw) rfl rfl rfl (by kernel_rfl) (by kernel_rfl) (Try.call25 _ _) (rsamePairs_any (.slice aoX nnX cpX) LX (.slice aoY nnY cpY) LY w1269 (row_sl hf1277 pairE_len) (row_sl hf1278 pairE_len)) (by rintro e x ⟨h0, h⟩; rw [sameP_eq hLL] at h0; exact ⟨_, h0, rfl, h⟩)) ?_; clear h1326
               rintro _ w1328 a1327 ⟨rfl, hb1329⟩ h1327
               have hz1330 := hb1329.size
               refine pk0 (v := .bool true) h1327 rfl fun a1331 h1331 => ?_; clear h1327
               refine pk0 (v := pt NX 4) h1331 rfl fun a1332 h1332 => ?_; clear h1331
               have hk1333 := hf1275.below hb1329
               refine pk (v := .bool flX) h1332 rfl (rn_load1 rfl rfl Try.isAgg4 (hk1333.cell rfl)) fun a1334 h1334 => ?_; clear h1332
               refine pk0 (v := pt NY 4) h1334 rfl fun a1335 h1335 => ?_; clear h1334
               have hk1336 := hf1276.below hb1329
               refine pk (v := .bool flY) h1335 rfl (rn_load1 rfl rfl Try.isAgg4 (hk1336.cell rfl)) fun a1337 h1337 => ?_; clear h1335
               refine pk0 (v := .bool (flX == flY)) h1337 rfl fun a1338 h1338 => ?_; clear h1337
               refine pk0 (v := .bool (flX == flY)) h1338 rfl fun a1339 h1339 => ?_; clear h1338
               refine pk0 (v := .bool (flX == flY)) h1339 rfl fun a1340 h1340 => ?_; clear h1339
               have hc1341 : (flX == flY) = true := by rw [hFF]; simp
               rw [hc1341] at h1340; clear hc1341
               refine pk0 (v := pt NX 5) h1340 rfl fun a1342 h1342 => ?_; clear h1340
               refine pk (v := .int .u64 atX) h1342 rfl (rn_load1 rfl rfl Try.isAgg23 (hk1333.cell rfl)) fun a1343 h1343 => ?_; clear h1342
               refine pk0 (v := pt NY 5) h1343 rfl fun a1344 h1344 => ?_; clear h1343
               refine pk (v := .int .u64 atY) h1344 rfl (rn_load1 rfl rfl Try.isAgg23 (hk1336.cell rfl)) fun a1345 h1345 => ?_; clear h1344
               refine pk0 (v := .bool (atX == atY)) h1345 rfl fun a1346 h1346 => ?_; clear h1345
               refine pk0 (v := .bool (atX == atY)) h1346 rfl fun a1347 h1347 => ?_; clear h1346
               refine pk0 (v := .bool (atX == atY)) h1347 rfl fun a1348 h1348 => ?_; clear h1347
               have hc1349 : (atX == atY) = true := by first | (simp; done) | (simp; omega) | exact beq_false_of_ne (by omega) | exact beq_iff_eq.2 (by omega)
               rw [hc1349] at h1348; clear hc1349
               have hB1352 := hb_call hB1279 hb1329
               refine pw h1348 rfl (op_call (args := #[]) (R := fun res xw => res = .bool true ∧ Below w1328.heap.size w1328 xw) rfl rfl rfl (by kernel_rfl) (by kernel_rfl) (Try.call10 _ _) (awake31 w1328) (by rintro e x ⟨rfl, h⟩; exact ⟨_, rfl, rfl, h⟩)) ?_; clear h1348
               rintro _ w1351 a1350 ⟨rfl, hb1353⟩ h1350
               have hz1354 := hb1353.size
               refine pk0 (v := .bool true) h1350 rfl fun a1355 h1355 => ?_; clear h1350
               refine pk0 (v := .bool true) h1355 rfl fun a1356 h1356 => ?_; clear h1355
               refine pl_nil ?_
               refine co_then ?_
               refine wp_ret ?_
               refine co_ret1 h1356 rfl rfl ?_
               have hB1357 := hb_call hB1352 hb1353
               exact ⟨rfl, hB1357⟩
              ·
               rw [hc1321] at h1320
               have hp1358 : kkY = 7 := by first | simpa using hc1321 | simpa [and_assoc] using hc1321
               clear hc1321
               refine co_true h1320 rfl ?_
               refine co_seq ?_
               refine co_reg ?_
               refine pk0 (v := pt NX 0) h1320 rfl fun a1359 h1359 => ?_; clear h1320
               refine pk (v := .int .i64 kkX) h1359 rfl (rn_load1 rfl rfl Try.isAgg3 (hf1275.cell rfl)) fun a1360 h1360 => ?_; clear h1359
               refine pk0 (v := .bool (kkX != 7)) h1360 rfl fun a1361 h1361 => ?_; clear h1360
               refine pk0 (v := .bool (kkX != 7)) h1361 rfl fun a1362 h1362 => ?_; clear h1361
               have hc1363 : (kkX != 7) = true := by first | (simp; done) | (simp; omega) | exact beq_false_of_ne (by omega) | exact beq_iff_eq.2 (by omega)
               rw [hc1363] at h1362; clear hc1363
               refine psk h1362 rfl fun a1364 h1364 => ?_; clear h1362
               refine psk h1364 rfl fun a1365 h1365 => ?_; clear h1364
               refine psk h1365 rfl fun a1366 h1366 => ?_; clear h1365
               refine psk h1366 rfl fun a1367 h1367 => ?_; clear h1366
               refine pk0 (v := .bool true) h1367 rfl fun a1368 h1368 => ?_; clear h1367
               refine pk0 (v := .bool true) h1368 rfl fun a1369 h1369 => ?_; clear h1368
               refine pk0 (v := pt NY 0) h1369 rfl fun a1370 h1370 => ?_; clear h1369
               refine pk (v := .int .i64 kkY) h1370 rfl (rn_load1 rfl rfl Try.isAgg3 (hf1276.cell rfl)) fun a1371 h1371 => ?_; clear h1370
               refine pk0 (v := .bool (kkY != 7)) h1371 rfl fun a1372 h1372 => ?_; clear h1371
               refine pk0 (v := .bool (kkY != 7)) h1372 rfl fun a1373 h1373 => ?_; clear h1372
               have hc1374 : (kkY != 7) = false := by first | (simp; done) | (simp; omega) | exact beq_false_of_ne (by omega) | exact beq_iff_eq.2 (by omega)
               rw [hc1374] at h1373; clear hc1374
               refine pk0 (v := pt NY 21) h1373 rfl fun a1375 h1375 => ?_; clear h1373
               refine pk (v := .slice aoY nnY cpY) h1375 rfl (rn_load1 rfl rfl Try.isAgg35 (hf1276.cell rfl)) fun a1376 h1376 => ?_; clear h1375
               refine pk (v := .int .i64 ((LY.length : Nat) : Int)) h1376 rfl (rn_lenOwn rfl rfl Try.underlying35 hf1278) fun a1377 h1377 => ?_; clear h1376
               refine pk0 (v := .bool (((LY.length : Nat) : Int) == 0)) h1377 rfl fun a1378 h1378 => ?_; clear h1377
               refine pk0 (v := .bool (((LY.length : Nat) : Int) == 0)) h1378 rfl fun a1379 h1379 => ?_; clear h1378
               refine pk0 (v := .bool (((LY.length : Nat) : Int) == 0)) h1379 rfl fun a1380 h1380 => ?_; clear h1379
               refine pk0 (v := .bool (((LY.length : Nat) : Int) == 0)) h1380 rfl fun a1381 h1381 => ?_; clear h1380
               have hc1382 : (((LY.length : Nat) : Int) == 0) = true := by first | (simp; done) | (simp; omega) | exact beq_false_of_ne (by omega) | exact beq_iff_eq.2 (by omega)
               rw [hc1382] at h1381; clear hc1382
               refine pw h1381 rfl (op_call (args := #[]) (R := fun res xw => res = .bool true ∧ Below w1269.heap.size w1269 xw) rfl rfl rfl (by kernel_rfl) (by kernel_rfl) (Try.call10 _ _) (awake31 w1269) (by rintro e x ⟨rfl, h⟩; exact ⟨_, rfl, rfl, h⟩)) ?_; clear h1381
               rintro _ w1384 a1383 ⟨rfl, hb1385⟩ h1383
               have hz1386 := hb1385.size
               refine pk0 (v := .bool true) h1383 rfl fun a1387 h1387 => ?_; clear h1383
               refine pk0 (v := .bool true) h1387 rfl fun a1388 h1388 => ?_; clear h1387
               refine pl_nil ?_
               refine co_then ?_
               refine wp_ret ?_
               refine co_thenR ?_
               refine co_ret1 h1388 rfl rfl ?_
               have hB1389 := hb_call hB1279 hb1385
               exact ⟨rfl, hB1389⟩
             ·
              rw [hc1315] at h1314
              have hp1390 : kkX = 7 := by first | simpa using hc1315 | simpa [and_assoc] using hc1315
              clear hc1315
              refine psk h1314 rfl fun a1391 h1391 => ?_; clear h1314
              refine psk h1391 rfl fun a1392 h1392 => ?_; clear h1391
              refine psk h1392 rfl fun a1393 h1393 => ?_; clear h1392
              refine pk0 (v := .bool true) h1393 rfl fun a1394 h1394 => ?_; clear h1393
              refine pl_nil ?_
              refine co_then ?_
              refine co_true h1394 rfl ?_
              refine co_seq ?_
              refine co_reg ?_
              refine pk0 (v := pt NX 0) h1394 rfl fun a1395 h1395 => ?_; clear h1394
              refine pk (v := .int .i64 kkX) h1395 rfl (rn_load1 rfl rfl Try.isAgg3 (hf1275.cell rfl)) fun a1396 h1396 => ?_; clear h1395
              refine pk0 (v := .bool (kkX != 7)) h1396 rfl fun a1397 h1397 => ?_; clear h1396
              refine pk0 (v := .bool (kkX != 7)) h1397 rfl fun a1398 h1398 => ?_; clear h1397
              have hc1399 : (kkX != 7) = false := by first | (simp; done) | (simp; omega) | exact beq_false_of_ne (by omega) | exact beq_iff_eq.2 (by omega)
              rw [hc1399] at h1398; clear hc1399
              refine pk0 (v := pt NX 21) h1398 rfl fun a1400 h1400 => ?_; clear h1398
              refine pk (v := .slice aoX nnX cpX) h1400 rfl (rn_load1 rfl rfl Try.isAgg35 (hf1275.cell rfl)) fun a1401 h1401 => ?_; clear h1400
              refine pk (v := .int .i64 ((LX.length : Nat) : Int)) h1401 rfl (rn_lenOwn rfl rfl Try.underlying35 hf1277) fun a1402 h1402 => ?_; clear h1401
              refine pk0 (v := .bool (((LX.length : Nat) : Int) == 0)) h1402 rfl fun a1403 h1403 => ?_; clear h1402
              refine pk0 (v := .bool (((LX.length : Nat) : Int) == 0)) h1403 rfl fun a1404 h1404 => ?_; clear h1403
              refine pk0 (v := .bool (((LX.length : Nat) : Int) == 0)) h1404 rfl fun a1405 h1405 => ?_; clear h1404
              have hc1406 : (((LX.length : Nat) : Int) == 0) = true := by first | (simp; done) | (simp; omega) | exact beq_false_of_ne (by omega) | exact beq_iff_eq.2 (by omega)
              rw [hc1406] at h1405; clear hc1406
              refine pk0 (v := pt NY 0) h1405 rfl fun a1407 h1407 => ?_; clear h1405
              refine pk (v := .int .i64 kkY) h1407 rfl (rn_load1 rfl rfl Try.isAgg3 (hf1276.cell rfl)) fun a1408 h1408 => ?_; clear h1407
              refine pk0 (v := .bool (kkY != 7)) h1408 rfl fun a1409 h1409 => ?_; clear h1408
              refine pk0 (v := .bool (kkY != 7)) h1409 rfl fun a1410 h1410 => ?_; clear h1409
              cases hc1411 : (kkY != 7)
              ·
               rw [hc1411] at h1410
               have hp1412 : ¬ (kkY ≠ 7) := by first | simpa using hc1411 | simpa [and_assoc] using hc1411
               clear hc1411
               refine pk0 (v := pt NY 21) h1410 rfl fun a1413 h1413 => ?_; clear h1410
               refine pk (v := .slice aoY nnY cpY) h1413 rfl (rn_load1 rfl rfl Try.isAgg35 (hf1276.cell rfl)) fun a1414 h1414 => ?_; clear h1413
               refine pk (v := .int .i64 ((LY.length : Nat) : Int)) h1414 rfl (rn_lenOwn rfl rfl Try.underlying35 hf1278) fun a1415 h1415 => ?_; clear h1414
               refine pk0 (v := .bool (((LY.length : Nat) : Int) == 0)) h1415 rfl fun a1416 h1416 => ?_; clear h1415
               refine pk0 (v := .bool (((LY.length : Nat) : Int) == 0)) h1416 rfl fun a1417 h1417 => ?_; clear h1416
               refine pk0 (v := .bool (((LY.length : Nat) : Int) == 0)) h1417 rfl fun a1418 h1418 => ?_; clear h1417
               refine pk0 (v := .bool (((LY.length : Nat) : Int) == 0)) h1418 rfl fun a1419 h1419 => ?_; clear h1418
               have hc1420 : (((LY.length : Nat) : Int) == 0) = true := by first | (simp; done) | (simp; omega) | exact beq_false_of_ne (by omega) | exact beq_iff_eq.2 (by omega)
               rw [hc1420] at h1419; clear hc1420
               refine pw h1419 rfl (op_call (args := #[]) (R := fun res xw => res = .bool true ∧ Below w1269.heap.size w1269 xw) rfl rfl rfl (by kernel_rfl) (by kernel_rfl) (Try.call10 _ _) (awake31 w1269) (by rintro e x ⟨rfl, h⟩; exact ⟨_, rfl, rfl, h⟩)) ?_; clear h1419
               rintro _ w1422 a1421 ⟨rfl, hb1423⟩ h1421
               have hz1424 := hb1423.size
               refine pk0 (v := .bool true) h1421 rfl fun a1425 h1425 => ?_; clear h1421
               refine pk0 (v := .bool true) h1425 rfl fun a1426 h1426 => ?_; clear h1425
               refine pl_nil ?_
               refine co_then ?_
               refine wp_ret ?_
               refine co_thenR ?_
               refine co_ret1 h1426 rfl rfl ?_
               have hB1427 := hb_call hB1279 hb1423
               exact ⟨rfl, hB1427⟩
              ·
               rw [hc1411] at h1410
               have hp1428 : kkY ≠ 7 := by first | simpa using hc1411 | simpa [and_assoc] using hc1411
               clear hc1411
               refine psk h1410 rfl fun a1429 h1429 => ?_; clear h1410
               refine psk h1429 rfl fun a1430 h1430 => ?_; clear h1429
               refine psk h1430 rfl fun a1431 h1431 => ?_; clear h1430
               refine psk h1431 rfl fun a1432 h1432 => ?_; clear h1431
               refine pk0 (v := .bool true) h1432 rfl fun a1433 h1433 => ?_; clear h1432
               refine pk0 (v := .bool true) h1433 rfl fun a1434 h1434 => ?_; clear h1433
               refine pk0 (v := .bool true) h1434 rfl fun a1435 h1435 => ?_; clear h1434
               refine pw h1435 rfl (op_call (args := #[]) (R := fun res xw => res = .bool true ∧ Below w1269.heap.size w1269 xw) rfl rfl rfl (by kernel_rfl) (by kernel_rfl) (Try.call10 _ _) (awake31 w1269) (by rintro e x ⟨rfl, h⟩; exact ⟨_, rfl, rfl, h⟩)) ?_; clear h1435
               rintro _ w1437 a1436 ⟨rfl, hb1438⟩ h1436
               have hz1439 := hb1438.size
               refine pk0 (v := .bool true) h1436 rfl fun a1440 h1440 => ?_; clear h1436
               refine pk0 (v := .bool true) h1440 rfl fun a1441 h1441 => ?_; clear h1440
               refine pl_nil ?_
               refine co_then ?_
               refine wp_ret ?_
               refine co_thenR ?_
               refine co_ret1 h1441 rfl rfl ?_
               have hB1442 := hb_call hB1279 hb1438
               exact ⟨rfl, hB1442⟩
           ·
            rw [hc934] at h933
            have hp1443 : ((j : Nat) : Int) < 30 := of_decide_eq_true hc934
            clear hc934
            refine co_true h933 rfl ?_
            refine wp_skip ?_
            refine co_then ?_
            refine co_seq ?_
            refine wp_block ?_
            refine dr_gen (fun x => Below w.heap.size w x) (by kernel_rfl) (fun w1444 hg1445 => ?_) (fun w1444 hg1445 => ?_)
            ·
             have hz1446 := hg1445.size
             have hB1447 := hb_new hB404 hg1445
             exact hB1447
            have hz1448 := hg1445.size
            have hB1449 := hb_new hB404 hg1445
            refine dk0 0 (v := pt N87 0) h933 rfl rfl hB1449 fun a1450 h1450 => ?_; clear h933
            refine dk0 1 (v := v2) h1450 rfl rfl hB1449 fun a1451 h1451 => ?_; clear h1450
            refine dk0 2 (v := .int .i64 ((j : Nat) : Int)) h1451 rfl rfl hB1449 fun a1452 h1452 => ?_; clear h1451
            obtain ⟨y1453, hy1453⟩ : ∃ z, l2[j]? = some z := ⟨_, List.getElem?_eq_getElem (by first | omega | (simp; done) | (simp; omega))⟩
            have oky1453 := hok2 _ (List.mem_of_getElem? hy1453)
            have k1454 : 0 ≤ y1453.ts := oky1453.t0
            have k1455 : y1453.ts < 18446744073709551616 := oky1453.t1
            refine dk 3 (v := pt (blkOf v2) (offOf v2 + j * 2)) h1452 rfl rfl hB1449 (fun x hx => (rn_index rfl rfl rfl Try.underlying22 Try.sizeOf62 (hs2.below hx) (by omega) (by first | omega | (simp; done) | (simp; omega)))) fun a1456 h1456 => ?_; clear h1452
            refine dk0 4 (v := pt (blkOf v2) (offOf v2 + j * 2)) h1456 rfl rfl hB1449 fun a1457 h1457 => ?_; clear h1456
            refine dk 5 (v := .int .u64 y1453.ts) h1457 rfl rfl hB1449 (fun x hx => (rn_load1 rfl rfl Try.isAgg23 ((sl_at (hs2.below hx) hy1453) 0 _ rfl))) fun a1458 h1458 => ?_; clear h1457
            refine dk0 6 (v := v2) h1458 rfl rfl hB1449 fun a1459 h1459 => ?_; clear h1458
            refine dk0 7 (v := .int .i64 ((j : Nat) : Int)) h1459 rfl rfl hB1449 fun a1460 h1460 => ?_; clear h1459
            refine dk 8 (v := pt (blkOf v2) (offOf v2 + j * 2)) h1460 rfl rfl hB1449 (fun x hx => (rn_index rfl rfl rfl Try.underlying22 Try.sizeOf62 (hs2.below hx) (by omega) (by first | omega | (simp; done) | (simp; omega)))) fun a1461 h1461 => ?_; clear h1460
            refine dk0 9 (v := pt (blkOf v2) (offOf v2 + j * 2 + 1)) h1461 rfl rfl hB1449 fun a1462 h1462 => ?_; clear h1461
            refine dk 10 (v := y1453.v) h1462 rfl rfl hB1449 (fun x hx => (rn_load1 rfl rfl Try.isAgg30 ((sl_at (hs2.below hx) hy1453) 1 _ rfl))) fun a1463 h1463 => ?_; clear h1462
            have hO1467 := MvO.gr hf402 hg1445 (fun k e => by cases e)
            have ho1466 := MvO.ofS hO1467
            have hfly1453 : y1453.l.length ≤ 20 := by first | exact FewP.at hfew hy1453 (by omega) | exact FewP.at hfew2 hy1453 (by omega)
            refine d1 11 h1463 rfl rfl (op_call (args := #[pt N87 0, .int .u64 y1453.ts, y1453.v]) (R := fun res xw => ∃ S' : Nat → Prop, res = .int .i64 (mvE lB y1453.ts y1453.l) ∧ MvO S' xw N87 (mvF fB lB y1453.ts y1453.l) (mvLa lB y1453.ts y1453.l) (mvCe lB y1453.ts cB y1453.l) (m94 + j + 1) ∧ Grew SB S' w1444 xw) rfl rfl rfl (by kernel_rfl) (by kernel_rfl) (Try.call22 _ _) (mvPut w1444 y1453.ts (y1453.v) y1453.l hO1467 (oky1453.ops.below hB1449) (sl_off oky1453.ops (opE_ne _) hlo412) (by omega) ⟨by omega, by omega⟩ (by omega)) (by rintro e x ⟨S', h0, h⟩; exact ⟨_, h0, S', rfl, h⟩)) ?_ ?_; clear h1463
            ·
             rintro _ w1465 ⟨S1468, rfl, hO1469, hx1470⟩
             have hk1471 := hk405.kept hg1445 (by simp)
             have hk1472 := hk406.kept hg1445 (by simp)
             have hk1473 := hk407.kept hg1445 (by simp)
             have hr1474 := row_kept_new hf403 hg1445
             have hlo1476 : ∀ q, S1468 q → w.heap.size ≤ q := hx1470.lo hlo412 (by omega)
             have hB1475 := hbL hB1449 hlo412 hx1470.but
             have hz1477 := hB1475.size
             have hz1478 := hx1470.but.size
             exact hB1475
            rintro _ w1465 a1464 ⟨S1468, rfl, hO1469, hx1470⟩ h1464
            have hk1471 := hk405.kept hg1445 (by simp)
            have hk1472 := hk406.kept hg1445 (by simp)
            have hk1473 := hk407.kept hg1445 (by simp)
            have hr1474 := row_kept_new hf403 hg1445
            have hlo1476 : ∀ q, S1468 q → w.heap.size ≤ q := hx1470.lo hlo412 (by omega)
            have hB1475 := hbL hB1449 hlo412 hx1470.but
            have hz1477 := hB1475.size
            have hz1478 := hx1470.but.size
            refine dr_done (by kernel_rfl) ?_
            refine co_blockN ?_
            refine co_then ?_
            refine co_reg ?_
            refine pk0 (v := .int .i64 ((j : Nat) : Int)) h1464 rfl fun a1479 h1479 => ?_; clear h1464
            refine pk (v := .int .i64 ((j + 1 : Nat) : Int)) h1479 rfl (rn_arith' rfl rfl rfl rfl rfl rfl (IntWalk.i64_in _ (by omega)) (by omega)) fun a1480 h1480 => ?_; clear h1479
            refine pk0 (v := .int .i64 ((j + 1 : Nat) : Int)) h1480 rfl fun a1481 h1481 => ?_; clear h1480
            refine pl_nil ?_
            refine co_then ?_
            refine ⟨(l2.length - (j + 1)), by omega, ?_⟩
            have hlo9 := hlo1476
            have hor9 : ∀ i, (Value.slice aoX nnX cpX).ownBlock = some i → ¬ S1468 i := (Grew.offR hx1470 hr1474 horB)
            have hob0 : ¬ S1468 N3 := (Grew.off hx1470 hobB0 hk1471.lt)
            have hob1 : ¬ S1468 N11 := (Grew.off hx1470 hobB1 hk1472.lt)
            have hob2 : ¬ S1468 NX := (Grew.off hx1470 hobB2 hk1473.lt)
            have hle9 := Int.le_trans hleB (mvLa_bd (ts := y1453.ts) (l := y1453.l) (MvO.laB hO1467) ⟨by omega, by omega⟩).2
            have hat9 := fun t ht x => (mv_keep (ts := y1453.ts) (l := y1453.l) (MvO.fok hO1467) (Int.le_trans ht hleB) x).trans (hatB t ht x)
            have hr1482 := own_butS hr1474 hx1470.but horB
            have hk1483 := Blk.butS hk1471 hx1470.but hobB0
            have hk1484 := Blk.butS hk1472 hx1470.but hobB1
            have hk1485 := Blk.butS hk1473 hx1470.but hobB2
            exact ⟨j + 1, S1468, (mvF fB lB y1453.ts y1453.l), (mvLa lB y1453.ts y1453.l), (mvCe lB y1453.ts cB y1453.l), h1481.sub ⟨rfl, rfl, rfl, rfl, rfl, rfl, rfl, rfl, rfl, rfl, trivial⟩, rfl, by omega, by omega, by exact hlo9, by exact hle9, by exact hat9, by exact hor9, by exact hob0, by exact hob1, by exact hob2, hO1469, hr1482, hB1475, hk1483, hk1484, hk1485⟩
       ·
        rw [hc82] at h81
        have hp1486 : ((d.pr.length : Nat) : Int) > 40 := of_decide_eq_true hc82
        clear hc82
        refine co_true h81 rfl ?_
        refine co_seq ?_
        refine co_reg ?_
        refine pw h81 rfl (op_call (args := #[]) (R := fun res xw => res = .bool true ∧ Below w30.heap.size w30 xw) rfl rfl rfl (by kernel_rfl) (by kernel_rfl) (Try.call10 _ _) (awake31 w30) (by rintro e x ⟨rfl, h⟩; exact ⟨_, rfl, rfl, h⟩)) ?_; clear h81
        rintro _ w1488 a1487 ⟨rfl, hb1489⟩ h1487
        have hz1490 := hb1489.size
        refine pk0 (v := .bool true) h1487 rfl fun a1491 h1491 => ?_; clear h1487
        refine pl_nil ?_
        refine co_then ?_
        refine wp_ret ?_
        refine co_thenR ?_
        refine co_ret1 h1491 rfl rfl ?_
        have hB1492 := hb_call hB45 hb1489
        exact ⟨rfl, hB1492⟩
      ·
       rw [hc75] at h74
       have hp1493 : ((d.st.length : Nat) : Int) > 20 := of_decide_eq_true hc75
       clear hc75
       refine psk h74 rfl fun a1494 h1494 => ?_; clear h74
       refine psk h1494 rfl fun a1495 h1495 => ?_; clear h1494
       refine psk h1495 rfl fun a1496 h1496 => ?_; clear h1495
       refine psk h1496 rfl fun a1497 h1497 => ?_; clear h1496
       refine pk0 (v := .bool true) h1497 rfl fun a1498 h1498 => ?_; clear h1497
       refine pl_nil ?_
       refine co_then ?_
       refine co_true h1498 rfl ?_
       refine co_seq ?_
       refine co_reg ?_
       refine pw h1498 rfl (op_call (args := #[]) (R := fun res xw => res = .bool true ∧ Below w30.heap.size w30 xw) rfl rfl rfl (by kernel_rfl) (by kernel_rfl) (Try.call10 _ _) (awake31 w30) (by rintro e x ⟨rfl, h⟩; exact ⟨_, rfl, rfl, h⟩)) ?_; clear h1498
       rintro _ w1500 a1499 ⟨rfl, hb1501⟩ h1499
       have hz1502 := hb1501.size
       refine pk0 (v := .bool true) h1499 rfl fun a1503 h1503 => ?_; clear h1499
       refine pl_nil ?_
       refine co_then ?_
       refine wp_ret ?_
       refine co_thenR ?_
       refine co_ret1 h1503 rfl rfl ?_
       have hB1504 := hb_call hB45 hb1501
       exact ⟨rfl, hB1504⟩
     ·
      rw [hc67] at h66
      have hp1505 : ((d.en.length : Nat) : Int) > 20 := of_decide_eq_true hc67
      clear hc67
      refine psk h66 rfl fun a1506 h1506 => ?_; clear h66
      refine psk h1506 rfl fun a1507 h1507 => ?_; clear h1506
      refine psk h1507 rfl fun a1508 h1508 => ?_; clear h1507
      refine psk h1508 rfl fun a1509 h1509 => ?_; clear h1508
      refine pk0 (v := .bool true) h1509 rfl fun a1510 h1510 => ?_; clear h1509
      refine pk0 (v := .bool true) h1510 rfl fun a1511 h1511 => ?_; clear h1510
      refine psk h1511 rfl fun a1512 h1512 => ?_; clear h1511
      refine psk h1512 rfl fun a1513 h1513 => ?_; clear h1512
      refine psk h1513 rfl fun a1514 h1514 => ?_; clear h1513
      refine psk h1514 rfl fun a1515 h1515 => ?_; clear h1514
      refine pk0 (v := .bool true) h1515 rfl fun a1516 h1516 => ?_; clear h1515
      refine pl_nil ?_
      refine co_then ?_
      refine co_true h1516 rfl ?_
      refine co_seq ?_
      refine co_reg ?_
      refine pw h1516 rfl (op_call (args := #[]) (R := fun res xw => res = .bool true ∧ Below w30.heap.size w30 xw) rfl rfl rfl (by kernel_rfl) (by kernel_rfl) (Try.call10 _ _) (awake31 w30) (by rintro e x ⟨rfl, h⟩; exact ⟨_, rfl, rfl, h⟩)) ?_; clear h1516
      rintro _ w1518 a1517 ⟨rfl, hb1519⟩ h1517
      have hz1520 := hb1519.size
      refine pk0 (v := .bool true) h1517 rfl fun a1521 h1521 => ?_; clear h1517
      refine pl_nil ?_
      refine co_then ?_
      refine wp_ret ?_
      refine co_thenR ?_
      refine co_ret1 h1521 rfl rfl ?_
      have hB1522 := hb_call hB45 hb1519
      exact ⟨rfl, hB1522⟩
    ·
     rw [hc59] at h58
     have hp1523 : ((d.bl.length : Nat) : Int) > 20 := of_decide_eq_true hc59
     clear hc59
     refine psk h58 rfl fun a1524 h1524 => ?_; clear h58
     refine psk h1524 rfl fun a1525 h1525 => ?_; clear h1524
     refine psk h1525 rfl fun a1526 h1526 => ?_; clear h1525
     refine psk h1526 rfl fun a1527 h1527 => ?_; clear h1526
     refine pk0 (v := .bool true) h1527 rfl fun a1528 h1528 => ?_; clear h1527
     refine pk0 (v := .bool true) h1528 rfl fun a1529 h1529 => ?_; clear h1528
     refine psk h1529 rfl fun a1530 h1530 => ?_; clear h1529
     refine psk h1530 rfl fun a1531 h1531 => ?_; clear h1530
     refine psk h1531 rfl fun a1532 h1532 => ?_; clear h1531
     refine psk h1532 rfl fun a1533 h1533 => ?_; clear h1532
     refine pk0 (v := .bool true) h1533 rfl fun a1534 h1534 => ?_; clear h1533
     refine pk0 (v := .bool true) h1534 rfl fun a1535 h1535 => ?_; clear h1534
     refine psk h1535 rfl fun a1536 h1536 => ?_; clear h1535
     refine psk h1536 rfl fun a1537 h1537 => ?_; clear h1536
     refine psk h1537 rfl fun a1538 h1538 => ?_; clear h1537
     refine psk h1538 rfl fun a1539 h1539 => ?_; clear h1538
     refine pk0 (v := .bool true) h1539 rfl fun a1540 h1540 => ?_; clear h1539
     refine pl_nil ?_
     refine co_then ?_
     refine co_true h1540 rfl ?_
     refine co_seq ?_
     refine co_reg ?_
     refine pw h1540 rfl (op_call (args := #[]) (R := fun res xw => res = .bool true ∧ Below w30.heap.size w30 xw) rfl rfl rfl (by kernel_rfl) (by kernel_rfl) (Try.call10 _ _) (awake31 w30) (by rintro e x ⟨rfl, h⟩; exact ⟨_, rfl, rfl, h⟩)) ?_; clear h1540
     rintro _ w1542 a1541 ⟨rfl, hb1543⟩ h1541
     have hz1544 := hb1543.size
     refine pk0 (v := .bool true) h1541 rfl fun a1545 h1545 => ?_; clear h1541
     refine pl_nil ?_
     refine co_then ?_
     refine wp_ret ?_
     refine co_thenR ?_
     refine co_ret1 h1545 rfl rfl ?_
     have hB1546 := hb_call hB45 hb1543
     exact ⟨rfl, hB1546⟩
   ·
    rw [hc50] at h49
    have hp1547 : ((d.cms.length : Nat) : Int) > 20 := of_decide_eq_true hc50
    clear hc50
    refine psk h49 rfl fun a1548 h1548 => ?_; clear h49
    refine psk h1548 rfl fun a1549 h1549 => ?_; clear h1548
    refine psk h1549 rfl fun a1550 h1550 => ?_; clear h1549
    refine psk h1550 rfl fun a1551 h1551 => ?_; clear h1550
    refine psk h1551 rfl fun a1552 h1552 => ?_; clear h1551
    refine pk0 (v := .bool true) h1552 rfl fun a1553 h1553 => ?_; clear h1552
    refine pk0 (v := .bool true) h1553 rfl fun a1554 h1554 => ?_; clear h1553
    refine psk h1554 rfl fun a1555 h1555 => ?_; clear h1554
    refine psk h1555 rfl fun a1556 h1556 => ?_; clear h1555
    refine psk h1556 rfl fun a1557 h1557 => ?_; clear h1556
    refine psk h1557 rfl fun a1558 h1558 => ?_; clear h1557
    refine pk0 (v := .bool true) h1558 rfl fun a1559 h1559 => ?_; clear h1558
    refine pk0 (v := .bool true) h1559 rfl fun a1560 h1560 => ?_; clear h1559
    refine psk h1560 rfl fun a1561 h1561 => ?_; clear h1560
    refine psk h1561 rfl fun a1562 h1562 => ?_; clear h1561
    refine psk h1562 rfl fun a1563 h1563 => ?_; clear h1562
    refine psk h1563 rfl fun a1564 h1564 => ?_; clear h1563
    refine pk0 (v := .bool true) h1564 rfl fun a1565 h1565 => ?_; clear h1564
    refine pk0 (v := .bool true) h1565 rfl fun a1566 h1566 => ?_; clear h1565
    refine psk h1566 rfl fun a1567 h1567 => ?_; clear h1566
    refine psk h1567 rfl fun a1568 h1568 => ?_; clear h1567
    refine psk h1568 rfl fun a1569 h1569 => ?_; clear h1568
    refine psk h1569 rfl fun a1570 h1570 => ?_; clear h1569
    refine pk0 (v := .bool true) h1570 rfl fun a1571 h1571 => ?_; clear h1570
    refine pl_nil ?_
    refine co_then ?_
    refine co_true h1571 rfl ?_
    refine co_seq ?_
    refine co_reg ?_
    refine pw h1571 rfl (op_call (args := #[]) (R := fun res xw => res = .bool true ∧ Below w30.heap.size w30 xw) rfl rfl rfl (by kernel_rfl) (by kernel_rfl) (Try.call10 _ _) (awake31 w30) (by rintro e x ⟨rfl, h⟩; exact ⟨_, rfl, rfl, h⟩)) ?_; clear h1571
    rintro _ w1573 a1572 ⟨rfl, hb1574⟩ h1572
    have hz1575 := hb1574.size
    refine pk0 (v := .bool true) h1572 rfl fun a1576 h1576 => ?_; clear h1572
    refine pl_nil ?_
    refine co_then ?_
    refine wp_ret ?_
    refine co_thenR ?_
    refine co_ret1 h1576 rfl rfl ?_
    have hB1577 := hb_call hB45 hb1574
    exact ⟨rfl, hB1577⟩
 · skip
   refine co_enter (n := 189) Try.func4 rfl rfl rfl [(0, v), (1, v2), (2, .agg #[.int .u64 mk, .int .u64 hz, .int .i64 ep, .int .i64 hd]), (3, .int .u64 h), (4, .agg #[.int .i64 d.k, .int .i64 d.ep, .int .i64 d.rq, .int .i64 d.sr, .bool d.fg, .int .u64 d.at_, .int .u64 d.la, .int .i64 d.n, .int .i64 d.m, .int .i64 d.p, .int .i64 d.e, .string d.key, .string d.to_, .int .i64 d.cep, mv, .int .u64 d.cfl, .int .i64 d.bc, .int .i64 d.br, bv, ev, sv, pv])] rfl (fun a h0 => ?_)
   refine co_seq ?_
   refine co_reg ?_
   refine pw h0 rfl (op_new (v := fun N => pt N 0) (T := 25) (cs := #[.int .u64 mk, .int .u64 hz, .int .i64 ep, .int .i64 hd]) (by kernel_rfl) (by kernel_rfl) (by kernel_rfl)) ?_; clear h0
   rintro _ w1579 a1578 ⟨N1580, rfl, hN1583, hz1584, hk1582, hg1581⟩ h1578
   have hz1585 := hg1581.size
   try dsimp only at h1578
   refine pw h1578 rfl (op_new (v := fun N => pt N 0) (T := 37) (cs := #[.int .i64 d.k, .int .i64 d.ep, .int .i64 d.rq, .int .i64 d.sr, .bool d.fg, .int .u64 d.at_, .int .u64 d.la, .int .i64 d.n, .int .i64 d.m, .int .i64 d.p, .int .i64 d.e, .string d.key, .string d.to_, .int .i64 d.cep, mv, .int .u64 d.cfl, .int .i64 d.bc, .int .i64 d.br, bv, ev, sv, pv]) (by kernel_rfl) (by kernel_rfl) (by kernel_rfl)) ?_; clear h1578
   rintro _ w1587 a1586 ⟨N1588, rfl, hN1591, hz1592, hk1590, hg1589⟩ h1586
   have hz1593 := hg1589.size
   try dsimp only at h1586
   refine pk0 (v := .bool false) h1586 rfl fun a1594 h1594 => ?_; clear h1586
   refine pl_nil ?_
   refine co_then ?_
   refine co_seq ?_
   refine co_seq ?_
   refine co_reg ?_
   refine pk0 (v := v) h1594 rfl fun a1595 h1595 => ?_; clear h1594
   have hB1598 := hb_new hB0 hg1581
   have hB1599 := hb_new hB1598 hg1589
   refine pw h1595 rfl (op_call (args := #[v]) (R := fun res xw => res = .bool (decide (FewP l 40)) ∧ Below w1587.heap.size w1587 xw) rfl rfl rfl (by kernel_rfl) (by kernel_rfl) (Try.call9 _ _) (few31_any v l w1587 (hs.below hB1599) (fun z hz => (hok z hz).below hB1599)) (by rintro e x ⟨rfl, h⟩; exact ⟨_, rfl, rfl, h⟩)) ?_; clear h1595
   rintro _ w1597 a1596 ⟨rfl, hb1600⟩ h1596
   have hz1601 := hb1600.size
   have hc1602 : (decide (FewP l 40)) = false := by simp [hfew]
   rw [hc1602] at h1596; clear hc1602
   refine pk0 (v := .bool true) h1596 rfl fun a1603 h1603 => ?_; clear h1596
   refine pk0 (v := .bool true) h1603 rfl fun a1604 h1604 => ?_; clear h1603
   refine psk h1604 rfl fun a1605 h1605 => ?_; clear h1604
   refine psk h1605 rfl fun a1606 h1606 => ?_; clear h1605
   refine psk h1606 rfl fun a1607 h1607 => ?_; clear h1606
   refine pk0 (v := .bool true) h1607 rfl fun a1608 h1608 => ?_; clear h1607
   refine pk0 (v := .bool true) h1608 rfl fun a1609 h1609 => ?_; clear h1608
   refine psk h1609 rfl fun a1610 h1610 => ?_; clear h1609
   refine psk h1610 rfl fun a1611 h1611 => ?_; clear h1610
   refine psk h1611 rfl fun a1612 h1612 => ?_; clear h1611
   refine psk h1612 rfl fun a1613 h1613 => ?_; clear h1612
   refine psk h1613 rfl fun a1614 h1614 => ?_; clear h1613
   refine pk0 (v := .bool true) h1614 rfl fun a1615 h1615 => ?_; clear h1614
   refine pk0 (v := .bool true) h1615 rfl fun a1616 h1616 => ?_; clear h1615
   refine psk h1616 rfl fun a1617 h1617 => ?_; clear h1616
   refine psk h1617 rfl fun a1618 h1618 => ?_; clear h1617
   refine psk h1618 rfl fun a1619 h1619 => ?_; clear h1618
   refine psk h1619 rfl fun a1620 h1620 => ?_; clear h1619
   refine psk h1620 rfl fun a1621 h1621 => ?_; clear h1620
   refine pk0 (v := .bool true) h1621 rfl fun a1622 h1622 => ?_; clear h1621
   refine pk0 (v := .bool true) h1622 rfl fun a1623 h1623 => ?_; clear h1622
   refine psk h1623 rfl fun a1624 h1624 => ?_; clear h1623
   refine psk h1624 rfl fun a1625 h1625 => ?_; clear h1624
   refine psk h1625 rfl fun a1626 h1626 => ?_; clear h1625
   refine psk h1626 rfl fun a1627 h1627 => ?_; clear h1626
   refine pk0 (v := .bool true) h1627 rfl fun a1628 h1628 => ?_; clear h1627
   refine pk0 (v := .bool true) h1628 rfl fun a1629 h1629 => ?_; clear h1628
   refine psk h1629 rfl fun a1630 h1630 => ?_; clear h1629
   refine psk h1630 rfl fun a1631 h1631 => ?_; clear h1630
   refine psk h1631 rfl fun a1632 h1632 => ?_; clear h1631
   refine psk h1632 rfl fun a1633 h1633 => ?_; clear h1632
   refine pk0 (v := .bool true) h1633 rfl fun a1634 h1634 => ?_; clear h1633
   refine pk0 (v := .bool true) h1634 rfl fun a1635 h1635 => ?_; clear h1634
   refine psk h1635 rfl fun a1636 h1636 => ?_; clear h1635
   refine psk h1636 rfl fun a1637 h1637 => ?_; clear h1636
   refine psk h1637 rfl fun a1638 h1638 => ?_; clear h1637
   refine psk h1638 rfl fun a1639 h1639 => ?_; clear h1638
   refine pk0 (v := .bool true) h1639 rfl fun a1640 h1640 => ?_; clear h1639
   refine pl_nil ?_
   refine co_then ?_
   refine co_true h1640 rfl ?_
   refine co_seq ?_
   refine co_reg ?_
   have hB1643 := hb_call hB1599 hb1600
   have hk1644 := hk1582.kept hg1589 (by simp)
   have hk1645 := hk1644.below hb1600
   refine pw h1640 rfl (op_call (args := #[]) (R := fun res xw => res = .bool true ∧ Below w1597.heap.size w1597 xw) rfl rfl rfl (by kernel_rfl) (by kernel_rfl) (Try.call10 _ _) (awake31 w1597) (by rintro e x ⟨rfl, h⟩; exact ⟨_, rfl, rfl, h⟩)) ?_; clear h1640
   rintro _ w1642 a1641 ⟨rfl, hb1646⟩ h1641
   have hz1647 := hb1646.size
   refine pk0 (v := .bool true) h1641 rfl fun a1648 h1648 => ?_; clear h1641
   refine pl_nil ?_
   refine co_then ?_
   refine wp_ret ?_
   refine co_thenR ?_
   refine co_ret1 h1648 rfl rfl ?_
   have hB1649 := hb_call hB1643 hb1646
   exact ⟨rfl, hB1649⟩
 · skip
   refine co_enter (n := 189) Try.func4 rfl rfl rfl [(0, v), (1, v2), (2, .agg #[.int .u64 mk, .int .u64 hz, .int .i64 ep, .int .i64 hd]), (3, .int .u64 h), (4, .agg #[.int .i64 d.k, .int .i64 d.ep, .int .i64 d.rq, .int .i64 d.sr, .bool d.fg, .int .u64 d.at_, .int .u64 d.la, .int .i64 d.n, .int .i64 d.m, .int .i64 d.p, .int .i64 d.e, .string d.key, .string d.to_, .int .i64 d.cep, mv, .int .u64 d.cfl, .int .i64 d.bc, .int .i64 d.br, bv, ev, sv, pv])] rfl (fun a h0 => ?_)
   refine co_seq ?_
   refine co_reg ?_
   refine pw h0 rfl (op_new (v := fun N => pt N 0) (T := 25) (cs := #[.int .u64 mk, .int .u64 hz, .int .i64 ep, .int .i64 hd]) (by kernel_rfl) (by kernel_rfl) (by kernel_rfl)) ?_; clear h0
   rintro _ w1651 a1650 ⟨N1652, rfl, hN1655, hz1656, hk1654, hg1653⟩ h1650
   have hz1657 := hg1653.size
   try dsimp only at h1650
   refine pw h1650 rfl (op_new (v := fun N => pt N 0) (T := 37) (cs := #[.int .i64 d.k, .int .i64 d.ep, .int .i64 d.rq, .int .i64 d.sr, .bool d.fg, .int .u64 d.at_, .int .u64 d.la, .int .i64 d.n, .int .i64 d.m, .int .i64 d.p, .int .i64 d.e, .string d.key, .string d.to_, .int .i64 d.cep, mv, .int .u64 d.cfl, .int .i64 d.bc, .int .i64 d.br, bv, ev, sv, pv]) (by kernel_rfl) (by kernel_rfl) (by kernel_rfl)) ?_; clear h1650
   rintro _ w1659 a1658 ⟨N1660, rfl, hN1663, hz1664, hk1662, hg1661⟩ h1658
   have hz1665 := hg1661.size
   try dsimp only at h1658
   refine pk0 (v := .bool false) h1658 rfl fun a1666 h1666 => ?_; clear h1658
   refine pl_nil ?_
   refine co_then ?_
   refine co_seq ?_
   refine co_seq ?_
   refine co_reg ?_
   refine pk0 (v := v) h1666 rfl fun a1667 h1667 => ?_; clear h1666
   have hB1670 := hb_new hB0 hg1653
   have hB1671 := hb_new hB1670 hg1661
   refine pw h1667 rfl (op_call (args := #[v]) (R := fun res xw => res = .bool (decide (FewP l 40)) ∧ Below w1659.heap.size w1659 xw) rfl rfl rfl (by kernel_rfl) (by kernel_rfl) (Try.call9 _ _) (few31_any v l w1659 (hs.below hB1671) (fun z hz => (hok z hz).below hB1671)) (by rintro e x ⟨rfl, h⟩; exact ⟨_, rfl, rfl, h⟩)) ?_; clear h1667
   rintro _ w1669 a1668 ⟨rfl, hb1672⟩ h1668
   have hz1673 := hb1672.size
   have hc1674 : (decide (FewP l 40)) = true := by simp [hfew, hfew2]
   rw [hc1674] at h1668; clear hc1674
   refine pk0 (v := .bool false) h1668 rfl fun a1675 h1675 => ?_; clear h1668
   refine pk0 (v := .bool false) h1675 rfl fun a1676 h1676 => ?_; clear h1675
   refine pk0 (v := v2) h1676 rfl fun a1677 h1677 => ?_; clear h1676
   have hB1680 := hb_call hB1671 hb1672
   have hk1681 := hk1654.kept hg1661 (by simp)
   have hk1682 := hk1681.below hb1672
   refine pw h1677 rfl (op_call (args := #[v2]) (R := fun res xw => res = .bool (decide (FewP l2 40)) ∧ Below w1669.heap.size w1669 xw) rfl rfl rfl (by kernel_rfl) (by kernel_rfl) (Try.call9 _ _) (few31_any v2 l2 w1669 (hs2.below hB1680) (fun z hz => (hok2 z hz).below hB1680)) (by rintro e x ⟨rfl, h⟩; exact ⟨_, rfl, rfl, h⟩)) ?_; clear h1677
   rintro _ w1679 a1678 ⟨rfl, hb1683⟩ h1678
   have hz1684 := hb1683.size
   have hc1685 : (decide (FewP l2 40)) = false := by simp [hfew, hfew2]
   rw [hc1685] at h1678; clear hc1685
   refine pk0 (v := .bool true) h1678 rfl fun a1686 h1686 => ?_; clear h1678
   refine pk0 (v := .bool true) h1686 rfl fun a1687 h1687 => ?_; clear h1686
   refine pk0 (v := .bool true) h1687 rfl fun a1688 h1688 => ?_; clear h1687
   refine psk h1688 rfl fun a1689 h1689 => ?_; clear h1688
   refine psk h1689 rfl fun a1690 h1690 => ?_; clear h1689
   refine psk h1690 rfl fun a1691 h1691 => ?_; clear h1690
   refine psk h1691 rfl fun a1692 h1692 => ?_; clear h1691
   refine psk h1692 rfl fun a1693 h1693 => ?_; clear h1692
   refine pk0 (v := .bool true) h1693 rfl fun a1694 h1694 => ?_; clear h1693
   refine pk0 (v := .bool true) h1694 rfl fun a1695 h1695 => ?_; clear h1694
   refine psk h1695 rfl fun a1696 h1696 => ?_; clear h1695
   refine psk h1696 rfl fun a1697 h1697 => ?_; clear h1696
   refine psk h1697 rfl fun a1698 h1698 => ?_; clear h1697
   refine psk h1698 rfl fun a1699 h1699 => ?_; clear h1698
   refine psk h1699 rfl fun a1700 h1700 => ?_; clear h1699
   refine pk0 (v := .bool true) h1700 rfl fun a1701 h1701 => ?_; clear h1700
   refine pk0 (v := .bool true) h1701 rfl fun a1702 h1702 => ?_; clear h1701
   refine psk h1702 rfl fun a1703 h1703 => ?_; clear h1702
   refine psk h1703 rfl fun a1704 h1704 => ?_; clear h1703
   refine psk h1704 rfl fun a1705 h1705 => ?_; clear h1704
   refine psk h1705 rfl fun a1706 h1706 => ?_; clear h1705
   refine pk0 (v := .bool true) h1706 rfl fun a1707 h1707 => ?_; clear h1706
   refine pk0 (v := .bool true) h1707 rfl fun a1708 h1708 => ?_; clear h1707
   refine psk h1708 rfl fun a1709 h1709 => ?_; clear h1708
   refine psk h1709 rfl fun a1710 h1710 => ?_; clear h1709
   refine psk h1710 rfl fun a1711 h1711 => ?_; clear h1710
   refine psk h1711 rfl fun a1712 h1712 => ?_; clear h1711
   refine pk0 (v := .bool true) h1712 rfl fun a1713 h1713 => ?_; clear h1712
   refine pk0 (v := .bool true) h1713 rfl fun a1714 h1714 => ?_; clear h1713
   refine psk h1714 rfl fun a1715 h1715 => ?_; clear h1714
   refine psk h1715 rfl fun a1716 h1716 => ?_; clear h1715
   refine psk h1716 rfl fun a1717 h1717 => ?_; clear h1716
   refine psk h1717 rfl fun a1718 h1718 => ?_; clear h1717
   refine pk0 (v := .bool true) h1718 rfl fun a1719 h1719 => ?_; clear h1718
   refine pl_nil ?_
   refine co_then ?_
   refine co_true h1719 rfl ?_
   refine co_seq ?_
   refine co_reg ?_
   have hB1722 := hb_call hB1680 hb1683
   have hk1723 := hk1662.below hb1672
   have hk1724 := hk1723.below hb1683
   refine pw h1719 rfl (op_call (args := #[]) (R := fun res xw => res = .bool true ∧ Below w1679.heap.size w1679 xw) rfl rfl rfl (by kernel_rfl) (by kernel_rfl) (Try.call10 _ _) (awake31 w1679) (by rintro e x ⟨rfl, h⟩; exact ⟨_, rfl, rfl, h⟩)) ?_; clear h1719
   rintro _ w1721 a1720 ⟨rfl, hb1725⟩ h1720
   have hz1726 := hb1725.size
   refine pk0 (v := .bool true) h1720 rfl fun a1727 h1727 => ?_; clear h1720
   refine pl_nil ?_
   refine co_then ?_
   refine wp_ret ?_
   refine co_thenR ?_
   refine co_ret1 h1727 rfl rfl ?_
   have hB1728 := hb_call hB1722 hb1725
   exact ⟨rfl, hB1728⟩
end Go.Proofs.Ytbjbcbbhmbpndaa

/- catenalaw31: ServeStays, as the closing text wants it. Conditions: none. -/
namespace Go.Proofs.Ytbjbcbbhmbpndaa
open Go.RowKit Go.PlainAid
set_option linter.unusedVariables false
set_option linter.unusedSimpArgs false


structure ViewT where
  mrk : Int
  hz : Int
  ep : Int
  hd : Int
def viewV (x : ViewT) : Value := .agg #[.int .u64 x.mrk, .int .u64 x.hz, .int .i64 x.ep, .int .i64 x.hd]
structure ViewOk (x : ViewT) : Prop where
  mrk : 0 ≤ x.mrk ∧ x.mrk < 18446744073709551616
  hz : 0 ≤ x.hz ∧ x.hz < 18446744073709551616
open Go.ChangeShapes Go.WideShapes Go.Deep in
set_option maxRecDepth 10000 in
theorem open_view {H : Type} {enc : TypeId × Value → H} {w W0 : World} {base b0 : Nat} {spare : Nat → Bool} {held : Bool} {r : Reach} {v : Value} {n : Nat} {x : DataW H × List MemPlace}
    (hv : Value.okWide Try.prog w r b0 25 v) (h : DataW.trod enc Try.prog W0 base spare held n 25 v.cells.toList = some x) :
    ∃ y : ViewT, v = viewV y ∧ ViewOk y := by
  obtain ⟨cs, rfl, hsz⟩ := okWide_struct Try.underlying25 hv
  obtain ⟨hl, m, hf⟩ := trod_fields Try.underlying25 (by kernel_rfl) (by kernel_rfl) h
  obtain ⟨cl⟩ := cs
  have hl4 : cl.length = 4 := hl
  clear hl
  match cl, hl4 with
  | [c0, c1, c2, c3], _ =>
    obtain ⟨_, y0, e0, h0⟩ := hf 0 _ rfl
    obtain ⟨_, y1, e1, h1⟩ := hf 1 _ rfl
    obtain ⟨_, y2, e2, h2⟩ := hf 2 _ rfl
    obtain ⟨_, y3, e3, h3⟩ := hf 3 _ rfl
    cases e0; cases e1; cases e2; cases e3
    obtain ⟨a, e0, _, w0⟩ := DataW.trod_int Try.underlying23 h0
    obtain ⟨b, e1, _, w1⟩ := DataW.trod_int Try.underlying23 h1
    obtain ⟨c, e2, _, _⟩ := DataW.trod_int Try.underlying3 h2
    obtain ⟨d, e3, _, _⟩ := DataW.trod_int Try.underlying3 h3
    simp only [List.cons.injEq, and_true] at e0 e1 e2 e3
    subst e0 e1 e2 e3
    exact ⟨⟨a, b, c, d⟩, rfl, wf_u64 w0, wf_u64 w1⟩
theorem serveStays_law (v : Value) (l : List PutT) (v2 : Value) (l2 : List PutT) (vw : ViewT) (h : Int) (y : MsgX) (w : World) (hs : SliceOf putTE 2 w v l) (hok : ∀ z ∈ l, PutOk w z) (hs2 : SliceOf putTE 2 w v2 l2) (hok2 : ∀ z ∈ l2, PutOk w z) (hv : ViewOk vw) (hh : (Lit.int .u64 h).wf = true) (hM : MsgOk w y) :
    Calls Try.prog 4 #[v, v2, viewV vw, .int .u64 h, msgV y] w fun e w' => e = .returned (.bool true) ∧ Below w.heap.size w w' :=
  serveStays_any v l v2 l2 vw.mrk vw.hz vw.ep vw.hd h y.d y.mv y.bv y.ev y.sv y.pv w hs hok hs2 hok2 hM.hm hM.hb hM.he hM.ht hM.hp hM ⟨hv.mrk.1, hv.mrk.2, hv.hz.1, hv.hz.2, (wf_u64 hh).1, (wf_u64 hh).2⟩

end Go.Proofs.Ytbjbcbbhmbpndaa
