/- Package tree: upLeft, upRight. Conditions: depths of at most 1000000. -/
import Derived.Test.YtfjhlckklgeokaaTrcA
namespace Go.Proofs.Ytfjhlckklgeokaa
open Go.RowKit Go.PlainAid
set_option linter.unusedVariables false
set_option linter.unusedSimpArgs false


section
variable {a b : Nat} {l r t u : Tm} {k : ByteArray} {v : SlT} {d : Int}
theorem nin_nil : a ∉ bk Tm.nil := by simp [bk]
theorem nin_nd (h : a ≠ b) (hl : a ∉ bk l) (hr : a ∉ bk r) : a ∉ bk (Tm.nd b l k v d r) := by simp [bk, h, hl, hr]
theorem dis_nil : ∀ q ∈ bk Tm.nil, q ∉ bk t := fun q hq => by simp [bk] at hq
theorem dis_symm (h : ∀ q ∈ bk t, q ∉ bk u) : ∀ q ∈ bk u, q ∉ bk t := fun q hq hq2 => h q hq2 hq
theorem dis_nd (h : b ∉ bk u) (hl : ∀ q ∈ bk l, q ∉ bk u) (hr : ∀ q ∈ bk r, q ∉ bk u) : ∀ q ∈ bk (Tm.nd b l k v d r), q ∉ bk u := fun q hq => by
  simp only [bk, List.mem_cons, List.mem_append] at hq
  rcases hq with rfl | hq | hq
  · exact h
  · exact hl q hq
  · exact hr q hq
theorem nd_ap (h : (bk (Tm.nd b l k v d r)).Nodup) : b ∉ bk l ∧ b ∉ bk r ∧ (bk l).Nodup ∧ (bk r).Nodup ∧ ∀ q ∈ bk l, q ∉ bk r := by
  simp only [bk, List.nodup_cons, List.mem_append, not_or, List.nodup_append] at h
  exact ⟨h.1.1, h.1.2, h.2.1, h.2.2.1, fun q hq hq2 => h.2.2.2 q hq q hq2 rfl⟩
theorem nd_ap' (h1 : b ∉ bk l) (h2 : b ∉ bk r) (h3 : (bk l).Nodup) (h4 : (bk r).Nodup) (h5 : ∀ q ∈ bk l, q ∉ bk r) : (bk (Tm.nd b l k v d r)).Nodup := by
  simp only [bk, List.nodup_cons, List.mem_append, not_or, List.nodup_append]
  exact ⟨⟨h1, h2⟩, h3, h4, fun q hq q2 hq2 e => h5 q hq (e ▸ hq2)⟩
end

set_option maxRecDepth 100000 in
theorem upL_any (b : Nat) (c : Nat) (ll : Tm) (k2 : ByteArray) (v2 : SlT) (d2 : Int) (lr : Tm) (k : ByteArray) (v : SlT) (d : Int) (r : Tm) (w : World) (hB : Blk w b 89 #[.string k, .slice v.a v.n v.c, .int .i64 d, pt c 0, (ptT r)]) (hC : Blk w c 89 #[.string k2, .slice v2.a v2.n v2.c, .int .i64 d2, (ptT ll), (ptT lr)]) (hll : TreeAt w ll) (hlr : TreeAt w lr) (hr : TreeAt w r) (hne : b ≠ c) (hbll : b ∉ bk ll) (hblr : b ∉ bk lr) (hbr : b ∉ bk r) (hcll : c ∉ bk ll) (hclr : c ∉ bk lr) (hcr : c ∉ bk r) (hdll : 0 ≤ dp ll ∧ dp ll ≤ 990000) (hdlr : 0 ≤ dp lr ∧ dp lr ≤ 990000) (hdr : 0 ≤ dp r ∧ dp r ≤ 990000) :
    Calls Try.prog 61 #[pt b 0] w fun e w' => e = .returned (pt c 0) ∧ Blk w' b 89 #[.string k, .slice v.a v.n v.c, .int .i64 (1 + mx (dp lr) (dp r)), ptT lr, ptT r] ∧ Blk w' c 89 #[.string k2, .slice v2.a v2.n v2.c, .int .i64 (1 + mx (dp ll) (1 + mx (dp lr) (dp r))), ptT ll, pt b 0] ∧ But (fun q => q = b ∨ q = c) w w' := by
 have hB0 := But.refl (fun q => q = b ∨ q = c) w
 have hl_hB := hB.lt
 have hl_hC := hC.lt
 have hSb : (fun q => q = b ∨ q = c) b ∨ w.heap.size ≤ b := .inl (.inl rfl)
 have hSc : (fun q => q = b ∨ q = c) c ∨ w.heap.size ≤ c := .inl (.inr rfl)
 refine co_enter (n := 24) Try.func61 rfl rfl rfl [(0, pt b 0)] rfl (fun a h0 => ?_)
 refine co_seq ?_
 refine co_reg ?_
 refine pk0 (v := .pointer none) h0 rfl fun a1 h1 => ?_; clear h0
 refine pl_nil ?_
 refine co_then ?_
 refine co_seq ?_
 refine co_reg ?_
 refine pk0 (v := pt b 0) h1 rfl fun a2 h2 => ?_; clear h1
 refine pk0 (v := pt b 0) h2 rfl fun a3 h3 => ?_; clear h2
 refine pk0 (v := pt b 3) h3 rfl fun a4 h4 => ?_; clear h3
 refine pk (v := pt c 0) h4 rfl (rn_load1 rfl rfl Try.isAgg84 (hB.cell rfl)) fun a5 h5 => ?_; clear h4
 refine pk0 (v := pt c 0) h5 rfl fun a6 h6 => ?_; clear h5
 refine pl_nil ?_
 refine co_then ?_
 refine co_seq ?_
 refine co_reg ?_
 refine pk0 (v := pt b 0) h6 rfl fun a7 h7 => ?_; clear h6
 refine pk0 (v := pt c 0) h7 rfl fun a8 h8 => ?_; clear h7
 refine pk0 (v := pt c 0) h8 rfl fun a9 h9 => ?_; clear h8
 refine pk0 (v := pt c 0) h9 rfl fun a10 h10 => ?_; clear h9
 refine pk0 (v := pt c 4) h10 rfl fun a11 h11 => ?_; clear h10
 refine pk (v := (ptT lr)) h11 rfl (rn_load1 rfl rfl Try.isAgg84 (hC.cell rfl)) fun a12 h12 => ?_; clear h11
 refine pk0 (v := pt b 0) h12 rfl fun a13 h13 => ?_; clear h12
 refine pk0 (v := pt b 0) h13 rfl fun a14 h14 => ?_; clear h13
 refine pk0 (v := pt b 3) h14 rfl fun a15 h15 => ?_; clear h14
 refine pwD h15 rfl (op_store1 rfl rfl rfl (ptT_one _) Try.sizeOf84 hB rfl) ?_; clear h15
 rintro _ w17 a16 ⟨hk18, hz19, hg20⟩ h16
 have hk18' : Blk w17 b 89 #[.string k, .slice v.a v.n v.c, .int .i64 d, (ptT lr), (ptT r)] := hk18; clear hk18
 have hz21 := hg20.size
 refine pk0 (v := pt c 0) h16 rfl fun a22 h22 => ?_; clear h16
 refine pk0 (v := pt c 4) h22 rfl fun a23 h23 => ?_; clear h22
 have hk29 := hC.kept hg20 (by simp; omega)
 refine pwD h23 rfl (op_store1 rfl rfl rfl rfl Try.sizeOf84 hk29 rfl) ?_; clear h23
 rintro _ w25 a24 ⟨hk26, hz27, hg28⟩ h24
 have hk26' : Blk w25 c 89 #[.string k2, .slice v2.a v2.n v2.c, .int .i64 d2, (ptT ll), pt b 0] := hk26; clear hk26
 have hz30 := hg28.size
 refine pl_nil ?_
 refine co_then ?_
 refine co_seq ?_
 refine co_reg ?_
 refine pk0 (v := pt b 0) h24 rfl fun a31 h31 => ?_; clear h24
 have hB34 := fbU_at hB0 hg20 (fun hlt => by rcases hSb with hq | hq; exact hq; omega)
 have hB35 := fbU_at hB34 hg28 (fun hlt => by rcases hSc with hq | hq; exact hq; omega)
 have hT36 := hll.gr hg20 (fun q e => by cases e; exact hbll)
 have hT37 := hT36.gr hg28 (fun q e => by cases e; exact hcll)
 have hT38 := hlr.gr hg20 (fun q e => by cases e; exact hblr)
 have hT39 := hT38.gr hg28 (fun q e => by cases e; exact hclr)
 have hT40 := hr.gr hg20 (fun q e => by cases e; exact hbr)
 have hT41 := hT40.gr hg28 (fun q e => by cases e; exact hcr)
 have hk46 := hk18'.kept hg28 (by simp; omega)
 refine pw h31 rfl (op_call (args := #[pt b 0]) (R := fun res xw => res = .tuple #[] ∧ Blk xw b 89 #[.string k, .slice v.a v.n v.c, .int .i64 (1 + mx (dp lr) (dp r)), (ptT lr), (ptT r)] ∧ But (fun q => q = b) w25 xw) rfl rfl rfl (by kernel_rfl) (by kernel_rfl) (Try.call62 _ _) (measure_any b lr k v d r w25 hk46 hT39 hT41 hblr hbr (show 0 ≤ (dp lr) ∧ (dp lr) ≤ 1000000 from ⟨by omega, by omega⟩) (show 0 ≤ (dp r) ∧ (dp r) ≤ 1000000 from ⟨by omega, by omega⟩)) (by rintro e x ⟨rfl, h1, h2⟩; exact ⟨_, rfl, rfl, h1, h2⟩)) ?_; clear h31
 rintro _ w33 a32 ⟨rfl, hq42, hb43⟩ h32
 obtain ⟨d44, hd45⟩ : ∃ z : Int, z = 1 + mx (dp lr) (dp r) := ⟨_, rfl⟩; rw [← hd45] at hq42
 have hd45b := mx_bd3 (a := (dp lr)) (b := (dp r))
 have hB47 := fbU_foot hB35 hb43 (fun i hi hS => by rcases hS with rfl; first | exact .inl rfl | exact .inr rfl)
 have hz48 := hb43.size
 refine pl_nil ?_
 refine co_then ?_
 refine co_seq ?_
 refine co_reg ?_
 refine pk0 (v := pt c 0) h32 rfl fun a49 h49 => ?_; clear h32
 have hT52 := TreeAt.but hT37 hb43 (fun q hq => (fun e : q = b => hbll (e ▸ hq)))
 have hT53 := TreeAt.but hT39 hb43 (fun q hq => (fun e : q = b => hblr (e ▸ hq)))
 have hT54 := TreeAt.but hT41 hb43 (fun q hq => (fun e : q = b => hbr (e ▸ hq)))
 have hk59 := Blk.butS hk26' hb43 (fun hq => absurd hq (Ne.symm hne))
 refine pw h49 rfl (op_call (args := #[pt c 0]) (R := fun res xw => res = .tuple #[] ∧ Blk xw c 89 #[.string k2, .slice v2.a v2.n v2.c, .int .i64 (1 + mx (dp ll) d44), (ptT ll), pt b 0] ∧ But (fun q => q = c) w33 xw) rfl rfl rfl (by kernel_rfl) (by kernel_rfl) (Try.call62 _ _) (measure_any c ll k2 v2 d2 (Tm.nd b lr k v d44 r) w33 hk59 hT52 ⟨hq42, hT53, hT54⟩ hcll (nin_nd (Ne.symm hne) hclr hcr) (show 0 ≤ (dp ll) ∧ (dp ll) ≤ 1000000 from ⟨by omega, by omega⟩) (show 0 ≤ d44 ∧ d44 ≤ 1000000 from ⟨by omega, by omega⟩)) (by rintro e x ⟨rfl, h1, h2⟩; exact ⟨_, rfl, rfl, h1, h2⟩)) ?_; clear h49
 rintro _ w51 a50 ⟨rfl, hq55, hb56⟩ h50
 obtain ⟨d57, hd58⟩ : ∃ z : Int, z = 1 + mx (dp ll) d44 := ⟨_, rfl⟩; rw [← hd58] at hq55
 have hd58b := mx_bd3 (a := (dp ll)) (b := d44)
 have hB60 := fbU_foot hB47 hb56 (fun i hi hS => by rcases hS with rfl; first | exact .inl rfl | exact .inr rfl)
 have hz61 := hb56.size
 refine pl_nil ?_
 refine co_then ?_
 refine co_seq ?_
 refine co_reg ?_
 refine pk0 (v := pt c 0) h50 rfl fun a62 h62 => ?_; clear h50
 refine pk0 (v := pt c 0) h62 rfl fun a63 h63 => ?_; clear h62
 refine pl_nil ?_
 refine co_then ?_
 refine wp_ret ?_
 refine co_ret1 h63 rfl rfl ?_
 have hk64 := Blk.butS hq42 hb56 (fun hq => absurd hq hne)
 subst hd58; subst hd45
 exact ⟨rfl, hk64, hq55, hB60⟩
set_option maxRecDepth 100000 in
theorem upR_any (b : Nat) (c : Nat) (ll : Tm) (k2 : ByteArray) (v2 : SlT) (d2 : Int) (lr : Tm) (k : ByteArray) (v : SlT) (d : Int) (r : Tm) (w : World) (hB : Blk w b 89 #[.string k, .slice v.a v.n v.c, .int .i64 d, (ptT r), pt c 0]) (hC : Blk w c 89 #[.string k2, .slice v2.a v2.n v2.c, .int .i64 d2, (ptT lr), (ptT ll)]) (hll : TreeAt w ll) (hlr : TreeAt w lr) (hr : TreeAt w r) (hne : b ≠ c) (hbll : b ∉ bk ll) (hblr : b ∉ bk lr) (hbr : b ∉ bk r) (hcll : c ∉ bk ll) (hclr : c ∉ bk lr) (hcr : c ∉ bk r) (hdll : 0 ≤ dp ll ∧ dp ll ≤ 990000) (hdlr : 0 ≤ dp lr ∧ dp lr ≤ 990000) (hdr : 0 ≤ dp r ∧ dp r ≤ 990000) :
    Calls Try.prog 60 #[pt b 0] w fun e w' => e = .returned (pt c 0) ∧ Blk w' b 89 #[.string k, .slice v.a v.n v.c, .int .i64 (1 + mx (dp r) (dp lr)), ptT r, ptT lr] ∧ Blk w' c 89 #[.string k2, .slice v2.a v2.n v2.c, .int .i64 (1 + mx (1 + mx (dp r) (dp lr)) (dp ll)), pt b 0, ptT ll] ∧ But (fun q => q = b ∨ q = c) w w' := by
 have hB0 := But.refl (fun q => q = b ∨ q = c) w
 have hl_hB := hB.lt
 have hl_hC := hC.lt
 have hSb : (fun q => q = b ∨ q = c) b ∨ w.heap.size ≤ b := .inl (.inl rfl)
 have hSc : (fun q => q = b ∨ q = c) c ∨ w.heap.size ≤ c := .inl (.inr rfl)
 refine co_enter (n := 24) Try.func60 rfl rfl rfl [(0, pt b 0)] rfl (fun a h0 => ?_)
 refine co_seq ?_
 refine co_reg ?_
 refine pk0 (v := .pointer none) h0 rfl fun a1 h1 => ?_; clear h0
 refine pl_nil ?_
 refine co_then ?_
 refine co_seq ?_
 refine co_reg ?_
 refine pk0 (v := pt b 0) h1 rfl fun a2 h2 => ?_; clear h1
 refine pk0 (v := pt b 0) h2 rfl fun a3 h3 => ?_; clear h2
 refine pk0 (v := pt b 4) h3 rfl fun a4 h4 => ?_; clear h3
 refine pk (v := pt c 0) h4 rfl (rn_load1 rfl rfl Try.isAgg84 (hB.cell rfl)) fun a5 h5 => ?_; clear h4
 refine pk0 (v := pt c 0) h5 rfl fun a6 h6 => ?_; clear h5
 refine pl_nil ?_
 refine co_then ?_
 refine co_seq ?_
 refine co_reg ?_
 refine pk0 (v := pt b 0) h6 rfl fun a7 h7 => ?_; clear h6
 refine pk0 (v := pt c 0) h7 rfl fun a8 h8 => ?_; clear h7
 refine pk0 (v := pt c 0) h8 rfl fun a9 h9 => ?_; clear h8
 refine pk0 (v := pt c 0) h9 rfl fun a10 h10 => ?_; clear h9
 refine pk0 (v := pt c 3) h10 rfl fun a11 h11 => ?_; clear h10
 refine pk (v := (ptT lr)) h11 rfl (rn_load1 rfl rfl Try.isAgg84 (hC.cell rfl)) fun a12 h12 => ?_; clear h11
 refine pk0 (v := pt b 0) h12 rfl fun a13 h13 => ?_; clear h12
 refine pk0 (v := pt b 0) h13 rfl fun a14 h14 => ?_; clear h13
 refine pk0 (v := pt b 4) h14 rfl fun a15 h15 => ?_; clear h14
 refine pwD h15 rfl (op_store1 rfl rfl rfl (ptT_one _) Try.sizeOf84 hB rfl) ?_; clear h15
 rintro _ w17 a16 ⟨hk18, hz19, hg20⟩ h16
 have hk18' : Blk w17 b 89 #[.string k, .slice v.a v.n v.c, .int .i64 d, (ptT r), (ptT lr)] := hk18; clear hk18
 have hz21 := hg20.size
 refine pk0 (v := pt c 0) h16 rfl fun a22 h22 => ?_; clear h16
 refine pk0 (v := pt c 3) h22 rfl fun a23 h23 => ?_; clear h22
 have hk29 := hC.kept hg20 (by simp; omega)
 refine pwD h23 rfl (op_store1 rfl rfl rfl rfl Try.sizeOf84 hk29 rfl) ?_; clear h23
 rintro _ w25 a24 ⟨hk26, hz27, hg28⟩ h24
 have hk26' : Blk w25 c 89 #[.string k2, .slice v2.a v2.n v2.c, .int .i64 d2, pt b 0, (ptT ll)] := hk26; clear hk26
 have hz30 := hg28.size
 refine pl_nil ?_
 refine co_then ?_
 refine co_seq ?_
 refine co_reg ?_
 refine pk0 (v := pt b 0) h24 rfl fun a31 h31 => ?_; clear h24
 have hB34 := fbU_at hB0 hg20 (fun hlt => by rcases hSb with hq | hq; exact hq; omega)
 have hB35 := fbU_at hB34 hg28 (fun hlt => by rcases hSc with hq | hq; exact hq; omega)
 have hT36 := hll.gr hg20 (fun q e => by cases e; exact hbll)
 have hT37 := hT36.gr hg28 (fun q e => by cases e; exact hcll)
 have hT38 := hlr.gr hg20 (fun q e => by cases e; exact hblr)
 have hT39 := hT38.gr hg28 (fun q e => by cases e; exact hclr)
 have hT40 := hr.gr hg20 (fun q e => by cases e; exact hbr)
 have hT41 := hT40.gr hg28 (fun q e => by cases e; exact hcr)
 have hk46 := hk18'.kept hg28 (by simp; omega)
 refine pw h31 rfl (op_call (args := #[pt b 0]) (R := fun res xw => res = .tuple #[] ∧ Blk xw b 89 #[.string k, .slice v.a v.n v.c, .int .i64 (1 + mx (dp r) (dp lr)), (ptT r), (ptT lr)] ∧ But (fun q => q = b) w25 xw) rfl rfl rfl (by kernel_rfl) (by kernel_rfl) (Try.call62 _ _) (measure_any b r k v d lr w25 hk46 hT41 hT39 hbr hblr (show 0 ≤ (dp r) ∧ (dp r) ≤ 1000000 from ⟨by omega, by omega⟩) (show 0 ≤ (dp lr) ∧ (dp lr) ≤ 1000000 from ⟨by omega, by omega⟩)) (by rintro e x ⟨rfl, h1, h2⟩; exact ⟨_, rfl, rfl, h1, h2⟩)) ?_; clear h31
 rintro _ w33 a32 ⟨rfl, hq42, hb43⟩ h32
 obtain ⟨d44, hd45⟩ : ∃ z : Int, z = 1 + mx (dp r) (dp lr) := ⟨_, rfl⟩; rw [← hd45] at hq42
 have hd45b := mx_bd3 (a := (dp r)) (b := (dp lr))
 have hB47 := fbU_foot hB35 hb43 (fun i hi hS => by rcases hS with rfl; first | exact .inl rfl | exact .inr rfl)
 have hz48 := hb43.size
 refine pl_nil ?_
 refine co_then ?_
 refine co_seq ?_
 refine co_reg ?_
 refine pk0 (v := pt c 0) h32 rfl fun a49 h49 => ?_; clear h32
 have hT52 := TreeAt.but hT41 hb43 (fun q hq => (fun e : q = b => hbr (e ▸ hq)))
 have hT53 := TreeAt.but hT39 hb43 (fun q hq => (fun e : q = b => hblr (e ▸ hq)))
 have hT54 := TreeAt.but hT37 hb43 (fun q hq => (fun e : q = b => hbll (e ▸ hq)))
 have hk59 := Blk.butS hk26' hb43 (fun hq => absurd hq (Ne.symm hne))
 refine pw h49 rfl (op_call (args := #[pt c 0]) (R := fun res xw => res = .tuple #[] ∧ Blk xw c 89 #[.string k2, .slice v2.a v2.n v2.c, .int .i64 (1 + mx d44 (dp ll)), pt b 0, (ptT ll)] ∧ But (fun q => q = c) w33 xw) rfl rfl rfl (by kernel_rfl) (by kernel_rfl) (Try.call62 _ _) (measure_any c (Tm.nd b r k v d44 lr) k2 v2 d2 ll w33 hk59 ⟨hq42, hT52, hT53⟩ hT54 (nin_nd (Ne.symm hne) hcr hclr) hcll (show 0 ≤ d44 ∧ d44 ≤ 1000000 from ⟨by omega, by omega⟩) (show 0 ≤ (dp ll) ∧ (dp ll) ≤ 1000000 from ⟨by omega, by omega⟩)) (by rintro e x ⟨rfl, h1, h2⟩; exact ⟨_, rfl, rfl, h1, h2⟩)) ?_; clear h49
 rintro _ w51 a50 ⟨rfl, hq55, hb56⟩ h50
 obtain ⟨d57, hd58⟩ : ∃ z : Int, z = 1 + mx d44 (dp ll) := ⟨_, rfl⟩; rw [← hd58] at hq55
 have hd58b := mx_bd3 (a := d44) (b := (dp ll))
 have hB60 := fbU_foot hB47 hb56 (fun i hi hS => by rcases hS with rfl; first | exact .inl rfl | exact .inr rfl)
 have hz61 := hb56.size
 refine pl_nil ?_
 refine co_then ?_
 refine co_seq ?_
 refine co_reg ?_
 refine pk0 (v := pt c 0) h50 rfl fun a62 h62 => ?_; clear h50
 refine pk0 (v := pt c 0) h62 rfl fun a63 h63 => ?_; clear h62
 refine pl_nil ?_
 refine co_then ?_
 refine wp_ret ?_
 refine co_ret1 h63 rfl rfl ?_
 have hk64 := Blk.butS hq42 hb56 (fun hq => absurd hq hne)
 subst hd58; subst hd45
 exact ⟨rfl, hk64, hq55, hB60⟩
end Go.Proofs.Ytfjhlckklgeokaa
