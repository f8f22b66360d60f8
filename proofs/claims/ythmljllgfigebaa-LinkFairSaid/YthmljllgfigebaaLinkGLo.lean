/- Package link: segment. Conditions: none. -/
import Derived.Test.YthmljllgfigebaaLinkFLo
import Derived.Test.YthmljllgfigebaaRf
namespace Go.Proofs.Ythmljllgfigebaa
open Go.RowKit Go.PlainAid
set_option linter.unusedVariables false

set_option maxRecDepth 100000 in
theorem lkSegment_blk (b : Nat) (u : Value) (L : LnT) (q : Int) (h : Bool) (y : ByteArray) (w : World) (hB : Blk w b 102 #[.int .i64 L.boot, .int .i64 L.stream, .int .i64 L.first, u, .int .i64 L.told, .int .i64 L.peer, .int .i64 L.in0, .int .i64 L.next, .bool L.owes]) (hok : LnOk L) :
    Calls Try.prog 108 #[pt b 0, .int .i64 q, .bool h, .string y] w fun e w' => e = .returned (.agg #[.int .i64 L.boot, .int .i64 L.stream, .int .i64 q, .int .i64 L.peer, .int .i64 L.in0, .int .i64 L.next, .bool h, .string y]) ∧ Below w.heap.size w w' := by
 have hB0 := Below.refl w.heap.size w
 have hl_hB := hB.lt
 refine co_enter (n := 33) Try.func108 rfl rfl rfl [(0, pt b 0), (1, .int .i64 q), (2, .bool h), (3, .string y)] rfl (fun a h0 => ?_)
 refine co_seq ?_
 refine co_reg ?_
 refine pw h0 rfl (op_new (v := fun N => pt N 0) (T := 61) (cs := #[.int .i64 0, .int .i64 0, .int .i64 0, .int .i64 0, .int .i64 0, .int .i64 0, .bool false, .string (⟨#[]⟩)]) (by kernel_rfl) (by kernel_rfl) (by kernel_rfl)) ?_; clear h0
 rintro _ w2 a1 ⟨N3, rfl, hN6, hz7, hk5, hg4⟩ h1
 have hz8 := hg4.size
 try dsimp only at h1
 refine pl_nil ?_
 refine co_then ?_
 refine co_seq ?_
 refine dr_gen (fun x => Below w.heap.size w x ∧ Blk x b 102 #[.int .i64 L.boot, .int .i64 L.stream, .int .i64 L.first, u, .int .i64 L.told, .int .i64 L.peer, .int .i64 L.in0, .int .i64 L.next, .bool L.owes]) (by kernel_rfl) (fun w9 hg10 => ?_) (fun w9 hg10 => ?_)
 ·
  have hz11 := hg10.size
  have hB12 := hb_new hB0 hg4
  have hB13 := hb_new hB12 hg10
  have hk14 := hB.kept hg4 (by simp)
  have hk15 := hk14.kept hg10 (by simp)
  exact ⟨hB13, hk15⟩
 have hz16 := hg10.size
 have hB17 := hb_new hB0 hg4
 have hB18 := hb_new hB17 hg10
 have hk19 := hB.kept hg4 (by simp)
 have hk20 := hk19.kept hg10 (by simp)
 refine dk0 0 (v := pt b 0) h1 rfl rfl ⟨hB18, hk20⟩ fun a21 h21 => ?_; clear h1
 refine dk0 1 (v := pt b 0) h21 rfl rfl ⟨hB18, hk20⟩ fun a22 h22 => ?_; clear h21
 refine dk0 2 (v := pt b 0) h22 rfl rfl ⟨hB18, hk20⟩ fun a23 h23 => ?_; clear h22
 refine dk 3 (v := .int .i64 L.boot) h23 rfl rfl ⟨hB18, hk20⟩ (fun x hx => (rn_load1 rfl rfl Try.isAgg3 (hx.2.cell rfl))) fun a24 h24 => ?_; clear h23
 refine dk0 4 (v := pt b 0) h24 rfl rfl ⟨hB18, hk20⟩ fun a25 h25 => ?_; clear h24
 refine dk0 5 (v := pt b 0) h25 rfl rfl ⟨hB18, hk20⟩ fun a26 h26 => ?_; clear h25
 refine dk0 6 (v := pt b 1) h26 rfl rfl ⟨hB18, hk20⟩ fun a27 h27 => ?_; clear h26
 refine dk 7 (v := .int .i64 L.stream) h27 rfl rfl ⟨hB18, hk20⟩ (fun x hx => (rn_load1 rfl rfl Try.isAgg3 (hx.2.cell rfl))) fun a28 h28 => ?_; clear h27
 refine dk0 8 (v := .int .i64 q) h28 rfl rfl ⟨hB18, hk20⟩ fun a29 h29 => ?_; clear h28
 refine dk0 9 (v := pt b 0) h29 rfl rfl ⟨hB18, hk20⟩ fun a30 h30 => ?_; clear h29
 refine dk0 10 (v := pt b 0) h30 rfl rfl ⟨hB18, hk20⟩ fun a31 h31 => ?_; clear h30
 refine dk0 11 (v := pt b 5) h31 rfl rfl ⟨hB18, hk20⟩ fun a32 h32 => ?_; clear h31
 refine dk 12 (v := .int .i64 L.peer) h32 rfl rfl ⟨hB18, hk20⟩ (fun x hx => (rn_load1 rfl rfl Try.isAgg3 (hx.2.cell rfl))) fun a33 h33 => ?_; clear h32
 refine dk0 13 (v := pt b 0) h33 rfl rfl ⟨hB18, hk20⟩ fun a34 h34 => ?_; clear h33
 refine dk0 14 (v := pt b 0) h34 rfl rfl ⟨hB18, hk20⟩ fun a35 h35 => ?_; clear h34
 refine dk0 15 (v := pt b 6) h35 rfl rfl ⟨hB18, hk20⟩ fun a36 h36 => ?_; clear h35
 refine dk 16 (v := .int .i64 L.in0) h36 rfl rfl ⟨hB18, hk20⟩ (fun x hx => (rn_load1 rfl rfl Try.isAgg3 (hx.2.cell rfl))) fun a37 h37 => ?_; clear h36
 refine dk0 17 (v := pt b 0) h37 rfl rfl ⟨hB18, hk20⟩ fun a38 h38 => ?_; clear h37
 refine dk0 18 (v := pt b 0) h38 rfl rfl ⟨hB18, hk20⟩ fun a39 h39 => ?_; clear h38
 refine dk0 19 (v := pt b 7) h39 rfl rfl ⟨hB18, hk20⟩ fun a40 h40 => ?_; clear h39
 refine dk 20 (v := .int .i64 L.next) h40 rfl rfl ⟨hB18, hk20⟩ (fun x hx => (rn_load1 rfl rfl Try.isAgg3 (hx.2.cell rfl))) fun a41 h41 => ?_; clear h40
 refine dk0 21 (v := .bool h) h41 rfl rfl ⟨hB18, hk20⟩ fun a42 h42 => ?_; clear h41
 refine dk0 22 (v := .string y) h42 rfl rfl ⟨hB18, hk20⟩ fun a43 h43 => ?_; clear h42
 refine dk0 23 (v := .agg #[.int .i64 L.boot, .int .i64 L.stream, .int .i64 q, .int .i64 L.peer, .int .i64 L.in0, .int .i64 L.next, .bool h, .string y]) h43 rfl rfl ⟨hB18, hk20⟩ fun a44 h44 => ?_; clear h43
 have hk50 := hk5.kept hg10 (by simp)
 refine d1D 24 h44 rfl rfl (op_storeN rfl rfl rfl (by kernel_rfl) (by kernel_rfl) hk50 rfl) ?_ ?_; clear h44
 ·
  rintro _ w46 ⟨hk47, hz48, hg49⟩
  have hk47' : Blk w46 N3 61 #[.int .i64 L.boot, .int .i64 L.stream, .int .i64 q, .int .i64 L.peer, .int .i64 L.in0, .int .i64 L.next, .bool h, .string y] := hk47; clear hk47
  have hz51 := hg49.size
  have hB52 := hb_at hB18 hg49 (by omega)
  have hk53 := hk20.kept hg49 (by simp; omega)
  exact ⟨hB52, hk53⟩
 rintro _ w46 a45 ⟨hk47, hz48, hg49⟩ h45
 have hk47' : Blk w46 N3 61 #[.int .i64 L.boot, .int .i64 L.stream, .int .i64 q, .int .i64 L.peer, .int .i64 L.in0, .int .i64 L.next, .bool h, .string y] := hk47; clear hk47
 have hz51 := hg49.size
 refine dr_done (by kernel_rfl) ?_
 refine co_then ?_
 refine wp_ret ?_
 refine co_retC (Q := fun _ _ _ => True) h45 rfl rfl hk47' Try.underlying61 rfl (by kernel_rfl) ?_
 have hB52 := hb_at hB18 hg49 (by omega)
 exact ⟨rfl, hB52⟩
end Go.Proofs.Ythmljllgfigebaa
