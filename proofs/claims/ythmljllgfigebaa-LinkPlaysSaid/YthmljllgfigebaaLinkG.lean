/- Package link: segment. Conditions: none. -/
import Derived.Test.YthmljllgfigebaaLinkF
import Derived.Test.YthmljllgfigebaaRf
namespace Go.Proofs.Ythmljllgfigebaa
open Go.RowKit Go.PlainAid
set_option linter.unusedVariables false

set_option maxRecDepth 100000 in
theorem lkSegment_blk (b : Nat) (u : Value) (L : LnT) (q : Int) (h : Bool) (y : ByteArray) (w : World) (hB : Blk w b 102 #[.int .i64 L.boot, .int .i64 L.stream, .int .i64 L.first, u, .int .i64 L.told, .int .i64 L.peer, .int .i64 L.in0, .int .i64 L.next, .bool L.owes]) (hok : LnOk L) :
    Calls Try.prog 108 #[pt b 0, .int .i64 q, .bool h, .string y] w fun e w' => e = .returned (.agg #[.int .i64 L.boot, .int .i64 L.stream, .int .i64 q, .int .i64 L.peer, .int .i64 L.in0, .int .i64 L.next, .bool h, .string y]) ∧ Below w.heap.size w w' := by
 have hB0 := Below.refl w.heap.size w
 have hl_hB := hB.lt
 refine co_enter (n := 33) Try.func108 rfl rfl rfl [(0, pt b 0), (1, .int .i64 q), (2, .bool h), (3, .string y)] rfl (fun a h0 => ?_)
 refine co_seq ?_
 refine co_reg ?_
 refine pw h0 rfl (op_new (v := fun N => pt N 0) (T := 61) (cs := #[.int .i64 0, .int .i64 0, .int .i64 0, .int .i64 0, .int .i64 0, .int .i64 0, .bool false, .string (⟨#[]⟩)]) (by kernel_rfl) (by kernel_rfl) (by kernel_rfl)) ?_; clear h0
 rintro _ w2 a1 ⟨N3, rfl, hN6, hz7, hk5, hg4⟩ h1
 have hz8 := hg4.size
 try dsimp only at h1
 refine pl_nil ?_
 refine co_then ?_
 refine co_seq ?_
 refine dr_gen (fun x => Below w.heap.size w x ∧ Blk x b 102 #[.int .i64 L.boot, .int .i64 L.stream, .int .i64 L.first, u, .int .i64 L.told, .int .i64 L.peer, .int .i64 L.in0, .int .i64 L.next, .bool L.owes]) (by kernel_rfl) (fun w9 hg10 => ?_) (fun w9 hg10 => ?_)
 ·
  have hz11 := hg10.size
  have hB12 := hb_new hB0 hg4
  have hB13 := hb_new hB12 hg10
  have hk14 := hB.kept hg4 (by simp)
  have hk15 := hk14.kept hg10 (by simp)
  exact ⟨hB13, hk15⟩
 have hz16 := hg10.size
 have hB17 := hb_new hB0 hg4
 have hB18 := hb_new hB17 hg10
 have hk19 := hB.kept hg4 (by simp)
 have hk20 := hk19.kept hg10 (by simp)
 refine dk0 0 (v := pt b 0) h1 rfl rfl ⟨hB18, hk20⟩ fun a21 h21 => ?_; clear h1
 refine dk0 1 (v := pt b 0) h21 rfl rfl ⟨hB18, hk20⟩ fun a22 h22 => ?_; clear h21
 refine dk0 2 (v := pt b 0) h22 rfl rfl ⟨hB18, hk20⟩ fun a23 h23 => ?_; clear h22
 refine dk0 4 (v := pt b 0) h23 rfl rfl ⟨hB18, hk20⟩ fun a24 h24 => ?_; clear h23
 refine dk0 5 (v := pt b 0) h24 rfl rfl ⟨hB18, hk20⟩ fun a25 h25 => ?_; clear h24
 refine dk0 6 (v := pt b 1) h25 rfl rfl ⟨hB18, hk20⟩ fun a26 h26 => ?_; clear h25
 refine dk0 8 (v := .int .i64 q) h26 rfl rfl ⟨hB18, hk20⟩ fun a27 h27 => ?_; clear h26
 refine dk0 9 (v := pt b 0) h27 rfl rfl ⟨hB18, hk20⟩ fun a28 h28 => ?_; clear h27
 refine dk0 10 (v := pt b 0) h28 rfl rfl ⟨hB18, hk20⟩ fun a29 h29 => ?_; clear h28
 refine dk0 11 (v := pt b 5) h29 rfl rfl ⟨hB18, hk20⟩ fun a30 h30 => ?_; clear h29
 refine dk0 13 (v := pt b 0) h30 rfl rfl ⟨hB18, hk20⟩ fun a31 h31 => ?_; clear h30
 refine dk0 14 (v := pt b 0) h31 rfl rfl ⟨hB18, hk20⟩ fun a32 h32 => ?_; clear h31
 refine dk0 15 (v := pt b 6) h32 rfl rfl ⟨hB18, hk20⟩ fun a33 h33 => ?_; clear h32
 refine dk0 17 (v := pt b 0) h33 rfl rfl ⟨hB18, hk20⟩ fun a34 h34 => ?_; clear h33
 refine dk0 18 (v := pt b 0) h34 rfl rfl ⟨hB18, hk20⟩ fun a35 h35 => ?_; clear h34
 refine dk0 19 (v := pt b 7) h35 rfl rfl ⟨hB18, hk20⟩ fun a36 h36 => ?_; clear h35
 refine dk0 21 (v := .bool h) h36 rfl rfl ⟨hB18, hk20⟩ fun a37 h37 => ?_; clear h36
 refine dk0 22 (v := .string y) h37 rfl rfl ⟨hB18, hk20⟩ fun a38 h38 => ?_; clear h37
 refine dr_many [3, 7, 12, 16, 20] (by kernel_rfl) (by simp) ⟨?_, ?_, ?_, ?_, ?_, trivial⟩
 ·
  refine dr_opVal (i := 3) (v := .int .i64 L.boot) h38 rfl rfl rfl rfl (by kernel_rfl) rfl (rn_load1 rfl rfl Try.isAgg3 (hk20.cell rfl)) ⟨hB18, hk20⟩ (fun a39 h39 => ?_); clear h38
  refine dr_many [7, 12, 16, 20] (by kernel_rfl) (by simp) ⟨?_, ?_, ?_, ?_, trivial⟩
  ·
   refine dr_opVal (i := 7) (v := .int .i64 L.stream) h39 rfl rfl rfl rfl (by kernel_rfl) rfl (rn_load1 rfl rfl Try.isAgg3 (hk20.cell rfl)) ⟨hB18, hk20⟩ (fun a40 h40 => ?_); clear h39
   refine dr_many [12, 16, 20] (by kernel_rfl) (by simp) ⟨?_, ?_, ?_, trivial⟩
   ·
    refine dr_opVal (i := 12) (v := .int .i64 L.peer) h40 rfl rfl rfl rfl (by kernel_rfl) rfl (rn_load1 rfl rfl Try.isAgg3 (hk20.cell rfl)) ⟨hB18, hk20⟩ (fun a41 h41 => ?_); clear h40
    refine dr_many [16, 20] (by kernel_rfl) (by simp) ⟨?_, ?_, trivial⟩
    ·
     refine dr_opVal (i := 16) (v := .int .i64 L.in0) h41 rfl rfl rfl rfl (by kernel_rfl) rfl (rn_load1 rfl rfl Try.isAgg3 (hk20.cell rfl)) ⟨hB18, hk20⟩ (fun a42 h42 => ?_); clear h41
     refine dr_many [20] (by kernel_rfl) (by simp) ⟨?_, trivial⟩
     ·
      refine dr_opVal (i := 20) (v := .int .i64 L.next) h42 rfl rfl rfl rfl (by kernel_rfl) rfl (rn_load1 rfl rfl Try.isAgg3 (hk20.cell rfl)) ⟨hB18, hk20⟩ (fun a43 h43 => ?_); clear h42
      refine dk0 23 (v := .agg #[.int .i64 L.boot, .int .i64 L.stream, .int .i64 q, .int .i64 L.peer, .int .i64 L.in0, .int .i64 L.next, .bool h, .string y]) h43 rfl rfl ⟨hB18, hk20⟩ fun a44 h44 => ?_; clear h43
      have hk50 := hk5.kept hg10 (by simp)
      refine d1D 24 h44 rfl rfl (op_storeN rfl rfl rfl (by kernel_rfl) (by kernel_rfl) hk50 rfl) ?_ ?_; clear h44
      ·
       rintro _ w46 ⟨hk47, hz48, hg49⟩
       have hk47' : Blk w46 N3 61 #[.int .i64 L.boot, .int .i64 L.stream, .int .i64 q, .int .i64 L.peer, .int .i64 L.in0, .int .i64 L.next, .bool h, .string y] := hk47; clear hk47
       have hz51 := hg49.size
       have hB52 := hb_at hB18 hg49 (by omega)
       have hk53 := hk20.kept hg49 (by simp; omega)
       exact ⟨hB52, hk53⟩
      rintro _ w46 a45 ⟨hk47, hz48, hg49⟩ h45
      have hk47' : Blk w46 N3 61 #[.int .i64 L.boot, .int .i64 L.stream, .int .i64 q, .int .i64 L.peer, .int .i64 L.in0, .int .i64 L.next, .bool h, .string y] := hk47; clear hk47
      have hz51 := hg49.size
      refine dr_done (by kernel_rfl) ?_
      refine co_then ?_
      refine wp_ret ?_
      refine co_retC (Q := fun _ _ _ => True) h45 rfl rfl hk47' Try.underlying61 rfl (by kernel_rfl) ?_
      have hB52 := hb_at hB18 hg49 (by omega)
      exact ⟨rfl, hB52⟩
    ·
     refine dr_opVal (i := 20) (v := .int .i64 L.next) h41 rfl rfl rfl rfl (by kernel_rfl) rfl (rn_load1 rfl rfl Try.isAgg3 (hk20.cell rfl)) ⟨hB18, hk20⟩ (fun a53 h53 => ?_); clear h41
     refine dr_many [16] (by kernel_rfl) (by simp) ⟨?_, trivial⟩
     ·
      refine dr_opVal (i := 16) (v := .int .i64 L.in0) h53 rfl rfl rfl rfl (by kernel_rfl) rfl (rn_load1 rfl rfl Try.isAgg3 (hk20.cell rfl)) ⟨hB18, hk20⟩ (fun a54 h54 => ?_); clear h53
      refine dk0 23 (v := .agg #[.int .i64 L.boot, .int .i64 L.stream, .int .i64 q, .int .i64 L.peer, .int .i64 L.in0, .int .i64 L.next, .bool h, .string y]) h54 rfl rfl ⟨hB18, hk20⟩ fun a55 h55 => ?_; clear h54
      have hk61 := hk5.kept hg10 (by simp)
      refine d1D 24 h55 rfl rfl (op_storeN rfl rfl rfl (by kernel_rfl) (by kernel_rfl) hk61 rfl) ?_ ?_; clear h55
      ·
       rintro _ w57 ⟨hk58, hz59, hg60⟩
       have hk58' : Blk w57 N3 61 #[.int .i64 L.boot, .int .i64 L.stream, .int .i64 q, .int .i64 L.peer, .int .i64 L.in0, .int .i64 L.next, .bool h, .string y] := hk58; clear hk58
       have hz62 := hg60.size
       have hB63 := hb_at hB18 hg60 (by omega)
       have hk64 := hk20.kept hg60 (by simp; omega)
       exact ⟨hB63, hk64⟩
      rintro _ w57 a56 ⟨hk58, hz59, hg60⟩ h56
      have hk58' : Blk w57 N3 61 #[.int .i64 L.boot, .int .i64 L.stream, .int .i64 q, .int .i64 L.peer, .int .i64 L.in0, .int .i64 L.next, .bool h, .string y] := hk58; clear hk58
      have hz62 := hg60.size
      refine dr_done (by kernel_rfl) ?_
      refine co_then ?_
      refine wp_ret ?_
      refine co_retC (Q := fun _ _ _ => True) h56 rfl rfl hk58' Try.underlying61 rfl (by kernel_rfl) ?_
      have hB63 := hb_at hB18 hg60 (by omega)
      exact ⟨rfl, hB63⟩
   ·
    refine dr_opVal (i := 16) (v := .int .i64 L.in0) h40 rfl rfl rfl rfl (by kernel_rfl) rfl (rn_load1 rfl rfl Try.isAgg3 (hk20.cell rfl)) ⟨hB18, hk20⟩ (fun a64 h64 => ?_); clear h40
    refine dr_many [12, 20] (by kernel_rfl) (by simp) ⟨?_, ?_, trivial⟩
    ·
     refine dr_opVal (i := 12) (v := .int .i64 L.peer) h64 rfl rfl rfl rfl (by kernel_rfl) rfl (rn_load1 rfl rfl Try.isAgg3 (hk20.cell rfl)) ⟨hB18, hk20⟩ (fun a65 h65 => ?_); clear h64
     refine dr_many [20] (by kernel_rfl) (by simp) ⟨?_, trivial⟩
     ·
      refine dr_opVal (i := 20) (v := .int .i64 L.next) h65 rfl rfl rfl rfl (by kernel_rfl) rfl (rn_load1 rfl rfl Try.isAgg3 (hk20.cell rfl)) ⟨hB18, hk20⟩ (fun a66 h66 => ?_); clear h65
      refine dk0 23 (v := .agg #[.int .i64 L.boot, .int .i64 L.stream, .int .i64 q, .int .i64 L.peer, .int .i64 L.in0, .int .i64 L.next, .bool h, .string y]) h66 rfl rfl ⟨hB18, hk20⟩ fun a67 h67 => ?_; clear h66
      have hk73 := hk5.kept hg10 (by simp)
      refine d1D 24 h67 rfl rfl (op_storeN rfl rfl rfl (by kernel_rfl) (by kernel_rfl) hk73 rfl) ?_ ?_; clear h67
      ·
       rintro _ w69 ⟨hk70, hz71, hg72⟩
       have hk70' : Blk w69 N3 61 #[.int .i64 L.boot, .int .i64 L.stream, .int .i64 q, .int .i64 L.peer, .int .i64 L.in0, .int .i64 L.next, .bool h, .string y] := hk70; clear hk70
       have hz74 := hg72.size
       have hB75 := hb_at hB18 hg72 (by omega)
       have hk76 := hk20.kept hg72 (by simp; omega)
       exact ⟨hB75, hk76⟩
      rintro _ w69 a68 ⟨hk70, hz71, hg72⟩ h68
      have hk70' : Blk w69 N3 61 #[.int .i64 L.boot, .int .i64 L.stream, .int .i64 q, .int .i64 L.peer, .int .i64 L.in0, .int .i64 L.next, .bool h, .string y] := hk70; clear hk70
      have hz74 := hg72.size
      refine dr_done (by kernel_rfl) ?_
      refine co_then ?_
      refine wp_ret ?_
      refine co_retC (Q := fun _ _ _ => True) h68 rfl rfl hk70' Try.underlying61 rfl (by kernel_rfl) ?_
      have hB75 := hb_at hB18 hg72 (by omega)
      exact ⟨rfl, hB75⟩
    ·
     refine dr_opVal (i := 20) (v := .int .i64 L.next) h64 rfl rfl rfl rfl (by kernel_rfl) rfl (rn_load1 rfl rfl Try.isAgg3 (hk20.cell rfl)) ⟨hB18, hk20⟩ (fun a76 h76 => ?_); clear h64
     refine dr_many [12] (by kernel_rfl) (by simp) ⟨?_, trivial⟩
     ·
      refine dr_opVal (i := 12) (v := .int .i64 L.peer) h76 rfl rfl rfl rfl (by kernel_rfl) rfl (rn_load1 rfl rfl Try.isAgg3 (hk20.cell rfl)) ⟨hB18, hk20⟩ (fun a77 h77 => ?_); clear h76
      refine dk0 23 (v := .agg #[.int .i64 L.boot, .int .i64 L.stream, .int .i64 q, .int .i64 L.peer, .int .i64 L.in0, .int .i64 L.next, .bool h, .string y]) h77 rfl rfl ⟨hB18, hk20⟩ fun a78 h78 => ?_; clear h77
      have hk84 := hk5.kept hg10 (by simp)
      refine d1D 24 h78 rfl rfl (op_storeN rfl rfl rfl (by kernel_rfl) (by kernel_rfl) hk84 rfl) ?_ ?_; clear h78
      ·
       rintro _ w80 ⟨hk81, hz82, hg83⟩
       have hk81' : Blk w80 N3 61 #[.int .i64 L.boot, .int .i64 L.stream, .int .i64 q, .int .i64 L.peer, .int .i64 L.in0, .int .i64 L.next, .bool h, .string y] := hk81; clear hk81
       have hz85 := hg83.size
       have hB86 := hb_at hB18 hg83 (by omega)
       have hk87 := hk20.kept hg83 (by simp; omega)
       exact ⟨hB86, hk87⟩
      rintro _ w80 a79 ⟨hk81, hz82, hg83⟩ h79
      have hk81' : Blk w80 N3 61 #[.int .i64 L.boot, .int .i64 L.stream, .int .i64 q, .int .i64 L.peer, .int .i64 L.in0, .int .i64 L.next, .bool h, .string y] := hk81; clear hk81
      have hz85 := hg83.size
      refine dr_done (by kernel_rfl) ?_
      refine co_then ?_
      refine wp_ret ?_
      refine co_retC (Q := fun _ _ _ => True) h79 rfl rfl hk81' Try.underlying61 rfl (by kernel_rfl) ?_
      have hB86 := hb_at hB18 hg83 (by omega)
      exact ⟨rfl, hB86⟩
   ·
    refine dr_opVal (i := 20) (v := .int .i64 L.next) h40 rfl rfl rfl rfl (by kernel_rfl) rfl (rn_load1 rfl rfl Try.isAgg3 (hk20.cell rfl)) ⟨hB18, hk20⟩ (fun a87 h87 => ?_); clear h40
    refine dr_many [12, 16] (by kernel_rfl) (by simp) ⟨?_, ?_, trivial⟩
    ·
     refine dr_opVal (i := 12) (v := .int .i64 L.peer) h87 rfl rfl rfl rfl (by kernel_rfl) rfl (rn_load1 rfl rfl Try.isAgg3 (hk20.cell rfl)) ⟨hB18, hk20⟩ (fun a88 h88 => ?_); clear h87
     refine dr_many [16] (by kernel_rfl) (by simp) ⟨?_, trivial⟩
     ·
      refine dr_opVal (i := 16) (v := .int .i64 L.in0) h88 rfl rfl rfl rfl (by kernel_rfl) rfl (rn_load1 rfl rfl Try.isAgg3 (hk20.cell rfl)) ⟨hB18, hk20⟩ (fun a89 h89 => ?_); clear h88
      refine dk0 23 (v := .agg #[.int .i64 L.boot, .int .i64 L.stream, .int .i64 q, .int .i64 L.peer, .int .i64 L.in0, .int .i64 L.next, .bool h, .string y]) h89 rfl rfl ⟨hB18, hk20⟩ fun a90 h90 => ?_; clear h89
      have hk96 := hk5.kept hg10 (by simp)
      refine d1D 24 h90 rfl rfl (op_storeN rfl rfl rfl (by kernel_rfl) (by kernel_rfl) hk96 rfl) ?_ ?_; clear h90
      ·
       rintro _ w92 ⟨hk93, hz94, hg95⟩
       have hk93' : Blk w92 N3 61 #[.int .i64 L.boot, .int .i64 L.stream, .int .i64 q, .int .i64 L.peer, .int .i64 L.in0, .int .i64 L.next, .bool h, .string y] := hk93; clear hk93
       have hz97 := hg95.size
       have hB98 := hb_at hB18 hg95 (by omega)
       have hk99 := hk20.kept hg95 (by simp; omega)
       exact ⟨hB98, hk99⟩
      rintro _ w92 a91 ⟨hk93, hz94, hg95⟩ h91
      have hk93' : Blk w92 N3 61 #[.int .i64 L.boot, .int .i64 L.stream, .int .i64 q, .int .i64 L.peer, .int .i64 L.in0, .int .i64 L.next, .bool h, .string y] := hk93; clear hk93
      have hz97 := hg95.size
      refine dr_done (by kernel_rfl) ?_
      refine co_then ?_
      refine wp_ret ?_
      refine co_retC (Q := fun _ _ _ => True) h91 rfl rfl hk93' Try.underlying61 rfl (by kernel_rfl) ?_
      have hB98 := hb_at hB18 hg95 (by omega)
      exact ⟨rfl, hB98⟩
    ·
     refine dr_opVal (i := 16) (v := .int .i64 L.in0) h87 rfl rfl rfl rfl (by kernel_rfl) rfl (rn_load1 rfl rfl Try.isAgg3 (hk20.cell rfl)) ⟨hB18, hk20⟩ (fun a99 h99 => ?_); clear h87
     refine dr_many [12] (by kernel_rfl) (by simp) ⟨?_, trivial⟩
     ·
      refine dr_opVal (i := 12) (v := .int .i64 L.peer) h99 rfl rfl rfl rfl (by kernel_rfl) rfl (rn_load1 rfl rfl Try.isAgg3 (hk20.cell rfl)) ⟨hB18, hk20⟩ (fun a100 h100 => ?_); clear h99
      refine dk0 23 (v := .agg #[.int .i64 L.boot, .int .i64 L.stream, .int .i64 q, .int .i64 L.peer, .int .i64 L.in0, .int .i64 L.next, .bool h, .string y]) h100 rfl rfl ⟨hB18, hk20⟩ fun a101 h101 => ?_; clear h100
      have hk107 := hk5.kept hg10 (by simp)
      refine d1D 24 h101 rfl rfl (op_storeN rfl rfl rfl (by kernel_rfl) (by kernel_rfl) hk107 rfl) ?_ ?_; clear h101
      ·
       rintro _ w103 ⟨hk104, hz105, hg106⟩
       have hk104' : Blk w103 N3 61 #[.int .i64 L.boot, .int .i64 L.stream, .int .i64 q, .int .i64 L.peer, .int .i64 L.in0, .int .i64 L.next, .bool h, .string y] := hk104; clear hk104
       have hz108 := hg106.size
       have hB109 := hb_at hB18 hg106 (by omega)
       have hk110 := hk20.kept hg106 (by simp; omega)
       exact ⟨hB109, hk110⟩
      rintro _ w103 a102 ⟨hk104, hz105, hg106⟩ h102
      have hk104' : Blk w103 N3 61 #[.int .i64 L.boot, .int .i64 L.stream, .int .i64 q, .int .i64 L.peer, .int .i64 L.in0, .int .i64 L.next, .bool h, .string y] := hk104; clear hk104
      have hz108 := hg106.size
      refine dr_done (by kernel_rfl) ?_
      refine co_then ?_
      refine wp_ret ?_
      refine co_retC (Q := fun _ _ _ => True) h102 rfl rfl hk104' Try.underlying61 rfl (by kernel_rfl) ?_
      have hB109 := hb_at hB18 hg106 (by omega)
      exact ⟨rfl, hB109⟩
  ·
   refine dr_opVal (i := 12) (v := .int .i64 L.peer) h39 rfl rfl rfl rfl (by kernel_rfl) rfl (rn_load1 rfl rfl Try.isAgg3 (hk20.cell rfl)) ⟨hB18, hk20⟩ (fun a110 h110 => ?_); clear h39
   refine dr_many [7, 16, 20] (by kernel_rfl) (by simp) ⟨?_, ?_, ?_, trivial⟩
   ·
    refine dr_opVal (i := 7) (v := .int .i64 L.stream) h110 rfl rfl rfl rfl (by kernel_rfl) rfl (rn_load1 rfl rfl Try.isAgg3 (hk20.cell rfl)) ⟨hB18, hk20⟩ (fun a111 h111 => ?_); clear h110
    refine dr_many [16, 20] (by kernel_rfl) (by simp) ⟨?_, ?_, trivial⟩
    ·
     refine dr_opVal (i := 16) (v := .int .i64 L.in0) h111 rfl rfl rfl rfl (by kernel_rfl) rfl (rn_load1 rfl rfl Try.isAgg3 (hk20.cell rfl)) ⟨hB18, hk20⟩ (fun a112 h112 => ?_); clear h111
     refine dr_many [20] (by kernel_rfl) (by simp) ⟨?_, trivial⟩
     ·
      refine dr_opVal (i := 20) (v := .int .i64 L.next) h112 rfl rfl rfl rfl (by kernel_rfl) rfl (rn_load1 rfl rfl Try.isAgg3 (hk20.cell rfl)) ⟨hB18, hk20⟩ (fun a113 h113 => ?_); clear h112
      refine dk0 23 (v := .agg #[.int .i64 L.boot, .int .i64 L.stream, .int .i64 q, .int .i64 L.peer, .int .i64 L.in0, .int .i64 L.next, .bool h, .string y]) h113 rfl rfl ⟨hB18, hk20⟩ fun a114 h114 => ?_; clear h113
      have hk120 := hk5.kept hg10 (by simp)
      refine d1D 24 h114 rfl rfl (op_storeN rfl rfl rfl (by kernel_rfl) (by kernel_rfl) hk120 rfl) ?_ ?_; clear h114
      ·
       rintro _ w116 ⟨hk117, hz118, hg119⟩
       have hk117' : Blk w116 N3 61 #[.int .i64 L.boot, .int .i64 L.stream, .int .i64 q, .int .i64 L.peer, .int .i64 L.in0, .int .i64 L.next, .bool h, .string y] := hk117; clear hk117
       have hz121 := hg119.size
       have hB122 := hb_at hB18 hg119 (by omega)
       have hk123 := hk20.kept hg119 (by simp; omega)
       exact ⟨hB122, hk123⟩
      rintro _ w116 a115 ⟨hk117, hz118, hg119⟩ h115
      have hk117' : Blk w116 N3 61 #[.int .i64 L.boot, .int .i64 L.stream, .int .i64 q, .int .i64 L.peer, .int .i64 L.in0, .int .i64 L.next, .bool h, .string y] := hk117; clear hk117
      have hz121 := hg119.size
      refine dr_done (by kernel_rfl) ?_
      refine co_then ?_
      refine wp_ret ?_
      refine co_retC (Q := fun _ _ _ => True) h115 rfl rfl hk117' Try.underlying61 rfl (by kernel_rfl) ?_
      have hB122 := hb_at hB18 hg119 (by omega)
      exact ⟨rfl, hB122⟩
    ·
     refine dr_opVal (i := 20) (v := .int .i64 L.next) h111 rfl rfl rfl rfl (by kernel_rfl) rfl (rn_load1 rfl rfl Try.isAgg3 (hk20.cell rfl)) ⟨hB18, hk20⟩ (fun a123 h123 => ?_); clear h111
     refine dr_many [16] (by kernel_rfl) (by simp) ⟨?_, trivial⟩
     ·
      refine dr_opVal (i := 16) (v := .int .i64 L.in0) h123 rfl rfl rfl rfl (by kernel_rfl) rfl (rn_load1 rfl rfl Try.isAgg3 (hk20.cell rfl)) ⟨hB18, hk20⟩ (fun a124 h124 => ?_); clear h123
      refine dk0 23 (v := .agg #[.int .i64 L.boot, .int .i64 L.stream, .int .i64 q, .int .i64 L.peer, .int .i64 L.in0, .int .i64 L.next, .bool h, .string y]) h124 rfl rfl ⟨hB18, hk20⟩ fun a125 h125 => ?_; clear h124
      have hk131 := hk5.kept hg10 (by simp)
      refine d1D 24 h125 rfl rfl (op_storeN rfl rfl rfl (by kernel_rfl) (by kernel_rfl) hk131 rfl) ?_ ?_; clear h125
      ·
       rintro _ w127 ⟨hk128, hz129, hg130⟩
       have hk128' : Blk w127 N3 61 #[.int .i64 L.boot, .int .i64 L.stream, .int .i64 q, .int .i64 L.peer, .int .i64 L.in0, .int .i64 L.next, .bool h, .string y] := hk128; clear hk128
       have hz132 := hg130.size
       have hB133 := hb_at hB18 hg130 (by omega)
       have hk134 := hk20.kept hg130 (by simp; omega)
       exact ⟨hB133, hk134⟩
      rintro _ w127 a126 ⟨hk128, hz129, hg130⟩ h126
      have hk128' : Blk w127 N3 61 #[.int .i64 L.boot, .int .i64 L.stream, .int .i64 q, .int .i64 L.peer, .int .i64 L.in0, .int .i64 L.next, .bool h, .string y] := hk128; clear hk128
      have hz132 := hg130.size
      refine dr_done (by kernel_rfl) ?_
      refine co_then ?_
      refine wp_ret ?_
      refine co_retC (Q := fun _ _ _ => True) h126 rfl rfl hk128' Try.underlying61 rfl (by kernel_rfl) ?_
      have hB133 := hb_at hB18 hg130 (by omega)
      exact ⟨rfl, hB133⟩
   ·
    refine dr_opVal (i := 16) (v := .int .i64 L.in0) h110 rfl rfl rfl rfl (by kernel_rfl) rfl (rn_load1 rfl rfl Try.isAgg3 (hk20.cell rfl)) ⟨hB18, hk20⟩ (fun a134 h134 => ?_); clear h110
    refine dr_many [7, 20] (by kernel_rfl) (by simp) ⟨?_, ?_, trivial⟩
    ·
     refine dr_opVal (i := 7) (v := .int .i64 L.stream) h134 rfl rfl rfl rfl (by kernel_rfl) rfl (rn_load1 rfl rfl Try.isAgg3 (hk20.cell rfl)) ⟨hB18, hk20⟩ (fun a135 h135 => ?_); clear h134
     refine dr_many [20] (by kernel_rfl) (by simp) ⟨?_, trivial⟩
     ·
      refine dr_opVal (i := 20) (v := .int .i64 L.next) h135 rfl rfl rfl rfl (by kernel_rfl) rfl (rn_load1 rfl rfl Try.isAgg3 (hk20.cell rfl)) ⟨hB18, hk20⟩ (fun a136 h136 => ?_); clear h135
      refine dk0 23 (v := .agg #[.int .i64 L.boot, .int .i64 L.stream, .int .i64 q, .int .i64 L.peer, .int .i64 L.in0, .int .i64 L.next, .bool h, .string y]) h136 rfl rfl ⟨hB18, hk20⟩ fun a137 h137 => ?_; clear h136
      have hk143 := hk5.kept hg10 (by simp)
      refine d1D 24 h137 rfl rfl (op_storeN rfl rfl rfl (by kernel_rfl) (by kernel_rfl) hk143 rfl) ?_ ?_; clear h137
      ·
       rintro _ w139 ⟨hk140, hz141, hg142⟩
       have hk140' : Blk w139 N3 61 #[.int .i64 L.boot, .int .i64 L.stream, .int .i64 q, .int .i64 L.peer, .int .i64 L.in0, .int .i64 L.next, .bool h, .string y] := hk140; clear hk140
       have hz144 := hg142.size
       have hB145 := hb_at hB18 hg142 (by omega)
       have hk146 := hk20.kept hg142 (by simp; omega)
       exact ⟨hB145, hk146⟩
      rintro _ w139 a138 ⟨hk140, hz141, hg142⟩ h138
      have hk140' : Blk w139 N3 61 #[.int .i64 L.boot, .int .i64 L.stream, .int .i64 q, .int .i64 L.peer, .int .i64 L.in0, .int .i64 L.next, .bool h, .string y] := hk140; clear hk140
      have hz144 := hg142.size
      refine dr_done (by kernel_rfl) ?_
      refine co_then ?_
      refine wp_ret ?_
      refine co_retC (Q := fun _ _ _ => True) h138 rfl rfl hk140' Try.underlying61 rfl (by kernel_rfl) ?_
      have hB145 := hb_at hB18 hg142 (by omega)
      exact ⟨rfl, hB145⟩
    ·
     refine dr_opVal (i := 20) (v := .int .i64 L.next) h134 rfl rfl rfl rfl (by kernel_rfl) rfl (rn_load1 rfl rfl Try.isAgg3 (hk20.cell rfl)) ⟨hB18, hk20⟩ (fun a146 h146 => ?_); clear h134
     refine dr_many [7] (by kernel_rfl) (by simp) ⟨?_, trivial⟩
     ·
      refine dr_opVal (i := 7) (v := .int .i64 L.stream) h146 rfl rfl rfl rfl (by kernel_rfl) rfl (rn_load1 rfl rfl Try.isAgg3 (hk20.cell rfl)) ⟨hB18, hk20⟩ (fun a147 h147 => ?_); clear h146
      refine dk0 23 (v := .agg #[.int .i64 L.boot, .int .i64 L.stream, .int .i64 q, .int .i64 L.peer, .int .i64 L.in0, .int .i64 L.next, .bool h, .string y]) h147 rfl rfl ⟨hB18, hk20⟩ fun a148 h148 => ?_; clear h147
      have hk154 := hk5.kept hg10 (by simp)
      refine d1D 24 h148 rfl rfl (op_storeN rfl rfl rfl (by kernel_rfl) (by kernel_rfl) hk154 rfl) ?_ ?_; clear h148
      ·
       rintro _ w150 ⟨hk151, hz152, hg153⟩
       have hk151' : Blk w150 N3 61 #[.int .i64 L.boot, .int .i64 L.stream, .int .i64 q, .int .i64 L.peer, .int .i64 L.in0, .int .i64 L.next, .bool h, .string y] := hk151; clear hk151
       have hz155 := hg153.size
       have hB156 := hb_at hB18 hg153 (by omega)
       have hk157 := hk20.kept hg153 (by simp; omega)
       exact ⟨hB156, hk157⟩
      rintro _ w150 a149 ⟨hk151, hz152, hg153⟩ h149
      have hk151' : Blk w150 N3 61 #[.int .i64 L.boot, .int .i64 L.stream, .int .i64 q, .int .i64 L.peer, .int .i64 L.in0, .int .i64 L.next, .bool h, .string y] := hk151; clear hk151
      have hz155 := hg153.size
      refine dr_done (by kernel_rfl) ?_
      refine co_then ?_
      refine wp_ret ?_
      refine co_retC (Q := fun _ _ _ => True) h149 rfl rfl hk151' Try.underlying61 rfl (by kernel_rfl) ?_
      have hB156 := hb_at hB18 hg153 (by omega)
      exact ⟨rfl, hB156⟩
   ·
    refine dr_opVal (i := 20) (v := .int .i64 L.next) h110 rfl rfl rfl rfl (by kernel_rfl) rfl (rn_load1 rfl rfl Try.isAgg3 (hk20.cell rfl)) ⟨hB18, hk20⟩ (fun a157 h157 => ?_); clear h110
    refine dr_many [7, 16] (by kernel_rfl) (by simp) ⟨?_, ?_, trivial⟩
    ·
     refine dr_opVal (i := 7) (v := .int .i64 L.stream) h157 rfl rfl rfl rfl (by kernel_rfl) rfl (rn_load1 rfl rfl Try.isAgg3 (hk20.cell rfl)) ⟨hB18, hk20⟩ (fun a158 h158 => ?_); clear h157
     refine dr_many [16] (by kernel_rfl) (by simp) ⟨?_, trivial⟩
     ·
      refine dr_opVal (i := 16) (v := .int .i64 L.in0) h158 rfl rfl rfl rfl (by kernel_rfl) rfl (rn_load1 rfl rfl Try.isAgg3 (hk20.cell rfl)) ⟨hB18, hk20⟩ (fun a159 h159 => ?_); clear h158
      refine dk0 23 (v := .agg #[.int .i64 L.boot, .int .i64 L.stream, .int .i64 q, .int .i64 L.peer, .int .i64 L.in0, .int .i64 L.next, .bool h, .string y]) h159 rfl rfl ⟨hB18, hk20⟩ fun a160 h160 => ?_; clear h159
      have hk166 := hk5.kept hg10 (by simp)
      refine d1D 24 h160 rfl rfl (op_storeN rfl rfl rfl (by kernel_rfl) (by kernel_rfl) hk166 rfl) ?_ ?_; clear h160
      ·
       rintro _ w162 ⟨hk163, hz164, hg165⟩
       have hk163' : Blk w162 N3 61 #[.int .i64 L.boot, .int .i64 L.stream, .int .i64 q, .int .i64 L.peer, .int .i64 L.in0, .int .i64 L.next, .bool h, .string y] := hk163; clear hk163
       have hz167 := hg165.size
       have hB168 := hb_at hB18 hg165 (by omega)
       have hk169 := hk20.kept hg165 (by simp; omega)
       exact ⟨hB168, hk169⟩
      rintro _ w162 a161 ⟨hk163, hz164, hg165⟩ h161
      have hk163' : Blk w162 N3 61 #[.int .i64 L.boot, .int .i64 L.stream, .int .i64 q, .int .i64 L.peer, .int .i64 L.in0, .int .i64 L.next, .bool h, .string y] := hk163; clear hk163
      have hz167 := hg165.size
      refine dr_done (by kernel_rfl) ?_
      refine co_then ?_
      refine wp_ret ?_
      refine co_retC (Q := fun _ _ _ => True) h161 rfl rfl hk163' Try.underlying61 rfl (by kernel_rfl) ?_
      have hB168 := hb_at hB18 hg165 (by omega)
      exact ⟨rfl, hB168⟩
    ·
     refine dr_opVal (i := 16) (v := .int .i64 L.in0) h157 rfl rfl rfl rfl (by kernel_rfl) rfl (rn_load1 rfl rfl Try.isAgg3 (hk20.cell rfl)) ⟨hB18, hk20⟩ (fun a169 h169 => ?_); clear h157
     refine dr_many [7] (by kernel_rfl) (by simp) ⟨?_, trivial⟩
     ·
      refine dr_opVal (i := 7) (v := .int .i64 L.stream) h169 rfl rfl rfl rfl (by kernel_rfl) rfl (rn_load1 rfl rfl Try.isAgg3 (hk20.cell rfl)) ⟨hB18, hk20⟩ (fun a170 h170 => ?_); clear h169
      refine dk0 23 (v := .agg #[.int .i64 L.boot, .int .i64 L.stream, .int .i64 q, .int .i64 L.peer, .int .i64 L.in0, .int .i64 L.next, .bool h, .string y]) h170 rfl rfl ⟨hB18, hk20⟩ fun a171 h171 => ?_; clear h170
      have hk177 := hk5.kept hg10 (by simp)
      refine d1D 24 h171 rfl rfl (op_storeN rfl rfl rfl (by kernel_rfl) (by kernel_rfl) hk177 rfl) ?_ ?_; clear h171
      ·
       rintro _ w173 ⟨hk174, hz175, hg176⟩
       have hk174' : Blk w173 N3 61 #[.int .i64 L.boot, .int .i64 L.stream, .int .i64 q, .int .i64 L.peer, .int .i64 L.in0, .int .i64 L.next, .bool h, .string y] := hk174; clear hk174
       have hz178 := hg176.size
       have hB179 := hb_at hB18 hg176 (by omega)
       have hk180 := hk20.kept hg176 (by simp; omega)
       exact ⟨hB179, hk180⟩
      rintro _ w173 a172 ⟨hk174, hz175, hg176⟩ h172
      have hk174' : Blk w173 N3 61 #[.int .i64 L.boot, .int .i64 L.stream, .int .i64 q, .int .i64 L.peer, .int .i64 L.in0, .int .i64 L.next, .bool h, .string y] := hk174; clear hk174
      have hz178 := hg176.size
      refine dr_done (by kernel_rfl) ?_
      refine co_then ?_
      refine wp_ret ?_
      refine co_retC (Q := fun _ _ _ => True) h172 rfl rfl hk174' Try.underlying61 rfl (by kernel_rfl) ?_
      have hB179 := hb_at hB18 hg176 (by omega)
      exact ⟨rfl, hB179⟩
  ·
   refine dr_opVal (i := 16) (v := .int .i64 L.in0) h39 rfl rfl rfl rfl (by kernel_rfl) rfl (rn_load1 rfl rfl Try.isAgg3 (hk20.cell rfl)) ⟨hB18, hk20⟩ (fun a180 h180 => ?_); clear h39
   refine dr_many [7, 12, 20] (by kernel_rfl) (by simp) ⟨?_, ?_, ?_, trivial⟩
   ·
    refine dr_opVal (i := 7) (v := .int .i64 L.stream) h180 rfl rfl rfl rfl (by kernel_rfl) rfl (rn_load1 rfl rfl Try.isAgg3 (hk20.cell rfl)) ⟨hB18, hk20⟩ (fun a181 h181 => ?_); clear h180
    refine dr_many [12, 20] (by kernel_rfl) (by simp) ⟨?_, ?_, trivial⟩
    ·
     refine dr_opVal (i := 12) (v := .int .i64 L.peer) h181 rfl rfl rfl rfl (by kernel_rfl) rfl (rn_load1 rfl rfl Try.isAgg3 (hk20.cell rfl)) ⟨hB18, hk20⟩ (fun a182 h182 => ?_); clear h181
     refine dr_many [20] (by kernel_rfl) (by simp) ⟨?_, trivial⟩
     ·
      refine dr_opVal (i := 20) (v := .int .i64 L.next) h182 rfl rfl rfl rfl (by kernel_rfl) rfl (rn_load1 rfl rfl Try.isAgg3 (hk20.cell rfl)) ⟨hB18, hk20⟩ (fun a183 h183 => ?_); clear h182
      refine dk0 23 (v := .agg #[.int .i64 L.boot, .int .i64 L.stream, .int .i64 q, .int .i64 L.peer, .int .i64 L.in0, .int .i64 L.next, .bool h, .string y]) h183 rfl rfl ⟨hB18, hk20⟩ fun a184 h184 => ?_; clear h183
      have hk190 := hk5.kept hg10 (by simp)
      refine d1D 24 h184 rfl rfl (op_storeN rfl rfl rfl (by kernel_rfl) (by kernel_rfl) hk190 rfl) ?_ ?_; clear h184
      ·
       rintro _ w186 ⟨hk187, hz188, hg189⟩
       have hk187' : Blk w186 N3 61 #[.int .i64 L.boot, .int .i64 L.stream, .int .i64 q, .int .i64 L.peer, .int .i64 L.in0, .int .i64 L.next, .bool h, .string y] := hk187; clear hk187
       have hz191 := hg189.size
       have hB192 := hb_at hB18 hg189 (by omega)
       have hk193 := hk20.kept hg189 (by simp; omega)
       exact ⟨hB192, hk193⟩
      rintro _ w186 a185 ⟨hk187, hz188, hg189⟩ h185
      have hk187' : Blk w186 N3 61 #[.int .i64 L.boot, .int .i64 L.stream, .int .i64 q, .int .i64 L.peer, .int .i64 L.in0, .int .i64 L.next, .bool h, .string y] := hk187; clear hk187
      have hz191 := hg189.size
      refine dr_done (by kernel_rfl) ?_
      refine co_then ?_
      refine wp_ret ?_
      refine co_retC (Q := fun _ _ _ => True) h185 rfl rfl hk187' Try.underlying61 rfl (by kernel_rfl) ?_
      have hB192 := hb_at hB18 hg189 (by omega)
      exact ⟨rfl, hB192⟩
    ·
     refine dr_opVal (i := 20) (v := .int .i64 L.next) h181 rfl rfl rfl rfl (by kernel_rfl) rfl (rn_load1 rfl rfl Try.isAgg3 (hk20.cell rfl)) ⟨hB18, hk20⟩ (fun a193 h193 => ?_); clear h181
     refine dr_many [12] (by kernel_rfl) (by simp) ⟨?_, trivial⟩
     ·
      refine dr_opVal (i := 12) (v := .int .i64 L.peer) h193 rfl rfl rfl rfl (by kernel_rfl) rfl (rn_load1 rfl rfl Try.isAgg3 (hk20.cell rfl)) ⟨hB18, hk20⟩ (fun a194 h194 => ?_); clear h193
      refine dk0 23 (v := .agg #[.int .i64 L.boot, .int .i64 L.stream, .int .i64 q, .int .i64 L.peer, .int .i64 L.in0, .int .i64 L.next, .bool h, .string y]) h194 rfl rfl ⟨hB18, hk20⟩ fun a195 h195 => ?_; clear h194
      have hk201 := hk5.kept hg10 (by simp)
      refine d1D 24 h195 rfl rfl (op_storeN rfl rfl rfl (by kernel_rfl) (by kernel_rfl) hk201 rfl) ?_ ?_; clear h195
      ·
       rintro _ w197 ⟨hk198, hz199, hg200⟩
       have hk198' : Blk w197 N3 61 #[.int .i64 L.boot, .int .i64 L.stream, .int .i64 q, .int .i64 L.peer, .int .i64 L.in0, .int .i64 L.next, .bool h, .string y] := hk198; clear hk198
       have hz202 := hg200.size
       have hB203 := hb_at hB18 hg200 (by omega)
       have hk204 := hk20.kept hg200 (by simp; omega)
       exact ⟨hB203, hk204⟩
      rintro _ w197 a196 ⟨hk198, hz199, hg200⟩ h196
      have hk198' : Blk w197 N3 61 #[.int .i64 L.boot, .int .i64 L.stream, .int .i64 q, .int .i64 L.peer, .int .i64 L.in0, .int .i64 L.next, .bool h, .string y] := hk198; clear hk198
      have hz202 := hg200.size
      refine dr_done (by kernel_rfl) ?_
      refine co_then ?_
      refine wp_ret ?_
      refine co_retC (Q := fun _ _ _ => True) h196 rfl rfl hk198' Try.underlying61 rfl (by kernel_rfl) ?_
      have hB203 := hb_at hB18 hg200 (by omega)
      exact ⟨rfl, hB203⟩
   ·
    refine dr_opVal (i := 12) (v := .int .i64 L.peer) h180 rfl rfl rfl rfl (by kernel_rfl) rfl (rn_load1 rfl rfl Try.isAgg3 (hk20.cell rfl)) ⟨hB18, hk20⟩ (fun a204 h204 => ?_); clear h180
    refine dr_many [7, 20] (by kernel_rfl) (by simp) ⟨?_, ?_, trivial⟩
    ·
     refine dr_opVal (i := 7) (v := .int .i64 L.stream) h204 rfl rfl rfl rfl (by kernel_rfl) rfl (rn_load1 rfl rfl Try.isAgg3 (hk20.cell rfl)) ⟨hB18, hk20⟩ (fun a205 h205 => ?_); clear h204
     refine dr_many [20] (by kernel_rfl) (by simp) ⟨?_, trivial⟩
     ·
      refine dr_opVal (i := 20) (v := .int .i64 L.next) h205 rfl rfl rfl rfl (by kernel_rfl) rfl (rn_load1 rfl rfl Try.isAgg3 (hk20.cell rfl)) ⟨hB18, hk20⟩ (fun a206 h206 => ?_); clear h205
      refine dk0 23 (v := .agg #[.int .i64 L.boot, .int .i64 L.stream, .int .i64 q, .int .i64 L.peer, .int .i64 L.in0, .int .i64 L.next, .bool h, .string y]) h206 rfl rfl ⟨hB18, hk20⟩ fun a207 h207 => ?_; clear h206
      have hk213 := hk5.kept hg10 (by simp)
      refine d1D 24 h207 rfl rfl (op_storeN rfl rfl rfl (by kernel_rfl) (by kernel_rfl) hk213 rfl) ?_ ?_; clear h207
      ·
       rintro _ w209 ⟨hk210, hz211, hg212⟩
       have hk210' : Blk w209 N3 61 #[.int .i64 L.boot, .int .i64 L.stream, .int .i64 q, .int .i64 L.peer, .int .i64 L.in0, .int .i64 L.next, .bool h, .string y] := hk210; clear hk210
       have hz214 := hg212.size
       have hB215 := hb_at hB18 hg212 (by omega)
       have hk216 := hk20.kept hg212 (by simp; omega)
       exact ⟨hB215, hk216⟩
      rintro _ w209 a208 ⟨hk210, hz211, hg212⟩ h208
      have hk210' : Blk w209 N3 61 #[.int .i64 L.boot, .int .i64 L.stream, .int .i64 q, .int .i64 L.peer, .int .i64 L.in0, .int .i64 L.next, .bool h, .string y] := hk210; clear hk210
      have hz214 := hg212.size
      refine dr_done (by kernel_rfl) ?_
      refine co_then ?_
      refine wp_ret ?_
      refine co_retC (Q := fun _ _ _ => True) h208 rfl rfl hk210' Try.underlying61 rfl (by kernel_rfl) ?_
      have hB215 := hb_at hB18 hg212 (by omega)
      exact ⟨rfl, hB215⟩
    ·
     refine dr_opVal (i := 20) (v := .int .i64 L.next) h204 rfl rfl rfl rfl (by kernel_rfl) rfl (rn_load1 rfl rfl Try.isAgg3 (hk20.cell rfl)) ⟨hB18, hk20⟩ (fun a216 h216 => ?_); clear h204
     refine dr_many [7] (by kernel_rfl) (by simp) ⟨?_, trivial⟩
     ·
      refine dr_opVal (i := 7) (v := .int .i64 L.stream) h216 rfl rfl rfl rfl (by kernel_rfl) rfl (rn_load1 rfl rfl Try.isAgg3 (hk20.cell rfl)) ⟨hB18, hk20⟩ (fun a217 h217 => ?_); clear h216
      refine dk0 23 (v := .agg #[.int .i64 L.boot, .int .i64 L.stream, .int .i64 q, .int .i64 L.peer, .int .i64 L.in0, .int .i64 L.next, .bool h, .string y]) h217 rfl rfl ⟨hB18, hk20⟩ fun a218 h218 => ?_; clear h217
      have hk224 := hk5.kept hg10 (by simp)
      refine d1D 24 h218 rfl rfl (op_storeN rfl rfl rfl (by kernel_rfl) (by kernel_rfl) hk224 rfl) ?_ ?_; clear h218
      ·
       rintro _ w220 ⟨hk221, hz222, hg223⟩
       have hk221' : Blk w220 N3 61 #[.int .i64 L.boot, .int .i64 L.stream, .int .i64 q, .int .i64 L.peer, .int .i64 L.in0, .int .i64 L.next, .bool h, .string y] := hk221; clear hk221
       have hz225 := hg223.size
       have hB226 := hb_at hB18 hg223 (by omega)
       have hk227 := hk20.kept hg223 (by simp; omega)
       exact ⟨hB226, hk227⟩
      rintro _ w220 a219 ⟨hk221, hz222, hg223⟩ h219
      have hk221' : Blk w220 N3 61 #[.int .i64 L.boot, .int .i64 L.stream, .int .i64 q, .int .i64 L.peer, .int .i64 L.in0, .int .i64 L.next, .bool h, .string y] := hk221; clear hk221
      have hz225 := hg223.size
      refine dr_done (by kernel_rfl) ?_
      refine co_then ?_
      refine wp_ret ?_
      refine co_retC (Q := fun _ _ _ => True) h219 rfl rfl hk221' Try.underlying61 rfl (by kernel_rfl) ?_
      have hB226 := hb_at hB18 hg223 (by omega)
      exact ⟨rfl, hB226⟩
   ·
    refine dr_opVal (i := 20) (v := .int .i64 L.next) h180 rfl rfl rfl rfl (by kernel_rfl) rfl (rn_load1 rfl rfl Try.isAgg3 (hk20.cell rfl)) ⟨hB18, hk20⟩ (fun a227 h227 => ?_); clear h180
    refine dr_many [7, 12] (by kernel_rfl) (by simp) ⟨?_, ?_, trivial⟩
    ·
     refine dr_opVal (i := 7) (v := .int .i64 L.stream) h227 rfl rfl rfl rfl (by kernel_rfl) rfl (rn_load1 rfl rfl Try.isAgg3 (hk20.cell rfl)) ⟨hB18, hk20⟩ (fun a228 h228 => ?_); clear h227
     refine dr_many [12] (by kernel_rfl) (by simp) ⟨?_, trivial⟩
     ·
      refine dr_opVal (i := 12) (v := .int .i64 L.peer) h228 rfl rfl rfl rfl (by kernel_rfl) rfl (rn_load1 rfl rfl Try.isAgg3 (hk20.cell rfl)) ⟨hB18, hk20⟩ (fun a229 h229 => ?_); clear h228
      refine dk0 23 (v := .agg #[.int .i64 L.boot, .int .i64 L.stream, .int .i64 q, .int .i64 L.peer, .int .i64 L.in0, .int .i64 L.next, .bool h, .string y]) h229 rfl rfl ⟨hB18, hk20⟩ fun a230 h230 => ?_; clear h229
      have hk236 := hk5.kept hg10 (by simp)
      refine d1D 24 h230 rfl rfl (op_storeN rfl rfl rfl (by kernel_rfl) (by kernel_rfl) hk236 rfl) ?_ ?_; clear h230
      ·
       rintro _ w232 ⟨hk233, hz234, hg235⟩
       have hk233' : Blk w232 N3 61 #[.int .i64 L.boot, .int .i64 L.stream, .int .i64 q, .int .i64 L.peer, .int .i64 L.in0, .int .i64 L.next, .bool h, .string y] := hk233; clear hk233
       have hz237 := hg235.size
       have hB238 := hb_at hB18 hg235 (by omega)
       have hk239 := hk20.kept hg235 (by simp; omega)
       exact ⟨hB238, hk239⟩
      rintro _ w232 a231 ⟨hk233, hz234, hg235⟩ h231
      have hk233' : Blk w232 N3 61 #[.int .i64 L.boot, .int .i64 L.stream, .int .i64 q, .int .i64 L.peer, .int .i64 L.in0, .int .i64 L.next, .bool h, .string y] := hk233; clear hk233
      have hz237 := hg235.size
      refine dr_done (by kernel_rfl) ?_
      refine co_then ?_
      refine wp_ret ?_
      refine co_retC (Q := fun _ _ _ => True) h231 rfl rfl hk233' Try.underlying61 rfl (by kernel_rfl) ?_
      have hB238 := hb_at hB18 hg235 (by omega)
      exact ⟨rfl, hB238⟩
    ·
     refine dr_opVal (i := 12) (v := .int .i64 L.peer) h227 rfl rfl rfl rfl (by kernel_rfl) rfl (rn_load1 rfl rfl Try.isAgg3 (hk20.cell rfl)) ⟨hB18, hk20⟩ (fun a239 h239 => ?_); clear h227
     refine dr_many [7] (by kernel_rfl) (by simp) ⟨?_, trivial⟩
     ·
      refine dr_opVal (i := 7) (v := .int .i64 L.stream) h239 rfl rfl rfl rfl (by kernel_rfl) rfl (rn_load1 rfl rfl Try.isAgg3 (hk20.cell rfl)) ⟨hB18, hk20⟩ (fun a240 h240 => ?_); clear h239
      refine dk0 23 (v := .agg #[.int .i64 L.boot, .int .i64 L.stream, .int .i64 q, .int .i64 L.peer, .int .i64 L.in0, .int .i64 L.next, .bool h, .string y]) h240 rfl rfl ⟨hB18, hk20⟩ fun a241 h241 => ?_; clear h240
      have hk247 := hk5.kept hg10 (by simp)
      refine d1D 24 h241 rfl rfl (op_storeN rfl rfl rfl (by kernel_rfl) (by kernel_rfl) hk247 rfl) ?_ ?_; clear h241
      ·
       rintro _ w243 ⟨hk244, hz245, hg246⟩
       have hk244' : Blk w243 N3 61 #[.int .i64 L.boot, .int .i64 L.stream, .int .i64 q, .int .i64 L.peer, .int .i64 L.in0, .int .i64 L.next, .bool h, .string y] := hk244; clear hk244
       have hz248 := hg246.size
       have hB249 := hb_at hB18 hg246 (by omega)
       have hk250 := hk20.kept hg246 (by simp; omega)
       exact ⟨hB249, hk250⟩
      rintro _ w243 a242 ⟨hk244, hz245, hg246⟩ h242
      have hk244' : Blk w243 N3 61 #[.int .i64 L.boot, .int .i64 L.stream, .int .i64 q, .int .i64 L.peer, .int .i64 L.in0, .int .i64 L.next, .bool h, .string y] := hk244; clear hk244
      have hz248 := hg246.size
      refine dr_done (by kernel_rfl) ?_
      refine co_then ?_
      refine wp_ret ?_
      refine co_retC (Q := fun _ _ _ => True) h242 rfl rfl hk244' Try.underlying61 rfl (by kernel_rfl) ?_
      have hB249 := hb_at hB18 hg246 (by omega)
      exact ⟨rfl, hB249⟩
  ·
   refine dr_opVal (i := 20) (v := .int .i64 L.next) h39 rfl rfl rfl rfl (by kernel_rfl) rfl (rn_load1 rfl rfl Try.isAgg3 (hk20.cell rfl)) ⟨hB18, hk20⟩ (fun a250 h250 => ?_); clear h39
   refine dr_many [7, 12, 16] (by kernel_rfl) (by simp) ⟨?_, ?_, ?_, trivial⟩
   ·
    refine dr_opVal (i := 7) (v := .int .i64 L.stream) h250 rfl rfl rfl rfl (by kernel_rfl) rfl (rn_load1 rfl rfl Try.isAgg3 (hk20.cell rfl)) ⟨hB18, hk20⟩ (fun a251 h251 => ?_); clear h250
    refine dr_many [12, 16] (by kernel_rfl) (by simp) ⟨?_, ?_, trivial⟩
    ·
     refine dr_opVal (i := 12) (v := .int .i64 L.peer) h251 rfl rfl rfl rfl (by kernel_rfl) rfl (rn_load1 rfl rfl Try.isAgg3 (hk20.cell rfl)) ⟨hB18, hk20⟩ (fun a252 h252 => ?_); clear h251
     refine dr_many [16] (by kernel_rfl) (by simp) ⟨?_, trivial⟩
     ·
      refine dr_opVal (i := 16) (v := .int .i64 L.in0) h252 rfl rfl rfl rfl (by kernel_rfl) rfl (rn_load1 rfl rfl Try.isAgg3 (hk20.cell rfl)) ⟨hB18, hk20⟩ (fun a253 h253 => ?_); clear h252
      refine dk0 23 (v := .agg #[.int .i64 L.boot, .int .i64 L.stream, .int .i64 q, .int .i64 L.peer, .int .i64 L.in0, .int .i64 L.next, .bool h, .string y]) h253 rfl rfl ⟨hB18, hk20⟩ fun a254 h254 => ?_; clear h253
      have hk260 := hk5.kept hg10 (by simp)
      refine d1D 24 h254 rfl rfl (op_storeN rfl rfl rfl (by kernel_rfl) (by kernel_rfl) hk260 rfl) ?_ ?_; clear h254
      ·
       rintro _ w256 ⟨hk257, hz258, hg259⟩
       have hk257' : Blk w256 N3 61 #[.int .i64 L.boot, .int .i64 L.stream, .int .i64 q, .int .i64 L.peer, .int .i64 L.in0, .int .i64 L.next, .bool h, .string y] := hk257; clear hk257
       have hz261 := hg259.size
       have hB262 := hb_at hB18 hg259 (by omega)
       have hk263 := hk20.kept hg259 (by simp; omega)
       exact ⟨hB262, hk263⟩
      rintro _ w256 a255 ⟨hk257, hz258, hg259⟩ h255
      have hk257' : Blk w256 N3 61 #[.int .i64 L.boot, .int .i64 L.stream, .int .i64 q, .int .i64 L.peer, .int .i64 L.in0, .int .i64 L.next, .bool h, .string y] := hk257; clear hk257
      have hz261 := hg259.size
      refine dr_done (by kernel_rfl) ?_
      refine co_then ?_
      refine wp_ret ?_
      refine co_retC (Q := fun _ _ _ => True) h255 rfl rfl hk257' Try.underlying61 rfl (by kernel_rfl) ?_
      have hB262 := hb_at hB18 hg259 (by omega)
      exact ⟨rfl, hB262⟩
    ·
     refine dr_opVal (i := 16) (v := .int .i64 L.in0) h251 rfl rfl rfl rfl (by kernel_rfl) rfl (rn_load1 rfl rfl Try.isAgg3 (hk20.cell rfl)) ⟨hB18, hk20⟩ (fun a263 h263 => ?_); clear h251
     refine dr_many [12] (by kernel_rfl) (by simp) ⟨?_, trivial⟩
     ·
      refine dr_opVal (i := 12) (v := .int .i64 L.peer) h263 rfl rfl rfl rfl (by kernel_rfl) rfl (rn_load1 rfl rfl Try.isAgg3 (hk20.cell rfl)) ⟨hB18, hk20⟩ (fun a264 h264 => ?_); clear h263
      refine dk0 23 (v := .agg #[.int .i64 L.boot, .int .i64 L.stream, .int .i64 q, .int .i64 L.peer, .int .i64 L.in0, .int .i64 L.next, .bool h, .string y]) h264 rfl rfl ⟨hB18, hk20⟩ fun a265 h265 => ?_; clear h264
      have hk271 := hk5.kept hg10 (by simp)
      refine d1D 24 h265 rfl rfl (op_storeN rfl rfl rfl (by kernel_rfl) (by kernel_rfl) hk271 rfl) ?_ ?_; clear h265
      ·
       rintro _ w267 ⟨hk268, hz269, hg270⟩
       have hk268' : Blk w267 N3 61 #[.int .i64 L.boot, .int .i64 L.stream, .int .i64 q, .int .i64 L.peer, .int .i64 L.in0, .int .i64 L.next, .bool h, .string y] := hk268; clear hk268
       have hz272 := hg270.size
       have hB273 := hb_at hB18 hg270 (by omega)
       have hk274 := hk20.kept hg270 (by simp; omega)
       exact ⟨hB273, hk274⟩
      rintro _ w267 a266 ⟨hk268, hz269, hg270⟩ h266
      have hk268' : Blk w267 N3 61 #[.int .i64 L.boot, .int .i64 L.stream, .int .i64 q, .int .i64 L.peer, .int .i64 L.in0, .int .i64 L.next, .bool h, .string y] := hk268; clear hk268
      have hz272 := hg270.size
      refine dr_done (by kernel_rfl) ?_
      refine co_then ?_
      refine wp_ret ?_
      refine co_retC (Q := fun _ _ _ => True) h266 rfl rfl hk268' Try.underlying61 rfl (by kernel_rfl) ?_
      have hB273 := hb_at hB18 hg270 (by omega)
      exact ⟨rfl, hB273⟩
   ·
    refine dr_opVal (i := 12) (v := .int .i64 L.peer) h250 rfl rfl rfl rfl (by kernel_rfl) rfl (rn_load1 rfl rfl Try.isAgg3 (hk20.cell rfl)) ⟨hB18, hk20⟩ (fun a274 h274 => ?_); clear h250
    refine dr_many [7, 16] (by kernel_rfl) (by simp) ⟨?_, ?_, trivial⟩
    ·
     refine dr_opVal (i := 7) (v := .int .i64 L.stream) h274 rfl rfl rfl rfl (by kernel_rfl) rfl (rn_load1 rfl rfl Try.isAgg3 (hk20.cell rfl)) ⟨hB18, hk20⟩ (fun a275 h275 => ?_); clear h274
     refine dr_many [16] (by kernel_rfl) (by simp) ⟨?_, trivial⟩
     ·
      refine dr_opVal (i := 16) (v := .int .i64 L.in0) h275 rfl rfl rfl rfl (by kernel_rfl) rfl (rn_load1 rfl rfl Try.isAgg3 (hk20.cell rfl)) ⟨hB18, hk20⟩ (fun a276 h276 => ?_); clear h275
      refine dk0 23 (v := .agg #[.int .i64 L.boot, .int .i64 L.stream, .int .i64 q, .int .i64 L.peer, .int .i64 L.in0, .int .i64 L.next, .bool h, .string y]) h276 rfl rfl ⟨hB18, hk20⟩ fun a277 h277 => ?_; clear h276
      have hk283 := hk5.kept hg10 (by simp)
      refine d1D 24 h277 rfl rfl (op_storeN rfl rfl rfl (by kernel_rfl) (by kernel_rfl) hk283 rfl) ?_ ?_; clear h277
      ·
       rintro _ w279 ⟨hk280, hz281, hg282⟩
       have hk280' : Blk w279 N3 61 #[.int .i64 L.boot, .int .i64 L.stream, .int .i64 q, .int .i64 L.peer, .int .i64 L.in0, .int .i64 L.next, .bool h, .string y] := hk280; clear hk280
       have hz284 := hg282.size
       have hB285 := hb_at hB18 hg282 (by omega)
       have hk286 := hk20.kept hg282 (by simp; omega)
       exact ⟨hB285, hk286⟩
      rintro _ w279 a278 ⟨hk280, hz281, hg282⟩ h278
      have hk280' : Blk w279 N3 61 #[.int .i64 L.boot, .int .i64 L.stream, .int .i64 q, .int .i64 L.peer, .int .i64 L.in0, .int .i64 L.next, .bool h, .string y] := hk280; clear hk280
      have hz284 := hg282.size
      refine dr_done (by kernel_rfl) ?_
      refine co_then ?_
      refine wp_ret ?_
      refine co_retC (Q := fun _ _ _ => True) h278 rfl rfl hk280' Try.underlying61 rfl (by kernel_rfl) ?_
      have hB285 := hb_at hB18 hg282 (by omega)
      exact ⟨rfl, hB285⟩
    ·
     refine dr_opVal (i := 16) (v := .int .i64 L.in0) h274 rfl rfl rfl rfl (by kernel_rfl) rfl (rn_load1 rfl rfl Try.isAgg3 (hk20.cell rfl)) ⟨hB18, hk20⟩ (fun a286 h286 => ?_); clear h274
     refine dr_many [7] (by kernel_rfl) (by simp) ⟨?_, trivial⟩
     ·
      refine dr_opVal (i := 7) (v := .int .i64 L.stream) h286 rfl rfl rfl rfl (by kernel_rfl) rfl (rn_load1 rfl rfl Try.isAgg3 (hk20.cell rfl)) ⟨hB18, hk20⟩ (fun a287 h287 => ?_); clear h286
      refine dk0 23 (v := .agg #[.int .i64 L.boot, .int .i64 L.stream, .int .i64 q, .int .i64 L.peer, .int .i64 L.in0, .int .i64 L.next, .bool h, .string y]) h287 rfl rfl ⟨hB18, hk20⟩ fun a288 h288 => ?_; clear h287
      have hk294 := hk5.kept hg10 (by simp)
      refine d1D 24 h288 rfl rfl (op_storeN rfl rfl rfl (by kernel_rfl) (by kernel_rfl) hk294 rfl) ?_ ?_; clear h288
      ·
       rintro _ w290 ⟨hk291, hz292, hg293⟩
       have hk291' : Blk w290 N3 61 #[.int .i64 L.boot, .int .i64 L.stream, .int .i64 q, .int .i64 L.peer, .int .i64 L.in0, .int .i64 L.next, .bool h, .string y] := hk291; clear hk291
       have hz295 := hg293.size
       have hB296 := hb_at hB18 hg293 (by omega)
       have hk297 := hk20.kept hg293 (by simp; omega)
       exact ⟨hB296, hk297⟩
      rintro _ w290 a289 ⟨hk291, hz292, hg293⟩ h289
      have hk291' : Blk w290 N3 61 #[.int .i64 L.boot, .int .i64 L.stream, .int .i64 q, .int .i64 L.peer, .int .i64 L.in0, .int .i64 L.next, .bool h, .string y] := hk291; clear hk291
      have hz295 := hg293.size
      refine dr_done (by kernel_rfl) ?_
      refine co_then ?_
      refine wp_ret ?_
      refine co_retC (Q := fun _ _ _ => True) h289 rfl rfl hk291' Try.underlying61 rfl (by kernel_rfl) ?_
      have hB296 := hb_at hB18 hg293 (by omega)
      exact ⟨rfl, hB296⟩
   ·
    refine dr_opVal (i := 16) (v := .int .i64 L.in0) h250 rfl rfl rfl rfl (by kernel_rfl) rfl (rn_load1 rfl rfl Try.isAgg3 (hk20.cell rfl)) ⟨hB18, hk20⟩ (fun a297 h297 => ?_); clear h250
    refine dr_many [7, 12] (by kernel_rfl) (by simp) ⟨?_, ?_, trivial⟩
    ·
     refine dr_opVal (i := 7) (v := .int .i64 L.stream) h297 rfl rfl rfl rfl (by kernel_rfl) rfl (rn_load1 rfl rfl Try.isAgg3 (hk20.cell rfl)) ⟨hB18, hk20⟩ (fun a298 h298 => ?_); clear h297
     refine dr_many [12] (by kernel_rfl) (by simp) ⟨?_, trivial⟩
     ·
      refine dr_opVal (i := 12) (v := .int .i64 L.peer) h298 rfl rfl rfl rfl (by kernel_rfl) rfl (rn_load1 rfl rfl Try.isAgg3 (hk20.cell rfl)) ⟨hB18, hk20⟩ (fun a299 h299 => ?_); clear h298
      refine dk0 23 (v := .agg #[.int .i64 L.boot, .int .i64 L.stream, .int .i64 q, .int .i64 L.peer, .int .i64 L.in0, .int .i64 L.next, .bool h, .string y]) h299 rfl rfl ⟨hB18, hk20⟩ fun a300 h300 => ?_; clear h299
      have hk306 := hk5.kept hg10 (by simp)
      refine d1D 24 h300 rfl rfl (op_storeN rfl rfl rfl (by kernel_rfl) (by kernel_rfl) hk306 rfl) ?_ ?_; clear h300
      ·
       rintro _ w302 ⟨hk303, hz304, hg305⟩
       have hk303' : Blk w302 N3 61 #[.int .i64 L.boot, .int .i64 L.stream, .int .i64 q, .int .i64 L.peer, .int .i64 L.in0, .int .i64 L.next, .bool h, .string y] := hk303; clear hk303
       have hz307 := hg305.size
       have hB308 := hb_at hB18 hg305 (by omega)
       have hk309 := hk20.kept hg305 (by simp; omega)
       exact ⟨hB308, hk309⟩
      rintro _ w302 a301 ⟨hk303, hz304, hg305⟩ h301
      have hk303' : Blk w302 N3 61 #[.int .i64 L.boot, .int .i64 L.stream, .int .i64 q, .int .i64 L.peer, .int .i64 L.in0, .int .i64 L.next, .bool h, .string y] := hk303; clear hk303
      have hz307 := hg305.size
      refine dr_done (by kernel_rfl) ?_
      refine co_then ?_
      refine wp_ret ?_
      refine co_retC (Q := fun _ _ _ => True) h301 rfl rfl hk303' Try.underlying61 rfl (by kernel_rfl) ?_
      have hB308 := hb_at hB18 hg305 (by omega)
      exact ⟨rfl, hB308⟩
    ·
     refine dr_opVal (i := 12) (v := .int .i64 L.peer) h297 rfl rfl rfl rfl (by kernel_rfl) rfl (rn_load1 rfl rfl Try.isAgg3 (hk20.cell rfl)) ⟨hB18, hk20⟩ (fun a309 h309 => ?_); clear h297
     refine dr_many [7] (by kernel_rfl) (by simp) ⟨?_, trivial⟩
     ·
      refine dr_opVal (i := 7) (v := .int .i64 L.stream) h309 rfl rfl rfl rfl (by kernel_rfl) rfl (rn_load1 rfl rfl Try.isAgg3 (hk20.cell rfl)) ⟨hB18, hk20⟩ (fun a310 h310 => ?_); clear h309
      refine dk0 23 (v := .agg #[.int .i64 L.boot, .int .i64 L.stream, .int .i64 q, .int .i64 L.peer, .int .i64 L.in0, .int .i64 L.next, .bool h, .string y]) h310 rfl rfl ⟨hB18, hk20⟩ fun a311 h311 => ?_; clear h310
      have hk317 := hk5.kept hg10 (by simp)
      refine d1D 24 h311 rfl rfl (op_storeN rfl rfl rfl (by kernel_rfl) (by kernel_rfl) hk317 rfl) ?_ ?_; clear h311
      ·
       rintro _ w313 ⟨hk314, hz315, hg316⟩
       have hk314' : Blk w313 N3 61 #[.int .i64 L.boot, .int .i64 L.stream, .int .i64 q, .int .i64 L.peer, .int .i64 L.in0, .int .i64 L.next, .bool h, .string y] := hk314; clear hk314
       have hz318 := hg316.size
       have hB319 := hb_at hB18 hg316 (by omega)
       have hk320 := hk20.kept hg316 (by simp; omega)
       exact ⟨hB319, hk320⟩
      rintro _ w313 a312 ⟨hk314, hz315, hg316⟩ h312
      have hk314' : Blk w313 N3 61 #[.int .i64 L.boot, .int .i64 L.stream, .int .i64 q, .int .i64 L.peer, .int .i64 L.in0, .int .i64 L.next, .bool h, .string y] := hk314; clear hk314
      have hz318 := hg316.size
      refine dr_done (by kernel_rfl) ?_
      refine co_then ?_
      refine wp_ret ?_
      refine co_retC (Q := fun _ _ _ => True) h312 rfl rfl hk314' Try.underlying61 rfl (by kernel_rfl) ?_
      have hB319 := hb_at hB18 hg316 (by omega)
      exact ⟨rfl, hB319⟩
 ·
  refine dr_opVal (i := 7) (v := .int .i64 L.stream) h38 rfl rfl rfl rfl (by kernel_rfl) rfl (rn_load1 rfl rfl Try.isAgg3 (hk20.cell rfl)) ⟨hB18, hk20⟩ (fun a320 h320 => ?_); clear h38
  refine dr_many [3, 12, 16, 20] (by kernel_rfl) (by simp) ⟨?_, ?_, ?_, ?_, trivial⟩
  ·
   refine dr_opVal (i := 3) (v := .int .i64 L.boot) h320 rfl rfl rfl rfl (by kernel_rfl) rfl (rn_load1 rfl rfl Try.isAgg3 (hk20.cell rfl)) ⟨hB18, hk20⟩ (fun a321 h321 => ?_); clear h320
   refine dr_many [12, 16, 20] (by kernel_rfl) (by simp) ⟨?_, ?_, ?_, trivial⟩
   ·
    refine dr_opVal (i := 12) (v := .int .i64 L.peer) h321 rfl rfl rfl rfl (by kernel_rfl) rfl (rn_load1 rfl rfl Try.isAgg3 (hk20.cell rfl)) ⟨hB18, hk20⟩ (fun a322 h322 => ?_); clear h321
    refine dr_many [16, 20] (by kernel_rfl) (by simp) ⟨?_, ?_, trivial⟩
    ·
     refine dr_opVal (i := 16) (v := .int .i64 L.in0) h322 rfl rfl rfl rfl (by kernel_rfl) rfl (rn_load1 rfl rfl Try.isAgg3 (hk20.cell rfl)) ⟨hB18, hk20⟩ (fun a323 h323 => ?_); clear h322
     refine dr_many [20] (by kernel_rfl) (by simp) ⟨?_, trivial⟩
     ·
      refine dr_opVal (i := 20) (v := .int .i64 L.next) h323 rfl rfl rfl rfl (by kernel_rfl) rfl (rn_load1 rfl rfl Try.isAgg3 (hk20.cell rfl)) ⟨hB18, hk20⟩ (fun a324 h324 => ?_); clear h323
      refine dk0 23 (v := .agg #[.int .i64 L.boot, .int .i64 L.stream, .int .i64 q, .int .i64 L.peer, .int .i64 L.in0, .int .i64 L.next, .bool h, .string y]) h324 rfl rfl ⟨hB18, hk20⟩ fun a325 h325 => ?_; clear h324
      have hk331 := hk5.kept hg10 (by simp)
      refine d1D 24 h325 rfl rfl (op_storeN rfl rfl rfl (by kernel_rfl) (by kernel_rfl) hk331 rfl) ?_ ?_; clear h325
      ·
       rintro _ w327 ⟨hk328, hz329, hg330⟩
       have hk328' : Blk w327 N3 61 #[.int .i64 L.boot, .int .i64 L.stream, .int .i64 q, .int .i64 L.peer, .int .i64 L.in0, .int .i64 L.next, .bool h, .string y] := hk328; clear hk328
       have hz332 := hg330.size
       have hB333 := hb_at hB18 hg330 (by omega)
       have hk334 := hk20.kept hg330 (by simp; omega)
       exact ⟨hB333, hk334⟩
      rintro _ w327 a326 ⟨hk328, hz329, hg330⟩ h326
      have hk328' : Blk w327 N3 61 #[.int .i64 L.boot, .int .i64 L.stream, .int .i64 q, .int .i64 L.peer, .int .i64 L.in0, .int .i64 L.next, .bool h, .string y] := hk328; clear hk328
      have hz332 := hg330.size
      refine dr_done (by kernel_rfl) ?_
      refine co_then ?_
      refine wp_ret ?_
      refine co_retC (Q := fun _ _ _ => True) h326 rfl rfl hk328' Try.underlying61 rfl (by kernel_rfl) ?_
      have hB333 := hb_at hB18 hg330 (by omega)
      exact ⟨rfl, hB333⟩
    ·
     refine dr_opVal (i := 20) (v := .int .i64 L.next) h322 rfl rfl rfl rfl (by kernel_rfl) rfl (rn_load1 rfl rfl Try.isAgg3 (hk20.cell rfl)) ⟨hB18, hk20⟩ (fun a334 h334 => ?_); clear h322
     refine dr_many [16] (by kernel_rfl) (by simp) ⟨?_, trivial⟩
     ·
      refine dr_opVal (i := 16) (v := .int .i64 L.in0) h334 rfl rfl rfl rfl (by kernel_rfl) rfl (rn_load1 rfl rfl Try.isAgg3 (hk20.cell rfl)) ⟨hB18, hk20⟩ (fun a335 h335 => ?_); clear h334
      refine dk0 23 (v := .agg #[.int .i64 L.boot, .int .i64 L.stream, .int .i64 q, .int .i64 L.peer, .int .i64 L.in0, .int .i64 L.next, .bool h, .string y]) h335 rfl rfl ⟨hB18, hk20⟩ fun a336 h336 => ?_; clear h335
      have hk342 := hk5.kept hg10 (by simp)
      refine d1D 24 h336 rfl rfl (op_storeN rfl rfl rfl (by kernel_rfl) (by kernel_rfl) hk342 rfl) ?_ ?_; clear h336
      ·
       rintro _ w338 ⟨hk339, hz340, hg341⟩
       have hk339' : Blk w338 N3 61 #[.int .i64 L.boot, .int .i64 L.stream, .int .i64 q, .int .i64 L.peer, .int .i64 L.in0, .int .i64 L.next, .bool h, .string y] := hk339; clear hk339
       have hz343 := hg341.size
       have hB344 := hb_at hB18 hg341 (by omega)
       have hk345 := hk20.kept hg341 (by simp; omega)
       exact ⟨hB344, hk345⟩
      rintro _ w338 a337 ⟨hk339, hz340, hg341⟩ h337
      have hk339' : Blk w338 N3 61 #[.int .i64 L.boot, .int .i64 L.stream, .int .i64 q, .int .i64 L.peer, .int .i64 L.in0, .int .i64 L.next, .bool h, .string y] := hk339; clear hk339
      have hz343 := hg341.size
      refine dr_done (by kernel_rfl) ?_
      refine co_then ?_
      refine wp_ret ?_
      refine co_retC (Q := fun _ _ _ => True) h337 rfl rfl hk339' Try.underlying61 rfl (by kernel_rfl) ?_
      have hB344 := hb_at hB18 hg341 (by omega)
      exact ⟨rfl, hB344⟩
   ·
    refine dr_opVal (i := 16) (v := .int .i64 L.in0) h321 rfl rfl rfl rfl (by kernel_rfl) rfl (rn_load1 rfl rfl Try.isAgg3 (hk20.cell rfl)) ⟨hB18, hk20⟩ (fun a345 h345 => ?_); clear h321
    refine dr_many [12, 20] (by kernel_rfl) (by simp) ⟨?_, ?_, trivial⟩
    ·
     refine dr_opVal (i := 12) (v := .int .i64 L.peer) h345 rfl rfl rfl rfl (by kernel_rfl) rfl (rn_load1 rfl rfl Try.isAgg3 (hk20.cell rfl)) ⟨hB18, hk20⟩ (fun a346 h346 => ?_); clear h345
     refine dr_many [20] (by kernel_rfl) (by simp) ⟨?_, trivial⟩
     ·
      refine dr_opVal (i := 20) (v := .int .i64 L.next) h346 rfl rfl rfl rfl (by kernel_rfl) rfl (rn_load1 rfl rfl Try.isAgg3 (hk20.cell rfl)) ⟨hB18, hk20⟩ (fun a347 h347 => ?_); clear h346
      refine dk0 23 (v := .agg #[.int .i64 L.boot, .int .i64 L.stream, .int .i64 q, .int .i64 L.peer, .int .i64 L.in0, .int .i64 L.next, .bool h, .string y]) h347 rfl rfl ⟨hB18, hk20⟩ fun a348 h348 => ?_; clear h347
      have hk354 := hk5.kept hg10 (by simp)
      refine d1D 24 h348 rfl rfl (op_storeN rfl rfl rfl (by kernel_rfl) (by kernel_rfl) hk354 rfl) ?_ ?_; clear h348
      ·
       rintro _ w350 ⟨hk351, hz352, hg353⟩
       have hk351' : Blk w350 N3 61 #[.int .i64 L.boot, .int .i64 L.stream, .int .i64 q, .int .i64 L.peer, .int .i64 L.in0, .int .i64 L.next, .bool h, .string y] := hk351; clear hk351
       have hz355 := hg353.size
       have hB356 := hb_at hB18 hg353 (by omega)
       have hk357 := hk20.kept hg353 (by simp; omega)
       exact ⟨hB356, hk357⟩
      rintro _ w350 a349 ⟨hk351, hz352, hg353⟩ h349
      have hk351' : Blk w350 N3 61 #[.int .i64 L.boot, .int .i64 L.stream, .int .i64 q, .int .i64 L.peer, .int .i64 L.in0, .int .i64 L.next, .bool h, .string y] := hk351; clear hk351
      have hz355 := hg353.size
      refine dr_done (by kernel_rfl) ?_
      refine co_then ?_
      refine wp_ret ?_
      refine co_retC (Q := fun _ _ _ => True) h349 rfl rfl hk351' Try.underlying61 rfl (by kernel_rfl) ?_
      have hB356 := hb_at hB18 hg353 (by omega)
      exact ⟨rfl, hB356⟩
    ·
     refine dr_opVal (i := 20) (v := .int .i64 L.next) h345 rfl rfl rfl rfl (by kernel_rfl) rfl (rn_load1 rfl rfl Try.isAgg3 (hk20.cell rfl)) ⟨hB18, hk20⟩ (fun a357 h357 => ?_); clear h345
     refine dr_many [12] (by kernel_rfl) (by simp) ⟨?_, trivial⟩
     ·
      refine dr_opVal (i := 12) (v := .int .i64 L.peer) h357 rfl rfl rfl rfl (by kernel_rfl) rfl (rn_load1 rfl rfl Try.isAgg3 (hk20.cell rfl)) ⟨hB18, hk20⟩ (fun a358 h358 => ?_); clear h357
      refine dk0 23 (v := .agg #[.int .i64 L.boot, .int .i64 L.stream, .int .i64 q, .int .i64 L.peer, .int .i64 L.in0, .int .i64 L.next, .bool h, .string y]) h358 rfl rfl ⟨hB18, hk20⟩ fun a359 h359 => ?_; clear h358
      have hk365 := hk5.kept hg10 (by simp)
      refine d1D 24 h359 rfl rfl (op_storeN rfl rfl rfl (by kernel_rfl) (by kernel_rfl) hk365 rfl) ?_ ?_; clear h359
      ·
       rintro _ w361 ⟨hk362, hz363, hg364⟩
       have hk362' : Blk w361 N3 61 #[.int .i64 L.boot, .int .i64 L.stream, .int .i64 q, .int .i64 L.peer, .int .i64 L.in0, .int .i64 L.next, .bool h, .string y] := hk362; clear hk362
       have hz366 := hg364.size
       have hB367 := hb_at hB18 hg364 (by omega)
       have hk368 := hk20.kept hg364 (by simp; omega)
       exact ⟨hB367, hk368⟩
      rintro _ w361 a360 ⟨hk362, hz363, hg364⟩ h360
      have hk362' : Blk w361 N3 61 #[.int .i64 L.boot, .int .i64 L.stream, .int .i64 q, .int .i64 L.peer, .int .i64 L.in0, .int .i64 L.next, .bool h, .string y] := hk362; clear hk362
      have hz366 := hg364.size
      refine dr_done (by kernel_rfl) ?_
      refine co_then ?_
      refine wp_ret ?_
      refine co_retC (Q := fun _ _ _ => True) h360 rfl rfl hk362' Try.underlying61 rfl (by kernel_rfl) ?_
      have hB367 := hb_at hB18 hg364 (by omega)
      exact ⟨rfl, hB367⟩
   ·
    refine dr_opVal (i := 20) (v := .int .i64 L.next) h321 rfl rfl rfl rfl (by kernel_rfl) rfl (rn_load1 rfl rfl Try.isAgg3 (hk20.cell rfl)) ⟨hB18, hk20⟩ (fun a368 h368 => ?_); clear h321
    refine dr_many [12, 16] (by kernel_rfl) (by simp) ⟨?_, ?_, trivial⟩
    ·
     refine dr_opVal (i := 12) (v := .int .i64 L.peer) h368 rfl rfl rfl rfl (by kernel_rfl) rfl (rn_load1 rfl rfl Try.isAgg3 (hk20.cell rfl)) ⟨hB18, hk20⟩ (fun a369 h369 => ?_); clear h368
     refine dr_many [16] (by kernel_rfl) (by simp) ⟨?_, trivial⟩
     ·
      refine dr_opVal (i := 16) (v := .int .i64 L.in0) h369 rfl rfl rfl rfl (by kernel_rfl) rfl (rn_load1 rfl rfl Try.isAgg3 (hk20.cell rfl)) ⟨hB18, hk20⟩ (fun a370 h370 => ?_); clear h369
      refine dk0 23 (v := .agg #[.int .i64 L.boot, .int .i64 L.stream, .int .i64 q, .int .i64 L.peer, .int .i64 L.in0, .int .i64 L.next, .bool h, .string y]) h370 rfl rfl ⟨hB18, hk20⟩ fun a371 h371 => ?_; clear h370
      have hk377 := hk5.kept hg10 (by simp)
      refine d1D 24 h371 rfl rfl (op_storeN rfl rfl rfl (by kernel_rfl) (by kernel_rfl) hk377 rfl) ?_ ?_; clear h371
      ·
       rintro _ w373 ⟨hk374, hz375, hg376⟩
       have hk374' : Blk w373 N3 61 #[.int .i64 L.boot, .int .i64 L.stream, .int .i64 q, .int .i64 L.peer, .int .i64 L.in0, .int .i64 L.next, .bool h, .string y] := hk374; clear hk374
       have hz378 := hg376.size
       have hB379 := hb_at hB18 hg376 (by omega)
       have hk380 := hk20.kept hg376 (by simp; omega)
       exact ⟨hB379, hk380⟩
      rintro _ w373 a372 ⟨hk374, hz375, hg376⟩ h372
      have hk374' : Blk w373 N3 61 #[.int .i64 L.boot, .int .i64 L.stream, .int .i64 q, .int .i64 L.peer, .int .i64 L.in0, .int .i64 L.next, .bool h, .string y] := hk374; clear hk374
      have hz378 := hg376.size
      refine dr_done (by kernel_rfl) ?_
      refine co_then ?_
      refine wp_ret ?_
      refine co_retC (Q := fun _ _ _ => True) h372 rfl rfl hk374' Try.underlying61 rfl (by kernel_rfl) ?_
      have hB379 := hb_at hB18 hg376 (by omega)
      exact ⟨rfl, hB379⟩
    ·
     refine dr_opVal (i := 16) (v := .int .i64 L.in0) h368 rfl rfl rfl rfl (by kernel_rfl) rfl (rn_load1 rfl rfl Try.isAgg3 (hk20.cell rfl)) ⟨hB18, hk20⟩ (fun a380 h380 => ?_); clear h368
     refine dr_many [12] (by kernel_rfl) (by simp) ⟨?_, trivial⟩
     ·
      refine dr_opVal (i := 12) (v := .int .i64 L.peer) h380 rfl rfl rfl rfl (by kernel_rfl) rfl (rn_load1 rfl rfl Try.isAgg3 (hk20.cell rfl)) ⟨hB18, hk20⟩ (fun a381 h381 => ?_); clear h380
      refine dk0 23 (v := .agg #[.int .i64 L.boot, .int .i64 L.stream, .int .i64 q, .int .i64 L.peer, .int .i64 L.in0, .int .i64 L.next, .bool h, .string y]) h381 rfl rfl ⟨hB18, hk20⟩ fun a382 h382 => ?_; clear h381
      have hk388 := hk5.kept hg10 (by simp)
      refine d1D 24 h382 rfl rfl (op_storeN rfl rfl rfl (by kernel_rfl) (by kernel_rfl) hk388 rfl) ?_ ?_; clear h382
      ·
       rintro _ w384 ⟨hk385, hz386, hg387⟩
       have hk385' : Blk w384 N3 61 #[.int .i64 L.boot, .int .i64 L.stream, .int .i64 q, .int .i64 L.peer, .int .i64 L.in0, .int .i64 L.next, .bool h, .string y] := hk385; clear hk385
       have hz389 := hg387.size
       have hB390 := hb_at hB18 hg387 (by omega)
       have hk391 := hk20.kept hg387 (by simp; omega)
       exact ⟨hB390, hk391⟩
      rintro _ w384 a383 ⟨hk385, hz386, hg387⟩ h383
      have hk385' : Blk w384 N3 61 #[.int .i64 L.boot, .int .i64 L.stream, .int .i64 q, .int .i64 L.peer, .int .i64 L.in0, .int .i64 L.next, .bool h, .string y] := hk385; clear hk385
      have hz389 := hg387.size
      refine dr_done (by kernel_rfl) ?_
      refine co_then ?_
      refine wp_ret ?_
      refine co_retC (Q := fun _ _ _ => True) h383 rfl rfl hk385' Try.underlying61 rfl (by kernel_rfl) ?_
      have hB390 := hb_at hB18 hg387 (by omega)
      exact ⟨rfl, hB390⟩
  ·
   refine dr_opVal (i := 12) (v := .int .i64 L.peer) h320 rfl rfl rfl rfl (by kernel_rfl) rfl (rn_load1 rfl rfl Try.isAgg3 (hk20.cell rfl)) ⟨hB18, hk20⟩ (fun a391 h391 => ?_); clear h320
   refine dr_many [3, 16, 20] (by kernel_rfl) (by simp) ⟨?_, ?_, ?_, trivial⟩
   ·
    refine dr_opVal (i := 3) (v := .int .i64 L.boot) h391 rfl rfl rfl rfl (by kernel_rfl) rfl (rn_load1 rfl rfl Try.isAgg3 (hk20.cell rfl)) ⟨hB18, hk20⟩ (fun a392 h392 => ?_); clear h391
    refine dr_many [16, 20] (by kernel_rfl) (by simp) ⟨?_, ?_, trivial⟩
    ·
     refine dr_opVal (i := 16) (v := .int .i64 L.in0) h392 rfl rfl rfl rfl (by kernel_rfl) rfl (rn_load1 rfl rfl Try.isAgg3 (hk20.cell rfl)) ⟨hB18, hk20⟩ (fun a393 h393 => ?_); clear h392
     refine dr_many [20] (by kernel_rfl) (by simp) ⟨?_, trivial⟩
     ·
      refine dr_opVal (i := 20) (v := .int .i64 L.next) h393 rfl rfl rfl rfl (by kernel_rfl) rfl (rn_load1 rfl rfl Try.isAgg3 (hk20.cell rfl)) ⟨hB18, hk20⟩ (fun a394 h394 => ?_); clear h393
      refine dk0 23 (v := .agg #[.int .i64 L.boot, .int .i64 L.stream, .int .i64 q, .int .i64 L.peer, .int .i64 L.in0, .int .i64 L.next, .bool h, .string y]) h394 rfl rfl ⟨hB18, hk20⟩ fun a395 h395 => ?_; clear h394
      have hk401 := hk5.kept hg10 (by simp)
      refine d1D 24 h395 rfl rfl (op_storeN rfl rfl rfl (by kernel_rfl) (by kernel_rfl) hk401 rfl) ?_ ?_; clear h395
      ·
       rintro _ w397 ⟨hk398, hz399, hg400⟩
       have hk398' : Blk w397 N3 61 #[.int .i64 L.boot, .int .i64 L.stream, .int .i64 q, .int .i64 L.peer, .int .i64 L.in0, .int .i64 L.next, .bool h, .string y] := hk398; clear hk398
       have hz402 := hg400.size
       have hB403 := hb_at hB18 hg400 (by omega)
       have hk404 := hk20.kept hg400 (by simp; omega)
       exact ⟨hB403, hk404⟩
      rintro _ w397 a396 ⟨hk398, hz399, hg400⟩ h396
      have hk398' : Blk w397 N3 61 #[.int .i64 L.boot, .int .i64 L.stream, .int .i64 q, .int .i64 L.peer, .int .i64 L.in0, .int .i64 L.next, .bool h, .string y] := hk398; clear hk398
      have hz402 := hg400.size
      refine dr_done (by kernel_rfl) ?_
      refine co_then ?_
      refine wp_ret ?_
      refine co_retC (Q := fun _ _ _ => True) h396 rfl rfl hk398' Try.underlying61 rfl (by kernel_rfl) ?_
      have hB403 := hb_at hB18 hg400 (by omega)
      exact ⟨rfl, hB403⟩
    ·
     refine dr_opVal (i := 20) (v := .int .i64 L.next) h392 rfl rfl rfl rfl (by kernel_rfl) rfl (rn_load1 rfl rfl Try.isAgg3 (hk20.cell rfl)) ⟨hB18, hk20⟩ (fun a404 h404 => ?_); clear h392
     refine dr_many [16] (by kernel_rfl) (by simp) ⟨?_, trivial⟩
     ·
      refine dr_opVal (i := 16) (v := .int .i64 L.in0) h404 rfl rfl rfl rfl (by kernel_rfl) rfl (rn_load1 rfl rfl Try.isAgg3 (hk20.cell rfl)) ⟨hB18, hk20⟩ (fun a405 h405 => ?_); clear h404
      refine dk0 23 (v := .agg #[.int .i64 L.boot, .int .i64 L.stream, .int .i64 q, .int .i64 L.peer, .int .i64 L.in0, .int .i64 L.next, .bool h, .string y]) h405 rfl rfl ⟨hB18, hk20⟩ fun a406 h406 => ?_; clear h405
      have hk412 := hk5.kept hg10 (by simp)
      refine d1D 24 h406 rfl rfl (op_storeN rfl rfl rfl (by kernel_rfl) (by kernel_rfl) hk412 rfl) ?_ ?_; clear h406
      ·
       rintro _ w408 ⟨hk409, hz410, hg411⟩
       have hk409' : Blk w408 N3 61 #[.int .i64 L.boot, .int .i64 L.stream, .int .i64 q, .int .i64 L.peer, .int .i64 L.in0, .int .i64 L.next, .bool h, .string y] := hk409; clear hk409
       have hz413 := hg411.size
       have hB414 := hb_at hB18 hg411 (by omega)
       have hk415 := hk20.kept hg411 (by simp; omega)
       exact ⟨hB414, hk415⟩
      rintro _ w408 a407 ⟨hk409, hz410, hg411⟩ h407
      have hk409' : Blk w408 N3 61 #[.int .i64 L.boot, .int .i64 L.stream, .int .i64 q, .int .i64 L.peer, .int .i64 L.in0, .int .i64 L.next, .bool h, .string y] := hk409; clear hk409
      have hz413 := hg411.size
      refine dr_done (by kernel_rfl) ?_
      refine co_then ?_
      refine wp_ret ?_
      refine co_retC (Q := fun _ _ _ => True) h407 rfl rfl hk409' Try.underlying61 rfl (by kernel_rfl) ?_
      have hB414 := hb_at hB18 hg411 (by omega)
      exact ⟨rfl, hB414⟩
   ·
    refine dr_opVal (i := 16) (v := .int .i64 L.in0) h391 rfl rfl rfl rfl (by kernel_rfl) rfl (rn_load1 rfl rfl Try.isAgg3 (hk20.cell rfl)) ⟨hB18, hk20⟩ (fun a415 h415 => ?_); clear h391
    refine dr_many [3, 20] (by kernel_rfl) (by simp) ⟨?_, ?_, trivial⟩
    ·
     refine dr_opVal (i := 3) (v := .int .i64 L.boot) h415 rfl rfl rfl rfl (by kernel_rfl) rfl (rn_load1 rfl rfl Try.isAgg3 (hk20.cell rfl)) ⟨hB18, hk20⟩ (fun a416 h416 => ?_); clear h415
     refine dr_many [20] (by kernel_rfl) (by simp) ⟨?_, trivial⟩
     ·
      refine dr_opVal (i := 20) (v := .int .i64 L.next) h416 rfl rfl rfl rfl (by kernel_rfl) rfl (rn_load1 rfl rfl Try.isAgg3 (hk20.cell rfl)) ⟨hB18, hk20⟩ (fun a417 h417 => ?_); clear h416
      refine dk0 23 (v := .agg #[.int .i64 L.boot, .int .i64 L.stream, .int .i64 q, .int .i64 L.peer, .int .i64 L.in0, .int .i64 L.next, .bool h, .string y]) h417 rfl rfl ⟨hB18, hk20⟩ fun a418 h418 => ?_; clear h417
      have hk424 := hk5.kept hg10 (by simp)
      refine d1D 24 h418 rfl rfl (op_storeN rfl rfl rfl (by kernel_rfl) (by kernel_rfl) hk424 rfl) ?_ ?_; clear h418
      ·
       rintro _ w420 ⟨hk421, hz422, hg423⟩
       have hk421' : Blk w420 N3 61 #[.int .i64 L.boot, .int .i64 L.stream, .int .i64 q, .int .i64 L.peer, .int .i64 L.in0, .int .i64 L.next, .bool h, .string y] := hk421; clear hk421
       have hz425 := hg423.size
       have hB426 := hb_at hB18 hg423 (by omega)
       have hk427 := hk20.kept hg423 (by simp; omega)
       exact ⟨hB426, hk427⟩
      rintro _ w420 a419 ⟨hk421, hz422, hg423⟩ h419
      have hk421' : Blk w420 N3 61 #[.int .i64 L.boot, .int .i64 L.stream, .int .i64 q, .int .i64 L.peer, .int .i64 L.in0, .int .i64 L.next, .bool h, .string y] := hk421; clear hk421
      have hz425 := hg423.size
      refine dr_done (by kernel_rfl) ?_
      refine co_then ?_
      refine wp_ret ?_
      refine co_retC (Q := fun _ _ _ => True) h419 rfl rfl hk421' Try.underlying61 rfl (by kernel_rfl) ?_
      have hB426 := hb_at hB18 hg423 (by omega)
      exact ⟨rfl, hB426⟩
    ·
     refine dr_opVal (i := 20) (v := .int .i64 L.next) h415 rfl rfl rfl rfl (by kernel_rfl) rfl (rn_load1 rfl rfl Try.isAgg3 (hk20.cell rfl)) ⟨hB18, hk20⟩ (fun a427 h427 => ?_); clear h415
     refine dr_many [3] (by kernel_rfl) (by simp) ⟨?_, trivial⟩
     ·
      refine dr_opVal (i := 3) (v := .int .i64 L.boot) h427 rfl rfl rfl rfl (by kernel_rfl) rfl (rn_load1 rfl rfl Try.isAgg3 (hk20.cell rfl)) ⟨hB18, hk20⟩ (fun a428 h428 => ?_); clear h427
      refine dk0 23 (v := .agg #[.int .i64 L.boot, .int .i64 L.stream, .int .i64 q, .int .i64 L.peer, .int .i64 L.in0, .int .i64 L.next, .bool h, .string y]) h428 rfl rfl ⟨hB18, hk20⟩ fun a429 h429 => ?_; clear h428
      have hk435 := hk5.kept hg10 (by simp)
      refine d1D 24 h429 rfl rfl (op_storeN rfl rfl rfl (by kernel_rfl) (by kernel_rfl) hk435 rfl) ?_ ?_; clear h429
      ·
       rintro _ w431 ⟨hk432, hz433, hg434⟩
       have hk432' : Blk w431 N3 61 #[.int .i64 L.boot, .int .i64 L.stream, .int .i64 q, .int .i64 L.peer, .int .i64 L.in0, .int .i64 L.next, .bool h, .string y] := hk432; clear hk432
       have hz436 := hg434.size
       have hB437 := hb_at hB18 hg434 (by omega)
       have hk438 := hk20.kept hg434 (by simp; omega)
       exact ⟨hB437, hk438⟩
      rintro _ w431 a430 ⟨hk432, hz433, hg434⟩ h430
      have hk432' : Blk w431 N3 61 #[.int .i64 L.boot, .int .i64 L.stream, .int .i64 q, .int .i64 L.peer, .int .i64 L.in0, .int .i64 L.next, .bool h, .string y] := hk432; clear hk432
      have hz436 := hg434.size
      refine dr_done (by kernel_rfl) ?_
      refine co_then ?_
      refine wp_ret ?_
      refine co_retC (Q := fun _ _ _ => True) h430 rfl rfl hk432' Try.underlying61 rfl (by kernel_rfl) ?_
      have hB437 := hb_at hB18 hg434 (by omega)
      exact ⟨rfl, hB437⟩
   ·
    refine dr_opVal (i := 20) (v := .int .i64 L.next) h391 rfl rfl rfl rfl (by kernel_rfl) rfl (rn_load1 rfl rfl Try.isAgg3 (hk20.cell rfl)) ⟨hB18, hk20⟩ (fun a438 h438 => ?_); clear h391
    refine dr_many [3, 16] (by kernel_rfl) (by simp) ⟨?_, ?_, trivial⟩
    ·
     refine dr_opVal (i := 3) (v := .int .i64 L.boot) h438 rfl rfl rfl rfl (by kernel_rfl) rfl (rn_load1 rfl rfl Try.isAgg3 (hk20.cell rfl)) ⟨hB18, hk20⟩ (fun a439 h439 => ?_); clear h438
     refine dr_many [16] (by kernel_rfl) (by simp) ⟨?_, trivial⟩
     ·
      refine dr_opVal (i := 16) (v := .int .i64 L.in0) h439 rfl rfl rfl rfl (by kernel_rfl) rfl (rn_load1 rfl rfl Try.isAgg3 (hk20.cell rfl)) ⟨hB18, hk20⟩ (fun a440 h440 => ?_); clear h439
      refine dk0 23 (v := .agg #[.int .i64 L.boot, .int .i64 L.stream, .int .i64 q, .int .i64 L.peer, .int .i64 L.in0, .int .i64 L.next, .bool h, .string y]) h440 rfl rfl ⟨hB18, hk20⟩ fun a441 h441 => ?_; clear h440
      have hk447 := hk5.kept hg10 (by simp)
      refine d1D 24 h441 rfl rfl (op_storeN rfl rfl rfl (by kernel_rfl) (by kernel_rfl) hk447 rfl) ?_ ?_; clear h441
      ·
       rintro _ w443 ⟨hk444, hz445, hg446⟩
       have hk444' : Blk w443 N3 61 #[.int .i64 L.boot, .int .i64 L.stream, .int .i64 q, .int .i64 L.peer, .int .i64 L.in0, .int .i64 L.next, .bool h, .string y] := hk444; clear hk444
       have hz448 := hg446.size
       have hB449 := hb_at hB18 hg446 (by omega)
       have hk450 := hk20.kept hg446 (by simp; omega)
       exact ⟨hB449, hk450⟩
      rintro _ w443 a442 ⟨hk444, hz445, hg446⟩ h442
      have hk444' : Blk w443 N3 61 #[.int .i64 L.boot, .int .i64 L.stream, .int .i64 q, .int .i64 L.peer, .int .i64 L.in0, .int .i64 L.next, .bool h, .string y] := hk444; clear hk444
      have hz448 := hg446.size
      refine dr_done (by kernel_rfl) ?_
      refine co_then ?_
      refine wp_ret ?_
      refine co_retC (Q := fun _ _ _ => True) h442 rfl rfl hk444' Try.underlying61 rfl (by kernel_rfl) ?_
      have hB449 := hb_at hB18 hg446 (by omega)
      exact ⟨rfl, hB449⟩
    ·
     refine dr_opVal (i := 16) (v := .int .i64 L.in0) h438 rfl rfl rfl rfl (by kernel_rfl) rfl (rn_load1 rfl rfl Try.isAgg3 (hk20.cell rfl)) ⟨hB18, hk20⟩ (fun a450 h450 => ?_); clear h438
     refine dr_many [3] (by kernel_rfl) (by simp) ⟨?_, trivial⟩
     ·
      refine dr_opVal (i := 3) (v := .int .i64 L.boot) h450 rfl rfl rfl rfl (by kernel_rfl) rfl (rn_load1 rfl rfl Try.isAgg3 (hk20.cell rfl)) ⟨hB18, hk20⟩ (fun a451 h451 => ?_); clear h450
      refine dk0 23 (v := .agg #[.int .i64 L.boot, .int .i64 L.stream, .int .i64 q, .int .i64 L.peer, .int .i64 L.in0, .int .i64 L.next, .bool h, .string y]) h451 rfl rfl ⟨hB18, hk20⟩ fun a452 h452 => ?_; clear h451
      have hk458 := hk5.kept hg10 (by simp)
      refine d1D 24 h452 rfl rfl (op_storeN rfl rfl rfl (by kernel_rfl) (by kernel_rfl) hk458 rfl) ?_ ?_; clear h452
      ·
       rintro _ w454 ⟨hk455, hz456, hg457⟩
       have hk455' : Blk w454 N3 61 #[.int .i64 L.boot, .int .i64 L.stream, .int .i64 q, .int .i64 L.peer, .int .i64 L.in0, .int .i64 L.next, .bool h, .string y] := hk455; clear hk455
       have hz459 := hg457.size
       have hB460 := hb_at hB18 hg457 (by omega)
       have hk461 := hk20.kept hg457 (by simp; omega)
       exact ⟨hB460, hk461⟩
      rintro _ w454 a453 ⟨hk455, hz456, hg457⟩ h453
      have hk455' : Blk w454 N3 61 #[.int .i64 L.boot, .int .i64 L.stream, .int .i64 q, .int .i64 L.peer, .int .i64 L.in0, .int .i64 L.next, .bool h, .string y] := hk455; clear hk455
      have hz459 := hg457.size
      refine dr_done (by kernel_rfl) ?_
      refine co_then ?_
      refine wp_ret ?_
      refine co_retC (Q := fun _ _ _ => True) h453 rfl rfl hk455' Try.underlying61 rfl (by kernel_rfl) ?_
      have hB460 := hb_at hB18 hg457 (by omega)
      exact ⟨rfl, hB460⟩
  ·
   refine dr_opVal (i := 16) (v := .int .i64 L.in0) h320 rfl rfl rfl rfl (by kernel_rfl) rfl (rn_load1 rfl rfl Try.isAgg3 (hk20.cell rfl)) ⟨hB18, hk20⟩ (fun a461 h461 => ?_); clear h320
   refine dr_many [3, 12, 20] (by kernel_rfl) (by simp) ⟨?_, ?_, ?_, trivial⟩
   ·
    refine dr_opVal (i := 3) (v := .int .i64 L.boot) h461 rfl rfl rfl rfl (by kernel_rfl) rfl (rn_load1 rfl rfl Try.isAgg3 (hk20.cell rfl)) ⟨hB18, hk20⟩ (fun a462 h462 => ?_); clear h461
    refine dr_many [12, 20] (by kernel_rfl) (by simp) ⟨?_, ?_, trivial⟩
    ·
     refine dr_opVal (i := 12) (v := .int .i64 L.peer) h462 rfl rfl rfl rfl (by kernel_rfl) rfl (rn_load1 rfl rfl Try.isAgg3 (hk20.cell rfl)) ⟨hB18, hk20⟩ (fun a463 h463 => ?_); clear h462
     refine dr_many [20] (by kernel_rfl) (by simp) ⟨?_, trivial⟩
     ·
      refine dr_opVal (i := 20) (v := .int .i64 L.next) h463 rfl rfl rfl rfl (by kernel_rfl) rfl (rn_load1 rfl rfl Try.isAgg3 (hk20.cell rfl)) ⟨hB18, hk20⟩ (fun a464 h464 => ?_); clear h463
      refine dk0 23 (v := .agg #[.int .i64 L.boot, .int .i64 L.stream, .int .i64 q, .int .i64 L.peer, .int .i64 L.in0, .int .i64 L.next, .bool h, .string y]) h464 rfl rfl ⟨hB18, hk20⟩ fun a465 h465 => ?_; clear h464
      have hk471 := hk5.kept hg10 (by simp)
      refine d1D 24 h465 rfl rfl (op_storeN rfl rfl rfl (by kernel_rfl) (by kernel_rfl) hk471 rfl) ?_ ?_; clear h465
      ·
       rintro _ w467 ⟨hk468, hz469, hg470⟩
       have hk468' : Blk w467 N3 61 #[.int .i64 L.boot, .int .i64 L.stream, .int .i64 q, .int .i64 L.peer, .int .i64 L.in0, .int .i64 L.next, .bool h, .string y] := hk468; clear hk468
       have hz472 := hg470.size
       have hB473 := hb_at hB18 hg470 (by omega)
       have hk474 := hk20.kept hg470 (by simp; omega)
       exact ⟨hB473, hk474⟩
      rintro _ w467 a466 ⟨hk468, hz469, hg470⟩ h466
      have hk468' : Blk w467 N3 61 #[.int .i64 L.boot, .int .i64 L.stream, .int .i64 q, .int .i64 L.peer, .int .i64 L.in0, .int .i64 L.next, .bool h, .string y] := hk468; clear hk468
      have hz472 := hg470.size
      refine dr_done (by kernel_rfl) ?_
      refine co_then ?_
      refine wp_ret ?_
      refine co_retC (Q := fun _ _ _ => True) h466 rfl rfl hk468' Try.underlying61 rfl (by kernel_rfl) ?_
      have hB473 := hb_at hB18 hg470 (by omega)
      exact ⟨rfl, hB473⟩
    ·
     refine dr_opVal (i := 20) (v := .int .i64 L.next) h462 rfl rfl rfl rfl (by kernel_rfl) rfl (rn_load1 rfl rfl Try.isAgg3 (hk20.cell rfl)) ⟨hB18, hk20⟩ (fun a474 h474 => ?_); clear h462
     refine dr_many [12] (by kernel_rfl) (by simp) ⟨?_, trivial⟩
     ·
      refine dr_opVal (i := 12) (v := .int .i64 L.peer) h474 rfl rfl rfl rfl (by kernel_rfl) rfl (rn_load1 rfl rfl Try.isAgg3 (hk20.cell rfl)) ⟨hB18, hk20⟩ (fun a475 h475 => ?_); clear h474
      refine dk0 23 (v := .agg #[.int .i64 L.boot, .int .i64 L.stream, .int .i64 q, .int .i64 L.peer, .int .i64 L.in0, .int .i64 L.next, .bool h, .string y]) h475 rfl rfl ⟨hB18, hk20⟩ fun a476 h476 => ?_; clear h475
      have hk482 := hk5.kept hg10 (by simp)
      refine d1D 24 h476 rfl rfl (op_storeN rfl rfl rfl (by kernel_rfl) (by kernel_rfl) hk482 rfl) ?_ ?_; clear h476
      ·
       rintro _ w478 ⟨hk479, hz480, hg481⟩
       have hk479' : Blk w478 N3 61 #[.int .i64 L.boot, .int .i64 L.stream, .int .i64 q, .int .i64 L.peer, .int .i64 L.in0, .int .i64 L.next, .bool h, .string y] := hk479; clear hk479
       have hz483 := hg481.size
       have hB484 := hb_at hB18 hg481 (by omega)
       have hk485 := hk20.kept hg481 (by simp; omega)
       exact ⟨hB484, hk485⟩
      rintro _ w478 a477 ⟨hk479, hz480, hg481⟩ h477
      have hk479' : Blk w478 N3 61 #[.int .i64 L.boot, .int .i64 L.stream, .int .i64 q, .int .i64 L.peer, .int .i64 L.in0, .int .i64 L.next, .bool h, .string y] := hk479; clear hk479
      have hz483 := hg481.size
      refine dr_done (by kernel_rfl) ?_
      refine co_then ?_
      refine wp_ret ?_
      refine co_retC (Q := fun _ _ _ => True) h477 rfl rfl hk479' Try.underlying61 rfl (by kernel_rfl) ?_
      have hB484 := hb_at hB18 hg481 (by omega)
      exact ⟨rfl, hB484⟩
   ·
    refine dr_opVal (i := 12) (v := .int .i64 L.peer) h461 rfl rfl rfl rfl (by kernel_rfl) rfl (rn_load1 rfl rfl Try.isAgg3 (hk20.cell rfl)) ⟨hB18, hk20⟩ (fun a485 h485 => ?_); clear h461
    refine dr_many [3, 20] (by kernel_rfl) (by simp) ⟨?_, ?_, trivial⟩
    ·
     refine dr_opVal (i := 3) (v := .int .i64 L.boot) h485 rfl rfl rfl rfl (by kernel_rfl) rfl (rn_load1 rfl rfl Try.isAgg3 (hk20.cell rfl)) ⟨hB18, hk20⟩ (fun a486 h486 => ?_); clear h485
     refine dr_many [20] (by kernel_rfl) (by simp) ⟨?_, trivial⟩
     ·
      refine dr_opVal (i := 20) (v := .int .i64 L.next) h486 rfl rfl rfl rfl (by kernel_rfl) rfl (rn_load1 rfl rfl Try.isAgg3 (hk20.cell rfl)) ⟨hB18, hk20⟩ (fun a487 h487 => ?_); clear h486
      refine dk0 23 (v := .agg #[.int .i64 L.boot, .int .i64 L.stream, .int .i64 q, .int .i64 L.peer, .int .i64 L.in0, .int .i64 L.next, .bool h, .string y]) h487 rfl rfl ⟨hB18, hk20⟩ fun a488 h488 => ?_; clear h487
      have hk494 := hk5.kept hg10 (by simp)
      refine d1D 24 h488 rfl rfl (op_storeN rfl rfl rfl (by kernel_rfl) (by kernel_rfl) hk494 rfl) ?_ ?_; clear h488
      ·
       rintro _ w490 ⟨hk491, hz492, hg493⟩
       have hk491' : Blk w490 N3 61 #[.int .i64 L.boot, .int .i64 L.stream, .int .i64 q, .int .i64 L.peer, .int .i64 L.in0, .int .i64 L.next, .bool h, .string y] := hk491; clear hk491
       have hz495 := hg493.size
       have hB496 := hb_at hB18 hg493 (by omega)
       have hk497 := hk20.kept hg493 (by simp; omega)
       exact ⟨hB496, hk497⟩
      rintro _ w490 a489 ⟨hk491, hz492, hg493⟩ h489
      have hk491' : Blk w490 N3 61 #[.int .i64 L.boot, .int .i64 L.stream, .int .i64 q, .int .i64 L.peer, .int .i64 L.in0, .int .i64 L.next, .bool h, .string y] := hk491; clear hk491
      have hz495 := hg493.size
      refine dr_done (by kernel_rfl) ?_
      refine co_then ?_
      refine wp_ret ?_
      refine co_retC (Q := fun _ _ _ => True) h489 rfl rfl hk491' Try.underlying61 rfl (by kernel_rfl) ?_
      have hB496 := hb_at hB18 hg493 (by omega)
      exact ⟨rfl, hB496⟩
    ·
     refine dr_opVal (i := 20) (v := .int .i64 L.next) h485 rfl rfl rfl rfl (by kernel_rfl) rfl (rn_load1 rfl rfl Try.isAgg3 (hk20.cell rfl)) ⟨hB18, hk20⟩ (fun a497 h497 => ?_); clear h485
     refine dr_many [3] (by kernel_rfl) (by simp) ⟨?_, trivial⟩
     ·
      refine dr_opVal (i := 3) (v := .int .i64 L.boot) h497 rfl rfl rfl rfl (by kernel_rfl) rfl (rn_load1 rfl rfl Try.isAgg3 (hk20.cell rfl)) ⟨hB18, hk20⟩ (fun a498 h498 => ?_); clear h497
      refine dk0 23 (v := .agg #[.int .i64 L.boot, .int .i64 L.stream, .int .i64 q, .int .i64 L.peer, .int .i64 L.in0, .int .i64 L.next, .bool h, .string y]) h498 rfl rfl ⟨hB18, hk20⟩ fun a499 h499 => ?_; clear h498
      have hk505 := hk5.kept hg10 (by simp)
      refine d1D 24 h499 rfl rfl (op_storeN rfl rfl rfl (by kernel_rfl) (by kernel_rfl) hk505 rfl) ?_ ?_; clear h499
      ·
       rintro _ w501 ⟨hk502, hz503, hg504⟩
       have hk502' : Blk w501 N3 61 #[.int .i64 L.boot, .int .i64 L.stream, .int .i64 q, .int .i64 L.peer, .int .i64 L.in0, .int .i64 L.next, .bool h, .string y] := hk502; clear hk502
       have hz506 := hg504.size
       have hB507 := hb_at hB18 hg504 (by omega)
       have hk508 := hk20.kept hg504 (by simp; omega)
       exact ⟨hB507, hk508⟩
      rintro _ w501 a500 ⟨hk502, hz503, hg504⟩ h500
      have hk502' : Blk w501 N3 61 #[.int .i64 L.boot, .int .i64 L.stream, .int .i64 q, .int .i64 L.peer, .int .i64 L.in0, .int .i64 L.next, .bool h, .string y] := hk502; clear hk502
      have hz506 := hg504.size
      refine dr_done (by kernel_rfl) ?_
      refine co_then ?_
      refine wp_ret ?_
      refine co_retC (Q := fun _ _ _ => True) h500 rfl rfl hk502' Try.underlying61 rfl (by kernel_rfl) ?_
      have hB507 := hb_at hB18 hg504 (by omega)
      exact ⟨rfl, hB507⟩
   ·
    refine dr_opVal (i := 20) (v := .int .i64 L.next) h461 rfl rfl rfl rfl (by kernel_rfl) rfl (rn_load1 rfl rfl Try.isAgg3 (hk20.cell rfl)) ⟨hB18, hk20⟩ (fun a508 h508 => ?_); clear h461
    refine dr_many [3, 12] (by kernel_rfl) (by simp) ⟨?_, ?_, trivial⟩
    ·
     refine dr_opVal (i := 3) (v := .int .i64 L.boot) h508 rfl rfl rfl rfl (by kernel_rfl) rfl (rn_load1 rfl rfl Try.isAgg3 (hk20.cell rfl)) ⟨hB18, hk20⟩ (fun a509 h509 => ?_); clear h508
     refine dr_many [12] (by kernel_rfl) (by simp) ⟨?_, trivial⟩
     ·
      refine dr_opVal (i := 12) (v := .int .i64 L.peer) h509 rfl rfl rfl rfl (by kernel_rfl) rfl (rn_load1 rfl rfl Try.isAgg3 (hk20.cell rfl)) ⟨hB18, hk20⟩ (fun a510 h510 => ?_); clear h509
      refine dk0 23 (v := .agg #[.int .i64 L.boot, .int .i64 L.stream, .int .i64 q, .int .i64 L.peer, .int .i64 L.in0, .int .i64 L.next, .bool h, .string y]) h510 rfl rfl ⟨hB18, hk20⟩ fun a511 h511 => ?_; clear h510
      have hk517 := hk5.kept hg10 (by simp)
      refine d1D 24 h511 rfl rfl (op_storeN rfl rfl rfl (by kernel_rfl) (by kernel_rfl) hk517 rfl) ?_ ?_; clear h511
      ·
       rintro _ w513 ⟨hk514, hz515, hg516⟩
       have hk514' : Blk w513 N3 61 #[.int .i64 L.boot, .int .i64 L.stream, .int .i64 q, .int .i64 L.peer, .int .i64 L.in0, .int .i64 L.next, .bool h, .string y] := hk514; clear hk514
       have hz518 := hg516.size
       have hB519 := hb_at hB18 hg516 (by omega)
       have hk520 := hk20.kept hg516 (by simp; omega)
       exact ⟨hB519, hk520⟩
      rintro _ w513 a512 ⟨hk514, hz515, hg516⟩ h512
      have hk514' : Blk w513 N3 61 #[.int .i64 L.boot, .int .i64 L.stream, .int .i64 q, .int .i64 L.peer, .int .i64 L.in0, .int .i64 L.next, .bool h, .string y] := hk514; clear hk514
      have hz518 := hg516.size
      refine dr_done (by kernel_rfl) ?_
      refine co_then ?_
      refine wp_ret ?_
      refine co_retC (Q := fun _ _ _ => True) h512 rfl rfl hk514' Try.underlying61 rfl (by kernel_rfl) ?_
      have hB519 := hb_at hB18 hg516 (by omega)
      exact ⟨rfl, hB519⟩
    ·
     refine dr_opVal (i := 12) (v := .int .i64 L.peer) h508 rfl rfl rfl rfl (by kernel_rfl) rfl (rn_load1 rfl rfl Try.isAgg3 (hk20.cell rfl)) ⟨hB18, hk20⟩ (fun a520 h520 => ?_); clear h508
     refine dr_many [3] (by kernel_rfl) (by simp) ⟨?_, trivial⟩
     ·
      refine dr_opVal (i := 3) (v := .int .i64 L.boot) h520 rfl rfl rfl rfl (by kernel_rfl) rfl (rn_load1 rfl rfl Try.isAgg3 (hk20.cell rfl)) ⟨hB18, hk20⟩ (fun a521 h521 => ?_); clear h520
      refine dk0 23 (v := .agg #[.int .i64 L.boot, .int .i64 L.stream, .int .i64 q, .int .i64 L.peer, .int .i64 L.in0, .int .i64 L.next, .bool h, .string y]) h521 rfl rfl ⟨hB18, hk20⟩ fun a522 h522 => ?_; clear h521
      have hk528 := hk5.kept hg10 (by simp)
      refine d1D 24 h522 rfl rfl (op_storeN rfl rfl rfl (by kernel_rfl) (by kernel_rfl) hk528 rfl) ?_ ?_; clear h522
      ·
       rintro _ w524 ⟨hk525, hz526, hg527⟩
       have hk525' : Blk w524 N3 61 #[.int .i64 L.boot, .int .i64 L.stream, .int .i64 q, .int .i64 L.peer, .int .i64 L.in0, .int .i64 L.next, .bool h, .string y] := hk525; clear hk525
       have hz529 := hg527.size
       have hB530 := hb_at hB18 hg527 (by omega)
       have hk531 := hk20.kept hg527 (by simp; omega)
       exact ⟨hB530, hk531⟩
      rintro _ w524 a523 ⟨hk525, hz526, hg527⟩ h523
      have hk525' : Blk w524 N3 61 #[.int .i64 L.boot, .int .i64 L.stream, .int .i64 q, .int .i64 L.peer, .int .i64 L.in0, .int .i64 L.next, .bool h, .string y] := hk525; clear hk525
      have hz529 := hg527.size
      refine dr_done (by kernel_rfl) ?_
      refine co_then ?_
      refine wp_ret ?_
      refine co_retC (Q := fun _ _ _ => True) h523 rfl rfl hk525' Try.underlying61 rfl (by kernel_rfl) ?_
      have hB530 := hb_at hB18 hg527 (by omega)
      exact ⟨rfl, hB530⟩
  ·
   refine dr_opVal (i := 20) (v := .int .i64 L.next) h320 rfl rfl rfl rfl (by kernel_rfl) rfl (rn_load1 rfl rfl Try.isAgg3 (hk20.cell rfl)) ⟨hB18, hk20⟩ (fun a531 h531 => ?_); clear h320
   refine dr_many [3, 12, 16] (by kernel_rfl) (by simp) ⟨?_, ?_, ?_, trivial⟩
   ·
    refine dr_opVal (i := 3) (v := .int .i64 L.boot) h531 rfl rfl rfl rfl (by kernel_rfl) rfl (rn_load1 rfl rfl Try.isAgg3 (hk20.cell rfl)) ⟨hB18, hk20⟩ (fun a532 h532 => ?_); clear h531
    refine dr_many [12, 16] (by kernel_rfl) (by simp) ⟨?_, ?_, trivial⟩
    ·
     refine dr_opVal (i := 12) (v := .int .i64 L.peer) h532 rfl rfl rfl rfl (by kernel_rfl) rfl (rn_load1 rfl rfl Try.isAgg3 (hk20.cell rfl)) ⟨hB18, hk20⟩ (fun a533 h533 => ?_); clear h532
     refine dr_many [16] (by kernel_rfl) (by simp) ⟨?_, trivial⟩
     ·
      refine dr_opVal (i := 16) (v := .int .i64 L.in0) h533 rfl rfl rfl rfl (by kernel_rfl) rfl (rn_load1 rfl rfl Try.isAgg3 (hk20.cell rfl)) ⟨hB18, hk20⟩ (fun a534 h534 => ?_); clear h533
      refine dk0 23 (v := .agg #[.int .i64 L.boot, .int .i64 L.stream, .int .i64 q, .int .i64 L.peer, .int .i64 L.in0, .int .i64 L.next, .bool h, .string y]) h534 rfl rfl ⟨hB18, hk20⟩ fun a535 h535 => ?_; clear h534
      have hk541 := hk5.kept hg10 (by simp)
      refine d1D 24 h535 rfl rfl (op_storeN rfl rfl rfl (by kernel_rfl) (by kernel_rfl) hk541 rfl) ?_ ?_; clear h535
      ·
       rintro _ w537 ⟨hk538, hz539, hg540⟩
       have hk538' : Blk w537 N3 61 #[.int .i64 L.boot, .int .i64 L.stream, .int .i64 q, .int .i64 L.peer, .int .i64 L.in0, .int .i64 L.next, .bool h, .string y] := hk538; clear hk538
       have hz542 := hg540.size
       have hB543 := hb_at hB18 hg540 (by omega)
       have hk544 := hk20.kept hg540 (by simp; omega)
       exact ⟨hB543, hk544⟩
      rintro _ w537 a536 ⟨hk538, hz539, hg540⟩ h536
      have hk538' : Blk w537 N3 61 #[.int .i64 L.boot, .int .i64 L.stream, .int .i64 q, .int .i64 L.peer, .int .i64 L.in0, .int .i64 L.next, .bool h, .string y] := hk538; clear hk538
      have hz542 := hg540.size
      refine dr_done (by kernel_rfl) ?_
      refine co_then ?_
      refine wp_ret ?_
      refine co_retC (Q := fun _ _ _ => True) h536 rfl rfl hk538' Try.underlying61 rfl (by kernel_rfl) ?_
      have hB543 := hb_at hB18 hg540 (by omega)
      exact ⟨rfl, hB543⟩
    ·
     refine dr_opVal (i := 16) (v := .int .i64 L.in0) h532 rfl rfl rfl rfl (by kernel_rfl) rfl (rn_load1 rfl rfl Try.isAgg3 (hk20.cell rfl)) ⟨hB18, hk20⟩ (fun a544 h544 => ?_); clear h532
     refine dr_many [12] (by kernel_rfl) (by simp) ⟨?_, trivial⟩
     ·
      refine dr_opVal (i := 12) (v := .int .i64 L.peer) h544 rfl rfl rfl rfl (by kernel_rfl) rfl (rn_load1 rfl rfl Try.isAgg3 (hk20.cell rfl)) ⟨hB18, hk20⟩ (fun a545 h545 => ?_); clear h544
      refine dk0 23 (v := .agg #[.int .i64 L.boot, .int .i64 L.stream, .int .i64 q, .int .i64 L.peer, .int .i64 L.in0, .int .i64 L.next, .bool h, .string y]) h545 rfl rfl ⟨hB18, hk20⟩ fun a546 h546 => ?_; clear h545
      have hk552 := hk5.kept hg10 (by simp)
      refine d1D 24 h546 rfl rfl (op_storeN rfl rfl rfl (by kernel_rfl) (by kernel_rfl) hk552 rfl) ?_ ?_; clear h546
      ·
       rintro _ w548 ⟨hk549, hz550, hg551⟩
       have hk549' : Blk w548 N3 61 #[.int .i64 L.boot, .int .i64 L.stream, .int .i64 q, .int .i64 L.peer, .int .i64 L.in0, .int .i64 L.next, .bool h, .string y] := hk549; clear hk549
       have hz553 := hg551.size
       have hB554 := hb_at hB18 hg551 (by omega)
       have hk555 := hk20.kept hg551 (by simp; omega)
       exact ⟨hB554, hk555⟩
      rintro _ w548 a547 ⟨hk549, hz550, hg551⟩ h547
      have hk549' : Blk w548 N3 61 #[.int .i64 L.boot, .int .i64 L.stream, .int .i64 q, .int .i64 L.peer, .int .i64 L.in0, .int .i64 L.next, .bool h, .string y] := hk549; clear hk549
      have hz553 := hg551.size
      refine dr_done (by kernel_rfl) ?_
      refine co_then ?_
      refine wp_ret ?_
      refine co_retC (Q := fun _ _ _ => True) h547 rfl rfl hk549' Try.underlying61 rfl (by kernel_rfl) ?_
      have hB554 := hb_at hB18 hg551 (by omega)
      exact ⟨rfl, hB554⟩
   ·
    refine dr_opVal (i := 12) (v := .int .i64 L.peer) h531 rfl rfl rfl rfl (by kernel_rfl) rfl (rn_load1 rfl rfl Try.isAgg3 (hk20.cell rfl)) ⟨hB18, hk20⟩ (fun a555 h555 => ?_); clear h531
    refine dr_many [3, 16] (by kernel_rfl) (by simp) ⟨?_, ?_, trivial⟩
    ·
     refine dr_opVal (i := 3) (v := .int .i64 L.boot) h555 rfl rfl rfl rfl (by kernel_rfl) rfl (rn_load1 rfl rfl Try.isAgg3 (hk20.cell rfl)) ⟨hB18, hk20⟩ (fun a556 h556 => ?_); clear h555
     refine dr_many [16] (by kernel_rfl) (by simp) ⟨?_, trivial⟩
     ·
      refine dr_opVal (i := 16) (v := .int .i64 L.in0) h556 rfl rfl rfl rfl (by kernel_rfl) rfl (rn_load1 rfl rfl Try.isAgg3 (hk20.cell rfl)) ⟨hB18, hk20⟩ (fun a557 h557 => ?_); clear h556
      refine dk0 23 (v := .agg #[.int .i64 L.boot, .int .i64 L.stream, .int .i64 q, .int .i64 L.peer, .int .i64 L.in0, .int .i64 L.next, .bool h, .string y]) h557 rfl rfl ⟨hB18, hk20⟩ fun a558 h558 => ?_; clear h557
      have hk564 := hk5.kept hg10 (by simp)
      refine d1D 24 h558 rfl rfl (op_storeN rfl rfl rfl (by kernel_rfl) (by kernel_rfl) hk564 rfl) ?_ ?_; clear h558
      ·
       rintro _ w560 ⟨hk561, hz562, hg563⟩
       have hk561' : Blk w560 N3 61 #[.int .i64 L.boot, .int .i64 L.stream, .int .i64 q, .int .i64 L.peer, .int .i64 L.in0, .int .i64 L.next, .bool h, .string y] := hk561; clear hk561
       have hz565 := hg563.size
       have hB566 := hb_at hB18 hg563 (by omega)
       have hk567 := hk20.kept hg563 (by simp; omega)
       exact ⟨hB566, hk567⟩
      rintro _ w560 a559 ⟨hk561, hz562, hg563⟩ h559
      have hk561' : Blk w560 N3 61 #[.int .i64 L.boot, .int .i64 L.stream, .int .i64 q, .int .i64 L.peer, .int .i64 L.in0, .int .i64 L.next, .bool h, .string y] := hk561; clear hk561
      have hz565 := hg563.size
      refine dr_done (by kernel_rfl) ?_
      refine co_then ?_
      refine wp_ret ?_
      refine co_retC (Q := fun _ _ _ => True) h559 rfl rfl hk561' Try.underlying61 rfl (by kernel_rfl) ?_
      have hB566 := hb_at hB18 hg563 (by omega)
      exact ⟨rfl, hB566⟩
    ·
     refine dr_opVal (i := 16) (v := .int .i64 L.in0) h555 rfl rfl rfl rfl (by kernel_rfl) rfl (rn_load1 rfl rfl Try.isAgg3 (hk20.cell rfl)) ⟨hB18, hk20⟩ (fun a567 h567 => ?_); clear h555
     refine dr_many [3] (by kernel_rfl) (by simp) ⟨?_, trivial⟩
     ·
      refine dr_opVal (i := 3) (v := .int .i64 L.boot) h567 rfl rfl rfl rfl (by kernel_rfl) rfl (rn_load1 rfl rfl Try.isAgg3 (hk20.cell rfl)) ⟨hB18, hk20⟩ (fun a568 h568 => ?_); clear h567
      refine dk0 23 (v := .agg #[.int .i64 L.boot, .int .i64 L.stream, .int .i64 q, .int .i64 L.peer, .int .i64 L.in0, .int .i64 L.next, .bool h, .string y]) h568 rfl rfl ⟨hB18, hk20⟩ fun a569 h569 => ?_; clear h568
      have hk575 := hk5.kept hg10 (by simp)
      refine d1D 24 h569 rfl rfl (op_storeN rfl rfl rfl (by kernel_rfl) (by kernel_rfl) hk575 rfl) ?_ ?_; clear h569
      ·
       rintro _ w571 ⟨hk572, hz573, hg574⟩
       have hk572' : Blk w571 N3 61 #[.int .i64 L.boot, .int .i64 L.stream, .int .i64 q, .int .i64 L.peer, .int .i64 L.in0, .int .i64 L.next, .bool h, .string y] := hk572; clear hk572
       have hz576 := hg574.size
       have hB577 := hb_at hB18 hg574 (by omega)
       have hk578 := hk20.kept hg574 (by simp; omega)
       exact ⟨hB577, hk578⟩
      rintro _ w571 a570 ⟨hk572, hz573, hg574⟩ h570
      have hk572' : Blk w571 N3 61 #[.int .i64 L.boot, .int .i64 L.stream, .int .i64 q, .int .i64 L.peer, .int .i64 L.in0, .int .i64 L.next, .bool h, .string y] := hk572; clear hk572
      have hz576 := hg574.size
      refine dr_done (by kernel_rfl) ?_
      refine co_then ?_
      refine wp_ret ?_
      refine co_retC (Q := fun _ _ _ => True) h570 rfl rfl hk572' Try.underlying61 rfl (by kernel_rfl) ?_
      have hB577 := hb_at hB18 hg574 (by omega)
      exact ⟨rfl, hB577⟩
   ·
    refine dr_opVal (i := 16) (v := .int .i64 L.in0) h531 rfl rfl rfl rfl (by kernel_rfl) rfl (rn_load1 rfl rfl Try.isAgg3 (hk20.cell rfl)) ⟨hB18, hk20⟩ (fun a578 h578 => ?_); clear h531
    refine dr_many [3, 12] (by kernel_rfl) (by simp) ⟨?_, ?_, trivial⟩
    ·
     refine dr_opVal (i := 3) (v := .int .i64 L.boot) h578 rfl rfl rfl rfl (by kernel_rfl) rfl (rn_load1 rfl rfl Try.isAgg3 (hk20.cell rfl)) ⟨hB18, hk20⟩ (fun a579 h579 => ?_); clear h578
     refine dr_many [12] (by kernel_rfl) (by simp) ⟨?_, trivial⟩
     ·
      refine dr_opVal (i := 12) (v := .int .i64 L.peer) h579 rfl rfl rfl rfl (by kernel_rfl) rfl (rn_load1 rfl rfl Try.isAgg3 (hk20.cell rfl)) ⟨hB18, hk20⟩ (fun a580 h580 => ?_); clear h579
      refine dk0 23 (v := .agg #[.int .i64 L.boot, .int .i64 L.stream, .int .i64 q, .int .i64 L.peer, .int .i64 L.in0, .int .i64 L.next, .bool h, .string y]) h580 rfl rfl ⟨hB18, hk20⟩ fun a581 h581 => ?_; clear h580
      have hk587 := hk5.kept hg10 (by simp)
      refine d1D 24 h581 rfl rfl (op_storeN rfl rfl rfl (by kernel_rfl) (by kernel_rfl) hk587 rfl) ?_ ?_; clear h581
      ·
       rintro _ w583 ⟨hk584, hz585, hg586⟩
       have hk584' : Blk w583 N3 61 #[.int .i64 L.boot, .int .i64 L.stream, .int .i64 q, .int .i64 L.peer, .int .i64 L.in0, .int .i64 L.next, .bool h, .string y] := hk584; clear hk584
       have hz588 := hg586.size
       have hB589 := hb_at hB18 hg586 (by omega)
       have hk590 := hk20.kept hg586 (by simp; omega)
       exact ⟨hB589, hk590⟩
      rintro _ w583 a582 ⟨hk584, hz585, hg586⟩ h582
      have hk584' : Blk w583 N3 61 #[.int .i64 L.boot, .int .i64 L.stream, .int .i64 q, .int .i64 L.peer, .int .i64 L.in0, .int .i64 L.next, .bool h, .string y] := hk584; clear hk584
      have hz588 := hg586.size
      refine dr_done (by kernel_rfl) ?_
      refine co_then ?_
      refine wp_ret ?_
      refine co_retC (Q := fun _ _ _ => True) h582 rfl rfl hk584' Try.underlying61 rfl (by kernel_rfl) ?_
      have hB589 := hb_at hB18 hg586 (by omega)
      exact ⟨rfl, hB589⟩
    ·
     refine dr_opVal (i := 12) (v := .int .i64 L.peer) h578 rfl rfl rfl rfl (by kernel_rfl) rfl (rn_load1 rfl rfl Try.isAgg3 (hk20.cell rfl)) ⟨hB18, hk20⟩ (fun a590 h590 => ?_); clear h578
     refine dr_many [3] (by kernel_rfl) (by simp) ⟨?_, trivial⟩
     ·
      refine dr_opVal (i := 3) (v := .int .i64 L.boot) h590 rfl rfl rfl rfl (by kernel_rfl) rfl (rn_load1 rfl rfl Try.isAgg3 (hk20.cell rfl)) ⟨hB18, hk20⟩ (fun a591 h591 => ?_); clear h590
      refine dk0 23 (v := .agg #[.int .i64 L.boot, .int .i64 L.stream, .int .i64 q, .int .i64 L.peer, .int .i64 L.in0, .int .i64 L.next, .bool h, .string y]) h591 rfl rfl ⟨hB18, hk20⟩ fun a592 h592 => ?_; clear h591
      have hk598 := hk5.kept hg10 (by simp)
      refine d1D 24 h592 rfl rfl (op_storeN rfl rfl rfl (by kernel_rfl) (by kernel_rfl) hk598 rfl) ?_ ?_; clear h592
      ·
       rintro _ w594 ⟨hk595, hz596, hg597⟩
       have hk595' : Blk w594 N3 61 #[.int .i64 L.boot, .int .i64 L.stream, .int .i64 q, .int .i64 L.peer, .int .i64 L.in0, .int .i64 L.next, .bool h, .string y] := hk595; clear hk595
       have hz599 := hg597.size
       have hB600 := hb_at hB18 hg597 (by omega)
       have hk601 := hk20.kept hg597 (by simp; omega)
       exact ⟨hB600, hk601⟩
      rintro _ w594 a593 ⟨hk595, hz596, hg597⟩ h593
      have hk595' : Blk w594 N3 61 #[.int .i64 L.boot, .int .i64 L.stream, .int .i64 q, .int .i64 L.peer, .int .i64 L.in0, .int .i64 L.next, .bool h, .string y] := hk595; clear hk595
      have hz599 := hg597.size
      refine dr_done (by kernel_rfl) ?_
      refine co_then ?_
      refine wp_ret ?_
      refine co_retC (Q := fun _ _ _ => True) h593 rfl rfl hk595' Try.underlying61 rfl (by kernel_rfl) ?_
      have hB600 := hb_at hB18 hg597 (by omega)
      exact ⟨rfl, hB600⟩
 ·
  refine dr_opVal (i := 12) (v := .int .i64 L.peer) h38 rfl rfl rfl rfl (by kernel_rfl) rfl (rn_load1 rfl rfl Try.isAgg3 (hk20.cell rfl)) ⟨hB18, hk20⟩ (fun a601 h601 => ?_); clear h38
  refine dr_many [3, 7, 16, 20] (by kernel_rfl) (by simp) ⟨?_, ?_, ?_, ?_, trivial⟩
  ·
   refine dr_opVal (i := 3) (v := .int .i64 L.boot) h601 rfl rfl rfl rfl (by kernel_rfl) rfl (rn_load1 rfl rfl Try.isAgg3 (hk20.cell rfl)) ⟨hB18, hk20⟩ (fun a602 h602 => ?_); clear h601
   refine dr_many [7, 16, 20] (by kernel_rfl) (by simp) ⟨?_, ?_, ?_, trivial⟩
   ·
    refine dr_opVal (i := 7) (v := .int .i64 L.stream) h602 rfl rfl rfl rfl (by kernel_rfl) rfl (rn_load1 rfl rfl Try.isAgg3 (hk20.cell rfl)) ⟨hB18, hk20⟩ (fun a603 h603 => ?_); clear h602
    refine dr_many [16, 20] (by kernel_rfl) (by simp) ⟨?_, ?_, trivial⟩
    ·
     refine dr_opVal (i := 16) (v := .int .i64 L.in0) h603 rfl rfl rfl rfl (by kernel_rfl) rfl (rn_load1 rfl rfl Try.isAgg3 (hk20.cell rfl)) ⟨hB18, hk20⟩ (fun a604 h604 => ?_); clear h603
     refine dr_many [20] (by kernel_rfl) (by simp) ⟨?_, trivial⟩
     ·
      refine dr_opVal (i := 20) (v := .int .i64 L.next) h604 rfl rfl rfl rfl (by kernel_rfl) rfl (rn_load1 rfl rfl Try.isAgg3 (hk20.cell rfl)) ⟨hB18, hk20⟩ (fun a605 h605 => ?_); clear h604
      refine dk0 23 (v := .agg #[.int .i64 L.boot, .int .i64 L.stream, .int .i64 q, .int .i64 L.peer, .int .i64 L.in0, .int .i64 L.next, .bool h, .string y]) h605 rfl rfl ⟨hB18, hk20⟩ fun a606 h606 => ?_; clear h605
      have hk612 := hk5.kept hg10 (by simp)
      refine d1D 24 h606 rfl rfl (op_storeN rfl rfl rfl (by kernel_rfl) (by kernel_rfl) hk612 rfl) ?_ ?_; clear h606
      ·
       rintro _ w608 ⟨hk609, hz610, hg611⟩
       have hk609' : Blk w608 N3 61 #[.int .i64 L.boot, .int .i64 L.stream, .int .i64 q, .int .i64 L.peer, .int .i64 L.in0, .int .i64 L.next, .bool h, .string y] := hk609; clear hk609
       have hz613 := hg611.size
       have hB614 := hb_at hB18 hg611 (by omega)
       have hk615 := hk20.kept hg611 (by simp; omega)
       exact ⟨hB614, hk615⟩
      rintro _ w608 a607 ⟨hk609, hz610, hg611⟩ h607
      have hk609' : Blk w608 N3 61 #[.int .i64 L.boot, .int .i64 L.stream, .int .i64 q, .int .i64 L.peer, .int .i64 L.in0, .int .i64 L.next, .bool h, .string y] := hk609; clear hk609
      have hz613 := hg611.size
      refine dr_done (by kernel_rfl) ?_
      refine co_then ?_
      refine wp_ret ?_
      refine co_retC (Q := fun _ _ _ => True) h607 rfl rfl hk609' Try.underlying61 rfl (by kernel_rfl) ?_
      have hB614 := hb_at hB18 hg611 (by omega)
      exact ⟨rfl, hB614⟩
    ·
     refine dr_opVal (i := 20) (v := .int .i64 L.next) h603 rfl rfl rfl rfl (by kernel_rfl) rfl (rn_load1 rfl rfl Try.isAgg3 (hk20.cell rfl)) ⟨hB18, hk20⟩ (fun a615 h615 => ?_); clear h603
     refine dr_many [16] (by kernel_rfl) (by simp) ⟨?_, trivial⟩
     ·
      refine dr_opVal (i := 16) (v := .int .i64 L.in0) h615 rfl rfl rfl rfl (by kernel_rfl) rfl (rn_load1 rfl rfl Try.isAgg3 (hk20.cell rfl)) ⟨hB18, hk20⟩ (fun a616 h616 => ?_); clear h615
      refine dk0 23 (v := .agg #[.int .i64 L.boot, .int .i64 L.stream, .int .i64 q, .int .i64 L.peer, .int .i64 L.in0, .int .i64 L.next, .bool h, .string y]) h616 rfl rfl ⟨hB18, hk20⟩ fun a617 h617 => ?_; clear h616
      have hk623 := hk5.kept hg10 (by simp)
      refine d1D 24 h617 rfl rfl (op_storeN rfl rfl rfl (by kernel_rfl) (by kernel_rfl) hk623 rfl) ?_ ?_; clear h617
      ·
       rintro _ w619 ⟨hk620, hz621, hg622⟩
       have hk620' : Blk w619 N3 61 #[.int .i64 L.boot, .int .i64 L.stream, .int .i64 q, .int .i64 L.peer, .int .i64 L.in0, .int .i64 L.next, .bool h, .string y] := hk620; clear hk620
       have hz624 := hg622.size
       have hB625 := hb_at hB18 hg622 (by omega)
       have hk626 := hk20.kept hg622 (by simp; omega)
       exact ⟨hB625, hk626⟩
      rintro _ w619 a618 ⟨hk620, hz621, hg622⟩ h618
      have hk620' : Blk w619 N3 61 #[.int .i64 L.boot, .int .i64 L.stream, .int .i64 q, .int .i64 L.peer, .int .i64 L.in0, .int .i64 L.next, .bool h, .string y] := hk620; clear hk620
      have hz624 := hg622.size
      refine dr_done (by kernel_rfl) ?_
      refine co_then ?_
      refine wp_ret ?_
      refine co_retC (Q := fun _ _ _ => True) h618 rfl rfl hk620' Try.underlying61 rfl (by kernel_rfl) ?_
      have hB625 := hb_at hB18 hg622 (by omega)
      exact ⟨rfl, hB625⟩
   ·
    refine dr_opVal (i := 16) (v := .int .i64 L.in0) h602 rfl rfl rfl rfl (by kernel_rfl) rfl (rn_load1 rfl rfl Try.isAgg3 (hk20.cell rfl)) ⟨hB18, hk20⟩ (fun a626 h626 => ?_); clear h602
    refine dr_many [7, 20] (by kernel_rfl) (by simp) ⟨?_, ?_, trivial⟩
    ·
     refine dr_opVal (i := 7) (v := .int .i64 L.stream) h626 rfl rfl rfl rfl (by kernel_rfl) rfl (rn_load1 rfl rfl Try.isAgg3 (hk20.cell rfl)) ⟨hB18, hk20⟩ (fun a627 h627 => ?_); clear h626
     refine dr_many [20] (by kernel_rfl) (by simp) ⟨?_, trivial⟩
     ·
      refine dr_opVal (i := 20) (v := .int .i64 L.next) h627 rfl rfl rfl rfl (by kernel_rfl) rfl (rn_load1 rfl rfl Try.isAgg3 (hk20.cell rfl)) ⟨hB18, hk20⟩ (fun a628 h628 => ?_); clear h627
      refine dk0 23 (v := .agg #[.int .i64 L.boot, .int .i64 L.stream, .int .i64 q, .int .i64 L.peer, .int .i64 L.in0, .int .i64 L.next, .bool h, .string y]) h628 rfl rfl ⟨hB18, hk20⟩ fun a629 h629 => ?_; clear h628
      have hk635 := hk5.kept hg10 (by simp)
      refine d1D 24 h629 rfl rfl (op_storeN rfl rfl rfl (by kernel_rfl) (by kernel_rfl) hk635 rfl) ?_ ?_; clear h629
      ·
       rintro _ w631 ⟨hk632, hz633, hg634⟩
       have hk632' : Blk w631 N3 61 #[.int .i64 L.boot, .int .i64 L.stream, .int .i64 q, .int .i64 L.peer, .int .i64 L.in0, .int .i64 L.next, .bool h, .string y] := hk632; clear hk632
       have hz636 := hg634.size
       have hB637 := hb_at hB18 hg634 (by omega)
       have hk638 := hk20.kept hg634 (by simp; omega)
       exact ⟨hB637, hk638⟩
      rintro _ w631 a630 ⟨hk632, hz633, hg634⟩ h630
      have hk632' : Blk w631 N3 61 #[.int .i64 L.boot, .int .i64 L.stream, .int .i64 q, .int .i64 L.peer, .int .i64 L.in0, .int .i64 L.next, .bool h, .string y] := hk632; clear hk632
      have hz636 := hg634.size
      refine dr_done (by kernel_rfl) ?_
      refine co_then ?_
      refine wp_ret ?_
      refine co_retC (Q := fun _ _ _ => True) h630 rfl rfl hk632' Try.underlying61 rfl (by kernel_rfl) ?_
      have hB637 := hb_at hB18 hg634 (by omega)
      exact ⟨rfl, hB637⟩
    ·
     refine dr_opVal (i := 20) (v := .int .i64 L.next) h626 rfl rfl rfl rfl (by kernel_rfl) rfl (rn_load1 rfl rfl Try.isAgg3 (hk20.cell rfl)) ⟨hB18, hk20⟩ (fun a638 h638 => ?_); clear h626
     refine dr_many [7] (by kernel_rfl) (by simp) ⟨?_, trivial⟩
     ·
      refine dr_opVal (i := 7) (v := .int .i64 L.stream) h638 rfl rfl rfl rfl (by kernel_rfl) rfl (rn_load1 rfl rfl Try.isAgg3 (hk20.cell rfl)) ⟨hB18, hk20⟩ (fun a639 h639 => ?_); clear h638
      refine dk0 23 (v := .agg #[.int .i64 L.boot, .int .i64 L.stream, .int .i64 q, .int .i64 L.peer, .int .i64 L.in0, .int .i64 L.next, .bool h, .string y]) h639 rfl rfl ⟨hB18, hk20⟩ fun a640 h640 => ?_; clear h639
      have hk646 := hk5.kept hg10 (by simp)
      refine d1D 24 h640 rfl rfl (op_storeN rfl rfl rfl (by kernel_rfl) (by kernel_rfl) hk646 rfl) ?_ ?_; clear h640
      ·
       rintro _ w642 ⟨hk643, hz644, hg645⟩
       have hk643' : Blk w642 N3 61 #[.int .i64 L.boot, .int .i64 L.stream, .int .i64 q, .int .i64 L.peer, .int .i64 L.in0, .int .i64 L.next, .bool h, .string y] := hk643; clear hk643
       have hz647 := hg645.size
       have hB648 := hb_at hB18 hg645 (by omega)
       have hk649 := hk20.kept hg645 (by simp; omega)
       exact ⟨hB648, hk649⟩
      rintro _ w642 a641 ⟨hk643, hz644, hg645⟩ h641
      have hk643' : Blk w642 N3 61 #[.int .i64 L.boot, .int .i64 L.stream, .int .i64 q, .int .i64 L.peer, .int .i64 L.in0, .int .i64 L.next, .bool h, .string y] := hk643; clear hk643
      have hz647 := hg645.size
      refine dr_done (by kernel_rfl) ?_
      refine co_then ?_
      refine wp_ret ?_
      refine co_retC (Q := fun _ _ _ => True) h641 rfl rfl hk643' Try.underlying61 rfl (by kernel_rfl) ?_
      have hB648 := hb_at hB18 hg645 (by omega)
      exact ⟨rfl, hB648⟩
   ·
    refine dr_opVal (i := 20) (v := .int .i64 L.next) h602 rfl rfl rfl rfl (by kernel_rfl) rfl (rn_load1 rfl rfl Try.isAgg3 (hk20.cell rfl)) ⟨hB18, hk20⟩ (fun a649 h649 => ?_); clear h602
    refine dr_many [7, 16] (by kernel_rfl) (by simp) ⟨?_, ?_, trivial⟩
    ·
     refine dr_opVal (i := 7) (v := .int .i64 L.stream) h649 rfl rfl rfl rfl (by kernel_rfl) rfl (rn_load1 rfl rfl Try.isAgg3 (hk20.cell rfl)) ⟨hB18, hk20⟩ (fun a650 h650 => ?_); clear h649
     refine dr_many [16] (by kernel_rfl) (by simp) ⟨?_, trivial⟩
     ·
      refine dr_opVal (i := 16) (v := .int .i64 L.in0) h650 rfl rfl rfl rfl (by kernel_rfl) rfl (rn_load1 rfl rfl Try.isAgg3 (hk20.cell rfl)) ⟨hB18, hk20⟩ (fun a651 h651 => ?_); clear h650
      refine dk0 23 (v := .agg #[.int .i64 L.boot, .int .i64 L.stream, .int .i64 q, .int .i64 L.peer, .int .i64 L.in0, .int .i64 L.next, .bool h, .string y]) h651 rfl rfl ⟨hB18, hk20⟩ fun a652 h652 => ?_; clear h651
      have hk658 := hk5.kept hg10 (by simp)
      refine d1D 24 h652 rfl rfl (op_storeN rfl rfl rfl (by kernel_rfl) (by kernel_rfl) hk658 rfl) ?_ ?_; clear h652
      ·
       rintro _ w654 ⟨hk655, hz656, hg657⟩
       have hk655' : Blk w654 N3 61 #[.int .i64 L.boot, .int .i64 L.stream, .int .i64 q, .int .i64 L.peer, .int .i64 L.in0, .int .i64 L.next, .bool h, .string y] := hk655; clear hk655
       have hz659 := hg657.size
       have hB660 := hb_at hB18 hg657 (by omega)
       have hk661 := hk20.kept hg657 (by simp; omega)
       exact ⟨hB660, hk661⟩
      rintro _ w654 a653 ⟨hk655, hz656, hg657⟩ h653
      have hk655' : Blk w654 N3 61 #[.int .i64 L.boot, .int .i64 L.stream, .int .i64 q, .int .i64 L.peer, .int .i64 L.in0, .int .i64 L.next, .bool h, .string y] := hk655; clear hk655
      have hz659 := hg657.size
      refine dr_done (by kernel_rfl) ?_
      refine co_then ?_
      refine wp_ret ?_
      refine co_retC (Q := fun _ _ _ => True) h653 rfl rfl hk655' Try.underlying61 rfl (by kernel_rfl) ?_
      have hB660 := hb_at hB18 hg657 (by omega)
      exact ⟨rfl, hB660⟩
    ·
     refine dr_opVal (i := 16) (v := .int .i64 L.in0) h649 rfl rfl rfl rfl (by kernel_rfl) rfl (rn_load1 rfl rfl Try.isAgg3 (hk20.cell rfl)) ⟨hB18, hk20⟩ (fun a661 h661 => ?_); clear h649
     refine dr_many [7] (by kernel_rfl) (by simp) ⟨?_, trivial⟩
     ·
      refine dr_opVal (i := 7) (v := .int .i64 L.stream) h661 rfl rfl rfl rfl (by kernel_rfl) rfl (rn_load1 rfl rfl Try.isAgg3 (hk20.cell rfl)) ⟨hB18, hk20⟩ (fun a662 h662 => ?_); clear h661
      refine dk0 23 (v := .agg #[.int .i64 L.boot, .int .i64 L.stream, .int .i64 q, .int .i64 L.peer, .int .i64 L.in0, .int .i64 L.next, .bool h, .string y]) h662 rfl rfl ⟨hB18, hk20⟩ fun a663 h663 => ?_; clear h662
      have hk669 := hk5.kept hg10 (by simp)
      refine d1D 24 h663 rfl rfl (op_storeN rfl rfl rfl (by kernel_rfl) (by kernel_rfl) hk669 rfl) ?_ ?_; clear h663
      ·
       rintro _ w665 ⟨hk666, hz667, hg668⟩
       have hk666' : Blk w665 N3 61 #[.int .i64 L.boot, .int .i64 L.stream, .int .i64 q, .int .i64 L.peer, .int .i64 L.in0, .int .i64 L.next, .bool h, .string y] := hk666; clear hk666
       have hz670 := hg668.size
       have hB671 := hb_at hB18 hg668 (by omega)
       have hk672 := hk20.kept hg668 (by simp; omega)
       exact ⟨hB671, hk672⟩
      rintro _ w665 a664 ⟨hk666, hz667, hg668⟩ h664
      have hk666' : Blk w665 N3 61 #[.int .i64 L.boot, .int .i64 L.stream, .int .i64 q, .int .i64 L.peer, .int .i64 L.in0, .int .i64 L.next, .bool h, .string y] := hk666; clear hk666
      have hz670 := hg668.size
      refine dr_done (by kernel_rfl) ?_
      refine co_then ?_
      refine wp_ret ?_
      refine co_retC (Q := fun _ _ _ => True) h664 rfl rfl hk666' Try.underlying61 rfl (by kernel_rfl) ?_
      have hB671 := hb_at hB18 hg668 (by omega)
      exact ⟨rfl, hB671⟩
  ·
   refine dr_opVal (i := 7) (v := .int .i64 L.stream) h601 rfl rfl rfl rfl (by kernel_rfl) rfl (rn_load1 rfl rfl Try.isAgg3 (hk20.cell rfl)) ⟨hB18, hk20⟩ (fun a672 h672 => ?_); clear h601
   refine dr_many [3, 16, 20] (by kernel_rfl) (by simp) ⟨?_, ?_, ?_, trivial⟩
   ·
    refine dr_opVal (i := 3) (v := .int .i64 L.boot) h672 rfl rfl rfl rfl (by kernel_rfl) rfl (rn_load1 rfl rfl Try.isAgg3 (hk20.cell rfl)) ⟨hB18, hk20⟩ (fun a673 h673 => ?_); clear h672
    refine dr_many [16, 20] (by kernel_rfl) (by simp) ⟨?_, ?_, trivial⟩
    ·
     refine dr_opVal (i := 16) (v := .int .i64 L.in0) h673 rfl rfl rfl rfl (by kernel_rfl) rfl (rn_load1 rfl rfl Try.isAgg3 (hk20.cell rfl)) ⟨hB18, hk20⟩ (fun a674 h674 => ?_); clear h673
     refine dr_many [20] (by kernel_rfl) (by simp) ⟨?_, trivial⟩
     ·
      refine dr_opVal (i := 20) (v := .int .i64 L.next) h674 rfl rfl rfl rfl (by kernel_rfl) rfl (rn_load1 rfl rfl Try.isAgg3 (hk20.cell rfl)) ⟨hB18, hk20⟩ (fun a675 h675 => ?_); clear h674
      refine dk0 23 (v := .agg #[.int .i64 L.boot, .int .i64 L.stream, .int .i64 q, .int .i64 L.peer, .int .i64 L.in0, .int .i64 L.next, .bool h, .string y]) h675 rfl rfl ⟨hB18, hk20⟩ fun a676 h676 => ?_; clear h675
      have hk682 := hk5.kept hg10 (by simp)
      refine d1D 24 h676 rfl rfl (op_storeN rfl rfl rfl (by kernel_rfl) (by kernel_rfl) hk682 rfl) ?_ ?_; clear h676
      ·
       rintro _ w678 ⟨hk679, hz680, hg681⟩
       have hk679' : Blk w678 N3 61 #[.int .i64 L.boot, .int .i64 L.stream, .int .i64 q, .int .i64 L.peer, .int .i64 L.in0, .int .i64 L.next, .bool h, .string y] := hk679; clear hk679
       have hz683 := hg681.size
       have hB684 := hb_at hB18 hg681 (by omega)
       have hk685 := hk20.kept hg681 (by simp; omega)
       exact ⟨hB684, hk685⟩
      rintro _ w678 a677 ⟨hk679, hz680, hg681⟩ h677
      have hk679' : Blk w678 N3 61 #[.int .i64 L.boot, .int .i64 L.stream, .int .i64 q, .int .i64 L.peer, .int .i64 L.in0, .int .i64 L.next, .bool h, .string y] := hk679; clear hk679
      have hz683 := hg681.size
      refine dr_done (by kernel_rfl) ?_
      refine co_then ?_
      refine wp_ret ?_
      refine co_retC (Q := fun _ _ _ => True) h677 rfl rfl hk679' Try.underlying61 rfl (by kernel_rfl) ?_
      have hB684 := hb_at hB18 hg681 (by omega)
      exact ⟨rfl, hB684⟩
    ·
     refine dr_opVal (i := 20) (v := .int .i64 L.next) h673 rfl rfl rfl rfl (by kernel_rfl) rfl (rn_load1 rfl rfl Try.isAgg3 (hk20.cell rfl)) ⟨hB18, hk20⟩ (fun a685 h685 => ?_); clear h673
     refine dr_many [16] (by kernel_rfl) (by simp) ⟨?_, trivial⟩
     ·
      refine dr_opVal (i := 16) (v := .int .i64 L.in0) h685 rfl rfl rfl rfl (by kernel_rfl) rfl (rn_load1 rfl rfl Try.isAgg3 (hk20.cell rfl)) ⟨hB18, hk20⟩ (fun a686 h686 => ?_); clear h685
      refine dk0 23 (v := .agg #[.int .i64 L.boot, .int .i64 L.stream, .int .i64 q, .int .i64 L.peer, .int .i64 L.in0, .int .i64 L.next, .bool h, .string y]) h686 rfl rfl ⟨hB18, hk20⟩ fun a687 h687 => ?_; clear h686
      have hk693 := hk5.kept hg10 (by simp)
      refine d1D 24 h687 rfl rfl (op_storeN rfl rfl rfl (by kernel_rfl) (by kernel_rfl) hk693 rfl) ?_ ?_; clear h687
      ·
       rintro _ w689 ⟨hk690, hz691, hg692⟩
       have hk690' : Blk w689 N3 61 #[.int .i64 L.boot, .int .i64 L.stream, .int .i64 q, .int .i64 L.peer, .int .i64 L.in0, .int .i64 L.next, .bool h, .string y] := hk690; clear hk690
       have hz694 := hg692.size
       have hB695 := hb_at hB18 hg692 (by omega)
       have hk696 := hk20.kept hg692 (by simp; omega)
       exact ⟨hB695, hk696⟩
      rintro _ w689 a688 ⟨hk690, hz691, hg692⟩ h688
      have hk690' : Blk w689 N3 61 #[.int .i64 L.boot, .int .i64 L.stream, .int .i64 q, .int .i64 L.peer, .int .i64 L.in0, .int .i64 L.next, .bool h, .string y] := hk690; clear hk690
      have hz694 := hg692.size
      refine dr_done (by kernel_rfl) ?_
      refine co_then ?_
      refine wp_ret ?_
      refine co_retC (Q := fun _ _ _ => True) h688 rfl rfl hk690' Try.underlying61 rfl (by kernel_rfl) ?_
      have hB695 := hb_at hB18 hg692 (by omega)
      exact ⟨rfl, hB695⟩
   ·
    refine dr_opVal (i := 16) (v := .int .i64 L.in0) h672 rfl rfl rfl rfl (by kernel_rfl) rfl (rn_load1 rfl rfl Try.isAgg3 (hk20.cell rfl)) ⟨hB18, hk20⟩ (fun a696 h696 => ?_); clear h672
    refine dr_many [3, 20] (by kernel_rfl) (by simp) ⟨?_, ?_, trivial⟩
    ·
     refine dr_opVal (i := 3) (v := .int .i64 L.boot) h696 rfl rfl rfl rfl (by kernel_rfl) rfl (rn_load1 rfl rfl Try.isAgg3 (hk20.cell rfl)) ⟨hB18, hk20⟩ (fun a697 h697 => ?_); clear h696
     refine dr_many [20] (by kernel_rfl) (by simp) ⟨?_, trivial⟩
     ·
      refine dr_opVal (i := 20) (v := .int .i64 L.next) h697 rfl rfl rfl rfl (by kernel_rfl) rfl (rn_load1 rfl rfl Try.isAgg3 (hk20.cell rfl)) ⟨hB18, hk20⟩ (fun a698 h698 => ?_); clear h697
      refine dk0 23 (v := .agg #[.int .i64 L.boot, .int .i64 L.stream, .int .i64 q, .int .i64 L.peer, .int .i64 L.in0, .int .i64 L.next, .bool h, .string y]) h698 rfl rfl ⟨hB18, hk20⟩ fun a699 h699 => ?_; clear h698
      have hk705 := hk5.kept hg10 (by simp)
      refine d1D 24 h699 rfl rfl (op_storeN rfl rfl rfl (by kernel_rfl) (by kernel_rfl) hk705 rfl) ?_ ?_; clear h699
      ·
       rintro _ w701 ⟨hk702, hz703, hg704⟩
       have hk702' : Blk w701 N3 61 #[.int .i64 L.boot, .int .i64 L.stream, .int .i64 q, .int .i64 L.peer, .int .i64 L.in0, .int .i64 L.next, .bool h, .string y] := hk702; clear hk702
       have hz706 := hg704.size
       have hB707 := hb_at hB18 hg704 (by omega)
       have hk708 := hk20.kept hg704 (by simp; omega)
       exact ⟨hB707, hk708⟩
      rintro _ w701 a700 ⟨hk702, hz703, hg704⟩ h700
      have hk702' : Blk w701 N3 61 #[.int .i64 L.boot, .int .i64 L.stream, .int .i64 q, .int .i64 L.peer, .int .i64 L.in0, .int .i64 L.next, .bool h, .string y] := hk702; clear hk702
      have hz706 := hg704.size
      refine dr_done (by kernel_rfl) ?_
      refine co_then ?_
      refine wp_ret ?_
      refine co_retC (Q := fun _ _ _ => True) h700 rfl rfl hk702' Try.underlying61 rfl (by kernel_rfl) ?_
      have hB707 := hb_at hB18 hg704 (by omega)
      exact ⟨rfl, hB707⟩
    ·
     refine dr_opVal (i := 20) (v := .int .i64 L.next) h696 rfl rfl rfl rfl (by kernel_rfl) rfl (rn_load1 rfl rfl Try.isAgg3 (hk20.cell rfl)) ⟨hB18, hk20⟩ (fun a708 h708 => ?_); clear h696
     refine dr_many [3] (by kernel_rfl) (by simp) ⟨?_, trivial⟩
     ·
      refine dr_opVal (i := 3) (v := .int .i64 L.boot) h708 rfl rfl rfl rfl (by kernel_rfl) rfl (rn_load1 rfl rfl Try.isAgg3 (hk20.cell rfl)) ⟨hB18, hk20⟩ (fun a709 h709 => ?_); clear h708
      refine dk0 23 (v := .agg #[.int .i64 L.boot, .int .i64 L.stream, .int .i64 q, .int .i64 L.peer, .int .i64 L.in0, .int .i64 L.next, .bool h, .string y]) h709 rfl rfl ⟨hB18, hk20⟩ fun a710 h710 => ?_; clear h709
      have hk716 := hk5.kept hg10 (by simp)
      refine d1D 24 h710 rfl rfl (op_storeN rfl rfl rfl (by kernel_rfl) (by kernel_rfl) hk716 rfl) ?_ ?_; clear h710
      ·
       rintro _ w712 ⟨hk713, hz714, hg715⟩
       have hk713' : Blk w712 N3 61 #[.int .i64 L.boot, .int .i64 L.stream, .int .i64 q, .int .i64 L.peer, .int .i64 L.in0, .int .i64 L.next, .bool h, .string y] := hk713; clear hk713
       have hz717 := hg715.size
       have hB718 := hb_at hB18 hg715 (by omega)
       have hk719 := hk20.kept hg715 (by simp; omega)
       exact ⟨hB718, hk719⟩
      rintro _ w712 a711 ⟨hk713, hz714, hg715⟩ h711
      have hk713' : Blk w712 N3 61 #[.int .i64 L.boot, .int .i64 L.stream, .int .i64 q, .int .i64 L.peer, .int .i64 L.in0, .int .i64 L.next, .bool h, .string y] := hk713; clear hk713
      have hz717 := hg715.size
      refine dr_done (by kernel_rfl) ?_
      refine co_then ?_
      refine wp_ret ?_
      refine co_retC (Q := fun _ _ _ => True) h711 rfl rfl hk713' Try.underlying61 rfl (by kernel_rfl) ?_
      have hB718 := hb_at hB18 hg715 (by omega)
      exact ⟨rfl, hB718⟩
   ·
    refine dr_opVal (i := 20) (v := .int .i64 L.next) h672 rfl rfl rfl rfl (by kernel_rfl) rfl (rn_load1 rfl rfl Try.isAgg3 (hk20.cell rfl)) ⟨hB18, hk20⟩ (fun a719 h719 => ?_); clear h672
    refine dr_many [3, 16] (by kernel_rfl) (by simp) ⟨?_, ?_, trivial⟩
    ·
     refine dr_opVal (i := 3) (v := .int .i64 L.boot) h719 rfl rfl rfl rfl (by kernel_rfl) rfl (rn_load1 rfl rfl Try.isAgg3 (hk20.cell rfl)) ⟨hB18, hk20⟩ (fun a720 h720 => ?_); clear h719
     refine dr_many [16] (by kernel_rfl) (by simp) ⟨?_, trivial⟩
     ·
      refine dr_opVal (i := 16) (v := .int .i64 L.in0) h720 rfl rfl rfl rfl (by kernel_rfl) rfl (rn_load1 rfl rfl Try.isAgg3 (hk20.cell rfl)) ⟨hB18, hk20⟩ (fun a721 h721 => ?_); clear h720
      refine dk0 23 (v := .agg #[.int .i64 L.boot, .int .i64 L.stream, .int .i64 q, .int .i64 L.peer, .int .i64 L.in0, .int .i64 L.next, .bool h, .string y]) h721 rfl rfl ⟨hB18, hk20⟩ fun a722 h722 => ?_; clear h721
      have hk728 := hk5.kept hg10 (by simp)
      refine d1D 24 h722 rfl rfl (op_storeN rfl rfl rfl (by kernel_rfl) (by kernel_rfl) hk728 rfl) ?_ ?_; clear h722
      ·
       rintro _ w724 ⟨hk725, hz726, hg727⟩
       have hk725' : Blk w724 N3 61 #[.int .i64 L.boot, .int .i64 L.stream, .int .i64 q, .int .i64 L.peer, .int .i64 L.in0, .int .i64 L.next, .bool h, .string y] := hk725; clear hk725
       have hz729 := hg727.size
       have hB730 := hb_at hB18 hg727 (by omega)
       have hk731 := hk20.kept hg727 (by simp; omega)
       exact ⟨hB730, hk731⟩
      rintro _ w724 a723 ⟨hk725, hz726, hg727⟩ h723
      have hk725' : Blk w724 N3 61 #[.int .i64 L.boot, .int .i64 L.stream, .int .i64 q, .int .i64 L.peer, .int .i64 L.in0, .int .i64 L.next, .bool h, .string y] := hk725; clear hk725
      have hz729 := hg727.size
      refine dr_done (by kernel_rfl) ?_
      refine co_then ?_
      refine wp_ret ?_
      refine co_retC (Q := fun _ _ _ => True) h723 rfl rfl hk725' Try.underlying61 rfl (by kernel_rfl) ?_
      have hB730 := hb_at hB18 hg727 (by omega)
      exact ⟨rfl, hB730⟩
    ·
     refine dr_opVal (i := 16) (v := .int .i64 L.in0) h719 rfl rfl rfl rfl (by kernel_rfl) rfl (rn_load1 rfl rfl Try.isAgg3 (hk20.cell rfl)) ⟨hB18, hk20⟩ (fun a731 h731 => ?_); clear h719
     refine dr_many [3] (by kernel_rfl) (by simp) ⟨?_, trivial⟩
     ·
      refine dr_opVal (i := 3) (v := .int .i64 L.boot) h731 rfl rfl rfl rfl (by kernel_rfl) rfl (rn_load1 rfl rfl Try.isAgg3 (hk20.cell rfl)) ⟨hB18, hk20⟩ (fun a732 h732 => ?_); clear h731
      refine dk0 23 (v := .agg #[.int .i64 L.boot, .int .i64 L.stream, .int .i64 q, .int .i64 L.peer, .int .i64 L.in0, .int .i64 L.next, .bool h, .string y]) h732 rfl rfl ⟨hB18, hk20⟩ fun a733 h733 => ?_; clear h732
      have hk739 := hk5.kept hg10 (by simp)
      refine d1D 24 h733 rfl rfl (op_storeN rfl rfl rfl (by kernel_rfl) (by kernel_rfl) hk739 rfl) ?_ ?_; clear h733
      ·
       rintro _ w735 ⟨hk736, hz737, hg738⟩
       have hk736' : Blk w735 N3 61 #[.int .i64 L.boot, .int .i64 L.stream, .int .i64 q, .int .i64 L.peer, .int .i64 L.in0, .int .i64 L.next, .bool h, .string y] := hk736; clear hk736
       have hz740 := hg738.size
       have hB741 := hb_at hB18 hg738 (by omega)
       have hk742 := hk20.kept hg738 (by simp; omega)
       exact ⟨hB741, hk742⟩
      rintro _ w735 a734 ⟨hk736, hz737, hg738⟩ h734
      have hk736' : Blk w735 N3 61 #[.int .i64 L.boot, .int .i64 L.stream, .int .i64 q, .int .i64 L.peer, .int .i64 L.in0, .int .i64 L.next, .bool h, .string y] := hk736; clear hk736
      have hz740 := hg738.size
      refine dr_done (by kernel_rfl) ?_
      refine co_then ?_
      refine wp_ret ?_
      refine co_retC (Q := fun _ _ _ => True) h734 rfl rfl hk736' Try.underlying61 rfl (by kernel_rfl) ?_
      have hB741 := hb_at hB18 hg738 (by omega)
      exact ⟨rfl, hB741⟩
  ·
   refine dr_opVal (i := 16) (v := .int .i64 L.in0) h601 rfl rfl rfl rfl (by kernel_rfl) rfl (rn_load1 rfl rfl Try.isAgg3 (hk20.cell rfl)) ⟨hB18, hk20⟩ (fun a742 h742 => ?_); clear h601
   refine dr_many [3, 7, 20] (by kernel_rfl) (by simp) ⟨?_, ?_, ?_, trivial⟩
   ·
    refine dr_opVal (i := 3) (v := .int .i64 L.boot) h742 rfl rfl rfl rfl (by kernel_rfl) rfl (rn_load1 rfl rfl Try.isAgg3 (hk20.cell rfl)) ⟨hB18, hk20⟩ (fun a743 h743 => ?_); clear h742
    refine dr_many [7, 20] (by kernel_rfl) (by simp) ⟨?_, ?_, trivial⟩
    ·
     refine dr_opVal (i := 7) (v := .int .i64 L.stream) h743 rfl rfl rfl rfl (by kernel_rfl) rfl (rn_load1 rfl rfl Try.isAgg3 (hk20.cell rfl)) ⟨hB18, hk20⟩ (fun a744 h744 => ?_); clear h743
     refine dr_many [20] (by kernel_rfl) (by simp) ⟨?_, trivial⟩
     ·
      refine dr_opVal (i := 20) (v := .int .i64 L.next) h744 rfl rfl rfl rfl (by kernel_rfl) rfl (rn_load1 rfl rfl Try.isAgg3 (hk20.cell rfl)) ⟨hB18, hk20⟩ (fun a745 h745 => ?_); clear h744
      refine dk0 23 (v := .agg #[.int .i64 L.boot, .int .i64 L.stream, .int .i64 q, .int .i64 L.peer, .int .i64 L.in0, .int .i64 L.next, .bool h, .string y]) h745 rfl rfl ⟨hB18, hk20⟩ fun a746 h746 => ?_; clear h745
      have hk752 := hk5.kept hg10 (by simp)
      refine d1D 24 h746 rfl rfl (op_storeN rfl rfl rfl (by kernel_rfl) (by kernel_rfl) hk752 rfl) ?_ ?_; clear h746
      ·
       rintro _ w748 ⟨hk749, hz750, hg751⟩
       have hk749' : Blk w748 N3 61 #[.int .i64 L.boot, .int .i64 L.stream, .int .i64 q, .int .i64 L.peer, .int .i64 L.in0, .int .i64 L.next, .bool h, .string y] := hk749; clear hk749
       have hz753 := hg751.size
       have hB754 := hb_at hB18 hg751 (by omega)
       have hk755 := hk20.kept hg751 (by simp; omega)
       exact ⟨hB754, hk755⟩
      rintro _ w748 a747 ⟨hk749, hz750, hg751⟩ h747
      have hk749' : Blk w748 N3 61 #[.int .i64 L.boot, .int .i64 L.stream, .int .i64 q, .int .i64 L.peer, .int .i64 L.in0, .int .i64 L.next, .bool h, .string y] := hk749; clear hk749
      have hz753 := hg751.size
      refine dr_done (by kernel_rfl) ?_
      refine co_then ?_
      refine wp_ret ?_
      refine co_retC (Q := fun _ _ _ => True) h747 rfl rfl hk749' Try.underlying61 rfl (by kernel_rfl) ?_
      have hB754 := hb_at hB18 hg751 (by omega)
      exact ⟨rfl, hB754⟩
    ·
     refine dr_opVal (i := 20) (v := .int .i64 L.next) h743 rfl rfl rfl rfl (by kernel_rfl) rfl (rn_load1 rfl rfl Try.isAgg3 (hk20.cell rfl)) ⟨hB18, hk20⟩ (fun a755 h755 => ?_); clear h743
     refine dr_many [7] (by kernel_rfl) (by simp) ⟨?_, trivial⟩
     ·
      refine dr_opVal (i := 7) (v := .int .i64 L.stream) h755 rfl rfl rfl rfl (by kernel_rfl) rfl (rn_load1 rfl rfl Try.isAgg3 (hk20.cell rfl)) ⟨hB18, hk20⟩ (fun a756 h756 => ?_); clear h755
      refine dk0 23 (v := .agg #[.int .i64 L.boot, .int .i64 L.stream, .int .i64 q, .int .i64 L.peer, .int .i64 L.in0, .int .i64 L.next, .bool h, .string y]) h756 rfl rfl ⟨hB18, hk20⟩ fun a757 h757 => ?_; clear h756
      have hk763 := hk5.kept hg10 (by simp)
      refine d1D 24 h757 rfl rfl (op_storeN rfl rfl rfl (by kernel_rfl) (by kernel_rfl) hk763 rfl) ?_ ?_; clear h757
      ·
       rintro _ w759 ⟨hk760, hz761, hg762⟩
       have hk760' : Blk w759 N3 61 #[.int .i64 L.boot, .int .i64 L.stream, .int .i64 q, .int .i64 L.peer, .int .i64 L.in0, .int .i64 L.next, .bool h, .string y] := hk760; clear hk760
       have hz764 := hg762.size
       have hB765 := hb_at hB18 hg762 (by omega)
       have hk766 := hk20.kept hg762 (by simp; omega)
       exact ⟨hB765, hk766⟩
      rintro _ w759 a758 ⟨hk760, hz761, hg762⟩ h758
      have hk760' : Blk w759 N3 61 #[.int .i64 L.boot, .int .i64 L.stream, .int .i64 q, .int .i64 L.peer, .int .i64 L.in0, .int .i64 L.next, .bool h, .string y] := hk760; clear hk760
      have hz764 := hg762.size
      refine dr_done (by kernel_rfl) ?_
      refine co_then ?_
      refine wp_ret ?_
      refine co_retC (Q := fun _ _ _ => True) h758 rfl rfl hk760' Try.underlying61 rfl (by kernel_rfl) ?_
      have hB765 := hb_at hB18 hg762 (by omega)
      exact ⟨rfl, hB765⟩
   ·
    refine dr_opVal (i := 7) (v := .int .i64 L.stream) h742 rfl rfl rfl rfl (by kernel_rfl) rfl (rn_load1 rfl rfl Try.isAgg3 (hk20.cell rfl)) ⟨hB18, hk20⟩ (fun a766 h766 => ?_); clear h742
    refine dr_many [3, 20] (by kernel_rfl) (by simp) ⟨?_, ?_, trivial⟩
    ·
     refine dr_opVal (i := 3) (v := .int .i64 L.boot) h766 rfl rfl rfl rfl (by kernel_rfl) rfl (rn_load1 rfl rfl Try.isAgg3 (hk20.cell rfl)) ⟨hB18, hk20⟩ (fun a767 h767 => ?_); clear h766
     refine dr_many [20] (by kernel_rfl) (by simp) ⟨?_, trivial⟩
     ·
      refine dr_opVal (i := 20) (v := .int .i64 L.next) h767 rfl rfl rfl rfl (by kernel_rfl) rfl (rn_load1 rfl rfl Try.isAgg3 (hk20.cell rfl)) ⟨hB18, hk20⟩ (fun a768 h768 => ?_); clear h767
      refine dk0 23 (v := .agg #[.int .i64 L.boot, .int .i64 L.stream, .int .i64 q, .int .i64 L.peer, .int .i64 L.in0, .int .i64 L.next, .bool h, .string y]) h768 rfl rfl ⟨hB18, hk20⟩ fun a769 h769 => ?_; clear h768
      have hk775 := hk5.kept hg10 (by simp)
      refine d1D 24 h769 rfl rfl (op_storeN rfl rfl rfl (by kernel_rfl) (by kernel_rfl) hk775 rfl) ?_ ?_; clear h769
      ·
       rintro _ w771 ⟨hk772, hz773, hg774⟩
       have hk772' : Blk w771 N3 61 #[.int .i64 L.boot, .int .i64 L.stream, .int .i64 q, .int .i64 L.peer, .int .i64 L.in0, .int .i64 L.next, .bool h, .string y] := hk772; clear hk772
       have hz776 := hg774.size
       have hB777 := hb_at hB18 hg774 (by omega)
       have hk778 := hk20.kept hg774 (by simp; omega)
       exact ⟨hB777, hk778⟩
      rintro _ w771 a770 ⟨hk772, hz773, hg774⟩ h770
      have hk772' : Blk w771 N3 61 #[.int .i64 L.boot, .int .i64 L.stream, .int .i64 q, .int .i64 L.peer, .int .i64 L.in0, .int .i64 L.next, .bool h, .string y] := hk772; clear hk772
      have hz776 := hg774.size
      refine dr_done (by kernel_rfl) ?_
      refine co_then ?_
      refine wp_ret ?_
      refine co_retC (Q := fun _ _ _ => True) h770 rfl rfl hk772' Try.underlying61 rfl (by kernel_rfl) ?_
      have hB777 := hb_at hB18 hg774 (by omega)
      exact ⟨rfl, hB777⟩
    ·
     refine dr_opVal (i := 20) (v := .int .i64 L.next) h766 rfl rfl rfl rfl (by kernel_rfl) rfl (rn_load1 rfl rfl Try.isAgg3 (hk20.cell rfl)) ⟨hB18, hk20⟩ (fun a778 h778 => ?_); clear h766
     refine dr_many [3] (by kernel_rfl) (by simp) ⟨?_, trivial⟩
     ·
      refine dr_opVal (i := 3) (v := .int .i64 L.boot) h778 rfl rfl rfl rfl (by kernel_rfl) rfl (rn_load1 rfl rfl Try.isAgg3 (hk20.cell rfl)) ⟨hB18, hk20⟩ (fun a779 h779 => ?_); clear h778
      refine dk0 23 (v := .agg #[.int .i64 L.boot, .int .i64 L.stream, .int .i64 q, .int .i64 L.peer, .int .i64 L.in0, .int .i64 L.next, .bool h, .string y]) h779 rfl rfl ⟨hB18, hk20⟩ fun a780 h780 => ?_; clear h779
      have hk786 := hk5.kept hg10 (by simp)
      refine d1D 24 h780 rfl rfl (op_storeN rfl rfl rfl (by kernel_rfl) (by kernel_rfl) hk786 rfl) ?_ ?_; clear h780
      ·
       rintro _ w782 ⟨hk783, hz784, hg785⟩
       have hk783' : Blk w782 N3 61 #[.int .i64 L.boot, .int .i64 L.stream, .int .i64 q, .int .i64 L.peer, .int .i64 L.in0, .int .i64 L.next, .bool h, .string y] := hk783; clear hk783
       have hz787 := hg785.size
       have hB788 := hb_at hB18 hg785 (by omega)
       have hk789 := hk20.kept hg785 (by simp; omega)
       exact ⟨hB788, hk789⟩
      rintro _ w782 a781 ⟨hk783, hz784, hg785⟩ h781
      have hk783' : Blk w782 N3 61 #[.int .i64 L.boot, .int .i64 L.stream, .int .i64 q, .int .i64 L.peer, .int .i64 L.in0, .int .i64 L.next, .bool h, .string y] := hk783; clear hk783
      have hz787 := hg785.size
      refine dr_done (by kernel_rfl) ?_
      refine co_then ?_
      refine wp_ret ?_
      refine co_retC (Q := fun _ _ _ => True) h781 rfl rfl hk783' Try.underlying61 rfl (by kernel_rfl) ?_
      have hB788 := hb_at hB18 hg785 (by omega)
      exact ⟨rfl, hB788⟩
   ·
    refine dr_opVal (i := 20) (v := .int .i64 L.next) h742 rfl rfl rfl rfl (by kernel_rfl) rfl (rn_load1 rfl rfl Try.isAgg3 (hk20.cell rfl)) ⟨hB18, hk20⟩ (fun a789 h789 => ?_); clear h742
    refine dr_many [3, 7] (by kernel_rfl) (by simp) ⟨?_, ?_, trivial⟩
    ·
     refine dr_opVal (i := 3) (v := .int .i64 L.boot) h789 rfl rfl rfl rfl (by kernel_rfl) rfl (rn_load1 rfl rfl Try.isAgg3 (hk20.cell rfl)) ⟨hB18, hk20⟩ (fun a790 h790 => ?_); clear h789
     refine dr_many [7] (by kernel_rfl) (by simp) ⟨?_, trivial⟩
     ·
      refine dr_opVal (i := 7) (v := .int .i64 L.stream) h790 rfl rfl rfl rfl (by kernel_rfl) rfl (rn_load1 rfl rfl Try.isAgg3 (hk20.cell rfl)) ⟨hB18, hk20⟩ (fun a791 h791 => ?_); clear h790
      refine dk0 23 (v := .agg #[.int .i64 L.boot, .int .i64 L.stream, .int .i64 q, .int .i64 L.peer, .int .i64 L.in0, .int .i64 L.next, .bool h, .string y]) h791 rfl rfl ⟨hB18, hk20⟩ fun a792 h792 => ?_; clear h791
      have hk798 := hk5.kept hg10 (by simp)
      refine d1D 24 h792 rfl rfl (op_storeN rfl rfl rfl (by kernel_rfl) (by kernel_rfl) hk798 rfl) ?_ ?_; clear h792
      ·
       rintro _ w794 ⟨hk795, hz796, hg797⟩
       have hk795' : Blk w794 N3 61 #[.int .i64 L.boot, .int .i64 L.stream, .int .i64 q, .int .i64 L.peer, .int .i64 L.in0, .int .i64 L.next, .bool h, .string y] := hk795; clear hk795
       have hz799 := hg797.size
       have hB800 := hb_at hB18 hg797 (by omega)
       have hk801 := hk20.kept hg797 (by simp; omega)
       exact ⟨hB800, hk801⟩
      rintro _ w794 a793 ⟨hk795, hz796, hg797⟩ h793
      have hk795' : Blk w794 N3 61 #[.int .i64 L.boot, .int .i64 L.stream, .int .i64 q, .int .i64 L.peer, .int .i64 L.in0, .int .i64 L.next, .bool h, .string y] := hk795; clear hk795
      have hz799 := hg797.size
      refine dr_done (by kernel_rfl) ?_
      refine co_then ?_
      refine wp_ret ?_
      refine co_retC (Q := fun _ _ _ => True) h793 rfl rfl hk795' Try.underlying61 rfl (by kernel_rfl) ?_
      have hB800 := hb_at hB18 hg797 (by omega)
      exact ⟨rfl, hB800⟩
    ·
     refine dr_opVal (i := 7) (v := .int .i64 L.stream) h789 rfl rfl rfl rfl (by kernel_rfl) rfl (rn_load1 rfl rfl Try.isAgg3 (hk20.cell rfl)) ⟨hB18, hk20⟩ (fun a801 h801 => ?_); clear h789
     refine dr_many [3] (by kernel_rfl) (by simp) ⟨?_, trivial⟩
     ·
      refine dr_opVal (i := 3) (v := .int .i64 L.boot) h801 rfl rfl rfl rfl (by kernel_rfl) rfl (rn_load1 rfl rfl Try.isAgg3 (hk20.cell rfl)) ⟨hB18, hk20⟩ (fun a802 h802 => ?_); clear h801
      refine dk0 23 (v := .agg #[.int .i64 L.boot, .int .i64 L.stream, .int .i64 q, .int .i64 L.peer, .int .i64 L.in0, .int .i64 L.next, .bool h, .string y]) h802 rfl rfl ⟨hB18, hk20⟩ fun a803 h803 => ?_; clear h802
      have hk809 := hk5.kept hg10 (by simp)
      refine d1D 24 h803 rfl rfl (op_storeN rfl rfl rfl (by kernel_rfl) (by kernel_rfl) hk809 rfl) ?_ ?_; clear h803
      ·
       rintro _ w805 ⟨hk806, hz807, hg808⟩
       have hk806' : Blk w805 N3 61 #[.int .i64 L.boot, .int .i64 L.stream, .int .i64 q, .int .i64 L.peer, .int .i64 L.in0, .int .i64 L.next, .bool h, .string y] := hk806; clear hk806
       have hz810 := hg808.size
       have hB811 := hb_at hB18 hg808 (by omega)
       have hk812 := hk20.kept hg808 (by simp; omega)
       exact ⟨hB811, hk812⟩
      rintro _ w805 a804 ⟨hk806, hz807, hg808⟩ h804
      have hk806' : Blk w805 N3 61 #[.int .i64 L.boot, .int .i64 L.stream, .int .i64 q, .int .i64 L.peer, .int .i64 L.in0, .int .i64 L.next, .bool h, .string y] := hk806; clear hk806
      have hz810 := hg808.size
      refine dr_done (by kernel_rfl) ?_
      refine co_then ?_
      refine wp_ret ?_
      refine co_retC (Q := fun _ _ _ => True) h804 rfl rfl hk806' Try.underlying61 rfl (by kernel_rfl) ?_
      have hB811 := hb_at hB18 hg808 (by omega)
      exact ⟨rfl, hB811⟩
  ·
   refine dr_opVal (i := 20) (v := .int .i64 L.next) h601 rfl rfl rfl rfl (by kernel_rfl) rfl (rn_load1 rfl rfl Try.isAgg3 (hk20.cell rfl)) ⟨hB18, hk20⟩ (fun a812 h812 => ?_); clear h601
   refine dr_many [3, 7, 16] (by kernel_rfl) (by simp) ⟨?_, ?_, ?_, trivial⟩
   ·
    refine dr_opVal (i := 3) (v := .int .i64 L.boot) h812 rfl rfl rfl rfl (by kernel_rfl) rfl (rn_load1 rfl rfl Try.isAgg3 (hk20.cell rfl)) ⟨hB18, hk20⟩ (fun a813 h813 => ?_); clear h812
    refine dr_many [7, 16] (by kernel_rfl) (by simp) ⟨?_, ?_, trivial⟩
    ·
     refine dr_opVal (i := 7) (v := .int .i64 L.stream) h813 rfl rfl rfl rfl (by kernel_rfl) rfl (rn_load1 rfl rfl Try.isAgg3 (hk20.cell rfl)) ⟨hB18, hk20⟩ (fun a814 h814 => ?_); clear h813
     refine dr_many [16] (by kernel_rfl) (by simp) ⟨?_, trivial⟩
     ·
      refine dr_opVal (i := 16) (v := .int .i64 L.in0) h814 rfl rfl rfl rfl (by kernel_rfl) rfl (rn_load1 rfl rfl Try.isAgg3 (hk20.cell rfl)) ⟨hB18, hk20⟩ (fun a815 h815 => ?_); clear h814
      refine dk0 23 (v := .agg #[.int .i64 L.boot, .int .i64 L.stream, .int .i64 q, .int .i64 L.peer, .int .i64 L.in0, .int .i64 L.next, .bool h, .string y]) h815 rfl rfl ⟨hB18, hk20⟩ fun a816 h816 => ?_; clear h815
      have hk822 := hk5.kept hg10 (by simp)
      refine d1D 24 h816 rfl rfl (op_storeN rfl rfl rfl (by kernel_rfl) (by kernel_rfl) hk822 rfl) ?_ ?_; clear h816
      ·
       rintro _ w818 ⟨hk819, hz820, hg821⟩
       have hk819' : Blk w818 N3 61 #[.int .i64 L.boot, .int .i64 L.stream, .int .i64 q, .int .i64 L.peer, .int .i64 L.in0, .int .i64 L.next, .bool h, .string y] := hk819; clear hk819
       have hz823 := hg821.size
       have hB824 := hb_at hB18 hg821 (by omega)
       have hk825 := hk20.kept hg821 (by simp; omega)
       exact ⟨hB824, hk825⟩
      rintro _ w818 a817 ⟨hk819, hz820, hg821⟩ h817
      have hk819' : Blk w818 N3 61 #[.int .i64 L.boot, .int .i64 L.stream, .int .i64 q, .int .i64 L.peer, .int .i64 L.in0, .int .i64 L.next, .bool h, .string y] := hk819; clear hk819
      have hz823 := hg821.size
      refine dr_done (by kernel_rfl) ?_
      refine co_then ?_
      refine wp_ret ?_
      refine co_retC (Q := fun _ _ _ => True) h817 rfl rfl hk819' Try.underlying61 rfl (by kernel_rfl) ?_
      have hB824 := hb_at hB18 hg821 (by omega)
      exact ⟨rfl, hB824⟩
    ·
     refine dr_opVal (i := 16) (v := .int .i64 L.in0) h813 rfl rfl rfl rfl (by kernel_rfl) rfl (rn_load1 rfl rfl Try.isAgg3 (hk20.cell rfl)) ⟨hB18, hk20⟩ (fun a825 h825 => ?_); clear h813
     refine dr_many [7] (by kernel_rfl) (by simp) ⟨?_, trivial⟩
     ·
      refine dr_opVal (i := 7) (v := .int .i64 L.stream) h825 rfl rfl rfl rfl (by kernel_rfl) rfl (rn_load1 rfl rfl Try.isAgg3 (hk20.cell rfl)) ⟨hB18, hk20⟩ (fun a826 h826 => ?_); clear h825
      refine dk0 23 (v := .agg #[.int .i64 L.boot, .int .i64 L.stream, .int .i64 q, .int .i64 L.peer, .int .i64 L.in0, .int .i64 L.next, .bool h, .string y]) h826 rfl rfl ⟨hB18, hk20⟩ fun a827 h827 => ?_; clear h826
      have hk833 := hk5.kept hg10 (by simp)
      refine d1D 24 h827 rfl rfl (op_storeN rfl rfl rfl (by kernel_rfl) (by kernel_rfl) hk833 rfl) ?_ ?_; clear h827
      ·
       rintro _ w829 ⟨hk830, hz831, hg832⟩
       have hk830' : Blk w829 N3 61 #[.int .i64 L.boot, .int .i64 L.stream, .int .i64 q, .int .i64 L.peer, .int .i64 L.in0, .int .i64 L.next, .bool h, .string y] := hk830; clear hk830
       have hz834 := hg832.size
       have hB835 := hb_at hB18 hg832 (by omega)
       have hk836 := hk20.kept hg832 (by simp; omega)
       exact ⟨hB835, hk836⟩
      rintro _ w829 a828 ⟨hk830, hz831, hg832⟩ h828
      have hk830' : Blk w829 N3 61 #[.int .i64 L.boot, .int .i64 L.stream, .int .i64 q, .int .i64 L.peer, .int .i64 L.in0, .int .i64 L.next, .bool h, .string y] := hk830; clear hk830
      have hz834 := hg832.size
      refine dr_done (by kernel_rfl) ?_
      refine co_then ?_
      refine wp_ret ?_
      refine co_retC (Q := fun _ _ _ => True) h828 rfl rfl hk830' Try.underlying61 rfl (by kernel_rfl) ?_
      have hB835 := hb_at hB18 hg832 (by omega)
      exact ⟨rfl, hB835⟩
   ·
    refine dr_opVal (i := 7) (v := .int .i64 L.stream) h812 rfl rfl rfl rfl (by kernel_rfl) rfl (rn_load1 rfl rfl Try.isAgg3 (hk20.cell rfl)) ⟨hB18, hk20⟩ (fun a836 h836 => ?_); clear h812
    refine dr_many [3, 16] (by kernel_rfl) (by simp) ⟨?_, ?_, trivial⟩
    ·
     refine dr_opVal (i := 3) (v := .int .i64 L.boot) h836 rfl rfl rfl rfl (by kernel_rfl) rfl (rn_load1 rfl rfl Try.isAgg3 (hk20.cell rfl)) ⟨hB18, hk20⟩ (fun a837 h837 => ?_); clear h836
     refine dr_many [16] (by kernel_rfl) (by simp) ⟨?_, trivial⟩
     ·
      refine dr_opVal (i := 16) (v := .int .i64 L.in0) h837 rfl rfl rfl rfl (by kernel_rfl) rfl (rn_load1 rfl rfl Try.isAgg3 (hk20.cell rfl)) ⟨hB18, hk20⟩ (fun a838 h838 => ?_); clear h837
      refine dk0 23 (v := .agg #[.int .i64 L.boot, .int .i64 L.stream, .int .i64 q, .int .i64 L.peer, .int .i64 L.in0, .int .i64 L.next, .bool h, .string y]) h838 rfl rfl ⟨hB18, hk20⟩ fun a839 h839 => ?_; clear h838
      have hk845 := hk5.kept hg10 (by simp)
      refine d1D 24 h839 rfl rfl (op_storeN rfl rfl rfl (by kernel_rfl) (by kernel_rfl) hk845 rfl) ?_ ?_; clear h839
      ·
       rintro _ w841 ⟨hk842, hz843, hg844⟩
       have hk842' : Blk w841 N3 61 #[.int .i64 L.boot, .int .i64 L.stream, .int .i64 q, .int .i64 L.peer, .int .i64 L.in0, .int .i64 L.next, .bool h, .string y] := hk842; clear hk842
       have hz846 := hg844.size
       have hB847 := hb_at hB18 hg844 (by omega)
       have hk848 := hk20.kept hg844 (by simp; omega)
       exact ⟨hB847, hk848⟩
      rintro _ w841 a840 ⟨hk842, hz843, hg844⟩ h840
      have hk842' : Blk w841 N3 61 #[.int .i64 L.boot, .int .i64 L.stream, .int .i64 q, .int .i64 L.peer, .int .i64 L.in0, .int .i64 L.next, .bool h, .string y] := hk842; clear hk842
      have hz846 := hg844.size
      refine dr_done (by kernel_rfl) ?_
      refine co_then ?_
      refine wp_ret ?_
      refine co_retC (Q := fun _ _ _ => True) h840 rfl rfl hk842' Try.underlying61 rfl (by kernel_rfl) ?_
      have hB847 := hb_at hB18 hg844 (by omega)
      exact ⟨rfl, hB847⟩
    ·
     refine dr_opVal (i := 16) (v := .int .i64 L.in0) h836 rfl rfl rfl rfl (by kernel_rfl) rfl (rn_load1 rfl rfl Try.isAgg3 (hk20.cell rfl)) ⟨hB18, hk20⟩ (fun a848 h848 => ?_); clear h836
     refine dr_many [3] (by kernel_rfl) (by simp) ⟨?_, trivial⟩
     ·
      refine dr_opVal (i := 3) (v := .int .i64 L.boot) h848 rfl rfl rfl rfl (by kernel_rfl) rfl (rn_load1 rfl rfl Try.isAgg3 (hk20.cell rfl)) ⟨hB18, hk20⟩ (fun a849 h849 => ?_); clear h848
      refine dk0 23 (v := .agg #[.int .i64 L.boot, .int .i64 L.stream, .int .i64 q, .int .i64 L.peer, .int .i64 L.in0, .int .i64 L.next, .bool h, .string y]) h849 rfl rfl ⟨hB18, hk20⟩ fun a850 h850 => ?_; clear h849
      have hk856 := hk5.kept hg10 (by simp)
      refine d1D 24 h850 rfl rfl (op_storeN rfl rfl rfl (by kernel_rfl) (by kernel_rfl) hk856 rfl) ?_ ?_; clear h850
      ·
       rintro _ w852 ⟨hk853, hz854, hg855⟩
       have hk853' : Blk w852 N3 61 #[.int .i64 L.boot, .int .i64 L.stream, .int .i64 q, .int .i64 L.peer, .int .i64 L.in0, .int .i64 L.next, .bool h, .string y] := hk853; clear hk853
       have hz857 := hg855.size
       have hB858 := hb_at hB18 hg855 (by omega)
       have hk859 := hk20.kept hg855 (by simp; omega)
       exact ⟨hB858, hk859⟩
      rintro _ w852 a851 ⟨hk853, hz854, hg855⟩ h851
      have hk853' : Blk w852 N3 61 #[.int .i64 L.boot, .int .i64 L.stream, .int .i64 q, .int .i64 L.peer, .int .i64 L.in0, .int .i64 L.next, .bool h, .string y] := hk853; clear hk853
      have hz857 := hg855.size
      refine dr_done (by kernel_rfl) ?_
      refine co_then ?_
      refine wp_ret ?_
      refine co_retC (Q := fun _ _ _ => True) h851 rfl rfl hk853' Try.underlying61 rfl (by kernel_rfl) ?_
      have hB858 := hb_at hB18 hg855 (by omega)
      exact ⟨rfl, hB858⟩
   ·
    refine dr_opVal (i := 16) (v := .int .i64 L.in0) h812 rfl rfl rfl rfl (by kernel_rfl) rfl (rn_load1 rfl rfl Try.isAgg3 (hk20.cell rfl)) ⟨hB18, hk20⟩ (fun a859 h859 => ?_); clear h812
    refine dr_many [3, 7] (by kernel_rfl) (by simp) ⟨?_, ?_, trivial⟩
    ·
     refine dr_opVal (i := 3) (v := .int .i64 L.boot) h859 rfl rfl rfl rfl (by kernel_rfl) rfl (rn_load1 rfl rfl Try.isAgg3 (hk20.cell rfl)) ⟨hB18, hk20⟩ (fun a860 h860 => ?_); clear h859
     refine dr_many [7] (by kernel_rfl) (by simp) ⟨?_, trivial⟩
     ·
      refine dr_opVal (i := 7) (v := .int .i64 L.stream) h860 rfl rfl rfl rfl (by kernel_rfl) rfl (rn_load1 rfl rfl Try.isAgg3 (hk20.cell rfl)) ⟨hB18, hk20⟩ (fun a861 h861 => ?_); clear h860
      refine dk0 23 (v := .agg #[.int .i64 L.boot, .int .i64 L.stream, .int .i64 q, .int .i64 L.peer, .int .i64 L.in0, .int .i64 L.next, .bool h, .string y]) h861 rfl rfl ⟨hB18, hk20⟩ fun a862 h862 => ?_; clear h861
      have hk868 := hk5.kept hg10 (by simp)
      refine d1D 24 h862 rfl rfl (op_storeN rfl rfl rfl (by kernel_rfl) (by kernel_rfl) hk868 rfl) ?_ ?_; clear h862
      ·
       rintro _ w864 ⟨hk865, hz866, hg867⟩
       have hk865' : Blk w864 N3 61 #[.int .i64 L.boot, .int .i64 L.stream, .int .i64 q, .int .i64 L.peer, .int .i64 L.in0, .int .i64 L.next, .bool h, .string y] := hk865; clear hk865
       have hz869 := hg867.size
       have hB870 := hb_at hB18 hg867 (by omega)
       have hk871 := hk20.kept hg867 (by simp; omega)
       exact ⟨hB870, hk871⟩
      rintro _ w864 a863 ⟨hk865, hz866, hg867⟩ h863
      have hk865' : Blk w864 N3 61 #[.int .i64 L.boot, .int .i64 L.stream, .int .i64 q, .int .i64 L.peer, .int .i64 L.in0, .int .i64 L.next, .bool h, .string y] := hk865; clear hk865
      have hz869 := hg867.size
      refine dr_done (by kernel_rfl) ?_
      refine co_then ?_
      refine wp_ret ?_
      refine co_retC (Q := fun _ _ _ => True) h863 rfl rfl hk865' Try.underlying61 rfl (by kernel_rfl) ?_
      have hB870 := hb_at hB18 hg867 (by omega)
      exact ⟨rfl, hB870⟩
    ·
     refine dr_opVal (i := 7) (v := .int .i64 L.stream) h859 rfl rfl rfl rfl (by kernel_rfl) rfl (rn_load1 rfl rfl Try.isAgg3 (hk20.cell rfl)) ⟨hB18, hk20⟩ (fun a871 h871 => ?_); clear h859
     refine dr_many [3] (by kernel_rfl) (by simp) ⟨?_, trivial⟩
     ·
      refine dr_opVal (i := 3) (v := .int .i64 L.boot) h871 rfl rfl rfl rfl (by kernel_rfl) rfl (rn_load1 rfl rfl Try.isAgg3 (hk20.cell rfl)) ⟨hB18, hk20⟩ (fun a872 h872 => ?_); clear h871
      refine dk0 23 (v := .agg #[.int .i64 L.boot, .int .i64 L.stream, .int .i64 q, .int .i64 L.peer, .int .i64 L.in0, .int .i64 L.next, .bool h, .string y]) h872 rfl rfl ⟨hB18, hk20⟩ fun a873 h873 => ?_; clear h872
      have hk879 := hk5.kept hg10 (by simp)
      refine d1D 24 h873 rfl rfl (op_storeN rfl rfl rfl (by kernel_rfl) (by kernel_rfl) hk879 rfl) ?_ ?_; clear h873
      ·
       rintro _ w875 ⟨hk876, hz877, hg878⟩
       have hk876' : Blk w875 N3 61 #[.int .i64 L.boot, .int .i64 L.stream, .int .i64 q, .int .i64 L.peer, .int .i64 L.in0, .int .i64 L.next, .bool h, .string y] := hk876; clear hk876
       have hz880 := hg878.size
       have hB881 := hb_at hB18 hg878 (by omega)
       have hk882 := hk20.kept hg878 (by simp; omega)
       exact ⟨hB881, hk882⟩
      rintro _ w875 a874 ⟨hk876, hz877, hg878⟩ h874
      have hk876' : Blk w875 N3 61 #[.int .i64 L.boot, .int .i64 L.stream, .int .i64 q, .int .i64 L.peer, .int .i64 L.in0, .int .i64 L.next, .bool h, .string y] := hk876; clear hk876
      have hz880 := hg878.size
      refine dr_done (by kernel_rfl) ?_
      refine co_then ?_
      refine wp_ret ?_
      refine co_retC (Q := fun _ _ _ => True) h874 rfl rfl hk876' Try.underlying61 rfl (by kernel_rfl) ?_
      have hB881 := hb_at hB18 hg878 (by omega)
      exact ⟨rfl, hB881⟩
 ·
  refine dr_opVal (i := 16) (v := .int .i64 L.in0) h38 rfl rfl rfl rfl (by kernel_rfl) rfl (rn_load1 rfl rfl Try.isAgg3 (hk20.cell rfl)) ⟨hB18, hk20⟩ (fun a882 h882 => ?_); clear h38
  refine dr_many [3, 7, 12, 20] (by kernel_rfl) (by simp) ⟨?_, ?_, ?_, ?_, trivial⟩
  ·
   refine dr_opVal (i := 3) (v := .int .i64 L.boot) h882 rfl rfl rfl rfl (by kernel_rfl) rfl (rn_load1 rfl rfl Try.isAgg3 (hk20.cell rfl)) ⟨hB18, hk20⟩ (fun a883 h883 => ?_); clear h882
   refine dr_many [7, 12, 20] (by kernel_rfl) (by simp) ⟨?_, ?_, ?_, trivial⟩
   ·
    refine dr_opVal (i := 7) (v := .int .i64 L.stream) h883 rfl rfl rfl rfl (by kernel_rfl) rfl (rn_load1 rfl rfl Try.isAgg3 (hk20.cell rfl)) ⟨hB18, hk20⟩ (fun a884 h884 => ?_); clear h883
    refine dr_many [12, 20] (by kernel_rfl) (by simp) ⟨?_, ?_, trivial⟩
    ·
     refine dr_opVal (i := 12) (v := .int .i64 L.peer) h884 rfl rfl rfl rfl (by kernel_rfl) rfl (rn_load1 rfl rfl Try.isAgg3 (hk20.cell rfl)) ⟨hB18, hk20⟩ (fun a885 h885 => ?_); clear h884
     refine dr_many [20] (by kernel_rfl) (by simp) ⟨?_, trivial⟩
     ·
      refine dr_opVal (i := 20) (v := .int .i64 L.next) h885 rfl rfl rfl rfl (by kernel_rfl) rfl (rn_load1 rfl rfl Try.isAgg3 (hk20.cell rfl)) ⟨hB18, hk20⟩ (fun a886 h886 => ?_); clear h885
      refine dk0 23 (v := .agg #[.int .i64 L.boot, .int .i64 L.stream, .int .i64 q, .int .i64 L.peer, .int .i64 L.in0, .int .i64 L.next, .bool h, .string y]) h886 rfl rfl ⟨hB18, hk20⟩ fun a887 h887 => ?_; clear h886
      have hk893 := hk5.kept hg10 (by simp)
      refine d1D 24 h887 rfl rfl (op_storeN rfl rfl rfl (by kernel_rfl) (by kernel_rfl) hk893 rfl) ?_ ?_; clear h887
      ·
       rintro _ w889 ⟨hk890, hz891, hg892⟩
       have hk890' : Blk w889 N3 61 #[.int .i64 L.boot, .int .i64 L.stream, .int .i64 q, .int .i64 L.peer, .int .i64 L.in0, .int .i64 L.next, .bool h, .string y] := hk890; clear hk890
       have hz894 := hg892.size
       have hB895 := hb_at hB18 hg892 (by omega)
       have hk896 := hk20.kept hg892 (by simp; omega)
       exact ⟨hB895, hk896⟩
      rintro _ w889 a888 ⟨hk890, hz891, hg892⟩ h888
      have hk890' : Blk w889 N3 61 #[.int .i64 L.boot, .int .i64 L.stream, .int .i64 q, .int .i64 L.peer, .int .i64 L.in0, .int .i64 L.next, .bool h, .string y] := hk890; clear hk890
      have hz894 := hg892.size
      refine dr_done (by kernel_rfl) ?_
      refine co_then ?_
      refine wp_ret ?_
      refine co_retC (Q := fun _ _ _ => True) h888 rfl rfl hk890' Try.underlying61 rfl (by kernel_rfl) ?_
      have hB895 := hb_at hB18 hg892 (by omega)
      exact ⟨rfl, hB895⟩
    ·
     refine dr_opVal (i := 20) (v := .int .i64 L.next) h884 rfl rfl rfl rfl (by kernel_rfl) rfl (rn_load1 rfl rfl Try.isAgg3 (hk20.cell rfl)) ⟨hB18, hk20⟩ (fun a896 h896 => ?_); clear h884
     refine dr_many [12] (by kernel_rfl) (by simp) ⟨?_, trivial⟩
     ·
      refine dr_opVal (i := 12) (v := .int .i64 L.peer) h896 rfl rfl rfl rfl (by kernel_rfl) rfl (rn_load1 rfl rfl Try.isAgg3 (hk20.cell rfl)) ⟨hB18, hk20⟩ (fun a897 h897 => ?_); clear h896
      refine dk0 23 (v := .agg #[.int .i64 L.boot, .int .i64 L.stream, .int .i64 q, .int .i64 L.peer, .int .i64 L.in0, .int .i64 L.next, .bool h, .string y]) h897 rfl rfl ⟨hB18, hk20⟩ fun a898 h898 => ?_; clear h897
      have hk904 := hk5.kept hg10 (by simp)
      refine d1D 24 h898 rfl rfl (op_storeN rfl rfl rfl (by kernel_rfl) (by kernel_rfl) hk904 rfl) ?_ ?_; clear h898
      ·
       rintro _ w900 ⟨hk901, hz902, hg903⟩
       have hk901' : Blk w900 N3 61 #[.int .i64 L.boot, .int .i64 L.stream, .int .i64 q, .int .i64 L.peer, .int .i64 L.in0, .int .i64 L.next, .bool h, .string y] := hk901; clear hk901
       have hz905 := hg903.size
       have hB906 := hb_at hB18 hg903 (by omega)
       have hk907 := hk20.kept hg903 (by simp; omega)
       exact ⟨hB906, hk907⟩
      rintro _ w900 a899 ⟨hk901, hz902, hg903⟩ h899
      have hk901' : Blk w900 N3 61 #[.int .i64 L.boot, .int .i64 L.stream, .int .i64 q, .int .i64 L.peer, .int .i64 L.in0, .int .i64 L.next, .bool h, .string y] := hk901; clear hk901
      have hz905 := hg903.size
      refine dr_done (by kernel_rfl) ?_
      refine co_then ?_
      refine wp_ret ?_
      refine co_retC (Q := fun _ _ _ => True) h899 rfl rfl hk901' Try.underlying61 rfl (by kernel_rfl) ?_
      have hB906 := hb_at hB18 hg903 (by omega)
      exact ⟨rfl, hB906⟩
   ·
    refine dr_opVal (i := 12) (v := .int .i64 L.peer) h883 rfl rfl rfl rfl (by kernel_rfl) rfl (rn_load1 rfl rfl Try.isAgg3 (hk20.cell rfl)) ⟨hB18, hk20⟩ (fun a907 h907 => ?_); clear h883
    refine dr_many [7, 20] (by kernel_rfl) (by simp) ⟨?_, ?_, trivial⟩
    ·
     refine dr_opVal (i := 7) (v := .int .i64 L.stream) h907 rfl rfl rfl rfl (by kernel_rfl) rfl (rn_load1 rfl rfl Try.isAgg3 (hk20.cell rfl)) ⟨hB18, hk20⟩ (fun a908 h908 => ?_); clear h907
     refine dr_many [20] (by kernel_rfl) (by simp) ⟨?_, trivial⟩
     ·
      refine dr_opVal (i := 20) (v := .int .i64 L.next) h908 rfl rfl rfl rfl (by kernel_rfl) rfl (rn_load1 rfl rfl Try.isAgg3 (hk20.cell rfl)) ⟨hB18, hk20⟩ (fun a909 h909 => ?_); clear h908
      refine dk0 23 (v := .agg #[.int .i64 L.boot, .int .i64 L.stream, .int .i64 q, .int .i64 L.peer, .int .i64 L.in0, .int .i64 L.next, .bool h, .string y]) h909 rfl rfl ⟨hB18, hk20⟩ fun a910 h910 => ?_; clear h909
      have hk916 := hk5.kept hg10 (by simp)
      refine d1D 24 h910 rfl rfl (op_storeN rfl rfl rfl (by kernel_rfl) (by kernel_rfl) hk916 rfl) ?_ ?_; clear h910
      ·
       rintro _ w912 ⟨hk913, hz914, hg915⟩
       have hk913' : Blk w912 N3 61 #[.int .i64 L.boot, .int .i64 L.stream, .int .i64 q, .int .i64 L.peer, .int .i64 L.in0, .int .i64 L.next, .bool h, .string y] := hk913; clear hk913
       have hz917 := hg915.size
       have hB918 := hb_at hB18 hg915 (by omega)
       have hk919 := hk20.kept hg915 (by simp; omega)
       exact ⟨hB918, hk919⟩
      rintro _ w912 a911 ⟨hk913, hz914, hg915⟩ h911
      have hk913' : Blk w912 N3 61 #[.int .i64 L.boot, .int .i64 L.stream, .int .i64 q, .int .i64 L.peer, .int .i64 L.in0, .int .i64 L.next, .bool h, .string y] := hk913; clear hk913
      have hz917 := hg915.size
      refine dr_done (by kernel_rfl) ?_
      refine co_then ?_
      refine wp_ret ?_
      refine co_retC (Q := fun _ _ _ => True) h911 rfl rfl hk913' Try.underlying61 rfl (by kernel_rfl) ?_
      have hB918 := hb_at hB18 hg915 (by omega)
      exact ⟨rfl, hB918⟩
    ·
     refine dr_opVal (i := 20) (v := .int .i64 L.next) h907 rfl rfl rfl rfl (by kernel_rfl) rfl (rn_load1 rfl rfl Try.isAgg3 (hk20.cell rfl)) ⟨hB18, hk20⟩ (fun a919 h919 => ?_); clear h907
     refine dr_many [7] (by kernel_rfl) (by simp) ⟨?_, trivial⟩
     ·
      refine dr_opVal (i := 7) (v := .int .i64 L.stream) h919 rfl rfl rfl rfl (by kernel_rfl) rfl (rn_load1 rfl rfl Try.isAgg3 (hk20.cell rfl)) ⟨hB18, hk20⟩ (fun a920 h920 => ?_); clear h919
      refine dk0 23 (v := .agg #[.int .i64 L.boot, .int .i64 L.stream, .int .i64 q, .int .i64 L.peer, .int .i64 L.in0, .int .i64 L.next, .bool h, .string y]) h920 rfl rfl ⟨hB18, hk20⟩ fun a921 h921 => ?_; clear h920
      have hk927 := hk5.kept hg10 (by simp)
      refine d1D 24 h921 rfl rfl (op_storeN rfl rfl rfl (by kernel_rfl) (by kernel_rfl) hk927 rfl) ?_ ?_; clear h921
      ·
       rintro _ w923 ⟨hk924, hz925, hg926⟩
       have hk924' : Blk w923 N3 61 #[.int .i64 L.boot, .int .i64 L.stream, .int .i64 q, .int .i64 L.peer, .int .i64 L.in0, .int .i64 L.next, .bool h, .string y] := hk924; clear hk924
       have hz928 := hg926.size
       have hB929 := hb_at hB18 hg926 (by omega)
       have hk930 := hk20.kept hg926 (by simp; omega)
       exact ⟨hB929, hk930⟩
      rintro _ w923 a922 ⟨hk924, hz925, hg926⟩ h922
      have hk924' : Blk w923 N3 61 #[.int .i64 L.boot, .int .i64 L.stream, .int .i64 q, .int .i64 L.peer, .int .i64 L.in0, .int .i64 L.next, .bool h, .string y] := hk924; clear hk924
      have hz928 := hg926.size
      refine dr_done (by kernel_rfl) ?_
      refine co_then ?_
      refine wp_ret ?_
      refine co_retC (Q := fun _ _ _ => True) h922 rfl rfl hk924' Try.underlying61 rfl (by kernel_rfl) ?_
      have hB929 := hb_at hB18 hg926 (by omega)
      exact ⟨rfl, hB929⟩
   ·
    refine dr_opVal (i := 20) (v := .int .i64 L.next) h883 rfl rfl rfl rfl (by kernel_rfl) rfl (rn_load1 rfl rfl Try.isAgg3 (hk20.cell rfl)) ⟨hB18, hk20⟩ (fun a930 h930 => ?_); clear h883
    refine dr_many [7, 12] (by kernel_rfl) (by simp) ⟨?_, ?_, trivial⟩
    ·
     refine dr_opVal (i := 7) (v := .int .i64 L.stream) h930 rfl rfl rfl rfl (by kernel_rfl) rfl (rn_load1 rfl rfl Try.isAgg3 (hk20.cell rfl)) ⟨hB18, hk20⟩ (fun a931 h931 => ?_); clear h930
     refine dr_many [12] (by kernel_rfl) (by simp) ⟨?_, trivial⟩
     ·
      refine dr_opVal (i := 12) (v := .int .i64 L.peer) h931 rfl rfl rfl rfl (by kernel_rfl) rfl (rn_load1 rfl rfl Try.isAgg3 (hk20.cell rfl)) ⟨hB18, hk20⟩ (fun a932 h932 => ?_); clear h931
      refine dk0 23 (v := .agg #[.int .i64 L.boot, .int .i64 L.stream, .int .i64 q, .int .i64 L.peer, .int .i64 L.in0, .int .i64 L.next, .bool h, .string y]) h932 rfl rfl ⟨hB18, hk20⟩ fun a933 h933 => ?_; clear h932
      have hk939 := hk5.kept hg10 (by simp)
      refine d1D 24 h933 rfl rfl (op_storeN rfl rfl rfl (by kernel_rfl) (by kernel_rfl) hk939 rfl) ?_ ?_; clear h933
      ·
       rintro _ w935 ⟨hk936, hz937, hg938⟩
       have hk936' : Blk w935 N3 61 #[.int .i64 L.boot, .int .i64 L.stream, .int .i64 q, .int .i64 L.peer, .int .i64 L.in0, .int .i64 L.next, .bool h, .string y] := hk936; clear hk936
       have hz940 := hg938.size
       have hB941 := hb_at hB18 hg938 (by omega)
       have hk942 := hk20.kept hg938 (by simp; omega)
       exact ⟨hB941, hk942⟩
      rintro _ w935 a934 ⟨hk936, hz937, hg938⟩ h934
      have hk936' : Blk w935 N3 61 #[.int .i64 L.boot, .int .i64 L.stream, .int .i64 q, .int .i64 L.peer, .int .i64 L.in0, .int .i64 L.next, .bool h, .string y] := hk936; clear hk936
      have hz940 := hg938.size
      refine dr_done (by kernel_rfl) ?_
      refine co_then ?_
      refine wp_ret ?_
      refine co_retC (Q := fun _ _ _ => True) h934 rfl rfl hk936' Try.underlying61 rfl (by kernel_rfl) ?_
      have hB941 := hb_at hB18 hg938 (by omega)
      exact ⟨rfl, hB941⟩
    ·
     refine dr_opVal (i := 12) (v := .int .i64 L.peer) h930 rfl rfl rfl rfl (by kernel_rfl) rfl (rn_load1 rfl rfl Try.isAgg3 (hk20.cell rfl)) ⟨hB18, hk20⟩ (fun a942 h942 => ?_); clear h930
     refine dr_many [7] (by kernel_rfl) (by simp) ⟨?_, trivial⟩
     ·
      refine dr_opVal (i := 7) (v := .int .i64 L.stream) h942 rfl rfl rfl rfl (by kernel_rfl) rfl (rn_load1 rfl rfl Try.isAgg3 (hk20.cell rfl)) ⟨hB18, hk20⟩ (fun a943 h943 => ?_); clear h942
      refine dk0 23 (v := .agg #[.int .i64 L.boot, .int .i64 L.stream, .int .i64 q, .int .i64 L.peer, .int .i64 L.in0, .int .i64 L.next, .bool h, .string y]) h943 rfl rfl ⟨hB18, hk20⟩ fun a944 h944 => ?_; clear h943
      have hk950 := hk5.kept hg10 (by simp)
      refine d1D 24 h944 rfl rfl (op_storeN rfl rfl rfl (by kernel_rfl) (by kernel_rfl) hk950 rfl) ?_ ?_; clear h944
      ·
       rintro _ w946 ⟨hk947, hz948, hg949⟩
       have hk947' : Blk w946 N3 61 #[.int .i64 L.boot, .int .i64 L.stream, .int .i64 q, .int .i64 L.peer, .int .i64 L.in0, .int .i64 L.next, .bool h, .string y] := hk947; clear hk947
       have hz951 := hg949.size
       have hB952 := hb_at hB18 hg949 (by omega)
       have hk953 := hk20.kept hg949 (by simp; omega)
       exact ⟨hB952, hk953⟩
      rintro _ w946 a945 ⟨hk947, hz948, hg949⟩ h945
      have hk947' : Blk w946 N3 61 #[.int .i64 L.boot, .int .i64 L.stream, .int .i64 q, .int .i64 L.peer, .int .i64 L.in0, .int .i64 L.next, .bool h, .string y] := hk947; clear hk947
      have hz951 := hg949.size
      refine dr_done (by kernel_rfl) ?_
      refine co_then ?_
      refine wp_ret ?_
      refine co_retC (Q := fun _ _ _ => True) h945 rfl rfl hk947' Try.underlying61 rfl (by kernel_rfl) ?_
      have hB952 := hb_at hB18 hg949 (by omega)
      exact ⟨rfl, hB952⟩
  ·
   refine dr_opVal (i := 7) (v := .int .i64 L.stream) h882 rfl rfl rfl rfl (by kernel_rfl) rfl (rn_load1 rfl rfl Try.isAgg3 (hk20.cell rfl)) ⟨hB18, hk20⟩ (fun a953 h953 => ?_); clear h882
   refine dr_many [3, 12, 20] (by kernel_rfl) (by simp) ⟨?_, ?_, ?_, trivial⟩
   ·
    refine dr_opVal (i := 3) (v := .int .i64 L.boot) h953 rfl rfl rfl rfl (by kernel_rfl) rfl (rn_load1 rfl rfl Try.isAgg3 (hk20.cell rfl)) ⟨hB18, hk20⟩ (fun a954 h954 => ?_); clear h953
    refine dr_many [12, 20] (by kernel_rfl) (by simp) ⟨?_, ?_, trivial⟩
    ·
     refine dr_opVal (i := 12) (v := .int .i64 L.peer) h954 rfl rfl rfl rfl (by kernel_rfl) rfl (rn_load1 rfl rfl Try.isAgg3 (hk20.cell rfl)) ⟨hB18, hk20⟩ (fun a955 h955 => ?_); clear h954
     refine dr_many [20] (by kernel_rfl) (by simp) ⟨?_, trivial⟩
     ·
      refine dr_opVal (i := 20) (v := .int .i64 L.next) h955 rfl rfl rfl rfl (by kernel_rfl) rfl (rn_load1 rfl rfl Try.isAgg3 (hk20.cell rfl)) ⟨hB18, hk20⟩ (fun a956 h956 => ?_); clear h955
      refine dk0 23 (v := .agg #[.int .i64 L.boot, .int .i64 L.stream, .int .i64 q, .int .i64 L.peer, .int .i64 L.in0, .int .i64 L.next, .bool h, .string y]) h956 rfl rfl ⟨hB18, hk20⟩ fun a957 h957 => ?_; clear h956
      have hk963 := hk5.kept hg10 (by simp)
      refine d1D 24 h957 rfl rfl (op_storeN rfl rfl rfl (by kernel_rfl) (by kernel_rfl) hk963 rfl) ?_ ?_; clear h957
      ·
       rintro _ w959 ⟨hk960, hz961, hg962⟩
       have hk960' : Blk w959 N3 61 #[.int .i64 L.boot, .int .i64 L.stream, .int .i64 q, .int .i64 L.peer, .int .i64 L.in0, .int .i64 L.next, .bool h, .string y] := hk960; clear hk960
       have hz964 := hg962.size
       have hB965 := hb_at hB18 hg962 (by omega)
       have hk966 := hk20.kept hg962 (by simp; omega)
       exact ⟨hB965, hk966⟩
      rintro _ w959 a958 ⟨hk960, hz961, hg962⟩ h958
      have hk960' : Blk w959 N3 61 #[.int .i64 L.boot, .int .i64 L.stream, .int .i64 q, .int .i64 L.peer, .int .i64 L.in0, .int .i64 L.next, .bool h, .string y] := hk960; clear hk960
      have hz964 := hg962.size
      refine dr_done (by kernel_rfl) ?_
      refine co_then ?_
      refine wp_ret ?_
      refine co_retC (Q := fun _ _ _ => True) h958 rfl rfl hk960' Try.underlying61 rfl (by kernel_rfl) ?_
      have hB965 := hb_at hB18 hg962 (by omega)
      exact ⟨rfl, hB965⟩
    ·
     refine dr_opVal (i := 20) (v := .int .i64 L.next) h954 rfl rfl rfl rfl (by kernel_rfl) rfl (rn_load1 rfl rfl Try.isAgg3 (hk20.cell rfl)) ⟨hB18, hk20⟩ (fun a966 h966 => ?_); clear h954
     refine dr_many [12] (by kernel_rfl) (by simp) ⟨?_, trivial⟩
     ·
      refine dr_opVal (i := 12) (v := .int .i64 L.peer) h966 rfl rfl rfl rfl (by kernel_rfl) rfl (rn_load1 rfl rfl Try.isAgg3 (hk20.cell rfl)) ⟨hB18, hk20⟩ (fun a967 h967 => ?_); clear h966
      refine dk0 23 (v := .agg #[.int .i64 L.boot, .int .i64 L.stream, .int .i64 q, .int .i64 L.peer, .int .i64 L.in0, .int .i64 L.next, .bool h, .string y]) h967 rfl rfl ⟨hB18, hk20⟩ fun a968 h968 => ?_; clear h967
      have hk974 := hk5.kept hg10 (by simp)
      refine d1D 24 h968 rfl rfl (op_storeN rfl rfl rfl (by kernel_rfl) (by kernel_rfl) hk974 rfl) ?_ ?_; clear h968
      ·
       rintro _ w970 ⟨hk971, hz972, hg973⟩
       have hk971' : Blk w970 N3 61 #[.int .i64 L.boot, .int .i64 L.stream, .int .i64 q, .int .i64 L.peer, .int .i64 L.in0, .int .i64 L.next, .bool h, .string y] := hk971; clear hk971
       have hz975 := hg973.size
       have hB976 := hb_at hB18 hg973 (by omega)
       have hk977 := hk20.kept hg973 (by simp; omega)
       exact ⟨hB976, hk977⟩
      rintro _ w970 a969 ⟨hk971, hz972, hg973⟩ h969
      have hk971' : Blk w970 N3 61 #[.int .i64 L.boot, .int .i64 L.stream, .int .i64 q, .int .i64 L.peer, .int .i64 L.in0, .int .i64 L.next, .bool h, .string y] := hk971; clear hk971
      have hz975 := hg973.size
      refine dr_done (by kernel_rfl) ?_
      refine co_then ?_
      refine wp_ret ?_
      refine co_retC (Q := fun _ _ _ => True) h969 rfl rfl hk971' Try.underlying61 rfl (by kernel_rfl) ?_
      have hB976 := hb_at hB18 hg973 (by omega)
      exact ⟨rfl, hB976⟩
   ·
    refine dr_opVal (i := 12) (v := .int .i64 L.peer) h953 rfl rfl rfl rfl (by kernel_rfl) rfl (rn_load1 rfl rfl Try.isAgg3 (hk20.cell rfl)) ⟨hB18, hk20⟩ (fun a977 h977 => ?_); clear h953
    refine dr_many [3, 20] (by kernel_rfl) (by simp) ⟨?_, ?_, trivial⟩
    ·
     refine dr_opVal (i := 3) (v := .int .i64 L.boot) h977 rfl rfl rfl rfl (by kernel_rfl) rfl (rn_load1 rfl rfl Try.isAgg3 (hk20.cell rfl)) ⟨hB18, hk20⟩ (fun a978 h978 => ?_); clear h977
     refine dr_many [20] (by kernel_rfl) (by simp) ⟨?_, trivial⟩
     ·
      refine dr_opVal (i := 20) (v := .int .i64 L.next) h978 rfl rfl rfl rfl (by kernel_rfl) rfl (rn_load1 rfl rfl Try.isAgg3 (hk20.cell rfl)) ⟨hB18, hk20⟩ (fun a979 h979 => ?_); clear h978
      refine dk0 23 (v := .agg #[.int .i64 L.boot, .int .i64 L.stream, .int .i64 q, .int .i64 L.peer, .int .i64 L.in0, .int .i64 L.next, .bool h, .string y]) h979 rfl rfl ⟨hB18, hk20⟩ fun a980 h980 => ?_; clear h979
      have hk986 := hk5.kept hg10 (by simp)
      refine d1D 24 h980 rfl rfl (op_storeN rfl rfl rfl (by kernel_rfl) (by kernel_rfl) hk986 rfl) ?_ ?_; clear h980
      ·
       rintro _ w982 ⟨hk983, hz984, hg985⟩
       have hk983' : Blk w982 N3 61 #[.int .i64 L.boot, .int .i64 L.stream, .int .i64 q, .int .i64 L.peer, .int .i64 L.in0, .int .i64 L.next, .bool h, .string y] := hk983; clear hk983
       have hz987 := hg985.size
       have hB988 := hb_at hB18 hg985 (by omega)
       have hk989 := hk20.kept hg985 (by simp; omega)
       exact ⟨hB988, hk989⟩
      rintro _ w982 a981 ⟨hk983, hz984, hg985⟩ h981
      have hk983' : Blk w982 N3 61 #[.int .i64 L.boot, .int .i64 L.stream, .int .i64 q, .int .i64 L.peer, .int .i64 L.in0, .int .i64 L.next, .bool h, .string y] := hk983; clear hk983
      have hz987 := hg985.size
      refine dr_done (by kernel_rfl) ?_
      refine co_then ?_
      refine wp_ret ?_
      refine co_retC (Q := fun _ _ _ => True) h981 rfl rfl hk983' Try.underlying61 rfl (by kernel_rfl) ?_
      have hB988 := hb_at hB18 hg985 (by omega)
      exact ⟨rfl, hB988⟩
    ·
     refine dr_opVal (i := 20) (v := .int .i64 L.next) h977 rfl rfl rfl rfl (by kernel_rfl) rfl (rn_load1 rfl rfl Try.isAgg3 (hk20.cell rfl)) ⟨hB18, hk20⟩ (fun a989 h989 => ?_); clear h977
     refine dr_many [3] (by kernel_rfl) (by simp) ⟨?_, trivial⟩
     ·
      refine dr_opVal (i := 3) (v := .int .i64 L.boot) h989 rfl rfl rfl rfl (by kernel_rfl) rfl (rn_load1 rfl rfl Try.isAgg3 (hk20.cell rfl)) ⟨hB18, hk20⟩ (fun a990 h990 => ?_); clear h989
      refine dk0 23 (v := .agg #[.int .i64 L.boot, .int .i64 L.stream, .int .i64 q, .int .i64 L.peer, .int .i64 L.in0, .int .i64 L.next, .bool h, .string y]) h990 rfl rfl ⟨hB18, hk20⟩ fun a991 h991 => ?_; clear h990
      have hk997 := hk5.kept hg10 (by simp)
      refine d1D 24 h991 rfl rfl (op_storeN rfl rfl rfl (by kernel_rfl) (by kernel_rfl) hk997 rfl) ?_ ?_; clear h991
      ·
       rintro _ w993 ⟨hk994, hz995, hg996⟩
       have hk994' : Blk w993 N3 61 #[.int .i64 L.boot, .int .i64 L.stream, .int .i64 q, .int .i64 L.peer, .int .i64 L.in0, .int .i64 L.next, .bool h, .string y] := hk994; clear hk994
       have hz998 := hg996.size
       have hB999 := hb_at hB18 hg996 (by omega)
       have hk1000 := hk20.kept hg996 (by simp; omega)
       exact ⟨hB999, hk1000⟩
      rintro _ w993 a992 ⟨hk994, hz995, hg996⟩ h992
      have hk994' : Blk w993 N3 61 #[.int .i64 L.boot, .int .i64 L.stream, .int .i64 q, .int .i64 L.peer, .int .i64 L.in0, .int .i64 L.next, .bool h, .string y] := hk994; clear hk994
      have hz998 := hg996.size
      refine dr_done (by kernel_rfl) ?_
      refine co_then ?_
      refine wp_ret ?_
      refine co_retC (Q := fun _ _ _ => True) h992 rfl rfl hk994' Try.underlying61 rfl (by kernel_rfl) ?_
      have hB999 := hb_at hB18 hg996 (by omega)
      exact ⟨rfl, hB999⟩
   ·
    refine dr_opVal (i := 20) (v := .int .i64 L.next) h953 rfl rfl rfl rfl (by kernel_rfl) rfl (rn_load1 rfl rfl Try.isAgg3 (hk20.cell rfl)) ⟨hB18, hk20⟩ (fun a1000 h1000 => ?_); clear h953
    refine dr_many [3, 12] (by kernel_rfl) (by simp) ⟨?_, ?_, trivial⟩
    ·
     refine dr_opVal (i := 3) (v := .int .i64 L.boot) h1000 rfl rfl rfl rfl (by kernel_rfl) rfl (rn_load1 rfl rfl Try.isAgg3 (hk20.cell rfl)) ⟨hB18, hk20⟩ (fun a1001 h1001 => ?_); clear h1000
     refine dr_many [12] (by kernel_rfl) (by simp) ⟨?_, trivial⟩
     ·
      refine dr_opVal (i := 12) (v := .int .i64 L.peer) h1001 rfl rfl rfl rfl (by kernel_rfl) rfl (rn_load1 rfl rfl Try.isAgg3 (hk20.cell rfl)) ⟨hB18, hk20⟩ (fun a1002 h1002 => ?_); clear h1001
      refine dk0 23 (v := .agg #[.int .i64 L.boot, .int .i64 L.stream, .int .i64 q, .int .i64 L.peer, .int .i64 L.in0, .int .i64 L.next, .bool h, .string y]) h1002 rfl rfl ⟨hB18, hk20⟩ fun a1003 h1003 => ?_; clear h1002
      have hk1009 := hk5.kept hg10 (by simp)
      refine d1D 24 h1003 rfl rfl (op_storeN rfl rfl rfl (by kernel_rfl) (by kernel_rfl) hk1009 rfl) ?_ ?_; clear h1003
      ·
       rintro _ w1005 ⟨hk1006, hz1007, hg1008⟩
       have hk1006' : Blk w1005 N3 61 #[.int .i64 L.boot, .int .i64 L.stream, .int .i64 q, .int .i64 L.peer, .int .i64 L.in0, .int .i64 L.next, .bool h, .string y] := hk1006; clear hk1006
       have hz1010 := hg1008.size
       have hB1011 := hb_at hB18 hg1008 (by omega)
       have hk1012 := hk20.kept hg1008 (by simp; omega)
       exact ⟨hB1011, hk1012⟩
      rintro _ w1005 a1004 ⟨hk1006, hz1007, hg1008⟩ h1004
      have hk1006' : Blk w1005 N3 61 #[.int .i64 L.boot, .int .i64 L.stream, .int .i64 q, .int .i64 L.peer, .int .i64 L.in0, .int .i64 L.next, .bool h, .string y] := hk1006; clear hk1006
      have hz1010 := hg1008.size
      refine dr_done (by kernel_rfl) ?_
      refine co_then ?_
      refine wp_ret ?_
      refine co_retC (Q := fun _ _ _ => True) h1004 rfl rfl hk1006' Try.underlying61 rfl (by kernel_rfl) ?_
      have hB1011 := hb_at hB18 hg1008 (by omega)
      exact ⟨rfl, hB1011⟩
    ·
     refine dr_opVal (i := 12) (v := .int .i64 L.peer) h1000 rfl rfl rfl rfl (by kernel_rfl) rfl (rn_load1 rfl rfl Try.isAgg3 (hk20.cell rfl)) ⟨hB18, hk20⟩ (fun a1012 h1012 => ?_); clear h1000
     refine dr_many [3] (by kernel_rfl) (by simp) ⟨?_, trivial⟩
     ·
      refine dr_opVal (i := 3) (v := .int .i64 L.boot) h1012 rfl rfl rfl rfl (by kernel_rfl) rfl (rn_load1 rfl rfl Try.isAgg3 (hk20.cell rfl)) ⟨hB18, hk20⟩ (fun a1013 h1013 => ?_); clear h1012
      refine dk0 23 (v := .agg #[.int .i64 L.boot, .int .i64 L.stream, .int .i64 q, .int .i64 L.peer, .int .i64 L.in0, .int .i64 L.next, .bool h, .string y]) h1013 rfl rfl ⟨hB18, hk20⟩ fun a1014 h1014 => ?_; clear h1013
      have hk1020 := hk5.kept hg10 (by simp)
      refine d1D 24 h1014 rfl rfl (op_storeN rfl rfl rfl (by kernel_rfl) (by kernel_rfl) hk1020 rfl) ?_ ?_; clear h1014
      ·
       rintro _ w1016 ⟨hk1017, hz1018, hg1019⟩
       have hk1017' : Blk w1016 N3 61 #[.int .i64 L.boot, .int .i64 L.stream, .int .i64 q, .int .i64 L.peer, .int .i64 L.in0, .int .i64 L.next, .bool h, .string y] := hk1017; clear hk1017
       have hz1021 := hg1019.size
       have hB1022 := hb_at hB18 hg1019 (by omega)
       have hk1023 := hk20.kept hg1019 (by simp; omega)
       exact ⟨hB1022, hk1023⟩
      rintro _ w1016 a1015 ⟨hk1017, hz1018, hg1019⟩ h1015
      have hk1017' : Blk w1016 N3 61 #[.int .i64 L.boot, .int .i64 L.stream, .int .i64 q, .int .i64 L.peer, .int .i64 L.in0, .int .i64 L.next, .bool h, .string y] := hk1017; clear hk1017
      have hz1021 := hg1019.size
      refine dr_done (by kernel_rfl) ?_
      refine co_then ?_
      refine wp_ret ?_
      refine co_retC (Q := fun _ _ _ => True) h1015 rfl rfl hk1017' Try.underlying61 rfl (by kernel_rfl) ?_
      have hB1022 := hb_at hB18 hg1019 (by omega)
      exact ⟨rfl, hB1022⟩
  ·
   refine dr_opVal (i := 12) (v := .int .i64 L.peer) h882 rfl rfl rfl rfl (by kernel_rfl) rfl (rn_load1 rfl rfl Try.isAgg3 (hk20.cell rfl)) ⟨hB18, hk20⟩ (fun a1023 h1023 => ?_); clear h882
   refine dr_many [3, 7, 20] (by kernel_rfl) (by simp) ⟨?_, ?_, ?_, trivial⟩
   ·
    refine dr_opVal (i := 3) (v := .int .i64 L.boot) h1023 rfl rfl rfl rfl (by kernel_rfl) rfl (rn_load1 rfl rfl Try.isAgg3 (hk20.cell rfl)) ⟨hB18, hk20⟩ (fun a1024 h1024 => ?_); clear h1023
    refine dr_many [7, 20] (by kernel_rfl) (by simp) ⟨?_, ?_, trivial⟩
    ·
     refine dr_opVal (i := 7) (v := .int .i64 L.stream) h1024 rfl rfl rfl rfl (by kernel_rfl) rfl (rn_load1 rfl rfl Try.isAgg3 (hk20.cell rfl)) ⟨hB18, hk20⟩ (fun a1025 h1025 => ?_); clear h1024
     refine dr_many [20] (by kernel_rfl) (by simp) ⟨?_, trivial⟩
     ·
      refine dr_opVal (i := 20) (v := .int .i64 L.next) h1025 rfl rfl rfl rfl (by kernel_rfl) rfl (rn_load1 rfl rfl Try.isAgg3 (hk20.cell rfl)) ⟨hB18, hk20⟩ (fun a1026 h1026 => ?_); clear h1025
      refine dk0 23 (v := .agg #[.int .i64 L.boot, .int .i64 L.stream, .int .i64 q, .int .i64 L.peer, .int .i64 L.in0, .int .i64 L.next, .bool h, .string y]) h1026 rfl rfl ⟨hB18, hk20⟩ fun a1027 h1027 => ?_; clear h1026
      have hk1033 := hk5.kept hg10 (by simp)
      refine d1D 24 h1027 rfl rfl (op_storeN rfl rfl rfl (by kernel_rfl) (by kernel_rfl) hk1033 rfl) ?_ ?_; clear h1027
      ·
       rintro _ w1029 ⟨hk1030, hz1031, hg1032⟩
       have hk1030' : Blk w1029 N3 61 #[.int .i64 L.boot, .int .i64 L.stream, .int .i64 q, .int .i64 L.peer, .int .i64 L.in0, .int .i64 L.next, .bool h, .string y] := hk1030; clear hk1030
       have hz1034 := hg1032.size
       have hB1035 := hb_at hB18 hg1032 (by omega)
       have hk1036 := hk20.kept hg1032 (by simp; omega)
       exact ⟨hB1035, hk1036⟩
      rintro _ w1029 a1028 ⟨hk1030, hz1031, hg1032⟩ h1028
      have hk1030' : Blk w1029 N3 61 #[.int .i64 L.boot, .int .i64 L.stream, .int .i64 q, .int .i64 L.peer, .int .i64 L.in0, .int .i64 L.next, .bool h, .string y] := hk1030; clear hk1030
      have hz1034 := hg1032.size
      refine dr_done (by kernel_rfl) ?_
      refine co_then ?_
      refine wp_ret ?_
      refine co_retC (Q := fun _ _ _ => True) h1028 rfl rfl hk1030' Try.underlying61 rfl (by kernel_rfl) ?_
      have hB1035 := hb_at hB18 hg1032 (by omega)
      exact ⟨rfl, hB1035⟩
    ·
     refine dr_opVal (i := 20) (v := .int .i64 L.next) h1024 rfl rfl rfl rfl (by kernel_rfl) rfl (rn_load1 rfl rfl Try.isAgg3 (hk20.cell rfl)) ⟨hB18, hk20⟩ (fun a1036 h1036 => ?_); clear h1024
     refine dr_many [7] (by kernel_rfl) (by simp) ⟨?_, trivial⟩
     ·
      refine dr_opVal (i := 7) (v := .int .i64 L.stream) h1036 rfl rfl rfl rfl (by kernel_rfl) rfl (rn_load1 rfl rfl Try.isAgg3 (hk20.cell rfl)) ⟨hB18, hk20⟩ (fun a1037 h1037 => ?_); clear h1036
      refine dk0 23 (v := .agg #[.int .i64 L.boot, .int .i64 L.stream, .int .i64 q, .int .i64 L.peer, .int .i64 L.in0, .int .i64 L.next, .bool h, .string y]) h1037 rfl rfl ⟨hB18, hk20⟩ fun a1038 h1038 => ?_; clear h1037
      have hk1044 := hk5.kept hg10 (by simp)
      refine d1D 24 h1038 rfl rfl (op_storeN rfl rfl rfl (by kernel_rfl) (by kernel_rfl) hk1044 rfl) ?_ ?_; clear h1038
      ·
       rintro _ w1040 ⟨hk1041, hz1042, hg1043⟩
       have hk1041' : Blk w1040 N3 61 #[.int .i64 L.boot, .int .i64 L.stream, .int .i64 q, .int .i64 L.peer, .int .i64 L.in0, .int .i64 L.next, .bool h, .string y] := hk1041; clear hk1041
       have hz1045 := hg1043.size
       have hB1046 := hb_at hB18 hg1043 (by omega)
       have hk1047 := hk20.kept hg1043 (by simp; omega)
       exact ⟨hB1046, hk1047⟩
      rintro _ w1040 a1039 ⟨hk1041, hz1042, hg1043⟩ h1039
      have hk1041' : Blk w1040 N3 61 #[.int .i64 L.boot, .int .i64 L.stream, .int .i64 q, .int .i64 L.peer, .int .i64 L.in0, .int .i64 L.next, .bool h, .string y] := hk1041; clear hk1041
      have hz1045 := hg1043.size
      refine dr_done (by kernel_rfl) ?_
      refine co_then ?_
      refine wp_ret ?_
      refine co_retC (Q := fun _ _ _ => True) h1039 rfl rfl hk1041' Try.underlying61 rfl (by kernel_rfl) ?_
      have hB1046 := hb_at hB18 hg1043 (by omega)
      exact ⟨rfl, hB1046⟩
   ·
    refine dr_opVal (i := 7) (v := .int .i64 L.stream) h1023 rfl rfl rfl rfl (by kernel_rfl) rfl (rn_load1 rfl rfl Try.isAgg3 (hk20.cell rfl)) ⟨hB18, hk20⟩ (fun a1047 h1047 => ?_); clear h1023
    refine dr_many [3, 20] (by kernel_rfl) (by simp) ⟨?_, ?_, trivial⟩
    ·
     refine dr_opVal (i := 3) (v := .int .i64 L.boot) h1047 rfl rfl rfl rfl (by kernel_rfl) rfl (rn_load1 rfl rfl Try.isAgg3 (hk20.cell rfl)) ⟨hB18, hk20⟩ (fun a1048 h1048 => ?_); clear h1047
     refine dr_many [20] (by kernel_rfl) (by simp) ⟨?_, trivial⟩
     ·
      refine dr_opVal (i := 20) (v := .int .i64 L.next) h1048 rfl rfl rfl rfl (by kernel_rfl) rfl (rn_load1 rfl rfl Try.isAgg3 (hk20.cell rfl)) ⟨hB18, hk20⟩ (fun a1049 h1049 => ?_); clear h1048
      refine dk0 23 (v := .agg #[.int .i64 L.boot, .int .i64 L.stream, .int .i64 q, .int .i64 L.peer, .int .i64 L.in0, .int .i64 L.next, .bool h, .string y]) h1049 rfl rfl ⟨hB18, hk20⟩ fun a1050 h1050 => ?_; clear h1049
      have hk1056 := hk5.kept hg10 (by simp)
      refine d1D 24 h1050 rfl rfl (op_storeN rfl rfl rfl (by kernel_rfl) (by kernel_rfl) hk1056 rfl) ?_ ?_; clear h1050
      ·
       rintro _ w1052 ⟨hk1053, hz1054, hg1055⟩
       have hk1053' : Blk w1052 N3 61 #[.int .i64 L.boot, .int .i64 L.stream, .int .i64 q, .int .i64 L.peer, .int .i64 L.in0, .int .i64 L.next, .bool h, .string y] := hk1053; clear hk1053
       have hz1057 := hg1055.size
       have hB1058 := hb_at hB18 hg1055 (by omega)
       have hk1059 := hk20.kept hg1055 (by simp; omega)
       exact ⟨hB1058, hk1059⟩
      rintro _ w1052 a1051 ⟨hk1053, hz1054, hg1055⟩ h1051
      have hk1053' : Blk w1052 N3 61 #[.int .i64 L.boot, .int .i64 L.stream, .int .i64 q, .int .i64 L.peer, .int .i64 L.in0, .int .i64 L.next, .bool h, .string y] := hk1053; clear hk1053
      have hz1057 := hg1055.size
      refine dr_done (by kernel_rfl) ?_
      refine co_then ?_
      refine wp_ret ?_
      refine co_retC (Q := fun _ _ _ => True) h1051 rfl rfl hk1053' Try.underlying61 rfl (by kernel_rfl) ?_
      have hB1058 := hb_at hB18 hg1055 (by omega)
      exact ⟨rfl, hB1058⟩
    ·
     refine dr_opVal (i := 20) (v := .int .i64 L.next) h1047 rfl rfl rfl rfl (by kernel_rfl) rfl (rn_load1 rfl rfl Try.isAgg3 (hk20.cell rfl)) ⟨hB18, hk20⟩ (fun a1059 h1059 => ?_); clear h1047
     refine dr_many [3] (by kernel_rfl) (by simp) ⟨?_, trivial⟩
     ·
      refine dr_opVal (i := 3) (v := .int .i64 L.boot) h1059 rfl rfl rfl rfl (by kernel_rfl) rfl (rn_load1 rfl rfl Try.isAgg3 (hk20.cell rfl)) ⟨hB18, hk20⟩ (fun a1060 h1060 => ?_); clear h1059
      refine dk0 23 (v := .agg #[.int .i64 L.boot, .int .i64 L.stream, .int .i64 q, .int .i64 L.peer, .int .i64 L.in0, .int .i64 L.next, .bool h, .string y]) h1060 rfl rfl ⟨hB18, hk20⟩ fun a1061 h1061 => ?_; clear h1060
      have hk1067 := hk5.kept hg10 (by simp)
      refine d1D 24 h1061 rfl rfl (op_storeN rfl rfl rfl (by kernel_rfl) (by kernel_rfl) hk1067 rfl) ?_ ?_; clear h1061
      ·
       rintro _ w1063 ⟨hk1064, hz1065, hg1066⟩
       have hk1064' : Blk w1063 N3 61 #[.int .i64 L.boot, .int .i64 L.stream, .int .i64 q, .int .i64 L.peer, .int .i64 L.in0, .int .i64 L.next, .bool h, .string y] := hk1064; clear hk1064
       have hz1068 := hg1066.size
       have hB1069 := hb_at hB18 hg1066 (by omega)
       have hk1070 := hk20.kept hg1066 (by simp; omega)
       exact ⟨hB1069, hk1070⟩
      rintro _ w1063 a1062 ⟨hk1064, hz1065, hg1066⟩ h1062
      have hk1064' : Blk w1063 N3 61 #[.int .i64 L.boot, .int .i64 L.stream, .int .i64 q, .int .i64 L.peer, .int .i64 L.in0, .int .i64 L.next, .bool h, .string y] := hk1064; clear hk1064
      have hz1068 := hg1066.size
      refine dr_done (by kernel_rfl) ?_
      refine co_then ?_
      refine wp_ret ?_
      refine co_retC (Q := fun _ _ _ => True) h1062 rfl rfl hk1064' Try.underlying61 rfl (by kernel_rfl) ?_
      have hB1069 := hb_at hB18 hg1066 (by omega)
      exact ⟨rfl, hB1069⟩
   ·
    refine dr_opVal (i := 20) (v := .int .i64 L.next) h1023 rfl rfl rfl rfl (by kernel_rfl) rfl (rn_load1 rfl rfl Try.isAgg3 (hk20.cell rfl)) ⟨hB18, hk20⟩ (fun a1070 h1070 => ?_); clear h1023
    refine dr_many [3, 7] (by kernel_rfl) (by simp) ⟨?_, ?_, trivial⟩
    ·
     refine dr_opVal (i := 3) (v := .int .i64 L.boot) h1070 rfl rfl rfl rfl (by kernel_rfl) rfl (rn_load1 rfl rfl Try.isAgg3 (hk20.cell rfl)) ⟨hB18, hk20⟩ (fun a1071 h1071 => ?_); clear h1070
     refine dr_many [7] (by kernel_rfl) (by simp) ⟨?_, trivial⟩
     ·
      refine dr_opVal (i := 7) (v := .int .i64 L.stream) h1071 rfl rfl rfl rfl (by kernel_rfl) rfl (rn_load1 rfl rfl Try.isAgg3 (hk20.cell rfl)) ⟨hB18, hk20⟩ (fun a1072 h1072 => ?_); clear h1071
      refine dk0 23 (v := .agg #[.int .i64 L.boot, .int .i64 L.stream, .int .i64 q, .int .i64 L.peer, .int .i64 L.in0, .int .i64 L.next, .bool h, .string y]) h1072 rfl rfl ⟨hB18, hk20⟩ fun a1073 h1073 => ?_; clear h1072
      have hk1079 := hk5.kept hg10 (by simp)
      refine d1D 24 h1073 rfl rfl (op_storeN rfl rfl rfl (by kernel_rfl) (by kernel_rfl) hk1079 rfl) ?_ ?_; clear h1073
      ·
       rintro _ w1075 ⟨hk1076, hz1077, hg1078⟩
       have hk1076' : Blk w1075 N3 61 #[.int .i64 L.boot, .int .i64 L.stream, .int .i64 q, .int .i64 L.peer, .int .i64 L.in0, .int .i64 L.next, .bool h, .string y] := hk1076; clear hk1076
       have hz1080 := hg1078.size
       have hB1081 := hb_at hB18 hg1078 (by omega)
       have hk1082 := hk20.kept hg1078 (by simp; omega)
       exact ⟨hB1081, hk1082⟩
      rintro _ w1075 a1074 ⟨hk1076, hz1077, hg1078⟩ h1074
      have hk1076' : Blk w1075 N3 61 #[.int .i64 L.boot, .int .i64 L.stream, .int .i64 q, .int .i64 L.peer, .int .i64 L.in0, .int .i64 L.next, .bool h, .string y] := hk1076; clear hk1076
      have hz1080 := hg1078.size
      refine dr_done (by kernel_rfl) ?_
      refine co_then ?_
      refine wp_ret ?_
      refine co_retC (Q := fun _ _ _ => True) h1074 rfl rfl hk1076' Try.underlying61 rfl (by kernel_rfl) ?_
      have hB1081 := hb_at hB18 hg1078 (by omega)
      exact ⟨rfl, hB1081⟩
    ·
     refine dr_opVal (i := 7) (v := .int .i64 L.stream) h1070 rfl rfl rfl rfl (by kernel_rfl) rfl (rn_load1 rfl rfl Try.isAgg3 (hk20.cell rfl)) ⟨hB18, hk20⟩ (fun a1082 h1082 => ?_); clear h1070
     refine dr_many [3] (by kernel_rfl) (by simp) ⟨?_, trivial⟩
     ·
      refine dr_opVal (i := 3) (v := .int .i64 L.boot) h1082 rfl rfl rfl rfl (by kernel_rfl) rfl (rn_load1 rfl rfl Try.isAgg3 (hk20.cell rfl)) ⟨hB18, hk20⟩ (fun a1083 h1083 => ?_); clear h1082
      refine dk0 23 (v := .agg #[.int .i64 L.boot, .int .i64 L.stream, .int .i64 q, .int .i64 L.peer, .int .i64 L.in0, .int .i64 L.next, .bool h, .string y]) h1083 rfl rfl ⟨hB18, hk20⟩ fun a1084 h1084 => ?_; clear h1083
      have hk1090 := hk5.kept hg10 (by simp)
      refine d1D 24 h1084 rfl rfl (op_storeN rfl rfl rfl (by kernel_rfl) (by kernel_rfl) hk1090 rfl) ?_ ?_; clear h1084
      ·
       rintro _ w1086 ⟨hk1087, hz1088, hg1089⟩
       have hk1087' : Blk w1086 N3 61 #[.int .i64 L.boot, .int .i64 L.stream, .int .i64 q, .int .i64 L.peer, .int .i64 L.in0, .int .i64 L.next, .bool h, .string y] := hk1087; clear hk1087
       have hz1091 := hg1089.size
       have hB1092 := hb_at hB18 hg1089 (by omega)
       have hk1093 := hk20.kept hg1089 (by simp; omega)
       exact ⟨hB1092, hk1093⟩
      rintro _ w1086 a1085 ⟨hk1087, hz1088, hg1089⟩ h1085
      have hk1087' : Blk w1086 N3 61 #[.int .i64 L.boot, .int .i64 L.stream, .int .i64 q, .int .i64 L.peer, .int .i64 L.in0, .int .i64 L.next, .bool h, .string y] := hk1087; clear hk1087
      have hz1091 := hg1089.size
      refine dr_done (by kernel_rfl) ?_
      refine co_then ?_
      refine wp_ret ?_
      refine co_retC (Q := fun _ _ _ => True) h1085 rfl rfl hk1087' Try.underlying61 rfl (by kernel_rfl) ?_
      have hB1092 := hb_at hB18 hg1089 (by omega)
      exact ⟨rfl, hB1092⟩
  ·
   refine dr_opVal (i := 20) (v := .int .i64 L.next) h882 rfl rfl rfl rfl (by kernel_rfl) rfl (rn_load1 rfl rfl Try.isAgg3 (hk20.cell rfl)) ⟨hB18, hk20⟩ (fun a1093 h1093 => ?_); clear h882
   refine dr_many [3, 7, 12] (by kernel_rfl) (by simp) ⟨?_, ?_, ?_, trivial⟩
   ·
    refine dr_opVal (i := 3) (v := .int .i64 L.boot) h1093 rfl rfl rfl rfl (by kernel_rfl) rfl (rn_load1 rfl rfl Try.isAgg3 (hk20.cell rfl)) ⟨hB18, hk20⟩ (fun a1094 h1094 => ?_); clear h1093
    refine dr_many [7, 12] (by kernel_rfl) (by simp) ⟨?_, ?_, trivial⟩
    ·
     refine dr_opVal (i := 7) (v := .int .i64 L.stream) h1094 rfl rfl rfl rfl (by kernel_rfl) rfl (rn_load1 rfl rfl Try.isAgg3 (hk20.cell rfl)) ⟨hB18, hk20⟩ (fun a1095 h1095 => ?_); clear h1094
     refine dr_many [12] (by kernel_rfl) (by simp) ⟨?_, trivial⟩
     ·
      refine dr_opVal (i := 12) (v := .int .i64 L.peer) h1095 rfl rfl rfl rfl (by kernel_rfl) rfl (rn_load1 rfl rfl Try.isAgg3 (hk20.cell rfl)) ⟨hB18, hk20⟩ (fun a1096 h1096 => ?_); clear h1095
      refine dk0 23 (v := .agg #[.int .i64 L.boot, .int .i64 L.stream, .int .i64 q, .int .i64 L.peer, .int .i64 L.in0, .int .i64 L.next, .bool h, .string y]) h1096 rfl rfl ⟨hB18, hk20⟩ fun a1097 h1097 => ?_; clear h1096
      have hk1103 := hk5.kept hg10 (by simp)
      refine d1D 24 h1097 rfl rfl (op_storeN rfl rfl rfl (by kernel_rfl) (by kernel_rfl) hk1103 rfl) ?_ ?_; clear h1097
      ·
       rintro _ w1099 ⟨hk1100, hz1101, hg1102⟩
       have hk1100' : Blk w1099 N3 61 #[.int .i64 L.boot, .int .i64 L.stream, .int .i64 q, .int .i64 L.peer, .int .i64 L.in0, .int .i64 L.next, .bool h, .string y] := hk1100; clear hk1100
       have hz1104 := hg1102.size
       have hB1105 := hb_at hB18 hg1102 (by omega)
       have hk1106 := hk20.kept hg1102 (by simp; omega)
       exact ⟨hB1105, hk1106⟩
      rintro _ w1099 a1098 ⟨hk1100, hz1101, hg1102⟩ h1098
      have hk1100' : Blk w1099 N3 61 #[.int .i64 L.boot, .int .i64 L.stream, .int .i64 q, .int .i64 L.peer, .int .i64 L.in0, .int .i64 L.next, .bool h, .string y] := hk1100; clear hk1100
      have hz1104 := hg1102.size
      refine dr_done (by kernel_rfl) ?_
      refine co_then ?_
      refine wp_ret ?_
      refine co_retC (Q := fun _ _ _ => True) h1098 rfl rfl hk1100' Try.underlying61 rfl (by kernel_rfl) ?_
      have hB1105 := hb_at hB18 hg1102 (by omega)
      exact ⟨rfl, hB1105⟩
    ·
     refine dr_opVal (i := 12) (v := .int .i64 L.peer) h1094 rfl rfl rfl rfl (by kernel_rfl) rfl (rn_load1 rfl rfl Try.isAgg3 (hk20.cell rfl)) ⟨hB18, hk20⟩ (fun a1106 h1106 => ?_); clear h1094
     refine dr_many [7] (by kernel_rfl) (by simp) ⟨?_, trivial⟩
     ·
      refine dr_opVal (i := 7) (v := .int .i64 L.stream) h1106 rfl rfl rfl rfl (by kernel_rfl) rfl (rn_load1 rfl rfl Try.isAgg3 (hk20.cell rfl)) ⟨hB18, hk20⟩ (fun a1107 h1107 => ?_); clear h1106
      refine dk0 23 (v := .agg #[.int .i64 L.boot, .int .i64 L.stream, .int .i64 q, .int .i64 L.peer, .int .i64 L.in0, .int .i64 L.next, .bool h, .string y]) h1107 rfl rfl ⟨hB18, hk20⟩ fun a1108 h1108 => ?_; clear h1107
      have hk1114 := hk5.kept hg10 (by simp)
      refine d1D 24 h1108 rfl rfl (op_storeN rfl rfl rfl (by kernel_rfl) (by kernel_rfl) hk1114 rfl) ?_ ?_; clear h1108
      ·
       rintro _ w1110 ⟨hk1111, hz1112, hg1113⟩
       have hk1111' : Blk w1110 N3 61 #[.int .i64 L.boot, .int .i64 L.stream, .int .i64 q, .int .i64 L.peer, .int .i64 L.in0, .int .i64 L.next, .bool h, .string y] := hk1111; clear hk1111
       have hz1115 := hg1113.size
       have hB1116 := hb_at hB18 hg1113 (by omega)
       have hk1117 := hk20.kept hg1113 (by simp; omega)
       exact ⟨hB1116, hk1117⟩
      rintro _ w1110 a1109 ⟨hk1111, hz1112, hg1113⟩ h1109
      have hk1111' : Blk w1110 N3 61 #[.int .i64 L.boot, .int .i64 L.stream, .int .i64 q, .int .i64 L.peer, .int .i64 L.in0, .int .i64 L.next, .bool h, .string y] := hk1111; clear hk1111
      have hz1115 := hg1113.size
      refine dr_done (by kernel_rfl) ?_
      refine co_then ?_
      refine wp_ret ?_
      refine co_retC (Q := fun _ _ _ => True) h1109 rfl rfl hk1111' Try.underlying61 rfl (by kernel_rfl) ?_
      have hB1116 := hb_at hB18 hg1113 (by omega)
      exact ⟨rfl, hB1116⟩
   ·
    refine dr_opVal (i := 7) (v := .int .i64 L.stream) h1093 rfl rfl rfl rfl (by kernel_rfl) rfl (rn_load1 rfl rfl Try.isAgg3 (hk20.cell rfl)) ⟨hB18, hk20⟩ (fun a1117 h1117 => ?_); clear h1093
    refine dr_many [3, 12] (by kernel_rfl) (by simp) ⟨?_, ?_, trivial⟩
    ·
     refine dr_opVal (i := 3) (v := .int .i64 L.boot) h1117 rfl rfl rfl rfl (by kernel_rfl) rfl (rn_load1 rfl rfl Try.isAgg3 (hk20.cell rfl)) ⟨hB18, hk20⟩ (fun a1118 h1118 => ?_); clear h1117
     refine dr_many [12] (by kernel_rfl) (by simp) ⟨?_, trivial⟩
     ·
      refine dr_opVal (i := 12) (v := .int .i64 L.peer) h1118 rfl rfl rfl rfl (by kernel_rfl) rfl (rn_load1 rfl rfl Try.isAgg3 (hk20.cell rfl)) ⟨hB18, hk20⟩ (fun a1119 h1119 => ?_); clear h1118
      refine dk0 23 (v := .agg #[.int .i64 L.boot, .int .i64 L.stream, .int .i64 q, .int .i64 L.peer, .int .i64 L.in0, .int .i64 L.next, .bool h, .string y]) h1119 rfl rfl ⟨hB18, hk20⟩ fun a1120 h1120 => ?_; clear h1119
      have hk1126 := hk5.kept hg10 (by simp)
      refine d1D 24 h1120 rfl rfl (op_storeN rfl rfl rfl (by kernel_rfl) (by kernel_rfl) hk1126 rfl) ?_ ?_; clear h1120
      ·
       rintro _ w1122 ⟨hk1123, hz1124, hg1125⟩
       have hk1123' : Blk w1122 N3 61 #[.int .i64 L.boot, .int .i64 L.stream, .int .i64 q, .int .i64 L.peer, .int .i64 L.in0, .int .i64 L.next, .bool h, .string y] := hk1123; clear hk1123
       have hz1127 := hg1125.size
       have hB1128 := hb_at hB18 hg1125 (by omega)
       have hk1129 := hk20.kept hg1125 (by simp; omega)
       exact ⟨hB1128, hk1129⟩
      rintro _ w1122 a1121 ⟨hk1123, hz1124, hg1125⟩ h1121
      have hk1123' : Blk w1122 N3 61 #[.int .i64 L.boot, .int .i64 L.stream, .int .i64 q, .int .i64 L.peer, .int .i64 L.in0, .int .i64 L.next, .bool h, .string y] := hk1123; clear hk1123
      have hz1127 := hg1125.size
      refine dr_done (by kernel_rfl) ?_
      refine co_then ?_
      refine wp_ret ?_
      refine co_retC (Q := fun _ _ _ => True) h1121 rfl rfl hk1123' Try.underlying61 rfl (by kernel_rfl) ?_
      have hB1128 := hb_at hB18 hg1125 (by omega)
      exact ⟨rfl, hB1128⟩
    ·
     refine dr_opVal (i := 12) (v := .int .i64 L.peer) h1117 rfl rfl rfl rfl (by kernel_rfl) rfl (rn_load1 rfl rfl Try.isAgg3 (hk20.cell rfl)) ⟨hB18, hk20⟩ (fun a1129 h1129 => ?_); clear h1117
     refine dr_many [3] (by kernel_rfl) (by simp) ⟨?_, trivial⟩
     ·
      refine dr_opVal (i := 3) (v := .int .i64 L.boot) h1129 rfl rfl rfl rfl (by kernel_rfl) rfl (rn_load1 rfl rfl Try.isAgg3 (hk20.cell rfl)) ⟨hB18, hk20⟩ (fun a1130 h1130 => ?_); clear h1129
      refine dk0 23 (v := .agg #[.int .i64 L.boot, .int .i64 L.stream, .int .i64 q, .int .i64 L.peer, .int .i64 L.in0, .int .i64 L.next, .bool h, .string y]) h1130 rfl rfl ⟨hB18, hk20⟩ fun a1131 h1131 => ?_; clear h1130
      have hk1137 := hk5.kept hg10 (by simp)
      refine d1D 24 h1131 rfl rfl (op_storeN rfl rfl rfl (by kernel_rfl) (by kernel_rfl) hk1137 rfl) ?_ ?_; clear h1131
      ·
       rintro _ w1133 ⟨hk1134, hz1135, hg1136⟩
       have hk1134' : Blk w1133 N3 61 #[.int .i64 L.boot, .int .i64 L.stream, .int .i64 q, .int .i64 L.peer, .int .i64 L.in0, .int .i64 L.next, .bool h, .string y] := hk1134; clear hk1134
       have hz1138 := hg1136.size
       have hB1139 := hb_at hB18 hg1136 (by omega)
       have hk1140 := hk20.kept hg1136 (by simp; omega)
       exact ⟨hB1139, hk1140⟩
      rintro _ w1133 a1132 ⟨hk1134, hz1135, hg1136⟩ h1132
      have hk1134' : Blk w1133 N3 61 #[.int .i64 L.boot, .int .i64 L.stream, .int .i64 q, .int .i64 L.peer, .int .i64 L.in0, .int .i64 L.next, .bool h, .string y] := hk1134; clear hk1134
      have hz1138 := hg1136.size
      refine dr_done (by kernel_rfl) ?_
      refine co_then ?_
      refine wp_ret ?_
      refine co_retC (Q := fun _ _ _ => True) h1132 rfl rfl hk1134' Try.underlying61 rfl (by kernel_rfl) ?_
      have hB1139 := hb_at hB18 hg1136 (by omega)
      exact ⟨rfl, hB1139⟩
   ·
    refine dr_opVal (i := 12) (v := .int .i64 L.peer) h1093 rfl rfl rfl rfl (by kernel_rfl) rfl (rn_load1 rfl rfl Try.isAgg3 (hk20.cell rfl)) ⟨hB18, hk20⟩ (fun a1140 h1140 => ?_); clear h1093
    refine dr_many [3, 7] (by kernel_rfl) (by simp) ⟨?_, ?_, trivial⟩
    ·
     refine dr_opVal (i := 3) (v := .int .i64 L.boot) h1140 rfl rfl rfl rfl (by kernel_rfl) rfl (rn_load1 rfl rfl Try.isAgg3 (hk20.cell rfl)) ⟨hB18, hk20⟩ (fun a1141 h1141 => ?_); clear h1140
     refine dr_many [7] (by kernel_rfl) (by simp) ⟨?_, trivial⟩
     ·
      refine dr_opVal (i := 7) (v := .int .i64 L.stream) h1141 rfl rfl rfl rfl (by kernel_rfl) rfl (rn_load1 rfl rfl Try.isAgg3 (hk20.cell rfl)) ⟨hB18, hk20⟩ (fun a1142 h1142 => ?_); clear h1141
      refine dk0 23 (v := .agg #[.int .i64 L.boot, .int .i64 L.stream, .int .i64 q, .int .i64 L.peer, .int .i64 L.in0, .int .i64 L.next, .bool h, .string y]) h1142 rfl rfl ⟨hB18, hk20⟩ fun a1143 h1143 => ?_; clear h1142
      have hk1149 := hk5.kept hg10 (by simp)
      refine d1D 24 h1143 rfl rfl (op_storeN rfl rfl rfl (by kernel_rfl) (by kernel_rfl) hk1149 rfl) ?_ ?_; clear h1143
      ·
       rintro _ w1145 ⟨hk1146, hz1147, hg1148⟩
       have hk1146' : Blk w1145 N3 61 #[.int .i64 L.boot, .int .i64 L.stream, .int .i64 q, .int .i64 L.peer, .int .i64 L.in0, .int .i64 L.next, .bool h, .string y] := hk1146; clear hk1146
       have hz1150 := hg1148.size
       have hB1151 := hb_at hB18 hg1148 (by omega)
       have hk1152 := hk20.kept hg1148 (by simp; omega)
       exact ⟨hB1151, hk1152⟩
      rintro _ w1145 a1144 ⟨hk1146, hz1147, hg1148⟩ h1144
      have hk1146' : Blk w1145 N3 61 #[.int .i64 L.boot, .int .i64 L.stream, .int .i64 q, .int .i64 L.peer, .int .i64 L.in0, .int .i64 L.next, .bool h, .string y] := hk1146; clear hk1146
      have hz1150 := hg1148.size
      refine dr_done (by kernel_rfl) ?_
      refine co_then ?_
      refine wp_ret ?_
      refine co_retC (Q := fun _ _ _ => True) h1144 rfl rfl hk1146' Try.underlying61 rfl (by kernel_rfl) ?_
      have hB1151 := hb_at hB18 hg1148 (by omega)
      exact ⟨rfl, hB1151⟩
    ·
     refine dr_opVal (i := 7) (v := .int .i64 L.stream) h1140 rfl rfl rfl rfl (by kernel_rfl) rfl (rn_load1 rfl rfl Try.isAgg3 (hk20.cell rfl)) ⟨hB18, hk20⟩ (fun a1152 h1152 => ?_); clear h1140
     refine dr_many [3] (by kernel_rfl) (by simp) ⟨?_, trivial⟩
     ·
      refine dr_opVal (i := 3) (v := .int .i64 L.boot) h1152 rfl rfl rfl rfl (by kernel_rfl) rfl (rn_load1 rfl rfl Try.isAgg3 (hk20.cell rfl)) ⟨hB18, hk20⟩ (fun a1153 h1153 => ?_); clear h1152
      refine dk0 23 (v := .agg #[.int .i64 L.boot, .int .i64 L.stream, .int .i64 q, .int .i64 L.peer, .int .i64 L.in0, .int .i64 L.next, .bool h, .string y]) h1153 rfl rfl ⟨hB18, hk20⟩ fun a1154 h1154 => ?_; clear h1153
      have hk1160 := hk5.kept hg10 (by simp)
      refine d1D 24 h1154 rfl rfl (op_storeN rfl rfl rfl (by kernel_rfl) (by kernel_rfl) hk1160 rfl) ?_ ?_; clear h1154
      ·
       rintro _ w1156 ⟨hk1157, hz1158, hg1159⟩
       have hk1157' : Blk w1156 N3 61 #[.int .i64 L.boot, .int .i64 L.stream, .int .i64 q, .int .i64 L.peer, .int .i64 L.in0, .int .i64 L.next, .bool h, .string y] := hk1157; clear hk1157
       have hz1161 := hg1159.size
       have hB1162 := hb_at hB18 hg1159 (by omega)
       have hk1163 := hk20.kept hg1159 (by simp; omega)
       exact ⟨hB1162, hk1163⟩
      rintro _ w1156 a1155 ⟨hk1157, hz1158, hg1159⟩ h1155
      have hk1157' : Blk w1156 N3 61 #[.int .i64 L.boot, .int .i64 L.stream, .int .i64 q, .int .i64 L.peer, .int .i64 L.in0, .int .i64 L.next, .bool h, .string y] := hk1157; clear hk1157
      have hz1161 := hg1159.size
      refine dr_done (by kernel_rfl) ?_
      refine co_then ?_
      refine wp_ret ?_
      refine co_retC (Q := fun _ _ _ => True) h1155 rfl rfl hk1157' Try.underlying61 rfl (by kernel_rfl) ?_
      have hB1162 := hb_at hB18 hg1159 (by omega)
      exact ⟨rfl, hB1162⟩
 ·
  refine dr_opVal (i := 20) (v := .int .i64 L.next) h38 rfl rfl rfl rfl (by kernel_rfl) rfl (rn_load1 rfl rfl Try.isAgg3 (hk20.cell rfl)) ⟨hB18, hk20⟩ (fun a1163 h1163 => ?_); clear h38
  refine dr_many [3, 7, 12, 16] (by kernel_rfl) (by simp) ⟨?_, ?_, ?_, ?_, trivial⟩
  ·
   refine dr_opVal (i := 3) (v := .int .i64 L.boot) h1163 rfl rfl rfl rfl (by kernel_rfl) rfl (rn_load1 rfl rfl Try.isAgg3 (hk20.cell rfl)) ⟨hB18, hk20⟩ (fun a1164 h1164 => ?_); clear h1163
   refine dr_many [7, 12, 16] (by kernel_rfl) (by simp) ⟨?_, ?_, ?_, trivial⟩
   ·
    refine dr_opVal (i := 7) (v := .int .i64 L.stream) h1164 rfl rfl rfl rfl (by kernel_rfl) rfl (rn_load1 rfl rfl Try.isAgg3 (hk20.cell rfl)) ⟨hB18, hk20⟩ (fun a1165 h1165 => ?_); clear h1164
    refine dr_many [12, 16] (by kernel_rfl) (by simp) ⟨?_, ?_, trivial⟩
    ·
     refine dr_opVal (i := 12) (v := .int .i64 L.peer) h1165 rfl rfl rfl rfl (by kernel_rfl) rfl (rn_load1 rfl rfl Try.isAgg3 (hk20.cell rfl)) ⟨hB18, hk20⟩ (fun a1166 h1166 => ?_); clear h1165
     refine dr_many [16] (by kernel_rfl) (by simp) ⟨?_, trivial⟩
     ·
      refine dr_opVal (i := 16) (v := .int .i64 L.in0) h1166 rfl rfl rfl rfl (by kernel_rfl) rfl (rn_load1 rfl rfl Try.isAgg3 (hk20.cell rfl)) ⟨hB18, hk20⟩ (fun a1167 h1167 => ?_); clear h1166
      refine dk0 23 (v := .agg #[.int .i64 L.boot, .int .i64 L.stream, .int .i64 q, .int .i64 L.peer, .int .i64 L.in0, .int .i64 L.next, .bool h, .string y]) h1167 rfl rfl ⟨hB18, hk20⟩ fun a1168 h1168 => ?_; clear h1167
      have hk1174 := hk5.kept hg10 (by simp)
      refine d1D 24 h1168 rfl rfl (op_storeN rfl rfl rfl (by kernel_rfl) (by kernel_rfl) hk1174 rfl) ?_ ?_; clear h1168
      ·
       rintro _ w1170 ⟨hk1171, hz1172, hg1173⟩
       have hk1171' : Blk w1170 N3 61 #[.int .i64 L.boot, .int .i64 L.stream, .int .i64 q, .int .i64 L.peer, .int .i64 L.in0, .int .i64 L.next, .bool h, .string y] := hk1171; clear hk1171
       have hz1175 := hg1173.size
       have hB1176 := hb_at hB18 hg1173 (by omega)
       have hk1177 := hk20.kept hg1173 (by simp; omega)
       exact ⟨hB1176, hk1177⟩
      rintro _ w1170 a1169 ⟨hk1171, hz1172, hg1173⟩ h1169
      have hk1171' : Blk w1170 N3 61 #[.int .i64 L.boot, .int .i64 L.stream, .int .i64 q, .int .i64 L.peer, .int .i64 L.in0, .int .i64 L.next, .bool h, .string y] := hk1171; clear hk1171
      have hz1175 := hg1173.size
      refine dr_done (by kernel_rfl) ?_
      refine co_then ?_
      refine wp_ret ?_
      refine co_retC (Q := fun _ _ _ => True) h1169 rfl rfl hk1171' Try.underlying61 rfl (by kernel_rfl) ?_
      have hB1176 := hb_at hB18 hg1173 (by omega)
      exact ⟨rfl, hB1176⟩
    ·
     refine dr_opVal (i := 16) (v := .int .i64 L.in0) h1165 rfl rfl rfl rfl (by kernel_rfl) rfl (rn_load1 rfl rfl Try.isAgg3 (hk20.cell rfl)) ⟨hB18, hk20⟩ (fun a1177 h1177 => ?_); clear h1165
     refine dr_many [12] (by kernel_rfl) (by simp) ⟨?_, trivial⟩
     ·
      refine dr_opVal (i := 12) (v := .int .i64 L.peer) h1177 rfl rfl rfl rfl (by kernel_rfl) rfl (rn_load1 rfl rfl Try.isAgg3 (hk20.cell rfl)) ⟨hB18, hk20⟩ (fun a1178 h1178 => ?_); clear h1177
      refine dk0 23 (v := .agg #[.int .i64 L.boot, .int .i64 L.stream, .int .i64 q, .int .i64 L.peer, .int .i64 L.in0, .int .i64 L.next, .bool h, .string y]) h1178 rfl rfl ⟨hB18, hk20⟩ fun a1179 h1179 => ?_; clear h1178
      have hk1185 := hk5.kept hg10 (by simp)
      refine d1D 24 h1179 rfl rfl (op_storeN rfl rfl rfl (by kernel_rfl) (by kernel_rfl) hk1185 rfl) ?_ ?_; clear h1179
      ·
       rintro _ w1181 ⟨hk1182, hz1183, hg1184⟩
       have hk1182' : Blk w1181 N3 61 #[.int .i64 L.boot, .int .i64 L.stream, .int .i64 q, .int .i64 L.peer, .int .i64 L.in0, .int .i64 L.next, .bool h, .string y] := hk1182; clear hk1182
       have hz1186 := hg1184.size
       have hB1187 := hb_at hB18 hg1184 (by omega)
       have hk1188 := hk20.kept hg1184 (by simp; omega)
       exact ⟨hB1187, hk1188⟩
      rintro _ w1181 a1180 ⟨hk1182, hz1183, hg1184⟩ h1180
      have hk1182' : Blk w1181 N3 61 #[.int .i64 L.boot, .int .i64 L.stream, .int .i64 q, .int .i64 L.peer, .int .i64 L.in0, .int .i64 L.next, .bool h, .string y] := hk1182; clear hk1182
      have hz1186 := hg1184.size
      refine dr_done (by kernel_rfl) ?_
      refine co_then ?_
      refine wp_ret ?_
      refine co_retC (Q := fun _ _ _ => True) h1180 rfl rfl hk1182' Try.underlying61 rfl (by kernel_rfl) ?_
      have hB1187 := hb_at hB18 hg1184 (by omega)
      exact ⟨rfl, hB1187⟩
   ·
    refine dr_opVal (i := 12) (v := .int .i64 L.peer) h1164 rfl rfl rfl rfl (by kernel_rfl) rfl (rn_load1 rfl rfl Try.isAgg3 (hk20.cell rfl)) ⟨hB18, hk20⟩ (fun a1188 h1188 => ?_); clear h1164
    refine dr_many [7, 16] (by kernel_rfl) (by simp) ⟨?_, ?_, trivial⟩
    ·
     refine dr_opVal (i := 7) (v := .int .i64 L.stream) h1188 rfl rfl rfl rfl (by kernel_rfl) rfl (rn_load1 rfl rfl Try.isAgg3 (hk20.cell rfl)) ⟨hB18, hk20⟩ (fun a1189 h1189 => ?_); clear h1188
     refine dr_many [16] (by kernel_rfl) (by simp) ⟨?_, trivial⟩
     ·
      refine dr_opVal (i := 16) (v := .int .i64 L.in0) h1189 rfl rfl rfl rfl (by kernel_rfl) rfl (rn_load1 rfl rfl Try.isAgg3 (hk20.cell rfl)) ⟨hB18, hk20⟩ (fun a1190 h1190 => ?_); clear h1189
      refine dk0 23 (v := .agg #[.int .i64 L.boot, .int .i64 L.stream, .int .i64 q, .int .i64 L.peer, .int .i64 L.in0, .int .i64 L.next, .bool h, .string y]) h1190 rfl rfl ⟨hB18, hk20⟩ fun a1191 h1191 => ?_; clear h1190
      have hk1197 := hk5.kept hg10 (by simp)
      refine d1D 24 h1191 rfl rfl (op_storeN rfl rfl rfl (by kernel_rfl) (by kernel_rfl) hk1197 rfl) ?_ ?_; clear h1191
      ·
       rintro _ w1193 ⟨hk1194, hz1195, hg1196⟩
       have hk1194' : Blk w1193 N3 61 #[.int .i64 L.boot, .int .i64 L.stream, .int .i64 q, .int .i64 L.peer, .int .i64 L.in0, .int .i64 L.next, .bool h, .string y] := hk1194; clear hk1194
       have hz1198 := hg1196.size
       have hB1199 := hb_at hB18 hg1196 (by omega)
       have hk1200 := hk20.kept hg1196 (by simp; omega)
       exact ⟨hB1199, hk1200⟩
      rintro _ w1193 a1192 ⟨hk1194, hz1195, hg1196⟩ h1192
      have hk1194' : Blk w1193 N3 61 #[.int .i64 L.boot, .int .i64 L.stream, .int .i64 q, .int .i64 L.peer, .int .i64 L.in0, .int .i64 L.next, .bool h, .string y] := hk1194; clear hk1194
      have hz1198 := hg1196.size
      refine dr_done (by kernel_rfl) ?_
      refine co_then ?_
      refine wp_ret ?_
      refine co_retC (Q := fun _ _ _ => True) h1192 rfl rfl hk1194' Try.underlying61 rfl (by kernel_rfl) ?_
      have hB1199 := hb_at hB18 hg1196 (by omega)
      exact ⟨rfl, hB1199⟩
    ·
     refine dr_opVal (i := 16) (v := .int .i64 L.in0) h1188 rfl rfl rfl rfl (by kernel_rfl) rfl (rn_load1 rfl rfl Try.isAgg3 (hk20.cell rfl)) ⟨hB18, hk20⟩ (fun a1200 h1200 => ?_); clear h1188
     refine dr_many [7] (by kernel_rfl) (by simp) ⟨?_, trivial⟩
     ·
      refine dr_opVal (i := 7) (v := .int .i64 L.stream) h1200 rfl rfl rfl rfl (by kernel_rfl) rfl (rn_load1 rfl rfl Try.isAgg3 (hk20.cell rfl)) ⟨hB18, hk20⟩ (fun a1201 h1201 => ?_); clear h1200
      refine dk0 23 (v := .agg #[.int .i64 L.boot, .int .i64 L.stream, .int .i64 q, .int .i64 L.peer, .int .i64 L.in0, .int .i64 L.next, .bool h, .string y]) h1201 rfl rfl ⟨hB18, hk20⟩ fun a1202 h1202 => ?_; clear h1201
      have hk1208 := hk5.kept hg10 (by simp)
      refine d1D 24 h1202 rfl rfl (op_storeN rfl rfl rfl (by kernel_rfl) (by kernel_rfl) hk1208 rfl) ?_ ?_; clear h1202
      ·
       rintro _ w1204 ⟨hk1205, hz1206, hg1207⟩
       have hk1205' : Blk w1204 N3 61 #[.int .i64 L.boot, .int .i64 L.stream, .int .i64 q, .int .i64 L.peer, .int .i64 L.in0, .int .i64 L.next, .bool h, .string y] := hk1205; clear hk1205
       have hz1209 := hg1207.size
       have hB1210 := hb_at hB18 hg1207 (by omega)
       have hk1211 := hk20.kept hg1207 (by simp; omega)
       exact ⟨hB1210, hk1211⟩
      rintro _ w1204 a1203 ⟨hk1205, hz1206, hg1207⟩ h1203
      have hk1205' : Blk w1204 N3 61 #[.int .i64 L.boot, .int .i64 L.stream, .int .i64 q, .int .i64 L.peer, .int .i64 L.in0, .int .i64 L.next, .bool h, .string y] := hk1205; clear hk1205
      have hz1209 := hg1207.size
      refine dr_done (by kernel_rfl) ?_
      refine co_then ?_
      refine wp_ret ?_
      refine co_retC (Q := fun _ _ _ => True) h1203 rfl rfl hk1205' Try.underlying61 rfl (by kernel_rfl) ?_
      have hB1210 := hb_at hB18 hg1207 (by omega)
      exact ⟨rfl, hB1210⟩
   ·
    refine dr_opVal (i := 16) (v := .int .i64 L.in0) h1164 rfl rfl rfl rfl (by kernel_rfl) rfl (rn_load1 rfl rfl Try.isAgg3 (hk20.cell rfl)) ⟨hB18, hk20⟩ (fun a1211 h1211 => ?_); clear h1164
    refine dr_many [7, 12] (by kernel_rfl) (by simp) ⟨?_, ?_, trivial⟩
    ·
     refine dr_opVal (i := 7) (v := .int .i64 L.stream) h1211 rfl rfl rfl rfl (by kernel_rfl) rfl (rn_load1 rfl rfl Try.isAgg3 (hk20.cell rfl)) ⟨hB18, hk20⟩ (fun a1212 h1212 => ?_); clear h1211
     refine dr_many [12] (by kernel_rfl) (by simp) ⟨?_, trivial⟩
     ·
      refine dr_opVal (i := 12) (v := .int .i64 L.peer) h1212 rfl rfl rfl rfl (by kernel_rfl) rfl (rn_load1 rfl rfl Try.isAgg3 (hk20.cell rfl)) ⟨hB18, hk20⟩ (fun a1213 h1213 => ?_); clear h1212
      refine dk0 23 (v := .agg #[.int .i64 L.boot, .int .i64 L.stream, .int .i64 q, .int .i64 L.peer, .int .i64 L.in0, .int .i64 L.next, .bool h, .string y]) h1213 rfl rfl ⟨hB18, hk20⟩ fun a1214 h1214 => ?_; clear h1213
      have hk1220 := hk5.kept hg10 (by simp)
      refine d1D 24 h1214 rfl rfl (op_storeN rfl rfl rfl (by kernel_rfl) (by kernel_rfl) hk1220 rfl) ?_ ?_; clear h1214
      ·
       rintro _ w1216 ⟨hk1217, hz1218, hg1219⟩
       have hk1217' : Blk w1216 N3 61 #[.int .i64 L.boot, .int .i64 L.stream, .int .i64 q, .int .i64 L.peer, .int .i64 L.in0, .int .i64 L.next, .bool h, .string y] := hk1217; clear hk1217
       have hz1221 := hg1219.size
       have hB1222 := hb_at hB18 hg1219 (by omega)
       have hk1223 := hk20.kept hg1219 (by simp; omega)
       exact ⟨hB1222, hk1223⟩
      rintro _ w1216 a1215 ⟨hk1217, hz1218, hg1219⟩ h1215
      have hk1217' : Blk w1216 N3 61 #[.int .i64 L.boot, .int .i64 L.stream, .int .i64 q, .int .i64 L.peer, .int .i64 L.in0, .int .i64 L.next, .bool h, .string y] := hk1217; clear hk1217
      have hz1221 := hg1219.size
      refine dr_done (by kernel_rfl) ?_
      refine co_then ?_
      refine wp_ret ?_
      refine co_retC (Q := fun _ _ _ => True) h1215 rfl rfl hk1217' Try.underlying61 rfl (by kernel_rfl) ?_
      have hB1222 := hb_at hB18 hg1219 (by omega)
      exact ⟨rfl, hB1222⟩
    ·
     refine dr_opVal (i := 12) (v := .int .i64 L.peer) h1211 rfl rfl rfl rfl (by kernel_rfl) rfl (rn_load1 rfl rfl Try.isAgg3 (hk20.cell rfl)) ⟨hB18, hk20⟩ (fun a1223 h1223 => ?_); clear h1211
     refine dr_many [7] (by kernel_rfl) (by simp) ⟨?_, trivial⟩
     ·
      refine dr_opVal (i := 7) (v := .int .i64 L.stream) h1223 rfl rfl rfl rfl (by kernel_rfl) rfl (rn_load1 rfl rfl Try.isAgg3 (hk20.cell rfl)) ⟨hB18, hk20⟩ (fun a1224 h1224 => ?_); clear h1223
      refine dk0 23 (v := .agg #[.int .i64 L.boot, .int .i64 L.stream, .int .i64 q, .int .i64 L.peer, .int .i64 L.in0, .int .i64 L.next, .bool h, .string y]) h1224 rfl rfl ⟨hB18, hk20⟩ fun a1225 h1225 => ?_; clear h1224
      have hk1231 := hk5.kept hg10 (by simp)
      refine d1D 24 h1225 rfl rfl (op_storeN rfl rfl rfl (by kernel_rfl) (by kernel_rfl) hk1231 rfl) ?_ ?_; clear h1225
      ·
       rintro _ w1227 ⟨hk1228, hz1229, hg1230⟩
       have hk1228' : Blk w1227 N3 61 #[.int .i64 L.boot, .int .i64 L.stream, .int .i64 q, .int .i64 L.peer, .int .i64 L.in0, .int .i64 L.next, .bool h, .string y] := hk1228; clear hk1228
       have hz1232 := hg1230.size
       have hB1233 := hb_at hB18 hg1230 (by omega)
       have hk1234 := hk20.kept hg1230 (by simp; omega)
       exact ⟨hB1233, hk1234⟩
      rintro _ w1227 a1226 ⟨hk1228, hz1229, hg1230⟩ h1226
      have hk1228' : Blk w1227 N3 61 #[.int .i64 L.boot, .int .i64 L.stream, .int .i64 q, .int .i64 L.peer, .int .i64 L.in0, .int .i64 L.next, .bool h, .string y] := hk1228; clear hk1228
      have hz1232 := hg1230.size
      refine dr_done (by kernel_rfl) ?_
      refine co_then ?_
      refine wp_ret ?_
      refine co_retC (Q := fun _ _ _ => True) h1226 rfl rfl hk1228' Try.underlying61 rfl (by kernel_rfl) ?_
      have hB1233 := hb_at hB18 hg1230 (by omega)
      exact ⟨rfl, hB1233⟩
  ·
   refine dr_opVal (i := 7) (v := .int .i64 L.stream) h1163 rfl rfl rfl rfl (by kernel_rfl) rfl (rn_load1 rfl rfl Try.isAgg3 (hk20.cell rfl)) ⟨hB18, hk20⟩ (fun a1234 h1234 => ?_); clear h1163
   refine dr_many [3, 12, 16] (by kernel_rfl) (by simp) ⟨?_, ?_, ?_, trivial⟩
   ·
    refine dr_opVal (i := 3) (v := .int .i64 L.boot) h1234 rfl rfl rfl rfl (by kernel_rfl) rfl (rn_load1 rfl rfl Try.isAgg3 (hk20.cell rfl)) ⟨hB18, hk20⟩ (fun a1235 h1235 => ?_); clear h1234
    refine dr_many [12, 16] (by kernel_rfl) (by simp) ⟨?_, ?_, trivial⟩
    ·
     refine dr_opVal (i := 12) (v := .int .i64 L.peer) h1235 rfl rfl rfl rfl (by kernel_rfl) rfl (rn_load1 rfl rfl Try.isAgg3 (hk20.cell rfl)) ⟨hB18, hk20⟩ (fun a1236 h1236 => ?_); clear h1235
     refine dr_many [16] (by kernel_rfl) (by simp) ⟨?_, trivial⟩
     ·
      refine dr_opVal (i := 16) (v := .int .i64 L.in0) h1236 rfl rfl rfl rfl (by kernel_rfl) rfl (rn_load1 rfl rfl Try.isAgg3 (hk20.cell rfl)) ⟨hB18, hk20⟩ (fun a1237 h1237 => ?_); clear h1236
      refine dk0 23 (v := .agg #[.int .i64 L.boot, .int .i64 L.stream, .int .i64 q, .int .i64 L.peer, .int .i64 L.in0, .int .i64 L.next, .bool h, .string y]) h1237 rfl rfl ⟨hB18, hk20⟩ fun a1238 h1238 => ?_; clear h1237
      have hk1244 := hk5.kept hg10 (by simp)
      refine d1D 24 h1238 rfl rfl (op_storeN rfl rfl rfl (by kernel_rfl) (by kernel_rfl) hk1244 rfl) ?_ ?_; clear h1238
      ·
       rintro _ w1240 ⟨hk1241, hz1242, hg1243⟩
       have hk1241' : Blk w1240 N3 61 #[.int .i64 L.boot, .int .i64 L.stream, .int .i64 q, .int .i64 L.peer, .int .i64 L.in0, .int .i64 L.next, .bool h, .string y] := hk1241; clear hk1241
       have hz1245 := hg1243.size
       have hB1246 := hb_at hB18 hg1243 (by omega)
       have hk1247 := hk20.kept hg1243 (by simp; omega)
       exact ⟨hB1246, hk1247⟩
      rintro _ w1240 a1239 ⟨hk1241, hz1242, hg1243⟩ h1239
      have hk1241' : Blk w1240 N3 61 #[.int .i64 L.boot, .int .i64 L.stream, .int .i64 q, .int .i64 L.peer, .int .i64 L.in0, .int .i64 L.next, .bool h, .string y] := hk1241; clear hk1241
      have hz1245 := hg1243.size
      refine dr_done (by kernel_rfl) ?_
      refine co_then ?_
      refine wp_ret ?_
      refine co_retC (Q := fun _ _ _ => True) h1239 rfl rfl hk1241' Try.underlying61 rfl (by kernel_rfl) ?_
      have hB1246 := hb_at hB18 hg1243 (by omega)
      exact ⟨rfl, hB1246⟩
    ·
     refine dr_opVal (i := 16) (v := .int .i64 L.in0) h1235 rfl rfl rfl rfl (by kernel_rfl) rfl (rn_load1 rfl rfl Try.isAgg3 (hk20.cell rfl)) ⟨hB18, hk20⟩ (fun a1247 h1247 => ?_); clear h1235
     refine dr_many [12] (by kernel_rfl) (by simp) ⟨?_, trivial⟩
     ·
      refine dr_opVal (i := 12) (v := .int .i64 L.peer) h1247 rfl rfl rfl rfl (by kernel_rfl) rfl (rn_load1 rfl rfl Try.isAgg3 (hk20.cell rfl)) ⟨hB18, hk20⟩ (fun a1248 h1248 => ?_); clear h1247
      refine dk0 23 (v := .agg #[.int .i64 L.boot, .int .i64 L.stream, .int .i64 q, .int .i64 L.peer, .int .i64 L.in0, .int .i64 L.next, .bool h, .string y]) h1248 rfl rfl ⟨hB18, hk20⟩ fun a1249 h1249 => ?_; clear h1248
      have hk1255 := hk5.kept hg10 (by simp)
      refine d1D 24 h1249 rfl rfl (op_storeN rfl rfl rfl (by kernel_rfl) (by kernel_rfl) hk1255 rfl) ?_ ?_; clear h1249
      ·
       rintro _ w1251 ⟨hk1252, hz1253, hg1254⟩
       have hk1252' : Blk w1251 N3 61 #[.int .i64 L.boot, .int .i64 L.stream, .int .i64 q, .int .i64 L.peer, .int .i64 L.in0, .int .i64 L.next, .bool h, .string y] := hk1252; clear hk1252
       have hz1256 := hg1254.size
       have hB1257 := hb_at hB18 hg1254 (by omega)
       have hk1258 := hk20.kept hg1254 (by simp; omega)
       exact ⟨hB1257, hk1258⟩
      rintro _ w1251 a1250 ⟨hk1252, hz1253, hg1254⟩ h1250
      have hk1252' : Blk w1251 N3 61 #[.int .i64 L.boot, .int .i64 L.stream, .int .i64 q, .int .i64 L.peer, .int .i64 L.in0, .int .i64 L.next, .bool h, .string y] := hk1252; clear hk1252
      have hz1256 := hg1254.size
      refine dr_done (by kernel_rfl) ?_
      refine co_then ?_
      refine wp_ret ?_
      refine co_retC (Q := fun _ _ _ => True) h1250 rfl rfl hk1252' Try.underlying61 rfl (by kernel_rfl) ?_
      have hB1257 := hb_at hB18 hg1254 (by omega)
      exact ⟨rfl, hB1257⟩
   ·
    refine dr_opVal (i := 12) (v := .int .i64 L.peer) h1234 rfl rfl rfl rfl (by kernel_rfl) rfl (rn_load1 rfl rfl Try.isAgg3 (hk20.cell rfl)) ⟨hB18, hk20⟩ (fun a1258 h1258 => ?_); clear h1234
    refine dr_many [3, 16] (by kernel_rfl) (by simp) ⟨?_, ?_, trivial⟩
    ·
     refine dr_opVal (i := 3) (v := .int .i64 L.boot) h1258 rfl rfl rfl rfl (by kernel_rfl) rfl (rn_load1 rfl rfl Try.isAgg3 (hk20.cell rfl)) ⟨hB18, hk20⟩ (fun a1259 h1259 => ?_); clear h1258
     refine dr_many [16] (by kernel_rfl) (by simp) ⟨?_, trivial⟩
     ·
      refine dr_opVal (i := 16) (v := .int .i64 L.in0) h1259 rfl rfl rfl rfl (by kernel_rfl) rfl (rn_load1 rfl rfl Try.isAgg3 (hk20.cell rfl)) ⟨hB18, hk20⟩ (fun a1260 h1260 => ?_); clear h1259
      refine dk0 23 (v := .agg #[.int .i64 L.boot, .int .i64 L.stream, .int .i64 q, .int .i64 L.peer, .int .i64 L.in0, .int .i64 L.next, .bool h, .string y]) h1260 rfl rfl ⟨hB18, hk20⟩ fun a1261 h1261 => ?_; clear h1260
      have hk1267 := hk5.kept hg10 (by simp)
      refine d1D 24 h1261 rfl rfl (op_storeN rfl rfl rfl (by kernel_rfl) (by kernel_rfl) hk1267 rfl) ?_ ?_; clear h1261
      ·
       rintro _ w1263 ⟨hk1264, hz1265, hg1266⟩
       have hk1264' : Blk w1263 N3 61 #[.int .i64 L.boot, .int .i64 L.stream, .int .i64 q, .int .i64 L.peer, .int .i64 L.in0, .int .i64 L.next, .bool h, .string y] := hk1264; clear hk1264
       have hz1268 := hg1266.size
       have hB1269 := hb_at hB18 hg1266 (by omega)
       have hk1270 := hk20.kept hg1266 (by simp; omega)
       exact ⟨hB1269, hk1270⟩
      rintro _ w1263 a1262 ⟨hk1264, hz1265, hg1266⟩ h1262
      have hk1264' : Blk w1263 N3 61 #[.int .i64 L.boot, .int .i64 L.stream, .int .i64 q, .int .i64 L.peer, .int .i64 L.in0, .int .i64 L.next, .bool h, .string y] := hk1264; clear hk1264
      have hz1268 := hg1266.size
      refine dr_done (by kernel_rfl) ?_
      refine co_then ?_
      refine wp_ret ?_
      refine co_retC (Q := fun _ _ _ => True) h1262 rfl rfl hk1264' Try.underlying61 rfl (by kernel_rfl) ?_
      have hB1269 := hb_at hB18 hg1266 (by omega)
      exact ⟨rfl, hB1269⟩
    ·
     refine dr_opVal (i := 16) (v := .int .i64 L.in0) h1258 rfl rfl rfl rfl (by kernel_rfl) rfl (rn_load1 rfl rfl Try.isAgg3 (hk20.cell rfl)) ⟨hB18, hk20⟩ (fun a1270 h1270 => ?_); clear h1258
     refine dr_many [3] (by kernel_rfl) (by simp) ⟨?_, trivial⟩
     ·
      refine dr_opVal (i := 3) (v := .int .i64 L.boot) h1270 rfl rfl rfl rfl (by kernel_rfl) rfl (rn_load1 rfl rfl Try.isAgg3 (hk20.cell rfl)) ⟨hB18, hk20⟩ (fun a1271 h1271 => ?_); clear h1270
      refine dk0 23 (v := .agg #[.int .i64 L.boot, .int .i64 L.stream, .int .i64 q, .int .i64 L.peer, .int .i64 L.in0, .int .i64 L.next, .bool h, .string y]) h1271 rfl rfl ⟨hB18, hk20⟩ fun a1272 h1272 => ?_; clear h1271
      have hk1278 := hk5.kept hg10 (by simp)
      refine d1D 24 h1272 rfl rfl (op_storeN rfl rfl rfl (by kernel_rfl) (by kernel_rfl) hk1278 rfl) ?_ ?_; clear h1272
      ·
       rintro _ w1274 ⟨hk1275, hz1276, hg1277⟩
       have hk1275' : Blk w1274 N3 61 #[.int .i64 L.boot, .int .i64 L.stream, .int .i64 q, .int .i64 L.peer, .int .i64 L.in0, .int .i64 L.next, .bool h, .string y] := hk1275; clear hk1275
       have hz1279 := hg1277.size
       have hB1280 := hb_at hB18 hg1277 (by omega)
       have hk1281 := hk20.kept hg1277 (by simp; omega)
       exact ⟨hB1280, hk1281⟩
      rintro _ w1274 a1273 ⟨hk1275, hz1276, hg1277⟩ h1273
      have hk1275' : Blk w1274 N3 61 #[.int .i64 L.boot, .int .i64 L.stream, .int .i64 q, .int .i64 L.peer, .int .i64 L.in0, .int .i64 L.next, .bool h, .string y] := hk1275; clear hk1275
      have hz1279 := hg1277.size
      refine dr_done (by kernel_rfl) ?_
      refine co_then ?_
      refine wp_ret ?_
      refine co_retC (Q := fun _ _ _ => True) h1273 rfl rfl hk1275' Try.underlying61 rfl (by kernel_rfl) ?_
      have hB1280 := hb_at hB18 hg1277 (by omega)
      exact ⟨rfl, hB1280⟩
   ·
    refine dr_opVal (i := 16) (v := .int .i64 L.in0) h1234 rfl rfl rfl rfl (by kernel_rfl) rfl (rn_load1 rfl rfl Try.isAgg3 (hk20.cell rfl)) ⟨hB18, hk20⟩ (fun a1281 h1281 => ?_); clear h1234
    refine dr_many [3, 12] (by kernel_rfl) (by simp) ⟨?_, ?_, trivial⟩
    ·
     refine dr_opVal (i := 3) (v := .int .i64 L.boot) h1281 rfl rfl rfl rfl (by kernel_rfl) rfl (rn_load1 rfl rfl Try.isAgg3 (hk20.cell rfl)) ⟨hB18, hk20⟩ (fun a1282 h1282 => ?_); clear h1281
     refine dr_many [12] (by kernel_rfl) (by simp) ⟨?_, trivial⟩
     ·
      refine dr_opVal (i := 12) (v := .int .i64 L.peer) h1282 rfl rfl rfl rfl (by kernel_rfl) rfl (rn_load1 rfl rfl Try.isAgg3 (hk20.cell rfl)) ⟨hB18, hk20⟩ (fun a1283 h1283 => ?_); clear h1282
      refine dk0 23 (v := .agg #[.int .i64 L.boot, .int .i64 L.stream, .int .i64 q, .int .i64 L.peer, .int .i64 L.in0, .int .i64 L.next, .bool h, .string y]) h1283 rfl rfl ⟨hB18, hk20⟩ fun a1284 h1284 => ?_; clear h1283
      have hk1290 := hk5.kept hg10 (by simp)
      refine d1D 24 h1284 rfl rfl (op_storeN rfl rfl rfl (by kernel_rfl) (by kernel_rfl) hk1290 rfl) ?_ ?_; clear h1284
      ·
       rintro _ w1286 ⟨hk1287, hz1288, hg1289⟩
       have hk1287' : Blk w1286 N3 61 #[.int .i64 L.boot, .int .i64 L.stream, .int .i64 q, .int .i64 L.peer, .int .i64 L.in0, .int .i64 L.next, .bool h, .string y] := hk1287; clear hk1287
       have hz1291 := hg1289.size
       have hB1292 := hb_at hB18 hg1289 (by omega)
       have hk1293 := hk20.kept hg1289 (by simp; omega)
       exact ⟨hB1292, hk1293⟩
      rintro _ w1286 a1285 ⟨hk1287, hz1288, hg1289⟩ h1285
      have hk1287' : Blk w1286 N3 61 #[.int .i64 L.boot, .int .i64 L.stream, .int .i64 q, .int .i64 L.peer, .int .i64 L.in0, .int .i64 L.next, .bool h, .string y] := hk1287; clear hk1287
      have hz1291 := hg1289.size
      refine dr_done (by kernel_rfl) ?_
      refine co_then ?_
      refine wp_ret ?_
      refine co_retC (Q := fun _ _ _ => True) h1285 rfl rfl hk1287' Try.underlying61 rfl (by kernel_rfl) ?_
      have hB1292 := hb_at hB18 hg1289 (by omega)
      exact ⟨rfl, hB1292⟩
    ·
     refine dr_opVal (i := 12) (v := .int .i64 L.peer) h1281 rfl rfl rfl rfl (by kernel_rfl) rfl (rn_load1 rfl rfl Try.isAgg3 (hk20.cell rfl)) ⟨hB18, hk20⟩ (fun a1293 h1293 => ?_); clear h1281
     refine dr_many [3] (by kernel_rfl) (by simp) ⟨?_, trivial⟩
     ·
      refine dr_opVal (i := 3) (v := .int .i64 L.boot) h1293 rfl rfl rfl rfl (by kernel_rfl) rfl (rn_load1 rfl rfl Try.isAgg3 (hk20.cell rfl)) ⟨hB18, hk20⟩ (fun a1294 h1294 => ?_); clear h1293
      refine dk0 23 (v := .agg #[.int .i64 L.boot, .int .i64 L.stream, .int .i64 q, .int .i64 L.peer, .int .i64 L.in0, .int .i64 L.next, .bool h, .string y]) h1294 rfl rfl ⟨hB18, hk20⟩ fun a1295 h1295 => ?_; clear h1294
      have hk1301 := hk5.kept hg10 (by simp)
      refine d1D 24 h1295 rfl rfl (op_storeN rfl rfl rfl (by kernel_rfl) (by kernel_rfl) hk1301 rfl) ?_ ?_; clear h1295
      ·
       rintro _ w1297 ⟨hk1298, hz1299, hg1300⟩
       have hk1298' : Blk w1297 N3 61 #[.int .i64 L.boot, .int .i64 L.stream, .int .i64 q, .int .i64 L.peer, .int .i64 L.in0, .int .i64 L.next, .bool h, .string y] := hk1298; clear hk1298
       have hz1302 := hg1300.size
       have hB1303 := hb_at hB18 hg1300 (by omega)
       have hk1304 := hk20.kept hg1300 (by simp; omega)
       exact ⟨hB1303, hk1304⟩
      rintro _ w1297 a1296 ⟨hk1298, hz1299, hg1300⟩ h1296
      have hk1298' : Blk w1297 N3 61 #[.int .i64 L.boot, .int .i64 L.stream, .int .i64 q, .int .i64 L.peer, .int .i64 L.in0, .int .i64 L.next, .bool h, .string y] := hk1298; clear hk1298
      have hz1302 := hg1300.size
      refine dr_done (by kernel_rfl) ?_
      refine co_then ?_
      refine wp_ret ?_
      refine co_retC (Q := fun _ _ _ => True) h1296 rfl rfl hk1298' Try.underlying61 rfl (by kernel_rfl) ?_
      have hB1303 := hb_at hB18 hg1300 (by omega)
      exact ⟨rfl, hB1303⟩
  ·
   refine dr_opVal (i := 12) (v := .int .i64 L.peer) h1163 rfl rfl rfl rfl (by kernel_rfl) rfl (rn_load1 rfl rfl Try.isAgg3 (hk20.cell rfl)) ⟨hB18, hk20⟩ (fun a1304 h1304 => ?_); clear h1163
   refine dr_many [3, 7, 16] (by kernel_rfl) (by simp) ⟨?_, ?_, ?_, trivial⟩
   ·
    refine dr_opVal (i := 3) (v := .int .i64 L.boot) h1304 rfl rfl rfl rfl (by kernel_rfl) rfl (rn_load1 rfl rfl Try.isAgg3 (hk20.cell rfl)) ⟨hB18, hk20⟩ (fun a1305 h1305 => ?_); clear h1304
    refine dr_many [7, 16] (by kernel_rfl) (by simp) ⟨?_, ?_, trivial⟩
    ·
     refine dr_opVal (i := 7) (v := .int .i64 L.stream) h1305 rfl rfl rfl rfl (by kernel_rfl) rfl (rn_load1 rfl rfl Try.isAgg3 (hk20.cell rfl)) ⟨hB18, hk20⟩ (fun a1306 h1306 => ?_); clear h1305
     refine dr_many [16] (by kernel_rfl) (by simp) ⟨?_, trivial⟩
     ·
      refine dr_opVal (i := 16) (v := .int .i64 L.in0) h1306 rfl rfl rfl rfl (by kernel_rfl) rfl (rn_load1 rfl rfl Try.isAgg3 (hk20.cell rfl)) ⟨hB18, hk20⟩ (fun a1307 h1307 => ?_); clear h1306
      refine dk0 23 (v := .agg #[.int .i64 L.boot, .int .i64 L.stream, .int .i64 q, .int .i64 L.peer, .int .i64 L.in0, .int .i64 L.next, .bool h, .string y]) h1307 rfl rfl ⟨hB18, hk20⟩ fun a1308 h1308 => ?_; clear h1307
      have hk1314 := hk5.kept hg10 (by simp)
      refine d1D 24 h1308 rfl rfl (op_storeN rfl rfl rfl (by kernel_rfl) (by kernel_rfl) hk1314 rfl) ?_ ?_; clear h1308
      ·
       rintro _ w1310 ⟨hk1311, hz1312, hg1313⟩
       have hk1311' : Blk w1310 N3 61 #[.int .i64 L.boot, .int .i64 L.stream, .int .i64 q, .int .i64 L.peer, .int .i64 L.in0, .int .i64 L.next, .bool h, .string y] := hk1311; clear hk1311
       have hz1315 := hg1313.size
       have hB1316 := hb_at hB18 hg1313 (by omega)
       have hk1317 := hk20.kept hg1313 (by simp; omega)
       exact ⟨hB1316, hk1317⟩
      rintro _ w1310 a1309 ⟨hk1311, hz1312, hg1313⟩ h1309
      have hk1311' : Blk w1310 N3 61 #[.int .i64 L.boot, .int .i64 L.stream, .int .i64 q, .int .i64 L.peer, .int .i64 L.in0, .int .i64 L.next, .bool h, .string y] := hk1311; clear hk1311
      have hz1315 := hg1313.size
      refine dr_done (by kernel_rfl) ?_
      refine co_then ?_
      refine wp_ret ?_
      refine co_retC (Q := fun _ _ _ => True) h1309 rfl rfl hk1311' Try.underlying61 rfl (by kernel_rfl) ?_
      have hB1316 := hb_at hB18 hg1313 (by omega)
      exact ⟨rfl, hB1316⟩
    ·
     refine dr_opVal (i := 16) (v := .int .i64 L.in0) h1305 rfl rfl rfl rfl (by kernel_rfl) rfl (rn_load1 rfl rfl Try.isAgg3 (hk20.cell rfl)) ⟨hB18, hk20⟩ (fun a1317 h1317 => ?_); clear h1305
     refine dr_many [7] (by kernel_rfl) (by simp) ⟨?_, trivial⟩
     ·
      refine dr_opVal (i := 7) (v := .int .i64 L.stream) h1317 rfl rfl rfl rfl (by kernel_rfl) rfl (rn_load1 rfl rfl Try.isAgg3 (hk20.cell rfl)) ⟨hB18, hk20⟩ (fun a1318 h1318 => ?_); clear h1317
      refine dk0 23 (v := .agg #[.int .i64 L.boot, .int .i64 L.stream, .int .i64 q, .int .i64 L.peer, .int .i64 L.in0, .int .i64 L.next, .bool h, .string y]) h1318 rfl rfl ⟨hB18, hk20⟩ fun a1319 h1319 => ?_; clear h1318
      have hk1325 := hk5.kept hg10 (by simp)
      refine d1D 24 h1319 rfl rfl (op_storeN rfl rfl rfl (by kernel_rfl) (by kernel_rfl) hk1325 rfl) ?_ ?_; clear h1319
      ·
       rintro _ w1321 ⟨hk1322, hz1323, hg1324⟩
       have hk1322' : Blk w1321 N3 61 #[.int .i64 L.boot, .int .i64 L.stream, .int .i64 q, .int .i64 L.peer, .int .i64 L.in0, .int .i64 L.next, .bool h, .string y] := hk1322; clear hk1322
       have hz1326 := hg1324.size
       have hB1327 := hb_at hB18 hg1324 (by omega)
       have hk1328 := hk20.kept hg1324 (by simp; omega)
       exact ⟨hB1327, hk1328⟩
      rintro _ w1321 a1320 ⟨hk1322, hz1323, hg1324⟩ h1320
      have hk1322' : Blk w1321 N3 61 #[.int .i64 L.boot, .int .i64 L.stream, .int .i64 q, .int .i64 L.peer, .int .i64 L.in0, .int .i64 L.next, .bool h, .string y] := hk1322; clear hk1322
      have hz1326 := hg1324.size
      refine dr_done (by kernel_rfl) ?_
      refine co_then ?_
      refine wp_ret ?_
      refine co_retC (Q := fun _ _ _ => True) h1320 rfl rfl hk1322' Try.underlying61 rfl (by kernel_rfl) ?_
      have hB1327 := hb_at hB18 hg1324 (by omega)
      exact ⟨rfl, hB1327⟩
   ·
    refine dr_opVal (i := 7) (v := .int .i64 L.stream) h1304 rfl rfl rfl rfl (by kernel_rfl) rfl (rn_load1 rfl rfl Try.isAgg3 (hk20.cell rfl)) ⟨hB18, hk20⟩ (fun a1328 h1328 => ?_); clear h1304
    refine dr_many [3, 16] (by kernel_rfl) (by simp) ⟨?_, ?_, trivial⟩
    ·
     refine dr_opVal (i := 3) (v := .int .i64 L.boot) h1328 rfl rfl rfl rfl (by kernel_rfl) rfl (rn_load1 rfl rfl Try.isAgg3 (hk20.cell rfl)) ⟨hB18, hk20⟩ (fun a1329 h1329 => ?_); clear h1328
     refine dr_many [16] (by kernel_rfl) (by simp) ⟨?_, trivial⟩
     ·
      refine dr_opVal (i := 16) (v := .int .i64 L.in0) h1329 rfl rfl rfl rfl (by kernel_rfl) rfl (rn_load1 rfl rfl Try.isAgg3 (hk20.cell rfl)) ⟨hB18, hk20⟩ (fun a1330 h1330 => ?_); clear h1329
      refine dk0 23 (v := .agg #[.int .i64 L.boot, .int .i64 L.stream, .int .i64 q, .int .i64 L.peer, .int .i64 L.in0, .int .i64 L.next, .bool h, .string y]) h1330 rfl rfl ⟨hB18, hk20⟩ fun a1331 h1331 => ?_; clear h1330
      have hk1337 := hk5.kept hg10 (by simp)
      refine d1D 24 h1331 rfl rfl (op_storeN rfl rfl rfl (by kernel_rfl) (by kernel_rfl) hk1337 rfl) ?_ ?_; clear h1331
      ·
       rintro _ w1333 ⟨hk1334, hz1335, hg1336⟩
       have hk1334' : Blk w1333 N3 61 #[.int .i64 L.boot, .int .i64 L.stream, .int .i64 q, .int .i64 L.peer, .int .i64 L.in0, .int .i64 L.next, .bool h, .string y] := hk1334; clear hk1334
       have hz1338 := hg1336.size
       have hB1339 := hb_at hB18 hg1336 (by omega)
       have hk1340 := hk20.kept hg1336 (by simp; omega)
       exact ⟨hB1339, hk1340⟩
      rintro _ w1333 a1332 ⟨hk1334, hz1335, hg1336⟩ h1332
      have hk1334' : Blk w1333 N3 61 #[.int .i64 L.boot, .int .i64 L.stream, .int .i64 q, .int .i64 L.peer, .int .i64 L.in0, .int .i64 L.next, .bool h, .string y] := hk1334; clear hk1334
      have hz1338 := hg1336.size
      refine dr_done (by kernel_rfl) ?_
      refine co_then ?_
      refine wp_ret ?_
      refine co_retC (Q := fun _ _ _ => True) h1332 rfl rfl hk1334' Try.underlying61 rfl (by kernel_rfl) ?_
      have hB1339 := hb_at hB18 hg1336 (by omega)
      exact ⟨rfl, hB1339⟩
    ·
     refine dr_opVal (i := 16) (v := .int .i64 L.in0) h1328 rfl rfl rfl rfl (by kernel_rfl) rfl (rn_load1 rfl rfl Try.isAgg3 (hk20.cell rfl)) ⟨hB18, hk20⟩ (fun a1340 h1340 => ?_); clear h1328
     refine dr_many [3] (by kernel_rfl) (by simp) ⟨?_, trivial⟩
     ·
      refine dr_opVal (i := 3) (v := .int .i64 L.boot) h1340 rfl rfl rfl rfl (by kernel_rfl) rfl (rn_load1 rfl rfl Try.isAgg3 (hk20.cell rfl)) ⟨hB18, hk20⟩ (fun a1341 h1341 => ?_); clear h1340
      refine dk0 23 (v := .agg #[.int .i64 L.boot, .int .i64 L.stream, .int .i64 q, .int .i64 L.peer, .int .i64 L.in0, .int .i64 L.next, .bool h, .string y]) h1341 rfl rfl ⟨hB18, hk20⟩ fun a1342 h1342 => ?_; clear h1341
      have hk1348 := hk5.kept hg10 (by simp)
      refine d1D 24 h1342 rfl rfl (op_storeN rfl rfl rfl (by kernel_rfl) (by kernel_rfl) hk1348 rfl) ?_ ?_; clear h1342
      ·
       rintro _ w1344 ⟨hk1345, hz1346, hg1347⟩
       have hk1345' : Blk w1344 N3 61 #[.int .i64 L.boot, .int .i64 L.stream, .int .i64 q, .int .i64 L.peer, .int .i64 L.in0, .int .i64 L.next, .bool h, .string y] := hk1345; clear hk1345
       have hz1349 := hg1347.size
       have hB1350 := hb_at hB18 hg1347 (by omega)
       have hk1351 := hk20.kept hg1347 (by simp; omega)
       exact ⟨hB1350, hk1351⟩
      rintro _ w1344 a1343 ⟨hk1345, hz1346, hg1347⟩ h1343
      have hk1345' : Blk w1344 N3 61 #[.int .i64 L.boot, .int .i64 L.stream, .int .i64 q, .int .i64 L.peer, .int .i64 L.in0, .int .i64 L.next, .bool h, .string y] := hk1345; clear hk1345
      have hz1349 := hg1347.size
      refine dr_done (by kernel_rfl) ?_
      refine co_then ?_
      refine wp_ret ?_
      refine co_retC (Q := fun _ _ _ => True) h1343 rfl rfl hk1345' Try.underlying61 rfl (by kernel_rfl) ?_
      have hB1350 := hb_at hB18 hg1347 (by omega)
      exact ⟨rfl, hB1350⟩
   ·
    refine dr_opVal (i := 16) (v := .int .i64 L.in0) h1304 rfl rfl rfl rfl (by kernel_rfl) rfl (rn_load1 rfl rfl Try.isAgg3 (hk20.cell rfl)) ⟨hB18, hk20⟩ (fun a1351 h1351 => ?_); clear h1304
    refine dr_many [3, 7] (by kernel_rfl) (by simp) ⟨?_, ?_, trivial⟩
    ·
     refine dr_opVal (i := 3) (v := .int .i64 L.boot) h1351 rfl rfl rfl rfl (by kernel_rfl) rfl (rn_load1 rfl rfl Try.isAgg3 (hk20.cell rfl)) ⟨hB18, hk20⟩ (fun a1352 h1352 => ?_); clear h1351
     refine dr_many [7] (by kernel_rfl) (by simp) ⟨?_, trivial⟩
     ·
      refine dr_opVal (i := 7) (v := .int .i64 L.stream) h1352 rfl rfl rfl rfl (by kernel_rfl) rfl (rn_load1 rfl rfl Try.isAgg3 (hk20.cell rfl)) ⟨hB18, hk20⟩ (fun a1353 h1353 => ?_); clear h1352
      refine dk0 23 (v := .agg #[.int .i64 L.boot, .int .i64 L.stream, .int .i64 q, .int .i64 L.peer, .int .i64 L.in0, .int .i64 L.next, .bool h, .string y]) h1353 rfl rfl ⟨hB18, hk20⟩ fun a1354 h1354 => ?_; clear h1353
      have hk1360 := hk5.kept hg10 (by simp)
      refine d1D 24 h1354 rfl rfl (op_storeN rfl rfl rfl (by kernel_rfl) (by kernel_rfl) hk1360 rfl) ?_ ?_; clear h1354
      ·
       rintro _ w1356 ⟨hk1357, hz1358, hg1359⟩
       have hk1357' : Blk w1356 N3 61 #[.int .i64 L.boot, .int .i64 L.stream, .int .i64 q, .int .i64 L.peer, .int .i64 L.in0, .int .i64 L.next, .bool h, .string y] := hk1357; clear hk1357
       have hz1361 := hg1359.size
       have hB1362 := hb_at hB18 hg1359 (by omega)
       have hk1363 := hk20.kept hg1359 (by simp; omega)
       exact ⟨hB1362, hk1363⟩
      rintro _ w1356 a1355 ⟨hk1357, hz1358, hg1359⟩ h1355
      have hk1357' : Blk w1356 N3 61 #[.int .i64 L.boot, .int .i64 L.stream, .int .i64 q, .int .i64 L.peer, .int .i64 L.in0, .int .i64 L.next, .bool h, .string y] := hk1357; clear hk1357
      have hz1361 := hg1359.size
      refine dr_done (by kernel_rfl) ?_
      refine co_then ?_
      refine wp_ret ?_
      refine co_retC (Q := fun _ _ _ => True) h1355 rfl rfl hk1357' Try.underlying61 rfl (by kernel_rfl) ?_
      have hB1362 := hb_at hB18 hg1359 (by omega)
      exact ⟨rfl, hB1362⟩
    ·
     refine dr_opVal (i := 7) (v := .int .i64 L.stream) h1351 rfl rfl rfl rfl (by kernel_rfl) rfl (rn_load1 rfl rfl Try.isAgg3 (hk20.cell rfl)) ⟨hB18, hk20⟩ (fun a1363 h1363 => ?_); clear h1351
     refine dr_many [3] (by kernel_rfl) (by simp) ⟨?_, trivial⟩
     ·
      refine dr_opVal (i := 3) (v := .int .i64 L.boot) h1363 rfl rfl rfl rfl (by kernel_rfl) rfl (rn_load1 rfl rfl Try.isAgg3 (hk20.cell rfl)) ⟨hB18, hk20⟩ (fun a1364 h1364 => ?_); clear h1363
      refine dk0 23 (v := .agg #[.int .i64 L.boot, .int .i64 L.stream, .int .i64 q, .int .i64 L.peer, .int .i64 L.in0, .int .i64 L.next, .bool h, .string y]) h1364 rfl rfl ⟨hB18, hk20⟩ fun a1365 h1365 => ?_; clear h1364
      have hk1371 := hk5.kept hg10 (by simp)
      refine d1D 24 h1365 rfl rfl (op_storeN rfl rfl rfl (by kernel_rfl) (by kernel_rfl) hk1371 rfl) ?_ ?_; clear h1365
      ·
       rintro _ w1367 ⟨hk1368, hz1369, hg1370⟩
       have hk1368' : Blk w1367 N3 61 #[.int .i64 L.boot, .int .i64 L.stream, .int .i64 q, .int .i64 L.peer, .int .i64 L.in0, .int .i64 L.next, .bool h, .string y] := hk1368; clear hk1368
       have hz1372 := hg1370.size
       have hB1373 := hb_at hB18 hg1370 (by omega)
       have hk1374 := hk20.kept hg1370 (by simp; omega)
       exact ⟨hB1373, hk1374⟩
      rintro _ w1367 a1366 ⟨hk1368, hz1369, hg1370⟩ h1366
      have hk1368' : Blk w1367 N3 61 #[.int .i64 L.boot, .int .i64 L.stream, .int .i64 q, .int .i64 L.peer, .int .i64 L.in0, .int .i64 L.next, .bool h, .string y] := hk1368; clear hk1368
      have hz1372 := hg1370.size
      refine dr_done (by kernel_rfl) ?_
      refine co_then ?_
      refine wp_ret ?_
      refine co_retC (Q := fun _ _ _ => True) h1366 rfl rfl hk1368' Try.underlying61 rfl (by kernel_rfl) ?_
      have hB1373 := hb_at hB18 hg1370 (by omega)
      exact ⟨rfl, hB1373⟩
  ·
   refine dr_opVal (i := 16) (v := .int .i64 L.in0) h1163 rfl rfl rfl rfl (by kernel_rfl) rfl (rn_load1 rfl rfl Try.isAgg3 (hk20.cell rfl)) ⟨hB18, hk20⟩ (fun a1374 h1374 => ?_); clear h1163
   refine dr_many [3, 7, 12] (by kernel_rfl) (by simp) ⟨?_, ?_, ?_, trivial⟩
   ·
    refine dr_opVal (i := 3) (v := .int .i64 L.boot) h1374 rfl rfl rfl rfl (by kernel_rfl) rfl (rn_load1 rfl rfl Try.isAgg3 (hk20.cell rfl)) ⟨hB18, hk20⟩ (fun a1375 h1375 => ?_); clear h1374
    refine dr_many [7, 12] (by kernel_rfl) (by simp) ⟨?_, ?_, trivial⟩
    ·
     refine dr_opVal (i := 7) (v := .int .i64 L.stream) h1375 rfl rfl rfl rfl (by kernel_rfl) rfl (rn_load1 rfl rfl Try.isAgg3 (hk20.cell rfl)) ⟨hB18, hk20⟩ (fun a1376 h1376 => ?_); clear h1375
     refine dr_many [12] (by kernel_rfl) (by simp) ⟨?_, trivial⟩
     ·
      refine dr_opVal (i := 12) (v := .int .i64 L.peer) h1376 rfl rfl rfl rfl (by kernel_rfl) rfl (rn_load1 rfl rfl Try.isAgg3 (hk20.cell rfl)) ⟨hB18, hk20⟩ (fun a1377 h1377 => ?_); clear h1376
      refine dk0 23 (v := .agg #[.int .i64 L.boot, .int .i64 L.stream, .int .i64 q, .int .i64 L.peer, .int .i64 L.in0, .int .i64 L.next, .bool h, .string y]) h1377 rfl rfl ⟨hB18, hk20⟩ fun a1378 h1378 => ?_; clear h1377
      have hk1384 := hk5.kept hg10 (by simp)
      refine d1D 24 h1378 rfl rfl (op_storeN rfl rfl rfl (by kernel_rfl) (by kernel_rfl) hk1384 rfl) ?_ ?_; clear h1378
      ·
       rintro _ w1380 ⟨hk1381, hz1382, hg1383⟩
       have hk1381' : Blk w1380 N3 61 #[.int .i64 L.boot, .int .i64 L.stream, .int .i64 q, .int .i64 L.peer, .int .i64 L.in0, .int .i64 L.next, .bool h, .string y] := hk1381; clear hk1381
       have hz1385 := hg1383.size
       have hB1386 := hb_at hB18 hg1383 (by omega)
       have hk1387 := hk20.kept hg1383 (by simp; omega)
       exact ⟨hB1386, hk1387⟩
      rintro _ w1380 a1379 ⟨hk1381, hz1382, hg1383⟩ h1379
      have hk1381' : Blk w1380 N3 61 #[.int .i64 L.boot, .int .i64 L.stream, .int .i64 q, .int .i64 L.peer, .int .i64 L.in0, .int .i64 L.next, .bool h, .string y] := hk1381; clear hk1381
      have hz1385 := hg1383.size
      refine dr_done (by kernel_rfl) ?_
      refine co_then ?_
      refine wp_ret ?_
      refine co_retC (Q := fun _ _ _ => True) h1379 rfl rfl hk1381' Try.underlying61 rfl (by kernel_rfl) ?_
      have hB1386 := hb_at hB18 hg1383 (by omega)
      exact ⟨rfl, hB1386⟩
    ·
     refine dr_opVal (i := 12) (v := .int .i64 L.peer) h1375 rfl rfl rfl rfl (by kernel_rfl) rfl (rn_load1 rfl rfl Try.isAgg3 (hk20.cell rfl)) ⟨hB18, hk20⟩ (fun a1387 h1387 => ?_); clear h1375
     refine dr_many [7] (by kernel_rfl) (by simp) ⟨?_, trivial⟩
     ·
      refine dr_opVal (i := 7) (v := .int .i64 L.stream) h1387 rfl rfl rfl rfl (by kernel_rfl) rfl (rn_load1 rfl rfl Try.isAgg3 (hk20.cell rfl)) ⟨hB18, hk20⟩ (fun a1388 h1388 => ?_); clear h1387
      refine dk0 23 (v := .agg #[.int .i64 L.boot, .int .i64 L.stream, .int .i64 q, .int .i64 L.peer, .int .i64 L.in0, .int .i64 L.next, .bool h, .string y]) h1388 rfl rfl ⟨hB18, hk20⟩ fun a1389 h1389 => ?_; clear h1388
      have hk1395 := hk5.kept hg10 (by simp)
      refine d1D 24 h1389 rfl rfl (op_storeN rfl rfl rfl (by kernel_rfl) (by kernel_rfl) hk1395 rfl) ?_ ?_; clear h1389
      ·
       rintro _ w1391 ⟨hk1392, hz1393, hg1394⟩
       have hk1392' : Blk w1391 N3 61 #[.int .i64 L.boot, .int .i64 L.stream, .int .i64 q, .int .i64 L.peer, .int .i64 L.in0, .int .i64 L.next, .bool h, .string y] := hk1392; clear hk1392
       have hz1396 := hg1394.size
       have hB1397 := hb_at hB18 hg1394 (by omega)
       have hk1398 := hk20.kept hg1394 (by simp; omega)
       exact ⟨hB1397, hk1398⟩
      rintro _ w1391 a1390 ⟨hk1392, hz1393, hg1394⟩ h1390
      have hk1392' : Blk w1391 N3 61 #[.int .i64 L.boot, .int .i64 L.stream, .int .i64 q, .int .i64 L.peer, .int .i64 L.in0, .int .i64 L.next, .bool h, .string y] := hk1392; clear hk1392
      have hz1396 := hg1394.size
      refine dr_done (by kernel_rfl) ?_
      refine co_then ?_
      refine wp_ret ?_
      refine co_retC (Q := fun _ _ _ => True) h1390 rfl rfl hk1392' Try.underlying61 rfl (by kernel_rfl) ?_
      have hB1397 := hb_at hB18 hg1394 (by omega)
      exact ⟨rfl, hB1397⟩
   ·
    refine dr_opVal (i := 7) (v := .int .i64 L.stream) h1374 rfl rfl rfl rfl (by kernel_rfl) rfl (rn_load1 rfl rfl Try.isAgg3 (hk20.cell rfl)) ⟨hB18, hk20⟩ (fun a1398 h1398 => ?_); clear h1374
    refine dr_many [3, 12] (by kernel_rfl) (by simp) ⟨?_, ?_, trivial⟩
    ·
     refine dr_opVal (i := 3) (v := .int .i64 L.boot) h1398 rfl rfl rfl rfl (by kernel_rfl) rfl (rn_load1 rfl rfl Try.isAgg3 (hk20.cell rfl)) ⟨hB18, hk20⟩ (fun a1399 h1399 => ?_); clear h1398
     refine dr_many [12] (by kernel_rfl) (by simp) ⟨?_, trivial⟩
     ·
      refine dr_opVal (i := 12) (v := .int .i64 L.peer) h1399 rfl rfl rfl rfl (by kernel_rfl) rfl (rn_load1 rfl rfl Try.isAgg3 (hk20.cell rfl)) ⟨hB18, hk20⟩ (fun a1400 h1400 => ?_); clear h1399
      refine dk0 23 (v := .agg #[.int .i64 L.boot, .int .i64 L.stream, .int .i64 q, .int .i64 L.peer, .int .i64 L.in0, .int .i64 L.next, .bool h, .string y]) h1400 rfl rfl ⟨hB18, hk20⟩ fun a1401 h1401 => ?_; clear h1400
      have hk1407 := hk5.kept hg10 (by simp)
      refine d1D 24 h1401 rfl rfl (op_storeN rfl rfl rfl (by kernel_rfl) (by kernel_rfl) hk1407 rfl) ?_ ?_; clear h1401
      ·
       rintro _ w1403 ⟨hk1404, hz1405, hg1406⟩
       have hk1404' : Blk w1403 N3 61 #[.int .i64 L.boot, .int .i64 L.stream, .int .i64 q, .int .i64 L.peer, .int .i64 L.in0, .int .i64 L.next, .bool h, .string y] := hk1404; clear hk1404
       have hz1408 := hg1406.size
       have hB1409 := hb_at hB18 hg1406 (by omega)
       have hk1410 := hk20.kept hg1406 (by simp; omega)
       exact ⟨hB1409, hk1410⟩
      rintro _ w1403 a1402 ⟨hk1404, hz1405, hg1406⟩ h1402
      have hk1404' : Blk w1403 N3 61 #[.int .i64 L.boot, .int .i64 L.stream, .int .i64 q, .int .i64 L.peer, .int .i64 L.in0, .int .i64 L.next, .bool h, .string y] := hk1404; clear hk1404
      have hz1408 := hg1406.size
      refine dr_done (by kernel_rfl) ?_
      refine co_then ?_
      refine wp_ret ?_
      refine co_retC (Q := fun _ _ _ => True) h1402 rfl rfl hk1404' Try.underlying61 rfl (by kernel_rfl) ?_
      have hB1409 := hb_at hB18 hg1406 (by omega)
      exact ⟨rfl, hB1409⟩
    ·
     refine dr_opVal (i := 12) (v := .int .i64 L.peer) h1398 rfl rfl rfl rfl (by kernel_rfl) rfl (rn_load1 rfl rfl Try.isAgg3 (hk20.cell rfl)) ⟨hB18, hk20⟩ (fun a1410 h1410 => ?_); clear h1398
     refine dr_many [3] (by kernel_rfl) (by simp) ⟨?_, trivial⟩
     ·
      refine dr_opVal (i := 3) (v := .int .i64 L.boot) h1410 rfl rfl rfl rfl (by kernel_rfl) rfl (rn_load1 rfl rfl Try.isAgg3 (hk20.cell rfl)) ⟨hB18, hk20⟩ (fun a1411 h1411 => ?_); clear h1410
      refine dk0 23 (v := .agg #[.int .i64 L.boot, .int .i64 L.stream, .int .i64 q, .int .i64 L.peer, .int .i64 L.in0, .int .i64 L.next, .bool h, .string y]) h1411 rfl rfl ⟨hB18, hk20⟩ fun a1412 h1412 => ?_; clear h1411
      have hk1418 := hk5.kept hg10 (by simp)
      refine d1D 24 h1412 rfl rfl (op_storeN rfl rfl rfl (by kernel_rfl) (by kernel_rfl) hk1418 rfl) ?_ ?_; clear h1412
      ·
       rintro _ w1414 ⟨hk1415, hz1416, hg1417⟩
       have hk1415' : Blk w1414 N3 61 #[.int .i64 L.boot, .int .i64 L.stream, .int .i64 q, .int .i64 L.peer, .int .i64 L.in0, .int .i64 L.next, .bool h, .string y] := hk1415; clear hk1415
       have hz1419 := hg1417.size
       have hB1420 := hb_at hB18 hg1417 (by omega)
       have hk1421 := hk20.kept hg1417 (by simp; omega)
       exact ⟨hB1420, hk1421⟩
      rintro _ w1414 a1413 ⟨hk1415, hz1416, hg1417⟩ h1413
      have hk1415' : Blk w1414 N3 61 #[.int .i64 L.boot, .int .i64 L.stream, .int .i64 q, .int .i64 L.peer, .int .i64 L.in0, .int .i64 L.next, .bool h, .string y] := hk1415; clear hk1415
      have hz1419 := hg1417.size
      refine dr_done (by kernel_rfl) ?_
      refine co_then ?_
      refine wp_ret ?_
      refine co_retC (Q := fun _ _ _ => True) h1413 rfl rfl hk1415' Try.underlying61 rfl (by kernel_rfl) ?_
      have hB1420 := hb_at hB18 hg1417 (by omega)
      exact ⟨rfl, hB1420⟩
   ·
    refine dr_opVal (i := 12) (v := .int .i64 L.peer) h1374 rfl rfl rfl rfl (by kernel_rfl) rfl (rn_load1 rfl rfl Try.isAgg3 (hk20.cell rfl)) ⟨hB18, hk20⟩ (fun a1421 h1421 => ?_); clear h1374
    refine dr_many [3, 7] (by kernel_rfl) (by simp) ⟨?_, ?_, trivial⟩
    ·
     refine dr_opVal (i := 3) (v := .int .i64 L.boot) h1421 rfl rfl rfl rfl (by kernel_rfl) rfl (rn_load1 rfl rfl Try.isAgg3 (hk20.cell rfl)) ⟨hB18, hk20⟩ (fun a1422 h1422 => ?_); clear h1421
     refine dr_many [7] (by kernel_rfl) (by simp) ⟨?_, trivial⟩
     ·
      refine dr_opVal (i := 7) (v := .int .i64 L.stream) h1422 rfl rfl rfl rfl (by kernel_rfl) rfl (rn_load1 rfl rfl Try.isAgg3 (hk20.cell rfl)) ⟨hB18, hk20⟩ (fun a1423 h1423 => ?_); clear h1422
      refine dk0 23 (v := .agg #[.int .i64 L.boot, .int .i64 L.stream, .int .i64 q, .int .i64 L.peer, .int .i64 L.in0, .int .i64 L.next, .bool h, .string y]) h1423 rfl rfl ⟨hB18, hk20⟩ fun a1424 h1424 => ?_; clear h1423
      have hk1430 := hk5.kept hg10 (by simp)
      refine d1D 24 h1424 rfl rfl (op_storeN rfl rfl rfl (by kernel_rfl) (by kernel_rfl) hk1430 rfl) ?_ ?_; clear h1424
      ·
       rintro _ w1426 ⟨hk1427, hz1428, hg1429⟩
       have hk1427' : Blk w1426 N3 61 #[.int .i64 L.boot, .int .i64 L.stream, .int .i64 q, .int .i64 L.peer, .int .i64 L.in0, .int .i64 L.next, .bool h, .string y] := hk1427; clear hk1427
       have hz1431 := hg1429.size
       have hB1432 := hb_at hB18 hg1429 (by omega)
       have hk1433 := hk20.kept hg1429 (by simp; omega)
       exact ⟨hB1432, hk1433⟩
      rintro _ w1426 a1425 ⟨hk1427, hz1428, hg1429⟩ h1425
      have hk1427' : Blk w1426 N3 61 #[.int .i64 L.boot, .int .i64 L.stream, .int .i64 q, .int .i64 L.peer, .int .i64 L.in0, .int .i64 L.next, .bool h, .string y] := hk1427; clear hk1427
      have hz1431 := hg1429.size
      refine dr_done (by kernel_rfl) ?_
      refine co_then ?_
      refine wp_ret ?_
      refine co_retC (Q := fun _ _ _ => True) h1425 rfl rfl hk1427' Try.underlying61 rfl (by kernel_rfl) ?_
      have hB1432 := hb_at hB18 hg1429 (by omega)
      exact ⟨rfl, hB1432⟩
    ·
     refine dr_opVal (i := 7) (v := .int .i64 L.stream) h1421 rfl rfl rfl rfl (by kernel_rfl) rfl (rn_load1 rfl rfl Try.isAgg3 (hk20.cell rfl)) ⟨hB18, hk20⟩ (fun a1433 h1433 => ?_); clear h1421
     refine dr_many [3] (by kernel_rfl) (by simp) ⟨?_, trivial⟩
     ·
      refine dr_opVal (i := 3) (v := .int .i64 L.boot) h1433 rfl rfl rfl rfl (by kernel_rfl) rfl (rn_load1 rfl rfl Try.isAgg3 (hk20.cell rfl)) ⟨hB18, hk20⟩ (fun a1434 h1434 => ?_); clear h1433
      refine dk0 23 (v := .agg #[.int .i64 L.boot, .int .i64 L.stream, .int .i64 q, .int .i64 L.peer, .int .i64 L.in0, .int .i64 L.next, .bool h, .string y]) h1434 rfl rfl ⟨hB18, hk20⟩ fun a1435 h1435 => ?_; clear h1434
      have hk1441 := hk5.kept hg10 (by simp)
      refine d1D 24 h1435 rfl rfl (op_storeN rfl rfl rfl (by kernel_rfl) (by kernel_rfl) hk1441 rfl) ?_ ?_; clear h1435
      ·
       rintro _ w1437 ⟨hk1438, hz1439, hg1440⟩
       have hk1438' : Blk w1437 N3 61 #[.int .i64 L.boot, .int .i64 L.stream, .int .i64 q, .int .i64 L.peer, .int .i64 L.in0, .int .i64 L.next, .bool h, .string y] := hk1438; clear hk1438
       have hz1442 := hg1440.size
       have hB1443 := hb_at hB18 hg1440 (by omega)
       have hk1444 := hk20.kept hg1440 (by simp; omega)
       exact ⟨hB1443, hk1444⟩
      rintro _ w1437 a1436 ⟨hk1438, hz1439, hg1440⟩ h1436
      have hk1438' : Blk w1437 N3 61 #[.int .i64 L.boot, .int .i64 L.stream, .int .i64 q, .int .i64 L.peer, .int .i64 L.in0, .int .i64 L.next, .bool h, .string y] := hk1438; clear hk1438
      have hz1442 := hg1440.size
      refine dr_done (by kernel_rfl) ?_
      refine co_then ?_
      refine wp_ret ?_
      refine co_retC (Q := fun _ _ _ => True) h1436 rfl rfl hk1438' Try.underlying61 rfl (by kernel_rfl) ?_
      have hB1443 := hb_at hB18 hg1440 (by omega)
      exact ⟨rfl, hB1443⟩
end Go.Proofs.Ythmljllgfigebaa
