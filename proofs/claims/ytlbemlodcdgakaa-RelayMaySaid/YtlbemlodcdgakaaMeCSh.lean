/- The document's own messages: what is wrong with a part. Conditions: none. -/
import Derived.Test.YtlbemlodcdgakaaMeBSh
namespace Go.Proofs.Ytlbemlodcdgakaa
open Go.RowKit Go.PlainAid
set_option linter.unusedVariables false


/-- The document's letters. -/
def plet (c : Int) : Int := if c = 114 then 113 else if c = 69 then 76 else c
theorem pl_114 {c : Int} (h : c = 114) : plet c = 113 := by unfold plet; rw [if_pos h]
theorem pl_69 {c : Int} (h : c = 69) : plet c = 76 := by unfold plet; rw [if_neg (by omega), if_pos h]
theorem pl_o {c : Int} (h : ¬ c = 114) (h1 : ¬ c = 69) : plet c = c := by unfold plet; rw [if_neg h, if_neg h1]
def dlet (c : UInt8) : UInt8 := if c = 113 then 114 else if c = 76 then 69 else c
def rL (k : Int) : List UInt8 := if 1 ≤ k ∧ k ≤ 15 then (ptL k).map dlet else [63]
def rstr (k : Int) : ByteArray := ⟨(rL k).toArray⟩
theorem rstr_len (k : Int) : (rstr k).size = (rL k).length := by simp [rstr, ByteArray.size]
theorem rL_len {k : Int} (h : 1 ≤ k ∧ k ≤ 15) : (rL k).length = (ptL k).length := by unfold rL; rw [if_pos h]; simp
theorem u8_ne {c e : UInt8} (h : c ≠ e) : ((c.toNat : Nat) : Int) ≠ ((e.toNat : Nat) : Int) := fun q => h (UInt8.toNat.inj (by omega))
theorem dlet_back (c : UInt8) (h1 : c ≠ 114) (h2 : c ≠ 69) : plet ((dlet c).toNat : Int) = ((c.toNat : Nat) : Int) := by
  unfold dlet
  split
  · rename_i h; subst h; rfl
  split
  · rename_i h; subst h; rfl
  · exact pl_o (c := ((c.toNat : Nat) : Int)) (u8_ne (e := 114) h1) (u8_ne (e := 69) h2)
theorem ptL_no (k : Int) : (ptL k).all (fun c => decide (c ≠ 114) && decide (c ≠ 69)) = true := by
  unfold ptL
  repeat' split
  all_goals rfl
theorem plet_dlet {k : Int} {c : UInt8} (h : c ∈ ptL k) : plet ((dlet c).toNat : Int) = ((c.toNat : Nat) : Int) := by
  have := List.all_eq_true.1 (ptL_no k) c h
  simp only [Bool.and_eq_true, decide_eq_true_eq] at this
  exact dlet_back c this.1 this.2
theorem ptL_small (k : Int) : (ptL k).length ≤ 7 := by
  unfold ptL
  repeat' split
  all_goals decide
theorem rstr_small (k : Int) : (rstr k).size ≤ 7 := by
  rw [rstr_len]; unfold rL
  split
  · rw [List.length_map]; exact ptL_small k
  · decide
theorem dlet_no (c : UInt8) : (dlet c).toNat ≠ 113 ∧ (dlet c).toNat ≠ 76 := by
  unfold dlet
  split
  · decide
  split
  · decide
  · rename_i h1 h2; exact ⟨fun e => h1 (UInt8.toNat.inj e), fun e => h2 (UInt8.toNat.inj e)⟩
theorem byteAt_rstr {k : Int} {i : Nat} (hk : 1 ≤ k ∧ k ≤ 15) (h : i < (rstr k).size) : ∃ c, (ptL k)[i]? = some c ∧ plet (byteAt (rstr k) i) = ((c.toNat : Nat) : Int) ∧ byteAt (rstr k) i ≠ 113 ∧ byteAt (rstr k) i ≠ 76 := by
  have h' : i < (ptL k).length := by rw [rstr_len, rL_len hk] at h; exact h
  have e : byteAt (rstr k) i = ((dlet (ptL k)[i]).toNat : Int) := by
    unfold byteAt rstr rL
    rw [if_pos hk]; simp [h']
  refine ⟨(ptL k)[i], List.getElem?_eq_getElem h', ?_, ?_⟩
  · rw [e]; exact plet_dlet (List.getElem_mem h')
  · have := dlet_no (ptL k)[i]; rw [e]; omega
theorem rstr_q {k : Int} (h : 1 ≤ k ∧ k ≤ 15) : ¬ (rstr k).toList = (⟨#[63]⟩ : ByteArray).toList := by
  rcases (show k = 1 ∨ k = 2 ∨ k = 3 ∨ k = 4 ∨ k = 5 ∨ k = 6 ∨ k = 7 ∨ k = 8 ∨ k = 9 ∨ k = 10 ∨ k = 11 ∨ k = 12 ∨ k = 13 ∨ k = 14 ∨ k = 15 by omega) with e | e | e | e | e | e | e | e | e | e | e | e | e | e | e <;> subst e <;> decide +kernel
theorem rstr_n {k : Int} (h : ¬ (1 ≤ k ∧ k ≤ 15)) : rstr k = (⟨#[63]⟩ : ByteArray) := by unfold rstr rL; rw [if_neg h]
theorem cS_all {l : List Int} : chkF chkSt l = 0 := by
  induction l with
  | nil => rfl
  | cons x r ih => unfold chkF; rw [if_neg (by simp [chkSt])]; exact ih

set_option maxRecDepth 100000 in
theorem rmParts_any (k : Int) (w : World)  :
    Calls Try.prog 93 #[.int .i64 k] w fun e w' => e = .returned (.string (rstr k)) ∧ Below w.heap.size w w' := by
 have hB0 := Below.refl w.heap.size w
 refine co_enter (n := 31) Try.func93 rfl rfl rfl [(0, .int .i64 k)] rfl (fun a h0 => ?_)
 refine co_seq ?_
 refine co_reg ?_
 refine pk0 (v := .string (⟨#[]⟩)) h0 rfl fun a1 h1 => ?_; clear h0
 refine pl_nil ?_
 refine co_then ?_
 refine co_seq ?_
 refine co_seq ?_
 refine co_reg ?_
 refine pk0 (v := .int .i64 k) h1 rfl fun a2 h2 => ?_; clear h1
 refine pl_nil ?_
 refine co_then ?_
 refine wp_block ?_
 refine co_seq ?_
 refine co_reg ?_
 refine pk0 (v := .bool (k == 1)) h2 rfl fun a3 h3 => ?_; clear h2
 refine pk0 (v := .bool (k == 1)) h3 rfl fun a4 h4 => ?_; clear h3
 refine pl_nil ?_
 refine co_then ?_
 cases hc5 : (k == 1)
 ·
  rw [hc5] at h4
  have hp6 : ¬ (k = 1) := by first | simpa using hc5 | simpa [and_assoc] using hc5
  clear hc5
  refine co_false h4 rfl ?_
  refine co_seq ?_
  refine co_reg ?_
  refine pk0 (v := .bool (k == 2)) h4 rfl fun a7 h7 => ?_; clear h4
  refine pk0 (v := .bool (k == 2)) h7 rfl fun a8 h8 => ?_; clear h7
  refine pl_nil ?_
  refine co_then ?_
  cases hc9 : (k == 2)
  ·
   rw [hc9] at h8
   have hp10 : ¬ (k = 2) := by first | simpa using hc9 | simpa [and_assoc] using hc9
   clear hc9
   refine co_false h8 rfl ?_
   refine co_seq ?_
   refine co_reg ?_
   refine pk0 (v := .bool (k == 3)) h8 rfl fun a11 h11 => ?_; clear h8
   refine pk0 (v := .bool (k == 3)) h11 rfl fun a12 h12 => ?_; clear h11
   refine pl_nil ?_
   refine co_then ?_
   cases hc13 : (k == 3)
   ·
    rw [hc13] at h12
    have hp14 : ¬ (k = 3) := by first | simpa using hc13 | simpa [and_assoc] using hc13
    clear hc13
    refine co_false h12 rfl ?_
    refine co_seq ?_
    refine co_reg ?_
    refine pk0 (v := .bool (k == 4)) h12 rfl fun a15 h15 => ?_; clear h12
    refine pk0 (v := .bool (k == 4)) h15 rfl fun a16 h16 => ?_; clear h15
    refine pl_nil ?_
    refine co_then ?_
    cases hc17 : (k == 4)
    ·
     rw [hc17] at h16
     have hp18 : ¬ (k = 4) := by first | simpa using hc17 | simpa [and_assoc] using hc17
     clear hc17
     refine co_false h16 rfl ?_
     refine co_seq ?_
     refine co_reg ?_
     refine pk0 (v := .bool (k == 5)) h16 rfl fun a19 h19 => ?_; clear h16
     refine pk0 (v := .bool (k == 5)) h19 rfl fun a20 h20 => ?_; clear h19
     refine pl_nil ?_
     refine co_then ?_
     cases hc21 : (k == 5)
     ·
      rw [hc21] at h20
      have hp22 : ¬ (k = 5) := by first | simpa using hc21 | simpa [and_assoc] using hc21
      clear hc21
      refine co_false h20 rfl ?_
      refine co_seq ?_
      refine co_seq ?_
      refine co_reg ?_
      refine pk0 (v := .bool (k == 6)) h20 rfl fun a23 h23 => ?_; clear h20
      refine pk0 (v := .bool (k == 6)) h23 rfl fun a24 h24 => ?_; clear h23
      refine pl_nil ?_
      refine co_then ?_
      cases hc25 : (k == 6)
      ·
       rw [hc25] at h24
       have hp26 : ¬ (k = 6) := by first | simpa using hc25 | simpa [and_assoc] using hc25
       clear hc25
       refine co_false h24 rfl ?_
       refine co_reg ?_
       refine pk0 (v := .bool (k == 11)) h24 rfl fun a27 h27 => ?_; clear h24
       refine pk0 (v := .bool (k == 11)) h27 rfl fun a28 h28 => ?_; clear h27
       refine pl_nil ?_
       refine co_then ?_
       cases hc29 : (k == 11)
       ·
        rw [hc29] at h28
        have hp30 : ¬ (k = 11) := by first | simpa using hc29 | simpa [and_assoc] using hc29
        clear hc29
        refine co_false h28 rfl ?_
        refine co_seq ?_
        refine co_reg ?_
        refine pk0 (v := .bool (k == 7)) h28 rfl fun a31 h31 => ?_; clear h28
        refine pk0 (v := .bool (k == 7)) h31 rfl fun a32 h32 => ?_; clear h31
        refine pl_nil ?_
        refine co_then ?_
        cases hc33 : (k == 7)
        ·
         rw [hc33] at h32
         have hp34 : ¬ (k = 7) := by first | simpa using hc33 | simpa [and_assoc] using hc33
         clear hc33
         refine co_false h32 rfl ?_
         refine co_seq ?_
         refine co_reg ?_
         refine pk0 (v := .bool (k == 8)) h32 rfl fun a35 h35 => ?_; clear h32
         refine pk0 (v := .bool (k == 8)) h35 rfl fun a36 h36 => ?_; clear h35
         refine pl_nil ?_
         refine co_then ?_
         cases hc37 : (k == 8)
         ·
          rw [hc37] at h36
          have hp38 : ¬ (k = 8) := by first | simpa using hc37 | simpa [and_assoc] using hc37
          clear hc37
          refine co_false h36 rfl ?_
          refine co_seq ?_
          refine co_reg ?_
          refine pk0 (v := .bool (k == 9)) h36 rfl fun a39 h39 => ?_; clear h36
          refine pk0 (v := .bool (k == 9)) h39 rfl fun a40 h40 => ?_; clear h39
          refine pl_nil ?_
          refine co_then ?_
          cases hc41 : (k == 9)
          ·
           rw [hc41] at h40
           have hp42 : ¬ (k = 9) := by first | simpa using hc41 | simpa [and_assoc] using hc41
           clear hc41
           refine co_false h40 rfl ?_
           refine co_seq ?_
           refine co_reg ?_
           refine pk0 (v := .bool (k == 10)) h40 rfl fun a43 h43 => ?_; clear h40
           refine pk0 (v := .bool (k == 10)) h43 rfl fun a44 h44 => ?_; clear h43
           refine pl_nil ?_
           refine co_then ?_
           cases hc45 : (k == 10)
           ·
            rw [hc45] at h44
            have hp46 : ¬ (k = 10) := by first | simpa using hc45 | simpa [and_assoc] using hc45
            clear hc45
            refine co_false h44 rfl ?_
            refine co_seq ?_
            refine co_seq ?_
            refine co_reg ?_
            refine pk0 (v := .bool (k == 12)) h44 rfl fun a47 h47 => ?_; clear h44
            refine pk0 (v := .bool (k == 12)) h47 rfl fun a48 h48 => ?_; clear h47
            refine pl_nil ?_
            refine co_then ?_
            cases hc49 : (k == 12)
            ·
             rw [hc49] at h48
             have hp50 : ¬ (k = 12) := by first | simpa using hc49 | simpa [and_assoc] using hc49
             clear hc49
             refine co_false h48 rfl ?_
             refine co_seq ?_
             refine co_reg ?_
             refine pk0 (v := .bool (k == 13)) h48 rfl fun a51 h51 => ?_; clear h48
             refine pk0 (v := .bool (k == 13)) h51 rfl fun a52 h52 => ?_; clear h51
             refine pl_nil ?_
             refine co_then ?_
             cases hc53 : (k == 13)
             ·
              rw [hc53] at h52
              have hp54 : ¬ (k = 13) := by first | simpa using hc53 | simpa [and_assoc] using hc53
              clear hc53
              refine co_false h52 rfl ?_
              refine co_reg ?_
              refine pk0 (v := .bool (k == 14)) h52 rfl fun a55 h55 => ?_; clear h52
              refine pk0 (v := .bool (k == 14)) h55 rfl fun a56 h56 => ?_; clear h55
              refine pl_nil ?_
              refine co_then ?_
              cases hc57 : (k == 14)
              ·
               rw [hc57] at h56
               have hp58 : ¬ (k = 14) := by first | simpa using hc57 | simpa [and_assoc] using hc57
               clear hc57
               refine co_false h56 rfl ?_
               refine co_seq ?_
               refine co_reg ?_
               refine pk0 (v := .bool (k == 15)) h56 rfl fun a59 h59 => ?_; clear h56
               refine pk0 (v := .bool (k == 15)) h59 rfl fun a60 h60 => ?_; clear h59
               refine pl_nil ?_
               refine co_then ?_
               cases hc61 : (k == 15)
               ·
                rw [hc61] at h60
                have hp62 : ¬ (k = 15) := by first | simpa using hc61 | simpa [and_assoc] using hc61
                clear hc61
                refine co_false h60 rfl ?_
                refine wp_skip ?_
                refine co_blockN ?_
                refine co_then ?_
                refine co_seq ?_
                refine co_reg ?_
                refine pk0 (v := .string (⟨#[63]⟩)) h60 rfl fun a63 h63 => ?_; clear h60
                refine pl_nil ?_
                refine co_then ?_
                refine wp_ret ?_
                refine co_ret1 h63 rfl rfl ?_
                exact ⟨by rw [rstr_n (by omega)], hB0⟩
               ·
                rw [hc61] at h60
                have hp64 : k = 15 := by first | simpa using hc61 | simpa [and_assoc] using hc61
                clear hc61
                refine co_true h60 rfl ?_
                refine co_seq ?_
                refine co_reg ?_
                refine pk0 (v := .string (⟨#[]⟩)) h60 rfl fun a65 h65 => ?_; clear h60
                refine pl_nil ?_
                refine co_then ?_
                refine wp_ret ?_
                refine co_blockR ?_
                refine co_thenR ?_
                refine co_ret1 h65 rfl rfl ?_
                exact ⟨by rw [show k = 15 by omega]; rfl, hB0⟩
              ·
               rw [hc57] at h56
               have hp66 : k = 14 := by first | simpa using hc57 | simpa [and_assoc] using hc57
               clear hc57
               refine co_true h56 rfl ?_
               refine co_seq ?_
               refine co_reg ?_
               refine pk0 (v := .string (⟨#[114, 110]⟩)) h56 rfl fun a67 h67 => ?_; clear h56
               refine pl_nil ?_
               refine co_then ?_
               refine wp_ret ?_
               refine co_blockR ?_
               refine co_thenR ?_
               refine co_ret1 h67 rfl rfl ?_
               exact ⟨by rw [show k = 14 by omega]; rfl, hB0⟩
             ·
              rw [hc53] at h52
              have hp68 : k = 13 := by first | simpa using hc53 | simpa [and_assoc] using hc53
              clear hc53
              refine co_true h52 rfl ?_
              refine wp_skip ?_
              refine co_then ?_
              refine co_true h52 rfl ?_
              refine co_seq ?_
              refine co_reg ?_
              refine pk0 (v := .string (⟨#[114, 110]⟩)) h52 rfl fun a69 h69 => ?_; clear h52
              refine pl_nil ?_
              refine co_then ?_
              refine wp_ret ?_
              refine co_blockR ?_
              refine co_thenR ?_
              refine co_ret1 h69 rfl rfl ?_
              exact ⟨by rw [show k = 13 by omega]; rfl, hB0⟩
            ·
             rw [hc49] at h48
             have hp70 : k = 12 := by first | simpa using hc49 | simpa [and_assoc] using hc49
             clear hc49
             refine co_true h48 rfl ?_
             refine wp_skip ?_
             refine co_then ?_
             refine co_true h48 rfl ?_
             refine co_seq ?_
             refine co_reg ?_
             refine pk0 (v := .string (⟨#[114, 110]⟩)) h48 rfl fun a71 h71 => ?_; clear h48
             refine pl_nil ?_
             refine co_then ?_
             refine wp_ret ?_
             refine co_blockR ?_
             refine co_thenR ?_
             refine co_ret1 h71 rfl rfl ?_
             exact ⟨by rw [show k = 12 by omega]; rfl, hB0⟩
           ·
            rw [hc45] at h44
            have hp72 : k = 10 := by first | simpa using hc45 | simpa [and_assoc] using hc45
            clear hc45
            refine co_true h44 rfl ?_
            refine co_seq ?_
            refine co_reg ?_
            refine pk0 (v := .string (⟨#[114, 107, 97, 102, 82]⟩)) h44 rfl fun a73 h73 => ?_; clear h44
            refine pl_nil ?_
            refine co_then ?_
            refine wp_ret ?_
            refine co_blockR ?_
            refine co_thenR ?_
            refine co_ret1 h73 rfl rfl ?_
            exact ⟨by rw [show k = 10 by omega]; rfl, hB0⟩
          ·
           rw [hc41] at h40
           have hp74 : k = 9 := by first | simpa using hc41 | simpa [and_assoc] using hc41
           clear hc41
           refine co_true h40 rfl ?_
           refine co_seq ?_
           refine co_reg ?_
           refine pk0 (v := .string (⟨#[114, 107, 116, 97, 110]⟩)) h40 rfl fun a75 h75 => ?_; clear h40
           refine pl_nil ?_
           refine co_then ?_
           refine wp_ret ?_
           refine co_blockR ?_
           refine co_thenR ?_
           refine co_ret1 h75 rfl rfl ?_
           exact ⟨by rw [show k = 9 by omega]; rfl, hB0⟩
         ·
          rw [hc37] at h36
          have hp76 : k = 8 := by first | simpa using hc37 | simpa [and_assoc] using hc37
          clear hc37
          refine co_true h36 rfl ?_
          refine co_seq ?_
          refine co_reg ?_
          refine pk0 (v := .string (⟨#[114, 107, 97]⟩)) h36 rfl fun a77 h77 => ?_; clear h36
          refine pl_nil ?_
          refine co_then ?_
          refine wp_ret ?_
          refine co_blockR ?_
          refine co_thenR ?_
          refine co_ret1 h77 rfl rfl ?_
          exact ⟨by rw [show k = 8 by omega]; rfl, hB0⟩
        ·
         rw [hc33] at h32
         have hp78 : k = 7 := by first | simpa using hc33 | simpa [and_assoc] using hc33
         clear hc33
         refine co_true h32 rfl ?_
         refine co_seq ?_
         refine co_reg ?_
         refine pk0 (v := .string (⟨#[114, 120, 101, 110]⟩)) h32 rfl fun a79 h79 => ?_; clear h32
         refine pl_nil ?_
         refine co_then ?_
         refine wp_ret ?_
         refine co_blockR ?_
         refine co_thenR ?_
         refine co_ret1 h79 rfl rfl ?_
         exact ⟨by rw [show k = 7 by omega]; rfl, hB0⟩
       ·
        rw [hc29] at h28
        have hp80 : k = 11 := by first | simpa using hc29 | simpa [and_assoc] using hc29
        clear hc29
        refine co_true h28 rfl ?_
        refine co_seq ?_
        refine co_reg ?_
        refine pk0 (v := .string (⟨#[114, 97]⟩)) h28 rfl fun a81 h81 => ?_; clear h28
        refine pl_nil ?_
        refine co_then ?_
        refine wp_ret ?_
        refine co_blockR ?_
        refine co_thenR ?_
        refine co_ret1 h81 rfl rfl ?_
        exact ⟨by rw [show k = 11 by omega]; rfl, hB0⟩
      ·
       rw [hc25] at h24
       have hp82 : k = 6 := by first | simpa using hc25 | simpa [and_assoc] using hc25
       clear hc25
       refine co_true h24 rfl ?_
       refine wp_skip ?_
       refine co_then ?_
       refine co_true h24 rfl ?_
       refine co_seq ?_
       refine co_reg ?_
       refine pk0 (v := .string (⟨#[114, 97]⟩)) h24 rfl fun a83 h83 => ?_; clear h24
       refine pl_nil ?_
       refine co_then ?_
       refine wp_ret ?_
       refine co_blockR ?_
       refine co_thenR ?_
       refine co_ret1 h83 rfl rfl ?_
       exact ⟨by rw [show k = 6 by omega]; rfl, hB0⟩
     ·
      rw [hc21] at h20
      have hp84 : k = 5 := by first | simpa using hc21 | simpa [and_assoc] using hc21
      clear hc21
      refine co_true h20 rfl ?_
      refine co_seq ?_
      refine co_reg ?_
      refine pk0 (v := .string (⟨#[101, 66]⟩)) h20 rfl fun a85 h85 => ?_; clear h20
      refine pl_nil ?_
      refine co_then ?_
      refine wp_ret ?_
      refine co_blockR ?_
      refine co_thenR ?_
      refine co_ret1 h85 rfl rfl ?_
      exact ⟨by rw [show k = 5 by omega]; rfl, hB0⟩
    ·
     rw [hc17] at h16
     have hp86 : k = 4 := by first | simpa using hc17 | simpa [and_assoc] using hc17
     clear hc17
     refine co_true h16 rfl ?_
     refine co_seq ?_
     refine co_reg ?_
     refine pk0 (v := .string (⟨#[101, 110, 109, 112, 83]⟩)) h16 rfl fun a87 h87 => ?_; clear h16
     refine pl_nil ?_
     refine co_then ?_
     refine wp_ret ?_
     refine co_blockR ?_
     refine co_thenR ?_
     refine co_ret1 h87 rfl rfl ?_
     exact ⟨by rw [show k = 4 by omega]; rfl, hB0⟩
   ·
    rw [hc13] at h12
    have hp88 : k = 3 := by first | simpa using hc13 | simpa [and_assoc] using hc13
    clear hc13
    refine co_true h12 rfl ?_
    refine co_seq ?_
    refine co_reg ?_
    refine pk0 (v := .string (⟨#[101, 110, 109, 112, 114, 97, 69]⟩)) h12 rfl fun a89 h89 => ?_; clear h12
    refine pl_nil ?_
    refine co_then ?_
    refine wp_ret ?_
    refine co_blockR ?_
    refine co_thenR ?_
    refine co_ret1 h89 rfl rfl ?_
    exact ⟨by rw [show k = 3 by omega]; rfl, hB0⟩
  ·
   rw [hc9] at h8
   have hp90 : k = 2 := by first | simpa using hc9 | simpa [and_assoc] using hc9
   clear hc9
   refine co_true h8 rfl ?_
   refine co_seq ?_
   refine co_reg ?_
   refine pk0 (v := .string (⟨#[101, 115, 102, 97, 108]⟩)) h8 rfl fun a91 h91 => ?_; clear h8
   refine pl_nil ?_
   refine co_then ?_
   refine wp_ret ?_
   refine co_blockR ?_
   refine co_thenR ?_
   refine co_ret1 h91 rfl rfl ?_
   exact ⟨by rw [show k = 2 by omega]; rfl, hB0⟩
 ·
  rw [hc5] at h4
  have hp92 : k = 1 := by first | simpa using hc5 | simpa [and_assoc] using hc5
  clear hc5
  refine co_true h4 rfl ?_
  refine co_seq ?_
  refine co_reg ?_
  refine pk0 (v := .string (⟨#[67, 97]⟩)) h4 rfl fun a93 h93 => ?_; clear h4
  refine pl_nil ?_
  refine co_then ?_
  refine wp_ret ?_
  refine co_blockR ?_
  refine co_thenR ?_
  refine co_ret1 h93 rfl rfl ?_
  exact ⟨by rw [show k = 1 by omega]; rfl, hB0⟩
set_option maxRecDepth 100000 in
theorem rmNumber_any (d : MsgD) (mv : Value) (bv : Value) (ev : Value) (sv : Value) (pv : Value) (c : Int) (w : World) (hm : SliceOf memE 2 w mv d.cms) (hb : SliceOf opE 3 w bv d.bl) (he : SliceOf entE 4 w ev d.en) (ht : SliceOf (intE .u64) 1 w sv d.st) (hp : SliceOf prE 2 w pv d.pr) (hnl : c = 101 ∨ c = 115 ∨ c = 114 ∨ c = 110 ∨ c = 109 ∨ c = 112) :
    Calls Try.prog 135 #[.agg #[.int .i64 d.k, .int .i64 d.ep, .int .i64 d.rq, .int .i64 d.sr, .bool d.fg, .int .u64 d.at_, .int .u64 d.la, .int .i64 d.n, .int .i64 d.m, .int .i64 d.p, .int .i64 d.e, .string d.key, .string d.to_, .int .i64 d.cep, mv, .int .u64 d.cfl, .int .i64 d.bc, .int .i64 d.br, bv, ev, sv, pv], .int .u8 c] w fun e w' => e = .returned (.int .i64 (numP d (plet c))) ∧ Below w.heap.size w w' := by
 have hpl : (c = 114 → plet c = 113) ∧ (c = 69 → plet c = 76) ∧ (c ≠ 114 ∧ c ≠ 69 → plet c = c) := ⟨pl_114, pl_69, fun h => pl_o h.1 h.2⟩
 have hB0 := Below.refl w.heap.size w
 have hl_hm := sl_len hm
 have hl_hb := sl_len hb
 have hl_he := sl_len he
 have hl_ht := sl_len ht
 have hl_hp := sl_len hp
 refine co_enter (n := 28) Try.func135 rfl rfl rfl [(0, .agg #[.int .i64 d.k, .int .i64 d.ep, .int .i64 d.rq, .int .i64 d.sr, .bool d.fg, .int .u64 d.at_, .int .u64 d.la, .int .i64 d.n, .int .i64 d.m, .int .i64 d.p, .int .i64 d.e, .string d.key, .string d.to_, .int .i64 d.cep, mv, .int .u64 d.cfl, .int .i64 d.bc, .int .i64 d.br, bv, ev, sv, pv]), (1, .int .u8 c)] rfl (fun a h0 => ?_)
 refine co_seq ?_
 refine co_reg ?_
 refine pw h0 rfl (op_new (v := fun N => pt N 0) (T := 74) (cs := #[.int .i64 d.k, .int .i64 d.ep, .int .i64 d.rq, .int .i64 d.sr, .bool d.fg, .int .u64 d.at_, .int .u64 d.la, .int .i64 d.n, .int .i64 d.m, .int .i64 d.p, .int .i64 d.e, .string d.key, .string d.to_, .int .i64 d.cep, mv, .int .u64 d.cfl, .int .i64 d.bc, .int .i64 d.br, bv, ev, sv, pv]) (by kernel_rfl) (by kernel_rfl) (by kernel_rfl)) ?_; clear h0
 rintro _ w2 a1 ⟨N3, rfl, hN6, hz7, hk5, hg4⟩ h1
 have hz8 := hg4.size
 try dsimp only at h1
 refine pk0 (v := .int .i64 0) h1 rfl fun a9 h9 => ?_; clear h1
 refine pl_nil ?_
 refine co_then ?_
 refine co_seq ?_
 refine co_seq ?_
 refine co_reg ?_
 refine pk0 (v := .int .u8 c) h9 rfl fun a10 h10 => ?_; clear h9
 refine pl_nil ?_
 refine co_then ?_
 refine wp_block ?_
 refine co_seq ?_
 refine co_reg ?_
 refine pk0 (v := .bool (c == 101)) h10 rfl fun a11 h11 => ?_; clear h10
 refine pk0 (v := .bool (c == 101)) h11 rfl fun a12 h12 => ?_; clear h11
 refine pl_nil ?_
 refine co_then ?_
 have hB14 := hb_new hB0 hg4
 cases hc13 : (c == 101)
 ·
  rw [hc13] at h12
  have hp15 : ¬ (c = 101) := by first | simpa using hc13 | simpa [and_assoc] using hc13
  clear hc13
  refine co_false h12 rfl ?_
  refine co_seq ?_
  refine co_reg ?_
  refine pk0 (v := .bool (c == 115)) h12 rfl fun a16 h16 => ?_; clear h12
  refine pk0 (v := .bool (c == 115)) h16 rfl fun a17 h17 => ?_; clear h16
  refine pl_nil ?_
  refine co_then ?_
  cases hc18 : (c == 115)
  ·
   rw [hc18] at h17
   have hp19 : ¬ (c = 115) := by first | simpa using hc18 | simpa [and_assoc] using hc18
   clear hc18
   refine co_false h17 rfl ?_
   refine co_seq ?_
   refine co_reg ?_
   refine pk0 (v := .bool (c == 114)) h17 rfl fun a20 h20 => ?_; clear h17
   refine pk0 (v := .bool (c == 114)) h20 rfl fun a21 h21 => ?_; clear h20
   refine pl_nil ?_
   refine co_then ?_
   cases hc22 : (c == 114)
   ·
    rw [hc22] at h21
    have hp23 : ¬ (c = 114) := by first | simpa using hc22 | simpa [and_assoc] using hc22
    clear hc22
    refine co_false h21 rfl ?_
    refine co_seq ?_
    refine co_reg ?_
    refine pk0 (v := .bool (c == 110)) h21 rfl fun a24 h24 => ?_; clear h21
    refine pk0 (v := .bool (c == 110)) h24 rfl fun a25 h25 => ?_; clear h24
    refine pl_nil ?_
    refine co_then ?_
    cases hc26 : (c == 110)
    ·
     rw [hc26] at h25
     have hp27 : ¬ (c = 110) := by first | simpa using hc26 | simpa [and_assoc] using hc26
     clear hc26
     refine co_false h25 rfl ?_
     refine co_seq ?_
     refine co_reg ?_
     refine pk0 (v := .bool (c == 109)) h25 rfl fun a28 h28 => ?_; clear h25
     refine pk0 (v := .bool (c == 109)) h28 rfl fun a29 h29 => ?_; clear h28
     refine pl_nil ?_
     refine co_then ?_
     cases hc30 : (c == 109)
     ·
      rw [hc30] at h29
      have hp31 : ¬ (c = 109) := by first | simpa using hc30 | simpa [and_assoc] using hc30
      clear hc30
      refine co_false h29 rfl ?_
      refine wp_skip ?_
      refine co_blockN ?_
      refine co_then ?_
      refine co_seq ?_
      refine co_reg ?_
      refine pk0 (v := pt N3 9) h29 rfl fun a32 h32 => ?_; clear h29
      refine pk (v := .int .i64 d.p) h32 rfl (rn_load1 rfl rfl Try.isAgg3 (hk5.cell rfl)) fun a33 h33 => ?_; clear h32
      refine pk0 (v := .int .i64 d.p) h33 rfl fun a34 h34 => ?_; clear h33
      refine pl_nil ?_
      refine co_then ?_
      refine wp_ret ?_
      refine co_ret1 h34 rfl rfl ?_
      exact ⟨ret_int (np_6 (by omega)), hB14⟩
     ·
      rw [hc30] at h29
      have hp35 : c = 109 := by first | simpa using hc30 | simpa [and_assoc] using hc30
      clear hc30
      refine co_true h29 rfl ?_
      refine co_seq ?_
      refine co_reg ?_
      refine pk0 (v := pt N3 8) h29 rfl fun a36 h36 => ?_; clear h29
      refine pk (v := .int .i64 d.m) h36 rfl (rn_load1 rfl rfl Try.isAgg3 (hk5.cell rfl)) fun a37 h37 => ?_; clear h36
      refine pk0 (v := .int .i64 d.m) h37 rfl fun a38 h38 => ?_; clear h37
      refine pl_nil ?_
      refine co_then ?_
      refine wp_ret ?_
      refine co_blockR ?_
      refine co_thenR ?_
      refine co_ret1 h38 rfl rfl ?_
      exact ⟨ret_int (np_5 (by omega)), hB14⟩
    ·
     rw [hc26] at h25
     have hp39 : c = 110 := by first | simpa using hc26 | simpa [and_assoc] using hc26
     clear hc26
     refine co_true h25 rfl ?_
     refine co_seq ?_
     refine co_reg ?_
     refine pk0 (v := pt N3 7) h25 rfl fun a40 h40 => ?_; clear h25
     refine pk (v := .int .i64 d.n) h40 rfl (rn_load1 rfl rfl Try.isAgg3 (hk5.cell rfl)) fun a41 h41 => ?_; clear h40
     refine pk0 (v := .int .i64 d.n) h41 rfl fun a42 h42 => ?_; clear h41
     refine pl_nil ?_
     refine co_then ?_
     refine wp_ret ?_
     refine co_blockR ?_
     refine co_thenR ?_
     refine co_ret1 h42 rfl rfl ?_
     exact ⟨ret_int (np_4 (by omega)), hB14⟩
   ·
    rw [hc22] at h21
    have hp43 : c = 114 := by first | simpa using hc22 | simpa [and_assoc] using hc22
    clear hc22
    refine co_true h21 rfl ?_
    refine co_seq ?_
    refine co_reg ?_
    refine pk0 (v := pt N3 2) h21 rfl fun a44 h44 => ?_; clear h21
    refine pk (v := .int .i64 d.rq) h44 rfl (rn_load1 rfl rfl Try.isAgg3 (hk5.cell rfl)) fun a45 h45 => ?_; clear h44
    refine pk0 (v := .int .i64 d.rq) h45 rfl fun a46 h46 => ?_; clear h45
    refine pl_nil ?_
    refine co_then ?_
    refine wp_ret ?_
    refine co_blockR ?_
    refine co_thenR ?_
    refine co_ret1 h46 rfl rfl ?_
    exact ⟨ret_int (np_3 (by omega)), hB14⟩
  ·
   rw [hc18] at h17
   have hp47 : c = 115 := by first | simpa using hc18 | simpa [and_assoc] using hc18
   clear hc18
   refine co_true h17 rfl ?_
   refine co_seq ?_
   refine co_reg ?_
   refine pk0 (v := pt N3 3) h17 rfl fun a48 h48 => ?_; clear h17
   refine pk (v := .int .i64 d.sr) h48 rfl (rn_load1 rfl rfl Try.isAgg3 (hk5.cell rfl)) fun a49 h49 => ?_; clear h48
   refine pk0 (v := .int .i64 d.sr) h49 rfl fun a50 h50 => ?_; clear h49
   refine pl_nil ?_
   refine co_then ?_
   refine wp_ret ?_
   refine co_blockR ?_
   refine co_thenR ?_
   refine co_ret1 h50 rfl rfl ?_
   exact ⟨ret_int (np_2 (by omega)), hB14⟩
 ·
  rw [hc13] at h12
  have hp51 : c = 101 := by first | simpa using hc13 | simpa [and_assoc] using hc13
  clear hc13
  refine co_true h12 rfl ?_
  refine co_seq ?_
  refine co_reg ?_
  refine pk0 (v := pt N3 1) h12 rfl fun a52 h52 => ?_; clear h12
  refine pk (v := .int .i64 d.ep) h52 rfl (rn_load1 rfl rfl Try.isAgg3 (hk5.cell rfl)) fun a53 h53 => ?_; clear h52
  refine pk0 (v := .int .i64 d.ep) h53 rfl fun a54 h54 => ?_; clear h53
  refine pl_nil ?_
  refine co_then ?_
  refine wp_ret ?_
  refine co_blockR ?_
  refine co_thenR ?_
  refine co_ret1 h54 rfl rfl ?_
  exact ⟨ret_int (np_1 (by omega)), hB14⟩
set_option maxRecDepth 100000 in
theorem rmPairs_any (v : Value) (l : List PrT) (w : World) (hs : SliceOf prE 2 w v l) :
    Calls Try.prog 137 #[v] w fun e w' => e = .returned (.int .i64 (chkLs 32 chkPair l)) ∧ Below w.heap.size w w' := by
 have hB0 := Below.refl w.heap.size w
 have hl_hs := sl_len hs
 refine co_enter (n := 27) Try.func137 rfl rfl rfl [(0, v)] rfl (fun a h0 => ?_)
 refine co_seq ?_
 refine co_reg ?_
 refine pk0 (v := .int .i64 0) h0 rfl fun a1 h1 => ?_; clear h0
 refine pl_nil ?_
 refine co_then ?_
 refine co_seq ?_
 refine co_seq ?_
 refine co_reg ?_
 refine pk0 (v := v) h1 rfl fun a2 h2 => ?_; clear h1
 refine pk (v := .int .i64 ((l.length : Nat) : Int)) h2 rfl (rn_len rfl rfl Try.underlying72 hs) fun a3 h3 => ?_; clear h2
 refine pk0 (v := .bool (decide (((l.length : Nat) : Int) > 32))) h3 rfl fun a4 h4 => ?_; clear h3
 refine pl_nil ?_
 refine co_then ?_
 cases hc5 : (decide (((l.length : Nat) : Int) > 32))
 ·
  rw [hc5] at h4
  have hp6 : ¬ (((l.length : Nat) : Int) > 32) := of_decide_eq_false hc5
  clear hc5
  refine co_false h4 rfl ?_
  refine wp_skip ?_
  refine co_then ?_
  refine co_seq ?_
  refine co_seq ?_
  refine co_reg ?_
  refine pk0 (v := .int .i64 0) h4 rfl fun a7 h7 => ?_; clear h4
  refine pl_nil ?_
  refine co_then ?_
  refine wp_block ?_
  have h8 : Slots 27 [(0, v), (2, .int .i64 0), (3, .int .i64 0)] _ := h7.sub ⟨rfl, rfl, rfl, trivial⟩; clear h7
  refine co_loop (fun mm a x => ∃ (i : Nat), Slots 27 [(0, v), (2, .int .i64 0), (3, .int .i64 ((i : Nat) : Int))] a ∧ mm = l.length - i ∧ (i ≤ l.length) ∧ (chkF chkPair (l.drop i) = chkF chkPair l) ∧ Below w.heap.size w x) (l.length - 0) ?_ ?_
  · exact ⟨0, h8.sub ⟨rfl, rfl, (slot_eq rfl (congrArg (Value.int .i64) (by first | rfl | omega))), trivial⟩, rfl, by omega, by first | rfl | exact hL', hB0⟩
  · rintro k9 a10 w11 ⟨i, h10, rfl, hi12, hi13, hB14⟩
    have hz15 := hB14.size
    have hL : chkF chkPair (l.drop i) = chkF chkPair l := by assumption
    refine co_seq ?_
    refine co_seq ?_
    refine co_reg ?_
    refine pk0 (v := .int .i64 ((i : Nat) : Int)) h10 rfl fun a16 h16 => ?_; clear h10
    refine pk0 (v := v) h16 rfl fun a17 h17 => ?_; clear h16
    refine pk (v := .int .i64 ((l.length : Nat) : Int)) h17 rfl (rn_len rfl rfl Try.underlying72 (hs.below hB14)) fun a18 h18 => ?_; clear h17
    refine pk0 (v := .bool (decide (((i : Nat) : Int) < ((l.length : Nat) : Int)))) h18 rfl fun a19 h19 => ?_; clear h18
    refine pl_nil ?_
    refine co_then ?_
    cases hc20 : (decide (((i : Nat) : Int) < ((l.length : Nat) : Int)))
    ·
     rw [hc20] at h19
     have hp21 : ¬ (((i : Nat) : Int) < ((l.length : Nat) : Int)) := of_decide_eq_false hc20
     clear hc20
     refine co_false h19 rfl ?_
     refine wp_exit ?_
     refine co_thenX ?_
     refine co_thenX ?_
     refine co_blockX ?_
     refine co_then ?_
     refine co_seq ?_
     refine co_reg ?_
     refine pk0 (v := .int .i64 0) h19 rfl fun a22 h22 => ?_; clear h19
     refine pl_nil ?_
     refine co_then ?_
     refine wp_ret ?_
     refine co_ret1 h22 rfl rfl ?_
     exact ⟨ret_int (by unfold chkLs; rw [if_neg (by omega)]; exact cF_end (i := i) hL (by omega)), hB14⟩
    ·
     rw [hc20] at h19
     have hp23 : ((i : Nat) : Int) < ((l.length : Nat) : Int) := of_decide_eq_true hc20
     clear hc20
     refine co_true h19 rfl ?_
     refine wp_skip ?_
     refine co_then ?_
     refine co_seq ?_
     refine wp_block ?_
     refine co_seq ?_
     refine co_seq ?_
     refine co_reg ?_
     refine pk0 (v := v) h19 rfl fun a24 h24 => ?_; clear h19
     refine pk0 (v := .int .i64 ((i : Nat) : Int)) h24 rfl fun a25 h25 => ?_; clear h24
     obtain ⟨y26, hy26⟩ : ∃ z, l[i]? = some z := ⟨_, List.getElem?_eq_getElem (by first | omega | (simp; done) | (simp; omega))⟩
     refine pk (v := pt (blkOf v) (offOf v + i * 2)) h25 rfl (rn_index rfl rfl rfl Try.underlying72 Try.sizeOf164 (hs.below hB14) (by omega) (by first | omega | (simp; done) | (simp; omega))) fun a27 h27 => ?_; clear h25
     refine pk0 (v := pt (blkOf v) (offOf v + i * 2)) h27 rfl fun a28 h28 => ?_; clear h27
     refine pk (v := .string y26.1) h28 rfl (rn_load1 rfl rfl Try.isAgg9 ((sl_at (hs.below hB14) hy26) 0 _ rfl)) fun a29 h29 => ?_; clear h28
     refine pw h29 rfl (op_call (args := #[.string y26.1]) (R := fun res xw => res = .int .i64 (keyC y26.1) ∧ Below w11.heap.size w11 xw) rfl rfl rfl (by kernel_rfl) (by kernel_rfl) (Try.call153 _ _) (rKey_any y26.1 w11 ) (by rintro e x ⟨rfl, hb32⟩; exact ⟨_, rfl, ⟨rfl, hb32⟩⟩)) ?_; clear h29
     rintro _ w31 a30 ⟨rfl, hb32⟩ h30
     have hz33 := hb32.size
     refine pk0 (v := .bool (keyC y26.1 != 0)) h30 rfl fun a34 h34 => ?_; clear h30
     refine pl_nil ?_
     refine co_then ?_
     have hB36 := hb_call hB14 hb32
     cases hc35 : (keyC y26.1 != 0)
     ·
      rw [hc35] at h34
      have hp37 : ¬ (keyC y26.1 ≠ 0) := by first | simpa using hc35 | simpa [and_assoc] using hc35
      clear hc35
      refine co_false h34 rfl ?_
      refine wp_skip ?_
      refine co_then ?_
      refine co_seq ?_
      refine co_reg ?_
      refine pk0 (v := v) h34 rfl fun a38 h38 => ?_; clear h34
      refine pk0 (v := .int .i64 ((i : Nat) : Int)) h38 rfl fun a39 h39 => ?_; clear h38
      refine pk (v := pt (blkOf v) (offOf v + i * 2)) h39 rfl (rn_index rfl rfl rfl Try.underlying72 Try.sizeOf164 (hs.below hB36) (by omega) (by first | omega | (simp; done) | (simp; omega))) fun a40 h40 => ?_; clear h39
      refine pk0 (v := pt (blkOf v) (offOf v + i * 2 + 1)) h40 rfl fun a41 h41 => ?_; clear h40
      refine pk (v := .string y26.2) h41 rfl (rn_load1 rfl rfl Try.isAgg9 ((sl_at (hs.below hB36) hy26) 1 _ rfl)) fun a42 h42 => ?_; clear h41
      refine pk (v := .int .i64 ((y26.2.size : Nat) : Int)) h42 rfl (rn_lenStr rfl rfl Try.underlying9) fun a43 h43 => ?_; clear h42
      refine pk0 (v := .bool (decide (((y26.2.size : Nat) : Int) > 8))) h43 rfl fun a44 h44 => ?_; clear h43
      refine pl_nil ?_
      refine co_then ?_
      cases hc45 : (decide (((y26.2.size : Nat) : Int) > 8))
      ·
       rw [hc45] at h44
       have hp46 : ¬ (((y26.2.size : Nat) : Int) > 8) := of_decide_eq_false hc45
       clear hc45
       refine co_false h44 rfl ?_
       refine wp_skip ?_
       refine co_blockN ?_
       refine co_then ?_
       refine co_reg ?_
       refine pk0 (v := .int .i64 ((i : Nat) : Int)) h44 rfl fun a47 h47 => ?_; clear h44
       refine pk (v := .int .i64 ((i + 1 : Nat) : Int)) h47 rfl (rn_arith' rfl rfl rfl rfl rfl rfl (IntWalk.i64_in _ (by omega)) (by omega)) fun a48 h48 => ?_; clear h47
       refine pk0 (v := .int .i64 ((i + 1 : Nat) : Int)) h48 rfl fun a49 h49 => ?_; clear h48
       refine pl_nil ?_
       refine co_then ?_
       refine ⟨(l.length - (i + 1)), by omega, ?_⟩
       have hbd : 0 = chkPair y26 := by unfold chkPair keyC at *; repeat' split; all_goals omega
       have hL' := cF_step (f := chkPair) hL hy26 hbd.symm
       exact ⟨i + 1, h49.sub ⟨rfl, rfl, rfl, trivial⟩, rfl, by omega, by first | rfl | exact hL', hB36⟩
      ·
       rw [hc45] at h44
       have hp50 : ((y26.2.size : Nat) : Int) > 8 := of_decide_eq_true hc45
       clear hc45
       refine co_true h44 rfl ?_
       refine co_seq ?_
       refine co_reg ?_
       refine pk0 (v := .int .i64 3) h44 rfl fun a51 h51 => ?_; clear h44
       refine pl_nil ?_
       refine co_then ?_
       refine wp_ret ?_
       refine co_blockR ?_
       refine co_thenR ?_
       refine co_thenR ?_
       refine co_blockR ?_
       refine co_thenR ?_
       refine co_ret1 h51 rfl rfl ?_
       have hbd : 3 = chkPair y26 := by unfold chkPair keyC at *; repeat' split; all_goals omega
       exact ⟨ret_int (by unfold chkLs; rw [if_neg (by omega), hbd]; exact cF_bad (f := chkPair) (i := i) hL hy26 (by omega)), hB36⟩
     ·
      rw [hc35] at h34
      have hp52 : keyC y26.1 ≠ 0 := by first | simpa using hc35 | simpa [and_assoc] using hc35
      clear hc35
      refine co_true h34 rfl ?_
      refine co_seq ?_
      refine co_reg ?_
      refine pk0 (v := .int .i64 10) h34 rfl fun a53 h53 => ?_; clear h34
      refine pl_nil ?_
      refine co_then ?_
      refine wp_ret ?_
      refine co_thenR ?_
      refine co_blockR ?_
      refine co_thenR ?_
      refine co_thenR ?_
      refine co_blockR ?_
      refine co_thenR ?_
      refine co_ret1 h53 rfl rfl ?_
      have hbd : 10 = chkPair y26 := by unfold chkPair keyC at *; repeat' split; all_goals omega
      exact ⟨ret_int (by unfold chkLs; rw [if_neg (by omega), hbd]; exact cF_bad (f := chkPair) (i := i) hL hy26 (by omega)), hB36⟩
 ·
  rw [hc5] at h4
  have hp54 : ((l.length : Nat) : Int) > 32 := of_decide_eq_true hc5
  clear hc5
  refine co_true h4 rfl ?_
  refine co_seq ?_
  refine co_reg ?_
  refine pk0 (v := .int .i64 6) h4 rfl fun a55 h55 => ?_; clear h4
  refine pl_nil ?_
  refine co_then ?_
  refine wp_ret ?_
  refine co_thenR ?_
  refine co_ret1 h55 rfl rfl ?_
  exact ⟨ret_int (by unfold chkLs; rw [if_pos (by omega)]), hB0⟩
set_option maxRecDepth 100000 in
theorem rmEntries_any (v : Value) (l : List EntT) (w : World) (hs : SliceOf entE 4 w v l) (hok : ∀ z ∈ l, EntOk w z) :
    Calls Try.prog 136 #[v] w fun e w' => e = .returned (.int .i64 (chkLs 4 chkEn l)) ∧ Below w.heap.size w w' := by
 have hB0 := Below.refl w.heap.size w
 have hl_hs := sl_len hs
 refine co_enter (n := 22) Try.func136 rfl rfl rfl [(0, v)] rfl (fun a h0 => ?_)
 refine co_seq ?_
 refine co_reg ?_
 refine pk0 (v := .int .i64 0) h0 rfl fun a1 h1 => ?_; clear h0
 refine pl_nil ?_
 refine co_then ?_
 refine co_seq ?_
 refine co_seq ?_
 refine co_reg ?_
 refine pk0 (v := v) h1 rfl fun a2 h2 => ?_; clear h1
 refine pk (v := .int .i64 ((l.length : Nat) : Int)) h2 rfl (rn_len rfl rfl Try.underlying69 hs) fun a3 h3 => ?_; clear h2
 refine pk0 (v := .bool (decide (((l.length : Nat) : Int) > 4))) h3 rfl fun a4 h4 => ?_; clear h3
 refine pl_nil ?_
 refine co_then ?_
 cases hc5 : (decide (((l.length : Nat) : Int) > 4))
 ·
  rw [hc5] at h4
  have hp6 : ¬ (((l.length : Nat) : Int) > 4) := of_decide_eq_false hc5
  clear hc5
  refine co_false h4 rfl ?_
  refine wp_skip ?_
  refine co_then ?_
  refine co_seq ?_
  refine co_seq ?_
  refine co_reg ?_
  refine pk0 (v := .int .i64 0) h4 rfl fun a7 h7 => ?_; clear h4
  refine pl_nil ?_
  refine co_then ?_
  refine wp_block ?_
  have h8 : Slots 22 [(0, v), (2, .int .i64 0), (3, .int .i64 0)] _ := h7.sub ⟨rfl, rfl, rfl, trivial⟩; clear h7
  refine co_loop (fun mm a x => ∃ (i : Nat), Slots 22 [(0, v), (2, .int .i64 0), (3, .int .i64 ((i : Nat) : Int))] a ∧ mm = l.length - i ∧ (i ≤ l.length) ∧ (chkF chkEn (l.drop i) = chkF chkEn l) ∧ Below w.heap.size w x) (l.length - 0) ?_ ?_
  · exact ⟨0, h8.sub ⟨rfl, rfl, (slot_eq rfl (congrArg (Value.int .i64) (by first | rfl | omega))), trivial⟩, rfl, by omega, by first | rfl | exact hL', hB0⟩
  · rintro k9 a10 w11 ⟨i, h10, rfl, hi12, hi13, hB14⟩
    have hz15 := hB14.size
    have hL : chkF chkEn (l.drop i) = chkF chkEn l := by assumption
    refine co_seq ?_
    refine co_seq ?_
    refine co_reg ?_
    refine pk0 (v := .int .i64 ((i : Nat) : Int)) h10 rfl fun a16 h16 => ?_; clear h10
    refine pk0 (v := v) h16 rfl fun a17 h17 => ?_; clear h16
    refine pk (v := .int .i64 ((l.length : Nat) : Int)) h17 rfl (rn_len rfl rfl Try.underlying69 (hs.below hB14)) fun a18 h18 => ?_; clear h17
    refine pk0 (v := .bool (decide (((i : Nat) : Int) < ((l.length : Nat) : Int)))) h18 rfl fun a19 h19 => ?_; clear h18
    refine pl_nil ?_
    refine co_then ?_
    cases hc20 : (decide (((i : Nat) : Int) < ((l.length : Nat) : Int)))
    ·
     rw [hc20] at h19
     have hp21 : ¬ (((i : Nat) : Int) < ((l.length : Nat) : Int)) := of_decide_eq_false hc20
     clear hc20
     refine co_false h19 rfl ?_
     refine wp_exit ?_
     refine co_thenX ?_
     refine co_thenX ?_
     refine co_blockX ?_
     refine co_then ?_
     refine co_seq ?_
     refine co_reg ?_
     refine pk0 (v := .int .i64 0) h19 rfl fun a22 h22 => ?_; clear h19
     refine pl_nil ?_
     refine co_then ?_
     refine wp_ret ?_
     refine co_ret1 h22 rfl rfl ?_
     exact ⟨ret_int (by unfold chkLs; rw [if_neg (by omega)]; exact cF_end (i := i) hL (by omega)), hB14⟩
    ·
     rw [hc20] at h19
     have hp23 : ((i : Nat) : Int) < ((l.length : Nat) : Int) := of_decide_eq_true hc20
     clear hc20
     refine co_true h19 rfl ?_
     refine wp_skip ?_
     refine co_then ?_
     refine co_seq ?_
     refine wp_block ?_
     refine co_seq ?_
     refine co_reg ?_
     refine pk0 (v := v) h19 rfl fun a24 h24 => ?_; clear h19
     refine pk0 (v := .int .i64 ((i : Nat) : Int)) h24 rfl fun a25 h25 => ?_; clear h24
     obtain ⟨y26, hy26⟩ : ∃ z, l[i]? = some z := ⟨_, List.getElem?_eq_getElem (by first | omega | (simp; done) | (simp; omega))⟩
     have oky26 := hok _ (List.mem_of_getElem? hy26)
     have k27 : 0 ≤ y26.ts := oky26.ts0
     have k28 : y26.ts < 18446744073709551616 := oky26.ts1
     refine pk (v := pt (blkOf v) (offOf v + i * 4)) h25 rfl (rn_index rfl rfl rfl Try.underlying69 Try.sizeOf38 (hs.below hB14) (by omega) (by first | omega | (simp; done) | (simp; omega))) fun a29 h29 => ?_; clear h25
     refine pk (v := .agg #[.int .i64 y26.client, .int .i64 y26.req, y26.ops, .int .u64 y26.ts]) h29 rfl (rn_loadN rfl rfl Try.underlying38 rfl (by kernel_rfl) (sl_at (hs.below hB14) hy26)) fun a30 h30 => ?_; clear h29
     refine pw h30 rfl (op_call (args := #[.agg #[.int .i64 y26.client, .int .i64 y26.req, y26.ops, .int .u64 y26.ts]]) (R := fun res xw => res = .int .i64 (chkB y26.client y26.req y26.opl) ∧ Below w11.heap.size w11 xw) rfl rfl rfl (by kernel_rfl) (by kernel_rfl) (Try.call81 _ _) (ritemCheck_any y26.client y26.req y26.ops y26.opl y26.ts w11 (oky26.ops.below hB14)) (by rintro e x ⟨rfl, hb33⟩; exact ⟨_, rfl, ⟨rfl, hb33⟩⟩)) ?_; clear h30
     rintro _ w32 a31 ⟨rfl, hb33⟩ h31
     have hz34 := hb33.size
     refine pk0 (v := .int .i64 (chkB y26.client y26.req y26.opl)) h31 rfl fun a35 h35 => ?_; clear h31
     refine pl_nil ?_
     refine co_then ?_
     refine co_seq ?_
     refine co_reg ?_
     refine pk0 (v := .int .i64 (chkB y26.client y26.req y26.opl)) h35 rfl fun a36 h36 => ?_; clear h35
     refine pk0 (v := .bool (chkB y26.client y26.req y26.opl != 0)) h36 rfl fun a37 h37 => ?_; clear h36
     refine pl_nil ?_
     refine co_then ?_
     have hB39 := hb_call hB14 hb33
     cases hc38 : (chkB y26.client y26.req y26.opl != 0)
     ·
      rw [hc38] at h37
      have hp40 : ¬ (chkB y26.client y26.req y26.opl ≠ 0) := by first | simpa using hc38 | simpa [and_assoc] using hc38
      clear hc38
      refine co_false h37 rfl ?_
      refine wp_skip ?_
      refine co_blockN ?_
      refine co_then ?_
      refine co_reg ?_
      refine pk0 (v := .int .i64 ((i : Nat) : Int)) h37 rfl fun a41 h41 => ?_; clear h37
      refine pk (v := .int .i64 ((i + 1 : Nat) : Int)) h41 rfl (rn_arith' rfl rfl rfl rfl rfl rfl (IntWalk.i64_in _ (by omega)) (by omega)) fun a42 h42 => ?_; clear h41
      refine pk0 (v := .int .i64 ((i + 1 : Nat) : Int)) h42 rfl fun a43 h43 => ?_; clear h42
      refine pl_nil ?_
      refine co_then ?_
      refine ⟨(l.length - (i + 1)), by omega, ?_⟩
      have hbd : 0 = chkEn y26 := by unfold chkEn; omega
      have hL' := cF_step (f := chkEn) hL hy26 hbd.symm
      exact ⟨i + 1, h43.sub ⟨rfl, rfl, rfl, trivial⟩, rfl, by omega, by first | rfl | exact hL', hB39⟩
     ·
      rw [hc38] at h37
      have hp44 : chkB y26.client y26.req y26.opl ≠ 0 := by first | simpa using hc38 | simpa [and_assoc] using hc38
      clear hc38
      refine co_true h37 rfl ?_
      refine co_seq ?_
      refine co_reg ?_
      refine pk0 (v := .int .i64 (chkB y26.client y26.req y26.opl)) h37 rfl fun a45 h45 => ?_; clear h37
      refine pk0 (v := .int .i64 (chkB y26.client y26.req y26.opl)) h45 rfl fun a46 h46 => ?_; clear h45
      refine pl_nil ?_
      refine co_then ?_
      refine wp_ret ?_
      refine co_blockR ?_
      refine co_thenR ?_
      refine co_thenR ?_
      refine co_blockR ?_
      refine co_thenR ?_
      refine co_ret1 h46 rfl rfl ?_
      have hbd : chkB y26.client y26.req y26.opl = chkEn y26 := by unfold chkEn; omega
      exact ⟨ret_int (by unfold chkLs; rw [if_neg (by omega), hbd]; exact cF_bad (f := chkEn) (i := i) hL hy26 (by omega)), hB39⟩
 ·
  rw [hc5] at h4
  have hp47 : ((l.length : Nat) : Int) > 4 := of_decide_eq_true hc5
  clear hc5
  refine co_true h4 rfl ?_
  refine co_seq ?_
  refine co_reg ?_
  refine pk0 (v := .int .i64 6) h4 rfl fun a48 h48 => ?_; clear h4
  refine pl_nil ?_
  refine co_then ?_
  refine wp_ret ?_
  refine co_thenR ?_
  refine co_ret1 h48 rfl rfl ?_
  exact ⟨ret_int (by unfold chkLs; rw [if_pos (by omega)]), hB0⟩
set_option maxRecDepth 100000 in
theorem rmWrong_any (d : MsgD) (mv : Value) (bv : Value) (ev : Value) (sv : Value) (pv : Value) (c : Int) (w : World) (hm : SliceOf memE 2 w mv d.cms) (hb : SliceOf opE 3 w bv d.bl) (he : SliceOf entE 4 w ev d.en) (ht : SliceOf (intE .u64) 1 w sv d.st) (hp : SliceOf prE 2 w pv d.pr) (hok : ∀ z ∈ d.en, EntOk w z) (hR : MsgR d) (hc : c ≠ 113 ∧ c ≠ 76) :
    Calls Try.prog 94 #[.agg #[.int .i64 d.k, .int .i64 d.ep, .int .i64 d.rq, .int .i64 d.sr, .bool d.fg, .int .u64 d.at_, .int .u64 d.la, .int .i64 d.n, .int .i64 d.m, .int .i64 d.p, .int .i64 d.e, .string d.key, .string d.to_, .int .i64 d.cep, mv, .int .u64 d.cfl, .int .i64 d.bc, .int .i64 d.br, bv, ev, sv, pv], .int .u8 c] w fun e w' => e = .returned (.int .i64 (chkP d (plet c))) ∧ Below w.heap.size w w' := by
 have hrng := hR.rng
 have hpl : (c = 114 → plet c = 113) ∧ (c = 69 → plet c = 76) ∧ (c ≠ 114 ∧ c ≠ 69 → plet c = c) := ⟨pl_114, pl_69, fun h => pl_o h.1 h.2⟩
 have hB0 := Below.refl w.heap.size w
 have hl_hm := sl_len hm
 have hl_hb := sl_len hb
 have hl_he := sl_len he
 have hl_ht := sl_len ht
 have hl_hp := sl_len hp
 refine co_enter (n := 71) Try.func94 rfl rfl rfl [(0, .agg #[.int .i64 d.k, .int .i64 d.ep, .int .i64 d.rq, .int .i64 d.sr, .bool d.fg, .int .u64 d.at_, .int .u64 d.la, .int .i64 d.n, .int .i64 d.m, .int .i64 d.p, .int .i64 d.e, .string d.key, .string d.to_, .int .i64 d.cep, mv, .int .u64 d.cfl, .int .i64 d.bc, .int .i64 d.br, bv, ev, sv, pv]), (1, .int .u8 c)] rfl (fun a h0 => ?_)
 refine co_seq ?_
 refine co_reg ?_
 refine pw h0 rfl (op_new (v := fun N => pt N 0) (T := 74) (cs := #[.int .i64 d.k, .int .i64 d.ep, .int .i64 d.rq, .int .i64 d.sr, .bool d.fg, .int .u64 d.at_, .int .u64 d.la, .int .i64 d.n, .int .i64 d.m, .int .i64 d.p, .int .i64 d.e, .string d.key, .string d.to_, .int .i64 d.cep, mv, .int .u64 d.cfl, .int .i64 d.bc, .int .i64 d.br, bv, ev, sv, pv]) (by kernel_rfl) (by kernel_rfl) (by kernel_rfl)) ?_; clear h0
 rintro _ w2 a1 ⟨N3, rfl, hN6, hz7, hk5, hg4⟩ h1
 have hz8 := hg4.size
 try dsimp only at h1
 refine pk0 (v := .int .i64 0) h1 rfl fun a9 h9 => ?_; clear h1
 refine pl_nil ?_
 refine co_then ?_
 refine co_seq ?_
 refine co_seq ?_
 refine co_reg ?_
 refine pk0 (v := .int .u8 c) h9 rfl fun a10 h10 => ?_; clear h9
 refine pl_nil ?_
 refine co_then ?_
 refine wp_block ?_
 refine co_seq ?_
 refine co_seq ?_
 refine co_reg ?_
 refine pk0 (v := .bool (c == 101)) h10 rfl fun a11 h11 => ?_; clear h10
 refine pk0 (v := .bool (c == 101)) h11 rfl fun a12 h12 => ?_; clear h11
 refine pl_nil ?_
 refine co_then ?_
 have hB14 := hb_new hB0 hg4
 cases hc13 : (c == 101)
 ·
  rw [hc13] at h12
  have hp15 : ¬ (c = 101) := by first | simpa using hc13 | simpa [and_assoc] using hc13
  clear hc13
  refine co_false h12 rfl ?_
  refine co_seq ?_
  refine co_reg ?_
  refine pk0 (v := .bool (c == 115)) h12 rfl fun a16 h16 => ?_; clear h12
  refine pk0 (v := .bool (c == 115)) h16 rfl fun a17 h17 => ?_; clear h16
  refine pl_nil ?_
  refine co_then ?_
  cases hc18 : (c == 115)
  ·
   rw [hc18] at h17
   have hp19 : ¬ (c = 115) := by first | simpa using hc18 | simpa [and_assoc] using hc18
   clear hc18
   refine co_false h17 rfl ?_
   refine co_seq ?_
   refine co_reg ?_
   refine pk0 (v := .bool (c == 114)) h17 rfl fun a20 h20 => ?_; clear h17
   refine pk0 (v := .bool (c == 114)) h20 rfl fun a21 h21 => ?_; clear h20
   refine pl_nil ?_
   refine co_then ?_
   cases hc22 : (c == 114)
   ·
    rw [hc22] at h21
    have hp23 : ¬ (c = 114) := by first | simpa using hc22 | simpa [and_assoc] using hc22
    clear hc22
    refine co_false h21 rfl ?_
    refine co_seq ?_
    refine co_reg ?_
    refine pk0 (v := .bool (c == 110)) h21 rfl fun a24 h24 => ?_; clear h21
    refine pk0 (v := .bool (c == 110)) h24 rfl fun a25 h25 => ?_; clear h24
    refine pl_nil ?_
    refine co_then ?_
    cases hc26 : (c == 110)
    ·
     rw [hc26] at h25
     have hp27 : ¬ (c = 110) := by first | simpa using hc26 | simpa [and_assoc] using hc26
     clear hc26
     refine co_false h25 rfl ?_
     refine co_seq ?_
     refine co_reg ?_
     refine pk0 (v := .bool (c == 109)) h25 rfl fun a28 h28 => ?_; clear h25
     refine pk0 (v := .bool (c == 109)) h28 rfl fun a29 h29 => ?_; clear h28
     refine pl_nil ?_
     refine co_then ?_
     cases hc30 : (c == 109)
     ·
      rw [hc30] at h29
      have hp31 : ¬ (c = 109) := by first | simpa using hc30 | simpa [and_assoc] using hc30
      clear hc30
      refine co_false h29 rfl ?_
      refine co_reg ?_
      refine pk0 (v := .bool (c == 112)) h29 rfl fun a32 h32 => ?_; clear h29
      refine pk0 (v := .bool (c == 112)) h32 rfl fun a33 h33 => ?_; clear h32
      refine pl_nil ?_
      refine co_then ?_
      cases hc34 : (c == 112)
      ·
       rw [hc34] at h33
       have hp35 : ¬ (c = 112) := by first | simpa using hc34 | simpa [and_assoc] using hc34
       clear hc34
       refine co_false h33 rfl ?_
       refine co_seq ?_
       refine co_reg ?_
       refine pk0 (v := .bool (c == 120)) h33 rfl fun a36 h36 => ?_; clear h33
       refine pk0 (v := .bool (c == 120)) h36 rfl fun a37 h37 => ?_; clear h36
       refine pl_nil ?_
       refine co_then ?_
       cases hc38 : (c == 120)
       ·
        rw [hc38] at h37
        have hp39 : ¬ (c = 120) := by first | simpa using hc38 | simpa [and_assoc] using hc38
        clear hc38
        refine co_false h37 rfl ?_
        refine co_seq ?_
        refine co_reg ?_
        refine pk0 (v := .bool (c == 107)) h37 rfl fun a40 h40 => ?_; clear h37
        refine pk0 (v := .bool (c == 107)) h40 rfl fun a41 h41 => ?_; clear h40
        refine pl_nil ?_
        refine co_then ?_
        cases hc42 : (c == 107)
        ·
         rw [hc42] at h41
         have hp43 : ¬ (c = 107) := by first | simpa using hc42 | simpa [and_assoc] using hc42
         clear hc42
         refine co_false h41 rfl ?_
         refine co_seq ?_
         refine co_reg ?_
         refine pk0 (v := .bool (c == 116)) h41 rfl fun a44 h44 => ?_; clear h41
         refine pk0 (v := .bool (c == 116)) h44 rfl fun a45 h45 => ?_; clear h44
         refine pl_nil ?_
         refine co_then ?_
         cases hc46 : (c == 116)
         ·
          rw [hc46] at h45
          have hp47 : ¬ (c = 116) := by first | simpa using hc46 | simpa [and_assoc] using hc46
          clear hc46
          refine co_false h45 rfl ?_
          refine co_seq ?_
          refine co_reg ?_
          refine pk0 (v := .bool (c == 67)) h45 rfl fun a48 h48 => ?_; clear h45
          refine pk0 (v := .bool (c == 67)) h48 rfl fun a49 h49 => ?_; clear h48
          refine pl_nil ?_
          refine co_then ?_
          cases hc50 : (c == 67)
          ·
           rw [hc50] at h49
           have hp51 : ¬ (c = 67) := by first | simpa using hc50 | simpa [and_assoc] using hc50
           clear hc50
           refine co_false h49 rfl ?_
           refine co_seq ?_
           refine co_reg ?_
           refine pk0 (v := .bool (c == 66)) h49 rfl fun a52 h52 => ?_; clear h49
           refine pk0 (v := .bool (c == 66)) h52 rfl fun a53 h53 => ?_; clear h52
           refine pl_nil ?_
           refine co_then ?_
           cases hc54 : (c == 66)
           ·
            rw [hc54] at h53
            have hp55 : ¬ (c = 66) := by first | simpa using hc54 | simpa [and_assoc] using hc54
            clear hc54
            refine co_false h53 rfl ?_
            refine co_seq ?_
            refine co_reg ?_
            refine pk0 (v := .bool (c == 69)) h53 rfl fun a56 h56 => ?_; clear h53
            refine pk0 (v := .bool (c == 69)) h56 rfl fun a57 h57 => ?_; clear h56
            refine pl_nil ?_
            refine co_then ?_
            cases hc58 : (c == 69)
            ·
             rw [hc58] at h57
             have hp59 : ¬ (c = 69) := by first | simpa using hc58 | simpa [and_assoc] using hc58
             clear hc58
             refine co_false h57 rfl ?_
             refine co_seq ?_
             refine co_reg ?_
             refine pk0 (v := .bool (c == 83)) h57 rfl fun a60 h60 => ?_; clear h57
             refine pk0 (v := .bool (c == 83)) h60 rfl fun a61 h61 => ?_; clear h60
             refine pl_nil ?_
             refine co_then ?_
             cases hc62 : (c == 83)
             ·
              rw [hc62] at h61
              have hp63 : ¬ (c = 83) := by first | simpa using hc62 | simpa [and_assoc] using hc62
              clear hc62
              refine co_false h61 rfl ?_
              refine co_seq ?_
              refine co_reg ?_
              refine pk0 (v := .bool (c == 82)) h61 rfl fun a64 h64 => ?_; clear h61
              refine pk0 (v := .bool (c == 82)) h64 rfl fun a65 h65 => ?_; clear h64
              refine pl_nil ?_
              refine co_then ?_
              cases hc66 : (c == 82)
              ·
               rw [hc66] at h65
               have hp67 : ¬ (c = 82) := by first | simpa using hc66 | simpa [and_assoc] using hc66
               clear hc66
               refine co_false h65 rfl ?_
               refine wp_skip ?_
               refine co_blockN ?_
               refine co_then ?_
               refine co_seq ?_
               refine co_reg ?_
               refine pk0 (v := .int .i64 0) h65 rfl fun a68 h68 => ?_; clear h65
               refine pl_nil ?_
               refine co_then ?_
               refine wp_ret ?_
               refine co_ret1 h68 rfl rfl ?_
               exact ⟨ret_int (by rw [cp_0 (by omega)]), hB14⟩
              ·
               rw [hc66] at h65
               have hp69 : c = 82 := by first | simpa using hc66 | simpa [and_assoc] using hc66
               clear hc66
               refine co_true h65 rfl ?_
               refine co_seq ?_
               refine co_reg ?_
               refine pk0 (v := pt N3 21) h65 rfl fun a70 h70 => ?_; clear h65
               refine pk (v := pv) h70 rfl (rn_load1 rfl rfl Try.isAgg72 (hk5.cell rfl)) fun a71 h71 => ?_; clear h70
               refine pw h71 rfl (op_call (args := #[pv]) (R := fun res xw => res = .int .i64 (chkLs 32 chkPair d.pr) ∧ Below w2.heap.size w2 xw) rfl rfl rfl (by kernel_rfl) (by kernel_rfl) (Try.call137 _ _) (rmPairs_any pv d.pr w2 (hp.below hB14)) (by rintro e x ⟨rfl, hb74⟩; exact ⟨_, rfl, ⟨rfl, hb74⟩⟩)) ?_; clear h71
               rintro _ w73 a72 ⟨rfl, hb74⟩ h72
               have hz75 := hb74.size
               refine pk0 (v := .int .i64 (chkLs 32 chkPair d.pr)) h72 rfl fun a76 h76 => ?_; clear h72
               refine pl_nil ?_
               refine co_then ?_
               refine wp_ret ?_
               refine co_blockR ?_
               refine co_thenR ?_
               refine co_ret1 h76 rfl rfl ?_
               have hB77 := hb_call hB14 hb74
               exact ⟨ret_int (by rw [cp_R (by omega)]), hB77⟩
             ·
              rw [hc62] at h61
              have hp78 : c = 83 := by first | simpa using hc62 | simpa [and_assoc] using hc62
              clear hc62
              refine co_true h61 rfl ?_
              refine co_seq ?_
              refine co_reg ?_
              refine pk0 (v := pt N3 20) h61 rfl fun a79 h79 => ?_; clear h61
              refine pk (v := sv) h79 rfl (rn_load1 rfl rfl Try.isAgg71 (hk5.cell rfl)) fun a80 h80 => ?_; clear h79
              refine pk (v := .int .i64 ((d.st.length : Nat) : Int)) h80 rfl (rn_len rfl rfl Try.underlying71 (ht.below hB14)) fun a81 h81 => ?_; clear h80
              refine pk0 (v := .bool (decide (((d.st.length : Nat) : Int) > 8))) h81 rfl fun a82 h82 => ?_; clear h81
              refine pl_nil ?_
              refine co_then ?_
              cases hc83 : (decide (((d.st.length : Nat) : Int) > 8))
              ·
               rw [hc83] at h82
               have hp84 : ¬ (((d.st.length : Nat) : Int) > 8) := of_decide_eq_false hc83
               clear hc83
               refine co_false h82 rfl ?_
               refine wp_skip ?_
               refine co_blockN ?_
               refine co_then ?_
               refine co_seq ?_
               refine co_reg ?_
               refine pk0 (v := .int .i64 0) h82 rfl fun a85 h85 => ?_; clear h82
               refine pl_nil ?_
               refine co_then ?_
               refine wp_ret ?_
               refine co_ret1 h85 rfl rfl ?_
               exact ⟨ret_int (by rw [cp_S (by omega)]; unfold chkLs; first | rw [if_pos (by omega)] | rw [if_neg (by omega), cS_all]), hB14⟩
              ·
               rw [hc83] at h82
               have hp86 : ((d.st.length : Nat) : Int) > 8 := of_decide_eq_true hc83
               clear hc83
               refine co_true h82 rfl ?_
               refine co_seq ?_
               refine co_reg ?_
               refine pk0 (v := .int .i64 6) h82 rfl fun a87 h87 => ?_; clear h82
               refine pl_nil ?_
               refine co_then ?_
               refine wp_ret ?_
               refine co_blockR ?_
               refine co_thenR ?_
               refine co_ret1 h87 rfl rfl ?_
               exact ⟨ret_int (by rw [cp_S (by omega)]; unfold chkLs; first | rw [if_pos (by omega)] | rw [if_neg (by omega), cS_all]), hB14⟩
            ·
             rw [hc58] at h57
             have hp88 : c = 69 := by first | simpa using hc58 | simpa [and_assoc] using hc58
             clear hc58
             refine co_true h57 rfl ?_
             refine co_seq ?_
             refine co_reg ?_
             refine pk0 (v := pt N3 19) h57 rfl fun a89 h89 => ?_; clear h57
             refine pk (v := ev) h89 rfl (rn_load1 rfl rfl Try.isAgg69 (hk5.cell rfl)) fun a90 h90 => ?_; clear h89
             refine pw h90 rfl (op_call (args := #[ev]) (R := fun res xw => res = .int .i64 (chkLs 4 chkEn d.en) ∧ Below w2.heap.size w2 xw) rfl rfl rfl (by kernel_rfl) (by kernel_rfl) (Try.call136 _ _) (rmEntries_any ev d.en w2 (he.below hB14) (fun z hz => (hok z hz).below hB14)) (by rintro e x ⟨rfl, hb93⟩; exact ⟨_, rfl, ⟨rfl, hb93⟩⟩)) ?_; clear h90
             rintro _ w92 a91 ⟨rfl, hb93⟩ h91
             have hz94 := hb93.size
             refine pk0 (v := .int .i64 (chkLs 4 chkEn d.en)) h91 rfl fun a95 h95 => ?_; clear h91
             refine pl_nil ?_
             refine co_then ?_
             refine wp_ret ?_
             refine co_blockR ?_
             refine co_thenR ?_
             refine co_ret1 h95 rfl rfl ?_
             have hB96 := hb_call hB14 hb93
             exact ⟨ret_int (by rw [cp_L (by omega)]), hB96⟩
           ·
            rw [hc54] at h53
            have hp97 : c = 66 := by first | simpa using hc54 | simpa [and_assoc] using hc54
            clear hc54
            refine co_true h53 rfl ?_
            refine co_seq ?_
            refine co_reg ?_
            refine pk0 (v := pt N3 16) h53 rfl fun a98 h98 => ?_; clear h53
            refine pk (v := .agg #[.int .i64 d.bc, .int .i64 d.br, bv]) h98 rfl (rn_loadN rfl rfl Try.underlying36 rfl (by kernel_rfl) (blk_part hk5 16 (by rfl))) fun a99 h99 => ?_; clear h98
            refine pw h99 rfl (op_call (args := #[.agg #[.int .i64 d.bc, .int .i64 d.br, bv]]) (R := fun res xw => res = .int .i64 (chkB d.bc d.br d.bl) ∧ Below w2.heap.size w2 xw) rfl rfl rfl (by kernel_rfl) (by kernel_rfl) (Try.call125 _ _) (ropsCheck_any d.bc d.br bv d.bl w2 (hb.below hB14)) (by rintro e x ⟨rfl, hb102⟩; exact ⟨_, rfl, ⟨rfl, hb102⟩⟩)) ?_; clear h99
            rintro _ w101 a100 ⟨rfl, hb102⟩ h100
            have hz103 := hb102.size
            refine pk0 (v := .int .i64 (chkB d.bc d.br d.bl)) h100 rfl fun a104 h104 => ?_; clear h100
            refine pl_nil ?_
            refine co_then ?_
            refine wp_ret ?_
            refine co_blockR ?_
            refine co_thenR ?_
            refine co_ret1 h104 rfl rfl ?_
            have hB105 := hb_call hB14 hb102
            exact ⟨ret_int (by rw [cp_B (by omega)]), hB105⟩
          ·
           rw [hc50] at h49
           have hp106 : c = 67 := by first | simpa using hc50 | simpa [and_assoc] using hc50
           clear hc50
           refine co_true h49 rfl ?_
           refine co_seq ?_
           refine co_reg ?_
           refine pk0 (v := pt N3 13) h49 rfl fun a107 h107 => ?_; clear h49
           refine pk (v := .agg #[.int .i64 d.cep, mv, .int .u64 d.cfl]) h107 rfl (rn_loadN rfl rfl Try.underlying32 rfl (by kernel_rfl) (blk_part hk5 13 (by rfl))) fun a108 h108 => ?_; clear h107
           refine pw h108 rfl (op_call (args := #[.agg #[.int .i64 d.cep, mv, .int .u64 d.cfl]]) (R := fun res xw => res = .int .i64 (chkC d.cep d.cms) ∧ Below w2.heap.size w2 xw) rfl rfl rfl (by kernel_rfl) (by kernel_rfl) (Try.call111 _ _) (wrcheck_any d.cep mv d.cms d.cfl w2 (hm.below hB14) hR.mem (by omega) (by omega)) (by rintro e x ⟨rfl, hb111⟩; exact ⟨_, rfl, ⟨rfl, hb111⟩⟩)) ?_; clear h108
           rintro _ w110 a109 ⟨rfl, hb111⟩ h109
           have hz112 := hb111.size
           refine pk0 (v := .int .i64 (chkC d.cep d.cms)) h109 rfl fun a113 h113 => ?_; clear h109
           refine pl_nil ?_
           refine co_then ?_
           refine wp_ret ?_
           refine co_blockR ?_
           refine co_thenR ?_
           refine co_ret1 h113 rfl rfl ?_
           have hB114 := hb_call hB14 hb111
           exact ⟨ret_int (by rw [cp_C (by omega)]), hB114⟩
         ·
          rw [hc46] at h45
          have hp115 : c = 116 := by first | simpa using hc46 | simpa [and_assoc] using hc46
          clear hc46
          refine co_true h45 rfl ?_
          refine co_seq ?_
          refine co_reg ?_
          refine pk0 (v := pt N3 12) h45 rfl fun a116 h116 => ?_; clear h45
          refine pk (v := .string d.to_) h116 rfl (rn_load1 rfl rfl Try.isAgg9 (hk5.cell rfl)) fun a117 h117 => ?_; clear h116
          refine pk (v := .int .i64 ((d.to_.size : Nat) : Int)) h117 rfl (rn_lenStr rfl rfl Try.underlying9) fun a118 h118 => ?_; clear h117
          refine pk0 (v := .bool (decide (((d.to_.size : Nat) : Int) > 8))) h118 rfl fun a119 h119 => ?_; clear h118
          refine pl_nil ?_
          refine co_then ?_
          cases hc120 : (decide (((d.to_.size : Nat) : Int) > 8))
          ·
           rw [hc120] at h119
           have hp121 : ¬ (((d.to_.size : Nat) : Int) > 8) := of_decide_eq_false hc120
           clear hc120
           refine co_false h119 rfl ?_
           refine wp_skip ?_
           refine co_blockN ?_
           refine co_then ?_
           refine co_seq ?_
           refine co_reg ?_
           refine pk0 (v := .int .i64 0) h119 rfl fun a122 h122 => ?_; clear h119
           refine pl_nil ?_
           refine co_then ?_
           refine wp_ret ?_
           refine co_ret1 h122 rfl rfl ?_
           exact ⟨ret_int (by rw [cp_t (by omega)]; first | rw [if_pos (by omega)] | rw [if_neg (by omega)]), hB14⟩
          ·
           rw [hc120] at h119
           have hp123 : ((d.to_.size : Nat) : Int) > 8 := of_decide_eq_true hc120
           clear hc120
           refine co_true h119 rfl ?_
           refine co_seq ?_
           refine co_reg ?_
           refine pk0 (v := .int .i64 3) h119 rfl fun a124 h124 => ?_; clear h119
           refine pl_nil ?_
           refine co_then ?_
           refine wp_ret ?_
           refine co_blockR ?_
           refine co_thenR ?_
           refine co_ret1 h124 rfl rfl ?_
           exact ⟨ret_int (by rw [cp_t (by omega)]; first | rw [if_pos (by omega)] | rw [if_neg (by omega)]), hB14⟩
        ·
         rw [hc42] at h41
         have hp125 : c = 107 := by first | simpa using hc42 | simpa [and_assoc] using hc42
         clear hc42
         refine co_true h41 rfl ?_
         refine co_seq ?_
         refine co_reg ?_
         refine pk0 (v := pt N3 11) h41 rfl fun a126 h126 => ?_; clear h41
         refine pk (v := .string d.key) h126 rfl (rn_load1 rfl rfl Try.isAgg9 (hk5.cell rfl)) fun a127 h127 => ?_; clear h126
         refine pk (v := .int .i64 ((d.key.size : Nat) : Int)) h127 rfl (rn_lenStr rfl rfl Try.underlying9) fun a128 h128 => ?_; clear h127
         refine pk0 (v := .bool (decide (((d.key.size : Nat) : Int) > 8))) h128 rfl fun a129 h129 => ?_; clear h128
         refine pl_nil ?_
         refine co_then ?_
         cases hc130 : (decide (((d.key.size : Nat) : Int) > 8))
         ·
          rw [hc130] at h129
          have hp131 : ¬ (((d.key.size : Nat) : Int) > 8) := of_decide_eq_false hc130
          clear hc130
          refine co_false h129 rfl ?_
          refine wp_skip ?_
          refine co_blockN ?_
          refine co_then ?_
          refine co_seq ?_
          refine co_reg ?_
          refine pk0 (v := .int .i64 0) h129 rfl fun a132 h132 => ?_; clear h129
          refine pl_nil ?_
          refine co_then ?_
          refine wp_ret ?_
          refine co_ret1 h132 rfl rfl ?_
          exact ⟨ret_int (by rw [cp_k (by omega)]; first | rw [if_pos (by omega)] | rw [if_neg (by omega)]), hB14⟩
         ·
          rw [hc130] at h129
          have hp133 : ((d.key.size : Nat) : Int) > 8 := of_decide_eq_true hc130
          clear hc130
          refine co_true h129 rfl ?_
          refine co_seq ?_
          refine co_reg ?_
          refine pk0 (v := .int .i64 3) h129 rfl fun a134 h134 => ?_; clear h129
          refine pl_nil ?_
          refine co_then ?_
          refine wp_ret ?_
          refine co_blockR ?_
          refine co_thenR ?_
          refine co_ret1 h134 rfl rfl ?_
          exact ⟨ret_int (by rw [cp_k (by omega)]; first | rw [if_pos (by omega)] | rw [if_neg (by omega)]), hB14⟩
       ·
        rw [hc38] at h37
        have hp135 : c = 120 := by first | simpa using hc38 | simpa [and_assoc] using hc38
        clear hc38
        refine co_true h37 rfl ?_
        refine co_seq ?_
        refine co_reg ?_
        refine pk0 (v := pt N3 10) h37 rfl fun a136 h136 => ?_; clear h37
        refine pk (v := .int .i64 d.e) h136 rfl (rn_load1 rfl rfl Try.isAgg27 (hk5.cell rfl)) fun a137 h137 => ?_; clear h136
        refine pk0 (v := .bool (decide (d.e < 0))) h137 rfl fun a138 h138 => ?_; clear h137
        refine pk0 (v := .bool (decide (d.e < 0))) h138 rfl fun a139 h139 => ?_; clear h138
        cases hc140 : (decide (d.e < 0))
        ·
         rw [hc140] at h139
         have hp141 : ¬ (d.e < 0) := of_decide_eq_false hc140
         clear hc140
         refine pk0 (v := pt N3 10) h139 rfl fun a142 h142 => ?_; clear h139
         refine pk (v := .int .i64 d.e) h142 rfl (rn_load1 rfl rfl Try.isAgg27 (hk5.cell rfl)) fun a143 h143 => ?_; clear h142
         refine pk0 (v := .bool (decide (d.e > 21))) h143 rfl fun a144 h144 => ?_; clear h143
         refine pk0 (v := .bool (decide (d.e > 21))) h144 rfl fun a145 h145 => ?_; clear h144
         refine pl_nil ?_
         refine co_then ?_
         cases hc146 : (decide (d.e > 21))
         ·
          rw [hc146] at h145
          have hp147 : ¬ (d.e > 21) := of_decide_eq_false hc146
          clear hc146
          refine co_false h145 rfl ?_
          refine wp_skip ?_
          refine co_blockN ?_
          refine co_then ?_
          refine co_seq ?_
          refine co_reg ?_
          refine pk0 (v := .int .i64 0) h145 rfl fun a148 h148 => ?_; clear h145
          refine pl_nil ?_
          refine co_then ?_
          refine wp_ret ?_
          refine co_ret1 h148 rfl rfl ?_
          exact ⟨ret_int (by rw [cp_x (by omega)]; first | rw [if_pos (by omega)] | rw [if_neg (by omega)]), hB14⟩
         ·
          rw [hc146] at h145
          have hp149 : d.e > 21 := of_decide_eq_true hc146
          clear hc146
          refine co_true h145 rfl ?_
          refine co_seq ?_
          refine co_reg ?_
          refine pk0 (v := .int .i64 1) h145 rfl fun a150 h150 => ?_; clear h145
          refine pl_nil ?_
          refine co_then ?_
          refine wp_ret ?_
          refine co_blockR ?_
          refine co_thenR ?_
          refine co_ret1 h150 rfl rfl ?_
          exact ⟨ret_int (by rw [cp_x (by omega)]; first | rw [if_pos (by omega)] | rw [if_neg (by omega)]), hB14⟩
        ·
         rw [hc140] at h139
         have hp151 : d.e < 0 := of_decide_eq_true hc140
         clear hc140
         refine psk h139 rfl fun a152 h152 => ?_; clear h139
         refine psk h152 rfl fun a153 h153 => ?_; clear h152
         refine psk h153 rfl fun a154 h154 => ?_; clear h153
         refine pk0 (v := .bool true) h154 rfl fun a155 h155 => ?_; clear h154
         refine pl_nil ?_
         refine co_then ?_
         refine co_true h155 rfl ?_
         refine co_seq ?_
         refine co_reg ?_
         refine pk0 (v := .int .i64 1) h155 rfl fun a156 h156 => ?_; clear h155
         refine pl_nil ?_
         refine co_then ?_
         refine wp_ret ?_
         refine co_blockR ?_
         refine co_thenR ?_
         refine co_ret1 h156 rfl rfl ?_
         exact ⟨ret_int (by rw [cp_x (by omega)]; first | rw [if_pos (by omega)] | rw [if_neg (by omega)]), hB14⟩
      ·
       rw [hc34] at h33
       have hp157 : c = 112 := by first | simpa using hc34 | simpa [and_assoc] using hc34
       clear hc34
       refine co_true h33 rfl ?_
       refine co_seq ?_
       refine co_reg ?_
       refine pk (v := .agg #[.int .i64 d.k, .int .i64 d.ep, .int .i64 d.rq, .int .i64 d.sr, .bool d.fg, .int .u64 d.at_, .int .u64 d.la, .int .i64 d.n, .int .i64 d.m, .int .i64 d.p, .int .i64 d.e, .string d.key, .string d.to_, .int .i64 d.cep, mv, .int .u64 d.cfl, .int .i64 d.bc, .int .i64 d.br, bv, ev, sv, pv]) h33 rfl (rn_loadN rfl rfl Try.underlying74 rfl (by kernel_rfl) hk5.all) fun a158 h158 => ?_; clear h33
       refine pk0 (v := .int .u8 c) h158 rfl fun a159 h159 => ?_; clear h158
       refine pw h159 rfl (op_call (args := #[.agg #[.int .i64 d.k, .int .i64 d.ep, .int .i64 d.rq, .int .i64 d.sr, .bool d.fg, .int .u64 d.at_, .int .u64 d.la, .int .i64 d.n, .int .i64 d.m, .int .i64 d.p, .int .i64 d.e, .string d.key, .string d.to_, .int .i64 d.cep, mv, .int .u64 d.cfl, .int .i64 d.bc, .int .i64 d.br, bv, ev, sv, pv], .int .u8 c]) (R := fun res xw => res = .int .i64 (numP d (plet c)) ∧ Below w2.heap.size w2 xw) rfl rfl rfl (by kernel_rfl) (by kernel_rfl) (Try.call135 _ _) (rmNumber_any d mv bv ev sv pv c w2 (hm.below hB14) (hb.below hB14) (he.below hB14) (ht.below hB14) (hp.below hB14) (by omega)) (by rintro e x ⟨rfl, hb162⟩; exact ⟨_, rfl, ⟨rfl, hb162⟩⟩)) ?_; clear h159
       rintro _ w161 a160 ⟨rfl, hb162⟩ h160
       have hz163 := hb162.size
       refine pk0 (v := .int .i64 (numP d (plet c))) h160 rfl fun a164 h164 => ?_; clear h160
       refine pl_nil ?_
       refine co_then ?_
       refine co_seq ?_
       refine co_reg ?_
       refine pk0 (v := .int .i64 (numP d (plet c))) h164 rfl fun a165 h165 => ?_; clear h164
       refine pk0 (v := .bool (decide (numP d (plet c) < 0))) h165 rfl fun a166 h166 => ?_; clear h165
       refine pk0 (v := .bool (decide (numP d (plet c) < 0))) h166 rfl fun a167 h167 => ?_; clear h166
       have hB169 := hb_call hB14 hb162
       cases hc168 : (decide (numP d (plet c) < 0))
       ·
        rw [hc168] at h167
        have hp170 : ¬ (numP d (plet c) < 0) := of_decide_eq_false hc168
        clear hc168
        refine pk0 (v := .int .i64 (numP d (plet c))) h167 rfl fun a171 h171 => ?_; clear h167
        refine pk0 (v := .bool (decide (numP d (plet c) > 1073741824))) h171 rfl fun a172 h172 => ?_; clear h171
        refine pk0 (v := .bool (decide (numP d (plet c) > 1073741824))) h172 rfl fun a173 h173 => ?_; clear h172
        refine pl_nil ?_
        refine co_then ?_
        cases hc174 : (decide (numP d (plet c) > 1073741824))
        ·
         rw [hc174] at h173
         have hp175 : ¬ (numP d (plet c) > 1073741824) := of_decide_eq_false hc174
         clear hc174
         refine co_false h173 rfl ?_
         refine wp_skip ?_
         refine co_blockN ?_
         refine co_then ?_
         refine co_seq ?_
         refine co_reg ?_
         refine pk0 (v := .int .i64 0) h173 rfl fun a176 h176 => ?_; clear h173
         refine pl_nil ?_
         refine co_then ?_
         refine wp_ret ?_
         refine co_ret1 h176 rfl rfl ?_
         exact ⟨ret_int (by rw [cp_n (by omega)]; first | rw [if_pos (by omega)] | rw [if_neg (by omega)]), hB169⟩
        ·
         rw [hc174] at h173
         have hp177 : numP d (plet c) > 1073741824 := of_decide_eq_true hc174
         clear hc174
         refine co_true h173 rfl ?_
         refine co_seq ?_
         refine co_reg ?_
         refine pk0 (v := .int .i64 5) h173 rfl fun a178 h178 => ?_; clear h173
         refine pl_nil ?_
         refine co_then ?_
         refine wp_ret ?_
         refine co_blockR ?_
         refine co_thenR ?_
         refine co_ret1 h178 rfl rfl ?_
         exact ⟨ret_int (by rw [cp_n (by omega)]; first | rw [if_pos (by omega)] | rw [if_neg (by omega)]), hB169⟩
       ·
        rw [hc168] at h167
        have hp179 : numP d (plet c) < 0 := of_decide_eq_true hc168
        clear hc168
        refine psk h167 rfl fun a180 h180 => ?_; clear h167
        refine psk h180 rfl fun a181 h181 => ?_; clear h180
        refine pk0 (v := .bool true) h181 rfl fun a182 h182 => ?_; clear h181
        refine pl_nil ?_
        refine co_then ?_
        refine co_true h182 rfl ?_
        refine co_seq ?_
        refine co_reg ?_
        refine pk0 (v := .int .i64 5) h182 rfl fun a183 h183 => ?_; clear h182
        refine pl_nil ?_
        refine co_then ?_
        refine wp_ret ?_
        refine co_blockR ?_
        refine co_thenR ?_
        refine co_ret1 h183 rfl rfl ?_
        exact ⟨ret_int (by rw [cp_n (by omega)]; first | rw [if_pos (by omega)] | rw [if_neg (by omega)]), hB169⟩
     ·
      rw [hc30] at h29
      have hp184 : c = 109 := by first | simpa using hc30 | simpa [and_assoc] using hc30
      clear hc30
      refine co_true h29 rfl ?_
      refine wp_skip ?_
      refine co_then ?_
      refine co_true h29 rfl ?_
      refine co_seq ?_
      refine co_reg ?_
      refine pk (v := .agg #[.int .i64 d.k, .int .i64 d.ep, .int .i64 d.rq, .int .i64 d.sr, .bool d.fg, .int .u64 d.at_, .int .u64 d.la, .int .i64 d.n, .int .i64 d.m, .int .i64 d.p, .int .i64 d.e, .string d.key, .string d.to_, .int .i64 d.cep, mv, .int .u64 d.cfl, .int .i64 d.bc, .int .i64 d.br, bv, ev, sv, pv]) h29 rfl (rn_loadN rfl rfl Try.underlying74 rfl (by kernel_rfl) hk5.all) fun a185 h185 => ?_; clear h29
      refine pk0 (v := .int .u8 c) h185 rfl fun a186 h186 => ?_; clear h185
      refine pw h186 rfl (op_call (args := #[.agg #[.int .i64 d.k, .int .i64 d.ep, .int .i64 d.rq, .int .i64 d.sr, .bool d.fg, .int .u64 d.at_, .int .u64 d.la, .int .i64 d.n, .int .i64 d.m, .int .i64 d.p, .int .i64 d.e, .string d.key, .string d.to_, .int .i64 d.cep, mv, .int .u64 d.cfl, .int .i64 d.bc, .int .i64 d.br, bv, ev, sv, pv], .int .u8 c]) (R := fun res xw => res = .int .i64 (numP d (plet c)) ∧ Below w2.heap.size w2 xw) rfl rfl rfl (by kernel_rfl) (by kernel_rfl) (Try.call135 _ _) (rmNumber_any d mv bv ev sv pv c w2 (hm.below hB14) (hb.below hB14) (he.below hB14) (ht.below hB14) (hp.below hB14) (by omega)) (by rintro e x ⟨rfl, hb189⟩; exact ⟨_, rfl, ⟨rfl, hb189⟩⟩)) ?_; clear h186
      rintro _ w188 a187 ⟨rfl, hb189⟩ h187
      have hz190 := hb189.size
      refine pk0 (v := .int .i64 (numP d (plet c))) h187 rfl fun a191 h191 => ?_; clear h187
      refine pl_nil ?_
      refine co_then ?_
      refine co_seq ?_
      refine co_reg ?_
      refine pk0 (v := .int .i64 (numP d (plet c))) h191 rfl fun a192 h192 => ?_; clear h191
      refine pk0 (v := .bool (decide (numP d (plet c) < 0))) h192 rfl fun a193 h193 => ?_; clear h192
      refine pk0 (v := .bool (decide (numP d (plet c) < 0))) h193 rfl fun a194 h194 => ?_; clear h193
      have hB196 := hb_call hB14 hb189
      cases hc195 : (decide (numP d (plet c) < 0))
      ·
       rw [hc195] at h194
       have hp197 : ¬ (numP d (plet c) < 0) := of_decide_eq_false hc195
       clear hc195
       refine pk0 (v := .int .i64 (numP d (plet c))) h194 rfl fun a198 h198 => ?_; clear h194
       refine pk0 (v := .bool (decide (numP d (plet c) > 1073741824))) h198 rfl fun a199 h199 => ?_; clear h198
       refine pk0 (v := .bool (decide (numP d (plet c) > 1073741824))) h199 rfl fun a200 h200 => ?_; clear h199
       refine pl_nil ?_
       refine co_then ?_
       cases hc201 : (decide (numP d (plet c) > 1073741824))
       ·
        rw [hc201] at h200
        have hp202 : ¬ (numP d (plet c) > 1073741824) := of_decide_eq_false hc201
        clear hc201
        refine co_false h200 rfl ?_
        refine wp_skip ?_
        refine co_blockN ?_
        refine co_then ?_
        refine co_seq ?_
        refine co_reg ?_
        refine pk0 (v := .int .i64 0) h200 rfl fun a203 h203 => ?_; clear h200
        refine pl_nil ?_
        refine co_then ?_
        refine wp_ret ?_
        refine co_ret1 h203 rfl rfl ?_
        exact ⟨ret_int (by rw [cp_n (by omega)]; first | rw [if_pos (by omega)] | rw [if_neg (by omega)]), hB196⟩
       ·
        rw [hc201] at h200
        have hp204 : numP d (plet c) > 1073741824 := of_decide_eq_true hc201
        clear hc201
        refine co_true h200 rfl ?_
        refine co_seq ?_
        refine co_reg ?_
        refine pk0 (v := .int .i64 5) h200 rfl fun a205 h205 => ?_; clear h200
        refine pl_nil ?_
        refine co_then ?_
        refine wp_ret ?_
        refine co_blockR ?_
        refine co_thenR ?_
        refine co_ret1 h205 rfl rfl ?_
        exact ⟨ret_int (by rw [cp_n (by omega)]; first | rw [if_pos (by omega)] | rw [if_neg (by omega)]), hB196⟩
      ·
       rw [hc195] at h194
       have hp206 : numP d (plet c) < 0 := of_decide_eq_true hc195
       clear hc195
       refine psk h194 rfl fun a207 h207 => ?_; clear h194
       refine psk h207 rfl fun a208 h208 => ?_; clear h207
       refine pk0 (v := .bool true) h208 rfl fun a209 h209 => ?_; clear h208
       refine pl_nil ?_
       refine co_then ?_
       refine co_true h209 rfl ?_
       refine co_seq ?_
       refine co_reg ?_
       refine pk0 (v := .int .i64 5) h209 rfl fun a210 h210 => ?_; clear h209
       refine pl_nil ?_
       refine co_then ?_
       refine wp_ret ?_
       refine co_blockR ?_
       refine co_thenR ?_
       refine co_ret1 h210 rfl rfl ?_
       exact ⟨ret_int (by rw [cp_n (by omega)]; first | rw [if_pos (by omega)] | rw [if_neg (by omega)]), hB196⟩
    ·
     rw [hc26] at h25
     have hp211 : c = 110 := by first | simpa using hc26 | simpa [and_assoc] using hc26
     clear hc26
     refine co_true h25 rfl ?_
     refine wp_skip ?_
     refine co_then ?_
     refine co_true h25 rfl ?_
     refine co_seq ?_
     refine co_reg ?_
     refine pk (v := .agg #[.int .i64 d.k, .int .i64 d.ep, .int .i64 d.rq, .int .i64 d.sr, .bool d.fg, .int .u64 d.at_, .int .u64 d.la, .int .i64 d.n, .int .i64 d.m, .int .i64 d.p, .int .i64 d.e, .string d.key, .string d.to_, .int .i64 d.cep, mv, .int .u64 d.cfl, .int .i64 d.bc, .int .i64 d.br, bv, ev, sv, pv]) h25 rfl (rn_loadN rfl rfl Try.underlying74 rfl (by kernel_rfl) hk5.all) fun a212 h212 => ?_; clear h25
     refine pk0 (v := .int .u8 c) h212 rfl fun a213 h213 => ?_; clear h212
     refine pw h213 rfl (op_call (args := #[.agg #[.int .i64 d.k, .int .i64 d.ep, .int .i64 d.rq, .int .i64 d.sr, .bool d.fg, .int .u64 d.at_, .int .u64 d.la, .int .i64 d.n, .int .i64 d.m, .int .i64 d.p, .int .i64 d.e, .string d.key, .string d.to_, .int .i64 d.cep, mv, .int .u64 d.cfl, .int .i64 d.bc, .int .i64 d.br, bv, ev, sv, pv], .int .u8 c]) (R := fun res xw => res = .int .i64 (numP d (plet c)) ∧ Below w2.heap.size w2 xw) rfl rfl rfl (by kernel_rfl) (by kernel_rfl) (Try.call135 _ _) (rmNumber_any d mv bv ev sv pv c w2 (hm.below hB14) (hb.below hB14) (he.below hB14) (ht.below hB14) (hp.below hB14) (by omega)) (by rintro e x ⟨rfl, hb216⟩; exact ⟨_, rfl, ⟨rfl, hb216⟩⟩)) ?_; clear h213
     rintro _ w215 a214 ⟨rfl, hb216⟩ h214
     have hz217 := hb216.size
     refine pk0 (v := .int .i64 (numP d (plet c))) h214 rfl fun a218 h218 => ?_; clear h214
     refine pl_nil ?_
     refine co_then ?_
     refine co_seq ?_
     refine co_reg ?_
     refine pk0 (v := .int .i64 (numP d (plet c))) h218 rfl fun a219 h219 => ?_; clear h218
     refine pk0 (v := .bool (decide (numP d (plet c) < 0))) h219 rfl fun a220 h220 => ?_; clear h219
     refine pk0 (v := .bool (decide (numP d (plet c) < 0))) h220 rfl fun a221 h221 => ?_; clear h220
     have hB223 := hb_call hB14 hb216
     cases hc222 : (decide (numP d (plet c) < 0))
     ·
      rw [hc222] at h221
      have hp224 : ¬ (numP d (plet c) < 0) := of_decide_eq_false hc222
      clear hc222
      refine pk0 (v := .int .i64 (numP d (plet c))) h221 rfl fun a225 h225 => ?_; clear h221
      refine pk0 (v := .bool (decide (numP d (plet c) > 1073741824))) h225 rfl fun a226 h226 => ?_; clear h225
      refine pk0 (v := .bool (decide (numP d (plet c) > 1073741824))) h226 rfl fun a227 h227 => ?_; clear h226
      refine pl_nil ?_
      refine co_then ?_
      cases hc228 : (decide (numP d (plet c) > 1073741824))
      ·
       rw [hc228] at h227
       have hp229 : ¬ (numP d (plet c) > 1073741824) := of_decide_eq_false hc228
       clear hc228
       refine co_false h227 rfl ?_
       refine wp_skip ?_
       refine co_blockN ?_
       refine co_then ?_
       refine co_seq ?_
       refine co_reg ?_
       refine pk0 (v := .int .i64 0) h227 rfl fun a230 h230 => ?_; clear h227
       refine pl_nil ?_
       refine co_then ?_
       refine wp_ret ?_
       refine co_ret1 h230 rfl rfl ?_
       exact ⟨ret_int (by rw [cp_n (by omega)]; first | rw [if_pos (by omega)] | rw [if_neg (by omega)]), hB223⟩
      ·
       rw [hc228] at h227
       have hp231 : numP d (plet c) > 1073741824 := of_decide_eq_true hc228
       clear hc228
       refine co_true h227 rfl ?_
       refine co_seq ?_
       refine co_reg ?_
       refine pk0 (v := .int .i64 5) h227 rfl fun a232 h232 => ?_; clear h227
       refine pl_nil ?_
       refine co_then ?_
       refine wp_ret ?_
       refine co_blockR ?_
       refine co_thenR ?_
       refine co_ret1 h232 rfl rfl ?_
       exact ⟨ret_int (by rw [cp_n (by omega)]; first | rw [if_pos (by omega)] | rw [if_neg (by omega)]), hB223⟩
     ·
      rw [hc222] at h221
      have hp233 : numP d (plet c) < 0 := of_decide_eq_true hc222
      clear hc222
      refine psk h221 rfl fun a234 h234 => ?_; clear h221
      refine psk h234 rfl fun a235 h235 => ?_; clear h234
      refine pk0 (v := .bool true) h235 rfl fun a236 h236 => ?_; clear h235
      refine pl_nil ?_
      refine co_then ?_
      refine co_true h236 rfl ?_
      refine co_seq ?_
      refine co_reg ?_
      refine pk0 (v := .int .i64 5) h236 rfl fun a237 h237 => ?_; clear h236
      refine pl_nil ?_
      refine co_then ?_
      refine wp_ret ?_
      refine co_blockR ?_
      refine co_thenR ?_
      refine co_ret1 h237 rfl rfl ?_
      exact ⟨ret_int (by rw [cp_n (by omega)]; first | rw [if_pos (by omega)] | rw [if_neg (by omega)]), hB223⟩
   ·
    rw [hc22] at h21
    have hp238 : c = 114 := by first | simpa using hc22 | simpa [and_assoc] using hc22
    clear hc22
    refine co_true h21 rfl ?_
    refine wp_skip ?_
    refine co_then ?_
    refine co_true h21 rfl ?_
    refine co_seq ?_
    refine co_reg ?_
    refine pk (v := .agg #[.int .i64 d.k, .int .i64 d.ep, .int .i64 d.rq, .int .i64 d.sr, .bool d.fg, .int .u64 d.at_, .int .u64 d.la, .int .i64 d.n, .int .i64 d.m, .int .i64 d.p, .int .i64 d.e, .string d.key, .string d.to_, .int .i64 d.cep, mv, .int .u64 d.cfl, .int .i64 d.bc, .int .i64 d.br, bv, ev, sv, pv]) h21 rfl (rn_loadN rfl rfl Try.underlying74 rfl (by kernel_rfl) hk5.all) fun a239 h239 => ?_; clear h21
    refine pk0 (v := .int .u8 c) h239 rfl fun a240 h240 => ?_; clear h239
    refine pw h240 rfl (op_call (args := #[.agg #[.int .i64 d.k, .int .i64 d.ep, .int .i64 d.rq, .int .i64 d.sr, .bool d.fg, .int .u64 d.at_, .int .u64 d.la, .int .i64 d.n, .int .i64 d.m, .int .i64 d.p, .int .i64 d.e, .string d.key, .string d.to_, .int .i64 d.cep, mv, .int .u64 d.cfl, .int .i64 d.bc, .int .i64 d.br, bv, ev, sv, pv], .int .u8 c]) (R := fun res xw => res = .int .i64 (numP d (plet c)) ∧ Below w2.heap.size w2 xw) rfl rfl rfl (by kernel_rfl) (by kernel_rfl) (Try.call135 _ _) (rmNumber_any d mv bv ev sv pv c w2 (hm.below hB14) (hb.below hB14) (he.below hB14) (ht.below hB14) (hp.below hB14) (by omega)) (by rintro e x ⟨rfl, hb243⟩; exact ⟨_, rfl, ⟨rfl, hb243⟩⟩)) ?_; clear h240
    rintro _ w242 a241 ⟨rfl, hb243⟩ h241
    have hz244 := hb243.size
    refine pk0 (v := .int .i64 (numP d (plet c))) h241 rfl fun a245 h245 => ?_; clear h241
    refine pl_nil ?_
    refine co_then ?_
    refine co_seq ?_
    refine co_reg ?_
    refine pk0 (v := .int .i64 (numP d (plet c))) h245 rfl fun a246 h246 => ?_; clear h245
    refine pk0 (v := .bool (decide (numP d (plet c) < 0))) h246 rfl fun a247 h247 => ?_; clear h246
    refine pk0 (v := .bool (decide (numP d (plet c) < 0))) h247 rfl fun a248 h248 => ?_; clear h247
    have hB250 := hb_call hB14 hb243
    cases hc249 : (decide (numP d (plet c) < 0))
    ·
     rw [hc249] at h248
     have hp251 : ¬ (numP d (plet c) < 0) := of_decide_eq_false hc249
     clear hc249
     refine pk0 (v := .int .i64 (numP d (plet c))) h248 rfl fun a252 h252 => ?_; clear h248
     refine pk0 (v := .bool (decide (numP d (plet c) > 1073741824))) h252 rfl fun a253 h253 => ?_; clear h252
     refine pk0 (v := .bool (decide (numP d (plet c) > 1073741824))) h253 rfl fun a254 h254 => ?_; clear h253
     refine pl_nil ?_
     refine co_then ?_
     cases hc255 : (decide (numP d (plet c) > 1073741824))
     ·
      rw [hc255] at h254
      have hp256 : ¬ (numP d (plet c) > 1073741824) := of_decide_eq_false hc255
      clear hc255
      refine co_false h254 rfl ?_
      refine wp_skip ?_
      refine co_blockN ?_
      refine co_then ?_
      refine co_seq ?_
      refine co_reg ?_
      refine pk0 (v := .int .i64 0) h254 rfl fun a257 h257 => ?_; clear h254
      refine pl_nil ?_
      refine co_then ?_
      refine wp_ret ?_
      refine co_ret1 h257 rfl rfl ?_
      exact ⟨ret_int (by rw [cp_n (by omega)]; first | rw [if_pos (by omega)] | rw [if_neg (by omega)]), hB250⟩
     ·
      rw [hc255] at h254
      have hp258 : numP d (plet c) > 1073741824 := of_decide_eq_true hc255
      clear hc255
      refine co_true h254 rfl ?_
      refine co_seq ?_
      refine co_reg ?_
      refine pk0 (v := .int .i64 5) h254 rfl fun a259 h259 => ?_; clear h254
      refine pl_nil ?_
      refine co_then ?_
      refine wp_ret ?_
      refine co_blockR ?_
      refine co_thenR ?_
      refine co_ret1 h259 rfl rfl ?_
      exact ⟨ret_int (by rw [cp_n (by omega)]; first | rw [if_pos (by omega)] | rw [if_neg (by omega)]), hB250⟩
    ·
     rw [hc249] at h248
     have hp260 : numP d (plet c) < 0 := of_decide_eq_true hc249
     clear hc249
     refine psk h248 rfl fun a261 h261 => ?_; clear h248
     refine psk h261 rfl fun a262 h262 => ?_; clear h261
     refine pk0 (v := .bool true) h262 rfl fun a263 h263 => ?_; clear h262
     refine pl_nil ?_
     refine co_then ?_
     refine co_true h263 rfl ?_
     refine co_seq ?_
     refine co_reg ?_
     refine pk0 (v := .int .i64 5) h263 rfl fun a264 h264 => ?_; clear h263
     refine pl_nil ?_
     refine co_then ?_
     refine wp_ret ?_
     refine co_blockR ?_
     refine co_thenR ?_
     refine co_ret1 h264 rfl rfl ?_
     exact ⟨ret_int (by rw [cp_n (by omega)]; first | rw [if_pos (by omega)] | rw [if_neg (by omega)]), hB250⟩
  ·
   rw [hc18] at h17
   have hp265 : c = 115 := by first | simpa using hc18 | simpa [and_assoc] using hc18
   clear hc18
   refine co_true h17 rfl ?_
   refine wp_skip ?_
   refine co_then ?_
   refine co_true h17 rfl ?_
   refine co_seq ?_
   refine co_reg ?_
   refine pk (v := .agg #[.int .i64 d.k, .int .i64 d.ep, .int .i64 d.rq, .int .i64 d.sr, .bool d.fg, .int .u64 d.at_, .int .u64 d.la, .int .i64 d.n, .int .i64 d.m, .int .i64 d.p, .int .i64 d.e, .string d.key, .string d.to_, .int .i64 d.cep, mv, .int .u64 d.cfl, .int .i64 d.bc, .int .i64 d.br, bv, ev, sv, pv]) h17 rfl (rn_loadN rfl rfl Try.underlying74 rfl (by kernel_rfl) hk5.all) fun a266 h266 => ?_; clear h17
   refine pk0 (v := .int .u8 c) h266 rfl fun a267 h267 => ?_; clear h266
   refine pw h267 rfl (op_call (args := #[.agg #[.int .i64 d.k, .int .i64 d.ep, .int .i64 d.rq, .int .i64 d.sr, .bool d.fg, .int .u64 d.at_, .int .u64 d.la, .int .i64 d.n, .int .i64 d.m, .int .i64 d.p, .int .i64 d.e, .string d.key, .string d.to_, .int .i64 d.cep, mv, .int .u64 d.cfl, .int .i64 d.bc, .int .i64 d.br, bv, ev, sv, pv], .int .u8 c]) (R := fun res xw => res = .int .i64 (numP d (plet c)) ∧ Below w2.heap.size w2 xw) rfl rfl rfl (by kernel_rfl) (by kernel_rfl) (Try.call135 _ _) (rmNumber_any d mv bv ev sv pv c w2 (hm.below hB14) (hb.below hB14) (he.below hB14) (ht.below hB14) (hp.below hB14) (by omega)) (by rintro e x ⟨rfl, hb270⟩; exact ⟨_, rfl, ⟨rfl, hb270⟩⟩)) ?_; clear h267
   rintro _ w269 a268 ⟨rfl, hb270⟩ h268
   have hz271 := hb270.size
   refine pk0 (v := .int .i64 (numP d (plet c))) h268 rfl fun a272 h272 => ?_; clear h268
   refine pl_nil ?_
   refine co_then ?_
   refine co_seq ?_
   refine co_reg ?_
   refine pk0 (v := .int .i64 (numP d (plet c))) h272 rfl fun a273 h273 => ?_; clear h272
   refine pk0 (v := .bool (decide (numP d (plet c) < 0))) h273 rfl fun a274 h274 => ?_; clear h273
   refine pk0 (v := .bool (decide (numP d (plet c) < 0))) h274 rfl fun a275 h275 => ?_; clear h274
   have hB277 := hb_call hB14 hb270
   cases hc276 : (decide (numP d (plet c) < 0))
   ·
    rw [hc276] at h275
    have hp278 : ¬ (numP d (plet c) < 0) := of_decide_eq_false hc276
    clear hc276
    refine pk0 (v := .int .i64 (numP d (plet c))) h275 rfl fun a279 h279 => ?_; clear h275
    refine pk0 (v := .bool (decide (numP d (plet c) > 1073741824))) h279 rfl fun a280 h280 => ?_; clear h279
    refine pk0 (v := .bool (decide (numP d (plet c) > 1073741824))) h280 rfl fun a281 h281 => ?_; clear h280
    refine pl_nil ?_
    refine co_then ?_
    cases hc282 : (decide (numP d (plet c) > 1073741824))
    ·
     rw [hc282] at h281
     have hp283 : ¬ (numP d (plet c) > 1073741824) := of_decide_eq_false hc282
     clear hc282
     refine co_false h281 rfl ?_
     refine wp_skip ?_
     refine co_blockN ?_
     refine co_then ?_
     refine co_seq ?_
     refine co_reg ?_
     refine pk0 (v := .int .i64 0) h281 rfl fun a284 h284 => ?_; clear h281
     refine pl_nil ?_
     refine co_then ?_
     refine wp_ret ?_
     refine co_ret1 h284 rfl rfl ?_
     exact ⟨ret_int (by rw [cp_n (by omega)]; first | rw [if_pos (by omega)] | rw [if_neg (by omega)]), hB277⟩
    ·
     rw [hc282] at h281
     have hp285 : numP d (plet c) > 1073741824 := of_decide_eq_true hc282
     clear hc282
     refine co_true h281 rfl ?_
     refine co_seq ?_
     refine co_reg ?_
     refine pk0 (v := .int .i64 5) h281 rfl fun a286 h286 => ?_; clear h281
     refine pl_nil ?_
     refine co_then ?_
     refine wp_ret ?_
     refine co_blockR ?_
     refine co_thenR ?_
     refine co_ret1 h286 rfl rfl ?_
     exact ⟨ret_int (by rw [cp_n (by omega)]; first | rw [if_pos (by omega)] | rw [if_neg (by omega)]), hB277⟩
   ·
    rw [hc276] at h275
    have hp287 : numP d (plet c) < 0 := of_decide_eq_true hc276
    clear hc276
    refine psk h275 rfl fun a288 h288 => ?_; clear h275
    refine psk h288 rfl fun a289 h289 => ?_; clear h288
    refine pk0 (v := .bool true) h289 rfl fun a290 h290 => ?_; clear h289
    refine pl_nil ?_
    refine co_then ?_
    refine co_true h290 rfl ?_
    refine co_seq ?_
    refine co_reg ?_
    refine pk0 (v := .int .i64 5) h290 rfl fun a291 h291 => ?_; clear h290
    refine pl_nil ?_
    refine co_then ?_
    refine wp_ret ?_
    refine co_blockR ?_
    refine co_thenR ?_
    refine co_ret1 h291 rfl rfl ?_
    exact ⟨ret_int (by rw [cp_n (by omega)]; first | rw [if_pos (by omega)] | rw [if_neg (by omega)]), hB277⟩
 ·
  rw [hc13] at h12
  have hp292 : c = 101 := by first | simpa using hc13 | simpa [and_assoc] using hc13
  clear hc13
  refine co_true h12 rfl ?_
  refine wp_skip ?_
  refine co_then ?_
  refine co_true h12 rfl ?_
  refine co_seq ?_
  refine co_reg ?_
  refine pk (v := .agg #[.int .i64 d.k, .int .i64 d.ep, .int .i64 d.rq, .int .i64 d.sr, .bool d.fg, .int .u64 d.at_, .int .u64 d.la, .int .i64 d.n, .int .i64 d.m, .int .i64 d.p, .int .i64 d.e, .string d.key, .string d.to_, .int .i64 d.cep, mv, .int .u64 d.cfl, .int .i64 d.bc, .int .i64 d.br, bv, ev, sv, pv]) h12 rfl (rn_loadN rfl rfl Try.underlying74 rfl (by kernel_rfl) hk5.all) fun a293 h293 => ?_; clear h12
  refine pk0 (v := .int .u8 c) h293 rfl fun a294 h294 => ?_; clear h293
  refine pw h294 rfl (op_call (args := #[.agg #[.int .i64 d.k, .int .i64 d.ep, .int .i64 d.rq, .int .i64 d.sr, .bool d.fg, .int .u64 d.at_, .int .u64 d.la, .int .i64 d.n, .int .i64 d.m, .int .i64 d.p, .int .i64 d.e, .string d.key, .string d.to_, .int .i64 d.cep, mv, .int .u64 d.cfl, .int .i64 d.bc, .int .i64 d.br, bv, ev, sv, pv], .int .u8 c]) (R := fun res xw => res = .int .i64 (numP d (plet c)) ∧ Below w2.heap.size w2 xw) rfl rfl rfl (by kernel_rfl) (by kernel_rfl) (Try.call135 _ _) (rmNumber_any d mv bv ev sv pv c w2 (hm.below hB14) (hb.below hB14) (he.below hB14) (ht.below hB14) (hp.below hB14) (by omega)) (by rintro e x ⟨rfl, hb297⟩; exact ⟨_, rfl, ⟨rfl, hb297⟩⟩)) ?_; clear h294
  rintro _ w296 a295 ⟨rfl, hb297⟩ h295
  have hz298 := hb297.size
  refine pk0 (v := .int .i64 (numP d (plet c))) h295 rfl fun a299 h299 => ?_; clear h295
  refine pl_nil ?_
  refine co_then ?_
  refine co_seq ?_
  refine co_reg ?_
  refine pk0 (v := .int .i64 (numP d (plet c))) h299 rfl fun a300 h300 => ?_; clear h299
  refine pk0 (v := .bool (decide (numP d (plet c) < 0))) h300 rfl fun a301 h301 => ?_; clear h300
  refine pk0 (v := .bool (decide (numP d (plet c) < 0))) h301 rfl fun a302 h302 => ?_; clear h301
  have hB304 := hb_call hB14 hb297
  cases hc303 : (decide (numP d (plet c) < 0))
  ·
   rw [hc303] at h302
   have hp305 : ¬ (numP d (plet c) < 0) := of_decide_eq_false hc303
   clear hc303
   refine pk0 (v := .int .i64 (numP d (plet c))) h302 rfl fun a306 h306 => ?_; clear h302
   refine pk0 (v := .bool (decide (numP d (plet c) > 1073741824))) h306 rfl fun a307 h307 => ?_; clear h306
   refine pk0 (v := .bool (decide (numP d (plet c) > 1073741824))) h307 rfl fun a308 h308 => ?_; clear h307
   refine pl_nil ?_
   refine co_then ?_
   cases hc309 : (decide (numP d (plet c) > 1073741824))
   ·
    rw [hc309] at h308
    have hp310 : ¬ (numP d (plet c) > 1073741824) := of_decide_eq_false hc309
    clear hc309
    refine co_false h308 rfl ?_
    refine wp_skip ?_
    refine co_blockN ?_
    refine co_then ?_
    refine co_seq ?_
    refine co_reg ?_
    refine pk0 (v := .int .i64 0) h308 rfl fun a311 h311 => ?_; clear h308
    refine pl_nil ?_
    refine co_then ?_
    refine wp_ret ?_
    refine co_ret1 h311 rfl rfl ?_
    exact ⟨ret_int (by rw [cp_n (by omega)]; first | rw [if_pos (by omega)] | rw [if_neg (by omega)]), hB304⟩
   ·
    rw [hc309] at h308
    have hp312 : numP d (plet c) > 1073741824 := of_decide_eq_true hc309
    clear hc309
    refine co_true h308 rfl ?_
    refine co_seq ?_
    refine co_reg ?_
    refine pk0 (v := .int .i64 5) h308 rfl fun a313 h313 => ?_; clear h308
    refine pl_nil ?_
    refine co_then ?_
    refine wp_ret ?_
    refine co_blockR ?_
    refine co_thenR ?_
    refine co_ret1 h313 rfl rfl ?_
    exact ⟨ret_int (by rw [cp_n (by omega)]; first | rw [if_pos (by omega)] | rw [if_neg (by omega)]), hB304⟩
  ·
   rw [hc303] at h302
   have hp314 : numP d (plet c) < 0 := of_decide_eq_true hc303
   clear hc303
   refine psk h302 rfl fun a315 h315 => ?_; clear h302
   refine psk h315 rfl fun a316 h316 => ?_; clear h315
   refine pk0 (v := .bool true) h316 rfl fun a317 h317 => ?_; clear h316
   refine pl_nil ?_
   refine co_then ?_
   refine co_true h317 rfl ?_
   refine co_seq ?_
   refine co_reg ?_
   refine pk0 (v := .int .i64 5) h317 rfl fun a318 h318 => ?_; clear h317
   refine pl_nil ?_
   refine co_then ?_
   refine wp_ret ?_
   refine co_blockR ?_
   refine co_thenR ?_
   refine co_ret1 h318 rfl rfl ?_
   exact ⟨ret_int (by rw [cp_n (by omega)]; first | rw [if_pos (by omega)] | rw [if_neg (by omega)]), hB304⟩
end Go.Proofs.Ytlbemlodcdgakaa
