/- Put together: MsaAMa, MstOMa, MsaBMa, MsaCMa, MsaDMa. Conditions: as each says. -/
import Derived.Test.YtnjbnndpbegkdaaMb3
/- catenalaw28: what notes make of a state, exactly; the notes that make the same. Pure. Conditions: none. -/
namespace Go.Proofs.Ytnjbnndpbegkdaa
set_option linter.unusedVariables false
set_option linter.unusedSimpArgs false

theorem cpt_up {l : List Int} (h : l.Pairwise (· ≤ ·)) : (cpt l).Pairwise (· < ·) := by
  unfold cpt Lib.compact Lib.compactUpTo
  rw [List.pairwise_map]
  have hp : ((List.range l.length).filter (Lib.keeps l.toArray)).Pairwise (· < ·) := List.pairwise_lt_range.filter _
  refine hp.imp_of_mem (fun {a b} ha hb hab => ?_)
  have hb' := List.mem_filter.1 hb
  have ha' := List.mem_filter.1 ha
  have hbl : b < l.length := by simpa using hb'.1
  have hal : a < l.length := by simpa using ha'.1
  have hk := hb'.2
  simp only [Lib.keeps, decide_eq_true_eq, List.getElem!_toArray] at hk
  rw [List.getElem!_toArray, List.getElem!_toArray, getElem!_pos l a hal, getElem!_pos l b hbl]
  rw [getElem!_pos l b hbl, getElem!_pos l (b - 1) (by omega)] at hk
  have hne : l[b] ≠ l[b - 1]'(by omega) := by
    rcases hk with hk | hk
    · omega
    · exact hk
  have h1 : l[b - 1]'(by omega) ≤ l[b] := List.pairwise_iff_getElem.1 h (b - 1) b (by omega) hbl (by omega)
  have h2 : l[a] ≤ l[b - 1]'(by omega) := by
    by_cases e : a = b - 1
    · subst e; exact Int.le_refl _
    · exact List.pairwise_iff_getElem.1 h a (b - 1) hal (by omega) (by omega)
  omega
theorem st_uniq : ∀ {a b : List Int}, a.Pairwise (· < ·) → b.Pairwise (· < ·) → (∀ x, x ∈ a ↔ x ∈ b) → a = b
  | [], [], _, _, _ => rfl
  | [], y :: b, _, _, h => by have := (h y).2 (by simp); cases this
  | x :: a, [], _, _, h => by have := (h x).1 (by simp); cases this
  | x :: a, y :: b, ha, hb, h => by
    obtain ⟨a1, a2⟩ := List.pairwise_cons.1 ha
    obtain ⟨b1, b2⟩ := List.pairwise_cons.1 hb
    have e : x = y := by
      have hx := (h x).1 (by simp)
      have hy := (h y).2 (by simp)
      rcases List.mem_cons.1 hx with hx | hx
      · exact hx
      rcases List.mem_cons.1 hy with hy | hy
      · exact hy.symm
      have := b1 x hx; have := a1 y hy; omega
    subst e
    rw [st_uniq a2 b2 fun z => ?_]
    constructor
    · intro hz
      have := a1 z hz
      rcases List.mem_cons.1 ((h z).1 (List.mem_cons_of_mem _ hz)) with q | q
      · omega
      · exact q
    · intro hz
      have := b1 z hz
      rcases List.mem_cons.1 ((h z).2 (List.mem_cons_of_mem _ hz)) with q | q
      · omega
      · exact q
theorem cs_mem {l : List Int} {x : Int} : x ∈ cpt (srt l) ↔ x ∈ l := cpt_mem.trans srt_mem
theorem cs_up (l : List Int) : (cpt (srt l)).Pairwise (· < ·) := cpt_up (srt_up l)
theorem cs_id {l : List Int} (h : l.Pairwise (· < ·)) : cpt (srt l) = l := st_uniq (cs_up l) h fun _ => cs_mem
/-- Those of the first i numbers that are n, or of the list. -/
def docL (lg : List Int) (n : Int) (i : Nat) : List Int := ((List.range i).map fun (j : Nat) => (j : Int)).filter fun id => id == n || inL lg id
theorem docL_y {lg : List Int} {n : Int} {i : Nat} (h : (i : Int) = n ∨ inL lg (i : Int) = true) : docL lg n i ++ [(i : Int)] = docL lg n (i + 1) := by
  unfold docL
  rw [List.range_succ, List.map_append, List.filter_append, List.map_cons, List.map_nil, List.filter_cons_of_pos]
  · rfl
  · rcases h with h | h
    · simp [h]
    · simp [h]
theorem docL_n {lg : List Int} {n : Int} {i : Nat} (h : ¬ (i : Int) = n) (h2 : inL lg (i : Int) = false) : docL lg n i = docL lg n (i + 1) := by
  unfold docL
  rw [List.range_succ, List.map_append, List.filter_append, List.map_cons, List.map_nil, List.filter_cons_of_neg]
  · simp
  · simp [h, h2]
theorem docL_len (lg : List Int) (n : Int) (i : Nat) : (docL lg n i).length ≤ i := by
  unfold docL; refine Nat.le_trans (List.length_filter_le _ _) ?_; simp
theorem docL_mem {lg : List Int} {n x : Int} {i : Nat} : x ∈ docL lg n i ↔ (0 ≤ x ∧ x < i) ∧ (x = n ∨ x ∈ lg) := by
  unfold docL
  rw [List.mem_filter, List.mem_map]
  constructor
  · rintro ⟨⟨j, hj, rfl⟩, h⟩
    have := List.mem_range.1 hj
    refine ⟨by omega, ?_⟩
    rcases Bool.or_eq_true _ _ ▸ h with h | h
    · exact .inl (by simpa using h)
    · exact .inr (inL_mem.1 h)
  · rintro ⟨⟨h1, h2⟩, h⟩
    refine ⟨⟨x.toNat, List.mem_range.2 (by omega), by omega⟩, ?_⟩
    rcases h with h | h
    · simp [h]
    · simp [inL_mem.2 h]
theorem docL_up (lg : List Int) (n : Int) (i : Nat) : (docL lg n i).Pairwise (· < ·) := by
  unfold docL
  refine List.Pairwise.filter _ ?_
  rw [List.pairwise_map]
  exact List.pairwise_lt_range.imp fun h => by omega
theorem hasM_mem {ms : List MemT} {n : Int} : hasM ms n = true ↔ ∃ m ∈ ms, m.1 = n := by
  unfold hasM; rw [List.any_eq_true]
  exact ⟨fun ⟨m, h, e⟩ => ⟨m, h, by simpa using e⟩, fun ⟨m, h, e⟩ => ⟨m, h, by simpa using e⟩⟩
theorem chkM_ids : ∀ {r pre : List MemT}, chkM pre r = 0 → ∀ m ∈ r, (0 ≤ m.1 ∧ m.1 ≤ 3) ∧ 1 ≤ m.2 ∧ m.2 ≤ 1073741824
  | [], _, _, m, hm => by cases hm
  | y :: r, pre, h, m, hm => by
    unfold chkM at h
    split at h
    · omega
    rename_i h1
    split at h
    · omega
    rename_i h2
    split at h
    · omega
    unfold badId at h1; unfold badSer at h2
    rcases List.mem_cons.1 hm with rfl | hm
    · omega
    · exact chkM_ids h m hm
theorem chkC_y {ep : Int} {ms : List MemT} (h : chkC ep ms = 0) : (1 ≤ ep ∧ ep ≤ 1073741824) ∧ ms.length ≤ 4 ∧ ∀ m ∈ ms, (0 ≤ m.1 ∧ m.1 ≤ 3) ∧ 1 ≤ m.2 ∧ m.2 ≤ 1073741824 := by
  unfold chkC at h
  split at h
  · omega
  split at h
  · omega
  split at h
  · omega
  exact ⟨by omega, by omega, chkM_ids h⟩
theorem chkLgF_up : ∀ {l : List Int} {p : Option Int}, chkLgF p l = 0 → l.Pairwise (· < ·) ∧ ∀ q, p = some q → ∀ x ∈ l, q < x
  | [], _, _ => ⟨List.Pairwise.nil, fun _ _ x hx => by cases hx⟩
  | y :: r, p, h => by
    unfold chkLgF at h
    split at h
    · omega
    split at h
    · omega
    rename_i h1
    obtain ⟨i1, i2⟩ := chkLgF_up h
    refine ⟨List.pairwise_cons.2 ⟨fun z hz => i2 y rfl z hz, i1⟩, fun q e x hx => ?_⟩
    subst e
    have hq : q < y := by
      have : badI (some q) y = decide (y ≤ q) := rfl
      rw [this] at h1
      have := of_decide_eq_false (by simpa using h1 : decide (y ≤ q) = false); omega
    rcases List.mem_cons.1 hx with rfl | hx
    · exact hq
    · have := i2 y rfl x hx; omega
theorem chkLg_up {l : List Int} (h : chkLg l = 0) : l.Pairwise (· < ·) := by
  unfold chkLg at h
  split at h
  · omega
  · exact (chkLgF_up h).1
theorem chkLgF_of : ∀ {l : List Int} {p : Option Int}, l.Pairwise (· < ·) → (∀ x ∈ l, 0 ≤ x ∧ x ≤ 3) → (∀ q, p = some q → ∀ x ∈ l, q < x) → chkLgF p l = 0
  | [], _, _, _, _ => rfl
  | y :: r, p, h1, h2, h3 => by
    obtain ⟨a1, a2⟩ := List.pairwise_cons.1 h1
    have hy := h2 y (by simp)
    have hb : badI p y = false := by
      cases p with
      | none => rfl
      | some q => have := h3 q rfl y (by simp); exact decide_eq_false (by omega)
    unfold chkLgF
    rw [if_neg (by omega), if_neg (by rw [hb]; simp)]
    exact chkLgF_of a2 (fun x hx => h2 x (by simp [hx])) (fun q e x hx => by cases e; exact a1 x hx)
theorem st_len : ∀ {l : List Int} (m : Nat), l.Pairwise (· < ·) → (∀ x ∈ l, 4 - (m : Int) ≤ x ∧ x ≤ 3) → l.length ≤ m
  | [], _, _, _ => Nat.zero_le _
  | y :: r, m, h1, h2 => by
    obtain ⟨a1, a2⟩ := List.pairwise_cons.1 h1
    have hy := h2 y (by simp)
    obtain ⟨k, rfl⟩ : ∃ k, m = k + 1 := ⟨m - 1, by omega⟩
    have := st_len k a2 fun x hx => by have := a1 x hx; have := h2 x (by simp [hx]); omega
    simp only [List.length_cons]; omega
theorem st_len4 {l : List Int} (h1 : l.Pairwise (· < ·)) (h2 : ∀ x ∈ l, 0 ≤ x ∧ x ≤ 3) : l.length ≤ 4 := st_len 4 h1 fun x hx => by have := h2 x hx; omega
def sdZ : SdT := (false, 0, 0, 0, 0)
def SdOk (c : Int) (x : SdT) : Prop := x = sdZ ∨ (x.1 = true ∧ x.2.1 = c ∧ chkSd c x.2.2.1 x.2.2.2.1 x.2.2.2.2 = 0)
/-- A state that notes make. -/
structure VaM (s : MsT) : Prop where
  cf : (s.ep = 0 ∧ s.ms = [] ∧ s.fl = 0 ∧ s.lg = []) ∨ (chkC s.ep s.ms = 0 ∧ headI s.ms ∈ s.lg)
  mem : ∀ m ∈ s.ms, memOk m
  fl : 0 ≤ s.fl ∧ s.fl < 18446744073709551616
  lgU : s.lg.Pairwise (· < ·)
  lgM : ∀ x ∈ s.lg, hasM s.ms x = true
  hz : 0 ≤ s.hz ∧ s.hz < 18446744073709551616
  tp : 0 ≤ s.tp ∧ s.tp ≤ 1073741824
  pnU : s.pn.Pairwise fun a b => a.1 < b.1
  pnT : ∀ p ∈ s.pn, (1 ≤ p.1 ∧ p.1 ≤ s.tp) ∧ (0 ≤ p.2.1 ∧ p.2.1 < 18446744073709551616) ∧ p.2.2 = 8
  pn3 : s.pn.length ≤ 3
  x0 : SdOk 0 s.x0
  x1 : SdOk 1 s.x1
  x2 : SdOk 2 s.x2
section
variable {s : MsT} {d : NoteD}
theorem VaM.z : VaM msZ := ⟨.inl ⟨rfl, rfl, rfl, rfl⟩, by simp [msZ], by simp [msZ], by simp [msZ], by simp [msZ], by simp [msZ], by simp [msZ], by simp [msZ], by simp [msZ], by simp [msZ], .inl rfl, .inl rfl, .inl rfl⟩
theorem VaM.ids (v : VaM s) : ∀ m ∈ s.ms, 0 ≤ m.1 ∧ m.1 ≤ 3 := by
  rcases v.cf with ⟨_, h, _⟩ | ⟨h, _⟩
  · rw [h]; simp
  · exact fun m hm => ((chkC_y h).2.2 m hm).1
theorem VaM.has {n : Int} (v : VaM s) (h : hasM s.ms n = true) : 0 ≤ n ∧ n ≤ 3 := by
  obtain ⟨m, hm, rfl⟩ := hasM_mem.1 h; exact v.ids m hm
theorem VaM.lg4 (v : VaM s) : s.lg.length ≤ 4 := st_len4 v.lgU fun x hx => v.has (v.lgM x hx)
theorem VaM.ms20 (v : VaM s) : s.ms.length ≤ 20 := by
  rcases v.cf with ⟨_, h, _⟩ | ⟨h, _⟩
  · rw [h]; simp
  · have := (chkC_y h).2.1; omega
theorem VaM.ep (v : VaM s) : 0 ≤ s.ep ∧ s.ep ≤ 1073741824 := by
  rcases v.cf with ⟨h, _⟩ | ⟨h, _⟩
  · omega
  · have := (chkC_y h).1; omega
/-- A configuration that is told: the document's way. -/
def docC (ep fl : Int) (ms : List MemT) (lg : List Int) (d : NoteD) : Int × Int × Int × List MemT × List Int := if fwF ep d.ep d.ms d.lg = 0 then (0, d.ep, d.fl, d.ms, d.lg) else (fwF ep d.ep d.ms d.lg, ep, fl, ms, lg)
theorem fw0 {ep cep : Int} {cms : List MemT} {ids : List Int} (h : fwF ep cep cms ids = 0) : ep < cep ∧ memIds cms ids = true ∧ headI cms ∈ ids := by
  rcases fw_cases ep 0 [] [] cep 0 cms ids with ⟨h1, _⟩ | ⟨_, h2⟩
  · rw [fwS_y h] at h1; exact absurd rfl h1
  · exact h2
theorem docC_eq {ep fl : Int} {ms : List MemT} {lg : List Int} (hc : chkN d = 0) (hk : d.k = 1) : ap1 ep fl ms lg d = docC ep fl ms lg d := by
  have hg := ((chkN_ok hc).2.1 hk).2.1
  unfold ap1 docC
  rw [if_neg (by omega)]
  by_cases h : fwF ep d.ep d.ms d.lg = 0
  · have h2 := fw0 h
    rw [fwS_y h, if_neg (by simp), if_pos h]
    show ((trF d.ms [] d.lg).1, d.ep, d.fl, d.ms, (trF d.ms [] d.lg).2) = _
    unfold trF
    rw [if_pos h2.2.1, List.nil_append, cs_id (chkLg_up hg)]
  · rw [fwS_n rfl h, if_pos h, if_neg h]
theorem doc5_eq (v : VaM s) (hc : chkN d = 0) (hk : d.k = 5) : ap5 s.ms s.lg d = if hasM s.ms d.n = true then (0, docL s.lg d.n 4) else (7, s.lg) := by
  unfold ap5
  rw [if_neg (by omega)]
  unfold trF
  have e : memIds s.ms [d.n] = hasM s.ms d.n := by unfold memIds; simp
  rw [e]
  by_cases h : hasM s.ms d.n = true
  · rw [if_pos h, if_pos h]
    have hn := v.has h
    rw [st_uniq (cs_up _) (docL_up s.lg d.n 4) fun x => ?_]
    rw [cs_mem, docL_mem, List.mem_append, List.mem_singleton]
    constructor
    · rintro (q | q)
      · exact ⟨by have := v.has (v.lgM x q); omega, .inr q⟩
      · exact ⟨by omega, .inl q⟩
    · rintro ⟨_, q | q⟩
      · exact .inr q
      · exact .inl q
  · rw [if_neg h, if_neg h]
theorem find_up {l : List PinT} {id : Int} (h : ∀ p ∈ l, ¬ p.1 = id) : findP l id = -1 := findP_none (i := l.length) (fun j _ z hz => h z (List.mem_of_getElem? hz)) (Nat.le_refl _)
theorem grantM_ok {pn : List PinT} {tp id at_ : Int} (h3 : ¬ (pn.length : Int) ≥ 3) (hid : tp < id ∧ id ≤ 1073741824) (ht : 0 ≤ tp) (hp : ∀ p ∈ pn, p.1 ≤ tp) : grantP pn id at_ = (pn ++ [(id, at_, 8)], 0) := by
  unfold grantP
  rw [if_neg (by omega), if_neg (by omega), if_neg]
  rintro ⟨h1, h2⟩
  have hm : pn.getD (pn.length - 1) (0, 0, 0) ∈ pn := by
    rw [List.getD_eq_getElem?_getD, List.getElem?_eq_getElem (by omega)]; exact List.getElem_mem _
  have := hp _ hm; omega
/-- A pin that is told: the document's way. -/
def docP (pn : List PinT) (hz tp id at_ : Int) : Int × List PinT × Int :=
  if (renewP pn id).2 = 0 then (0, (renewP pn id).1, tp) else if (pn.length : Int) ≥ 3 then (17, pn, tp) else if id ≤ tp then (18, pn, tp) else if at_ < hz then (13, pn, tp) else (0, pn ++ [(id, at_, 8)], id)
theorem docP_eq {id at_ : Int} (v : VaM s) (hid : may id) : pnF s.pn s.hz s.tp id at_ = docP s.pn s.hz s.tp id at_ := by
  unfold pnF docP
  split
  · rfl
  split
  · rfl
  split
  · rfl
  split
  · rfl
  unfold may at hid
  have ht := v.tp
  rw [grantM_ok (tp := s.tp) (by omega) ⟨by omega, hid.2⟩ (by omega) fun p hp => (v.pnT p hp).1.2, if_neg (by simp)]
end
/-- Notes that are taken, all of them, one by one. -/
def RunM : List NoteD → MsT → MsT → Prop
  | [], s, t => s = t
  | d :: r, s, t => (apM d s).1 = 0 ∧ RunM r (apM d s).2 t
def foldM (l : List NoteD) (s : MsT) : MsT := l.foldl (fun s d => (apM d s).2) s
theorem foldM_snoc {l : List NoteD} {s : MsT} {i : Nat} {d : NoteD} (h : l[i]? = some d) : foldM (l.take (i + 1)) s = (apM d (foldM (l.take i) s)).2 := by
  unfold foldM; rw [List.take_add_one, h, List.foldl_append]; rfl
theorem RunM.app : ∀ {a b : List NoteD} {s t u : MsT}, RunM a s t → RunM b t u → RunM (a ++ b) s u
  | [], _, _, _, _, h, k => by cases h; exact k
  | d :: r, _, _, _, _, ⟨h1, h2⟩, k => ⟨h1, RunM.app h2 k⟩
theorem RunM.fold : ∀ {l : List NoteD} {s t : MsT}, RunM l s t → foldM l s = t
  | [], _, _, h => h
  | _ :: r, _, _, ⟨_, h⟩ => RunM.fold (l := r) h
theorem RunM.at : ∀ {l : List NoteD} {s t : MsT} {i : Nat} {d : NoteD}, RunM l s t → l[i]? = some d → (apM d (foldM (l.take i) s)).1 = 0
  | [], _, _, _, _, _, h => by simp at h
  | _ :: _, _, _, 0, _, ⟨h, _⟩, e => by simp at e; subst e; exact h
  | _ :: r, _, _, i + 1, _, ⟨_, h⟩, e => RunM.at (l := r) (i := i) h (by simpa using e)
def nCfM (s : MsT) : NoteD := ⟨1, 0, 0, s.ep, s.ms, s.fl, s.lg, 0, 0, [], 0, 0, 0, 0, 0, 0, 0, 0⟩
def nPnM (p : PinT) : NoteD := ⟨6, 0, 0, 0, [], 0, [], 0, 0, [], 0, p.1, p.2.1, p.2.2, 0, 0, 0, 0⟩
def nUnM (n : Int) : NoteD := ⟨7, n, 0, 0, [], 0, [], 0, 0, [], 0, 0, 0, 0, 0, 0, 0, 0⟩
def nHzM (t : Int) : NoteD := ⟨4, 0, t, 0, [], 0, [], 0, 0, [], 0, 0, 0, 0, 0, 0, 0, 0⟩
def nSdM (x : SdT) : NoteD := ⟨8, 0, 0, 0, [], 0, [], 0, 0, [], 0, 0, 0, 0, x.2.1, x.2.2.1, x.2.2.2.1, x.2.2.2.2⟩
def cfM (s : MsT) : List NoteD := if 0 < s.ep then [nCfM s] else []
def unM (s : MsT) : List NoteD := if s.pn.any (fun p => p.1 == s.tp) = true then [] else [nUnM s.tp]
def sdM (x : SdT) : List NoteD := if x.1 = true then [nSdM x] else []
/-- The notes that are told of a state. -/
def ntsM (s : MsT) : List NoteD := cfM s ++ s.pn.map nPnM ++ unM s ++ [nHzM s.hz] ++ sdM s.x0 ++ sdM s.x1 ++ sdM s.x2
def lastId (l : List PinT) : Int := match l.getLast? with | some p => p.1 | none => 0
theorem lastId_snoc (l : List PinT) (p : PinT) : lastId (l ++ [p]) = p.1 := by unfold lastId; rw [List.getLast?_append]; rfl
theorem lastId_le {l : List PinT} {t : Int} (h : ∀ p ∈ l, p.1 ≤ t) (ht : 0 ≤ t) : lastId l ≤ t := by
  unfold lastId
  split
  · rename_i p hp; exact h p (List.mem_of_getLast? hp)
  · exact ht
theorem pins_run (s : MsT) (ep fl : Int) (ms : List MemT) (lg : List Int) (x0 x1 x2 : SdT) : ∀ (r pre : List PinT), (pre ++ r).Pairwise (fun a b => a.1 < b.1) → (∀ p ∈ pre ++ r, (1 ≤ p.1 ∧ p.1 ≤ 1073741824) ∧ (0 ≤ p.2.1 ∧ p.2.1 < 18446744073709551616) ∧ p.2.2 = 8) → (pre ++ r).length ≤ 3 →
    RunM (r.map nPnM) ⟨ep, fl, 0, lastId pre, ms, lg, pre, x0, x1, x2⟩ ⟨ep, fl, 0, lastId (pre ++ r), ms, lg, pre ++ r, x0, x1, x2⟩
  | [], pre, _, _, _ => by rw [List.append_nil]; rfl
  | p :: r, pre, h1, h2, h3 => by
    have hp := h2 p (by simp)
    have hlt : ∀ q ∈ pre, q.1 < p.1 := fun q hq => (List.pairwise_append.1 h1).2.2 q hq p (by simp)
    have hlast : lastId pre < p.1 := by
      have := lastId_le (l := pre) (t := p.1 - 1) (fun q hq => by have := hlt q hq; omega) (by omega); omega
    have hlen : pre.length < 3 := by simp at h3; omega
    have ih := pins_run s ep fl ms lg x0 x1 x2 r (pre ++ [p]) (by rw [List.append_assoc]; exact h1) (by rw [List.append_assoc]; exact h2) (by rw [List.append_assoc]; exact h3)
    rw [List.append_assoc, lastId_snoc, List.singleton_append] at ih
    have hck : chkN (nPnM p) = 0 := by
      rw [chkN_6 rfl, if_neg]
      show ¬ (¬ may p.1 ∨ ¬ may p.2.2)
      unfold may; omega
    have hA : apM (nPnM p) ⟨ep, fl, 0, lastId pre, ms, lg, pre, x0, x1, x2⟩ = (0, ⟨ep, fl, 0, p.1, ms, lg, pre ++ [p], x0, x1, x2⟩) := by
      unfold apM
      rw [if_neg (by omega), if_neg (by simp [nPnM]), if_neg (by simp [nPnM]), if_neg (by simp [nPnM])]
      have hf : findP pre p.1 = -1 := find_up fun q hq e => by have := hlt q hq; omega
      have hpn : pnF pre 0 (lastId pre) p.1 p.2.1 = (0, pre ++ [(p.1, p.2.1, 8)], p.1) := by
        unfold pnF
        rw [if_neg (by unfold renewP; rw [if_pos (by omega)]; simp), if_neg (by omega), if_neg (by omega), if_neg (by omega)]
        have hl0 : 0 ≤ lastId pre ∨ pre = [] := by
          rcases List.eq_nil_or_concat pre with h | ⟨L, b, h⟩
          · exact .inr h
          · left; rw [h, List.concat_eq_append, lastId_snoc]; have := h2 b (by rw [h]; simp); omega
        have hgr : grantP pre p.1 p.2.1 = (pre ++ [(p.1, p.2.1, 8)], 0) := grantM_ok (tp := p.1 - 1) (by omega) ⟨by omega, hp.1.2⟩ (by omega) fun q hq => by have := hlt q hq; omega
        rw [hgr, if_neg (by simp)]
      have hF : apF pre 0 (lastId pre) (nPnM p) = (0, 0, pre ++ [p], p.1) := by
        unfold apF
        rw [if_neg (by omega), if_neg (by simp [nPnM]), if_pos (show (nPnM p).k = 6 from rfl)]
        show ((pnF pre 0 (lastId pre) p.1 p.2.1).1, (0 : Int), (pnF pre 0 (lastId pre) p.1 p.2.1).2.1, (pnF pre 0 (lastId pre) p.1 p.2.1).2.2) = _
        rw [hpn]
        have : (p.1, p.2.1, (8 : Int)) = p := by rw [← hp.2.2]
        rw [this]
      show ((apF pre 0 (lastId pre) (nPnM p)).1, _) = _
      rw [hF]
    rw [List.map_cons]
    refine ⟨by rw [hA], ?_⟩
    rw [hA]; exact ih
theorem sd_run {c : Int} {x : SdT} (h : SdOk c x) (hx : x.1 = true) : chkN (nSdM x) = 0 ∧ sdF sdZ (nSdM x) = (0, x) ∧ x.2.1 = c ∧ (nSdM x).sc = c := by
  rcases h with rfl | ⟨h1, h2, h3⟩
  · cases hx
  have hc : chkN (nSdM x) = 0 := by
    show chkN (nSdM x) = 0
    unfold chkN
    rw [if_neg (by simp [nSdM]), if_neg (by simp [nSdM]), if_neg (by simp [nSdM]), if_neg (by simp [nSdM]), if_pos (show (nSdM x).k = 8 from rfl)]
    show chkSd x.2.1 x.2.2.1 x.2.2.2.1 x.2.2.2.2 = 0
    rw [h2]; exact h3
  refine ⟨hc, ?_, h2, h2⟩
  unfold sdF
  have hr : ¬ (nSdM x).sr < sdZ.2.2.1 := by
    show ¬ x.2.2.1 < 0
    unfold chkSd may at h3
    split at h3
    · omega
    split at h3
    · omega
    omega
  rw [if_neg (by omega), if_neg hr]
  show (0, (true, x.2.1, x.2.2.1, x.2.2.2.1, x.2.2.2.2)) = _
  rw [← h1]
/-- The notes that a state tells make the same of a new one. -/
theorem replay {s : MsT} (v : VaM s) : RunM (ntsM s) msZ s := by
  obtain ⟨ep, fl, hz, tp, ms, lg, pn, x0, x1, x2⟩ := s
  have vep := v.ep; have vlg4 := v.lg4; have vhas := fun n => v.has (n := n)
  obtain ⟨vcf, vmem, vfl, vlgU, vlgM, vhz, vtp, vpnU, vpnT, vpn3, v0, v1, v2⟩ := v
  dsimp only at *
  have h1 : RunM (cfM ⟨ep, fl, hz, tp, ms, lg, pn, x0, x1, x2⟩) msZ ⟨ep, fl, 0, 0, ms, lg, [], sdZ, sdZ, sdZ⟩ := by
    unfold cfM
    dsimp only
    by_cases h : 0 < ep
    · rw [if_pos h]
      rcases vcf with ⟨e, _⟩ | ⟨hc, hh⟩
      · omega
      have hck : chkN (nCfM ⟨ep, fl, hz, tp, ms, lg, pn, x0, x1, x2⟩) = 0 := by
        rw [chkN_1 rfl]
        show (if chkC ep ms ≠ 0 then chkC ep ms else chkLg lg) = 0
        rw [if_neg (by omega)]
        unfold chkLg
        rw [if_neg (by omega)]
        exact chkLgF_of vlgU (fun x hx => vhas x (vlgM x hx)) (fun q e => by cases e)
      have hfw : fwF 0 ep ms lg = 0 := fwF_4 (by omega) (by unfold memIds; exact List.all_eq_true.2 fun x hx => vlgM x hx) (inL_mem.2 hh)
      have hA : apM (nCfM ⟨ep, fl, hz, tp, ms, lg, pn, x0, x1, x2⟩) msZ = (0, ⟨ep, fl, 0, 0, ms, lg, [], sdZ, sdZ, sdZ⟩) := by
        unfold apM
        rw [if_neg (by omega), if_pos (show (nCfM _).k = 1 from rfl), docC_eq hck rfl]
        unfold docC
        show ((if fwF 0 ep ms lg = 0 then (0, ep, fl, ms, lg) else _ : Int × Int × Int × List MemT × List Int).1, _) = _
        rw [show fwF msZ.ep (nCfM ⟨ep, fl, hz, tp, ms, lg, pn, x0, x1, x2⟩).ep (nCfM ⟨ep, fl, hz, tp, ms, lg, pn, x0, x1, x2⟩).ms (nCfM ⟨ep, fl, hz, tp, ms, lg, pn, x0, x1, x2⟩).lg = 0 from hfw, hfw]
        rfl
      refine ⟨by rw [hA], ?_⟩
      rw [hA]; rfl
    · rw [if_neg h]
      rcases vcf with ⟨rfl, rfl, rfl, rfl⟩ | ⟨hc, _⟩
      · rfl
      · have := (chkC_y hc).1; omega
  have h2 := pins_run msZ ep fl ms lg sdZ sdZ sdZ pn [] (by rw [List.nil_append]; exact vpnU) (by rw [List.nil_append]; exact fun p hp => by have := vpnT p hp; exact ⟨⟨this.1.1, by omega⟩, this.2⟩) (by rw [List.nil_append]; exact vpn3)
  rw [List.nil_append] at h2
  have h3 : RunM (unM ⟨ep, fl, hz, tp, ms, lg, pn, x0, x1, x2⟩) ⟨ep, fl, 0, lastId pn, ms, lg, pn, sdZ, sdZ, sdZ⟩ ⟨ep, fl, 0, tp, ms, lg, pn, sdZ, sdZ, sdZ⟩ := by
    unfold unM
    dsimp only
    have hle : lastId pn ≤ tp := lastId_le (fun p hp => (vpnT p hp).1.2) vtp.1
    by_cases h : pn.any (fun p => p.1 == tp) = true
    · rw [if_pos h]
      obtain ⟨p, hp, e⟩ := List.any_eq_true.1 h
      have e : p.1 = tp := by simpa using e
      have : lastId pn = tp := by
        rcases List.eq_nil_or_concat pn with q | ⟨L, b, q⟩
        · rw [q] at hp; cases hp
        · rw [List.concat_eq_append] at q
          rw [q, lastId_snoc]
          have hb := (vpnT b (by rw [q]; simp)).1.2
          rw [q] at hp vpnU
          rcases List.mem_append.1 hp with hp | hp
          · have := (List.pairwise_append.1 vpnU).2.2 p hp b (by simp); omega
          · simp at hp; rw [← hp]; exact e
      rw [this]; rfl
    · rw [if_neg h]
      have hck : chkN (nUnM tp) = 0 := by
        rw [chkN_3 (by simp [nUnM]), if_neg]
        show ¬ ¬ may tp
        unfold may; omega
      have hff : findP pn tp = -1 := find_up fun q hq e => h (List.any_eq_true.2 ⟨q, hq, by simp [e]⟩)
      have hF : apF pn 0 (lastId pn) (nUnM tp) = (0, 0, pn, tp) := by
        unfold apF
        rw [if_neg (by omega), if_neg (by simp [nUnM]), if_neg (by simp [nUnM]), if_pos (show (nUnM tp).k = 7 from rfl)]
        have hfr : ¬ (freeP pn (nUnM tp).n).2 = 0 := by show ¬ (freeP pn tp).2 = 0; unfold freeP; rw [if_pos (by omega)]; simp
        rw [if_neg hfr]
        show (0, 0, pn, mxI (lastId pn) tp) = _
        have hmx : mxI (lastId pn) tp = tp := by unfold mxI; split <;> omega
        rw [hmx]
      have hA : apM (nUnM tp) ⟨ep, fl, 0, lastId pn, ms, lg, pn, sdZ, sdZ, sdZ⟩ = (0, ⟨ep, fl, 0, tp, ms, lg, pn, sdZ, sdZ, sdZ⟩) := by
        unfold apM
        rw [if_neg (by omega), if_neg (by simp [nUnM]), if_neg (by simp [nUnM]), if_neg (by simp [nUnM])]
        show ((apF pn 0 (lastId pn) (nUnM tp)).1, _) = _
        rw [hF]
      exact ⟨by rw [hA], by rw [hA]; rfl⟩
  have h4 : RunM [nHzM hz] ⟨ep, fl, 0, tp, ms, lg, pn, sdZ, sdZ, sdZ⟩ ⟨ep, fl, hz, tp, ms, lg, pn, sdZ, sdZ, sdZ⟩ := by
    have hck : chkN (nHzM hz) = 0 := by
      rw [chkN_3 (by simp [nHzM]), if_neg]
      show ¬ ¬ may 0
      unfold may; omega
    have hF : apF pn 0 tp (nHzM hz) = (0, hz, pn, tp) := by
      unfold apF
      rw [if_neg (by omega), if_pos (show (nHzM hz).k = 4 from rfl), if_neg (show ¬ (nHzM hz).t < 0 by show ¬ hz < 0; omega)]
      rfl
    have hA : apM (nHzM hz) ⟨ep, fl, 0, tp, ms, lg, pn, sdZ, sdZ, sdZ⟩ = (0, ⟨ep, fl, hz, tp, ms, lg, pn, sdZ, sdZ, sdZ⟩) := by
      unfold apM
      rw [if_neg (by omega), if_neg (by simp [nHzM]), if_neg (by simp [nHzM]), if_neg (by simp [nHzM])]
      show ((apF pn 0 tp (nHzM hz)).1, _) = _
      rw [hF]
    exact ⟨by rw [hA], by rw [hA]; rfl⟩
  have h5 : RunM (sdM x0) ⟨ep, fl, hz, tp, ms, lg, pn, sdZ, sdZ, sdZ⟩ ⟨ep, fl, hz, tp, ms, lg, pn, x0, sdZ, sdZ⟩ := by
    unfold sdM
    by_cases h : x0.1 = true
    · rw [if_pos h]
      obtain ⟨q1, q2, q3, q4⟩ := sd_run v0 h
      have hA : apM (nSdM x0) ⟨ep, fl, hz, tp, ms, lg, pn, sdZ, sdZ, sdZ⟩ = (0, ⟨ep, fl, hz, tp, ms, lg, pn, x0, sdZ, sdZ⟩) := by
        unfold apM
        rw [if_neg (by omega), if_neg (by simp [nSdM]), if_neg (by simp [nSdM]), if_pos (show (nSdM x0).k = 8 from rfl), if_pos (by omega)]
        dsimp only; rw [q2]
      exact ⟨by rw [hA], by rw [hA]; rfl⟩
    · rw [if_neg h]
      rcases v0 with e | ⟨e, _⟩
      · rw [e]; rfl
      · exact absurd e h
  have h6 : RunM (sdM x1) ⟨ep, fl, hz, tp, ms, lg, pn, x0, sdZ, sdZ⟩ ⟨ep, fl, hz, tp, ms, lg, pn, x0, x1, sdZ⟩ := by
    unfold sdM
    by_cases h : x1.1 = true
    · rw [if_pos h]
      obtain ⟨q1, q2, q3, q4⟩ := sd_run v1 h
      have hA : apM (nSdM x1) ⟨ep, fl, hz, tp, ms, lg, pn, x0, sdZ, sdZ⟩ = (0, ⟨ep, fl, hz, tp, ms, lg, pn, x0, x1, sdZ⟩) := by
        unfold apM
        rw [if_neg (by omega), if_neg (by simp [nSdM]), if_neg (by simp [nSdM]), if_pos (show (nSdM x1).k = 8 from rfl), if_neg (by omega), if_pos (by omega)]
        dsimp only; rw [q2]
      exact ⟨by rw [hA], by rw [hA]; rfl⟩
    · rw [if_neg h]
      rcases v1 with e | ⟨e, _⟩
      · rw [e]; rfl
      · exact absurd e h
  have h7 : RunM (sdM x2) ⟨ep, fl, hz, tp, ms, lg, pn, x0, x1, sdZ⟩ ⟨ep, fl, hz, tp, ms, lg, pn, x0, x1, x2⟩ := by
    unfold sdM
    by_cases h : x2.1 = true
    · rw [if_pos h]
      obtain ⟨q1, q2, q3, q4⟩ := sd_run v2 h
      have hA : apM (nSdM x2) ⟨ep, fl, hz, tp, ms, lg, pn, x0, x1, sdZ⟩ = (0, ⟨ep, fl, hz, tp, ms, lg, pn, x0, x1, x2⟩) := by
        unfold apM
        rw [if_neg (by omega), if_neg (by simp [nSdM]), if_neg (by simp [nSdM]), if_pos (show (nSdM x2).k = 8 from rfl), if_neg (by omega), if_neg (by omega)]
        dsimp only; rw [q2]
      exact ⟨by rw [hA], by rw [hA]; rfl⟩
    · rw [if_neg h]
      rcases v2 with e | ⟨e, _⟩
      · rw [e]; rfl
      · exact absurd e h
  exact (((((h1.app h2).app h3).app h4).app h5).app h6).app h7
/-- What a note makes of a state that notes made is one. -/
theorem VaM.ap {s : MsT} {d : NoteD} (v : VaM s) (hR : NoteR d) : VaM (apM d s).2 := by
  have v0 := v
  obtain ⟨vcf, vmem, vfl, vlgU, vlgM, vhz, vtp, vpnU, vpnT, vpn3, w0, w1, w2⟩ := v
  obtain ⟨rm, re, rf, rt, rts, rp⟩ := hR
  unfold apM
  by_cases q0 : chkN d ≠ 0
  · rw [if_pos q0]; exact v0
  rw [if_neg q0]
  have hc0 : chkN d = 0 := by omega
  have hok := chkN_ok hc0
  by_cases q1 : d.k = 1
  · rw [if_pos q1, docC_eq hc0 q1]
    unfold docC
    by_cases h : fwF s.ep d.ep d.ms d.lg = 0
    · have h2 := fw0 h
      have h3 := hok.2.1 q1
      rw [if_pos h]
      exact ⟨.inr ⟨h3.1, h2.2.2⟩, rm, rf, chkLg_up h3.2.1, fun x hx => List.all_eq_true.1 h2.2.1 x hx, vhz, vtp, vpnU, vpnT, vpn3, w0, w1, w2⟩
    · rw [if_neg h]; exact v0
  rw [if_neg q1]
  by_cases q5 : d.k = 5
  · rw [if_pos q5, doc5_eq v0 hc0 q5]
    by_cases h : hasM s.ms d.n = true
    · rw [if_pos h]
      refine ⟨?_, vmem, vfl, docL_up _ _ _, fun x hx => ?_, vhz, vtp, vpnU, vpnT, vpn3, w0, w1, w2⟩
      · rcases vcf with ⟨_, e, _⟩ | ⟨e1, e2⟩
        · rw [e] at h; cases h
        · have hh := v0.has (vlgM _ e2); exact .inr ⟨e1, docL_mem.2 ⟨⟨hh.1, by have := hh.2; show headI s.ms < ((4 : Nat) : Int); omega⟩, .inr e2⟩⟩
      · rcases (docL_mem.1 hx).2 with rfl | hx
        · exact h
        · exact vlgM x hx
    · rw [if_neg h]; exact v0
  rw [if_neg q5]
  by_cases q8 : d.k = 8
  · rw [if_pos q8]
    have hsd : chkSd d.sc d.sr d.se d.sp = 0 := by
      have := hc0; unfold chkN at this
      rw [if_neg q1, if_neg (by omega), if_neg (by omega), if_neg (by omega), if_pos q8] at this; exact this
    have hn : ∀ (c : Int) (x : SdT), SdOk c x → d.sc = c → SdOk c (sdF x d).2 := fun c x hx e => by
      unfold sdF
      rw [if_neg q0]
      split
      · exact hx
      · exact .inr ⟨rfl, e, by rw [← e]; exact hsd⟩
    by_cases c0 : d.sc = 0
    · rw [if_pos c0]; exact ⟨vcf, vmem, vfl, vlgU, vlgM, vhz, vtp, vpnU, vpnT, vpn3, hn 0 _ w0 c0, w1, w2⟩
    rw [if_neg c0]
    by_cases c1 : d.sc = 1
    · rw [if_pos c1]; exact ⟨vcf, vmem, vfl, vlgU, vlgM, vhz, vtp, vpnU, vpnT, vpn3, w0, hn 1 _ w1 c1, w2⟩
    · rw [if_neg c1]
      have c2 : d.sc = 2 := by unfold chkSd at hsd; split at hsd <;> omega
      exact ⟨vcf, vmem, vfl, vlgU, vlgM, vhz, vtp, vpnU, vpnT, vpn3, w0, w1, hn 2 _ w2 c2⟩
  rw [if_neg q8]
  suffices hF : (0 ≤ (apF s.pn s.hz s.tp d).2.1 ∧ (apF s.pn s.hz s.tp d).2.1 < 18446744073709551616) ∧ (0 ≤ (apF s.pn s.hz s.tp d).2.2.2 ∧ (apF s.pn s.hz s.tp d).2.2.2 ≤ 1073741824) ∧ (apF s.pn s.hz s.tp d).2.2.1.Pairwise (fun a b => a.1 < b.1) ∧ (∀ p ∈ (apF s.pn s.hz s.tp d).2.2.1, (1 ≤ p.1 ∧ p.1 ≤ (apF s.pn s.hz s.tp d).2.2.2) ∧ (0 ≤ p.2.1 ∧ p.2.1 < 18446744073709551616) ∧ p.2.2 = 8) ∧ (apF s.pn s.hz s.tp d).2.2.1.length ≤ 3 from
    ⟨vcf, vmem, vfl, vlgU, vlgM, hF.1, hF.2.1, hF.2.2.1, hF.2.2.2.1, hF.2.2.2.2, w0, w1, w2⟩
  unfold apF
  rw [if_neg q0]
  by_cases q4 : d.k = 4
  · rw [if_pos q4]
    split
    · exact ⟨vhz, vtp, vpnU, vpnT, vpn3⟩
    · exact ⟨rt, vtp, vpnU, vpnT, vpn3⟩
  rw [if_neg q4]
  by_cases q6 : d.k = 6
  · rw [if_pos q6]
    have hm : may d.pid := by
      have := hc0; rw [chkN_6 q6] at this
      by_cases h : ¬ may d.pid ∨ ¬ may d.plf
      · rw [if_pos h] at this; omega
      · exact Classical.not_not.1 fun e => h (.inl e)
    rw [docP_eq v0 hm]
    dsimp only
    unfold docP
    split
    · rename_i hr
      unfold renewP at hr ⊢
      split at hr
      · cases hr
      rename_i hneg
      rw [if_neg hneg]
      dsimp only
      have hfl := findP_lt s.pn d.pid
      have hfn : (findP s.pn d.pid).toNat < s.pn.length := by omega
      have hget : s.pn.getD (findP s.pn d.pid).toNat (0, 0, 0) = s.pn[(findP s.pn d.pid).toNat] := by rw [List.getD_eq_getElem?_getD, List.getElem?_eq_getElem hfn]; rfl
      rw [hget]
      have h8 := (vpnT _ (List.getElem_mem hfn)).2.2
      have he : (s.pn[(findP s.pn d.pid).toNat].1, s.pn[(findP s.pn d.pid).toNat].2.1, (8 : Int)) = s.pn[(findP s.pn d.pid).toNat] := by rw [← h8]
      rw [he, List.set_getElem_self]
      exact ⟨vhz, vtp, vpnU, vpnT, vpn3⟩
    split
    · exact ⟨vhz, vtp, vpnU, vpnT, vpn3⟩
    split
    · exact ⟨vhz, vtp, vpnU, vpnT, vpn3⟩
    split
    · exact ⟨vhz, vtp, vpnU, vpnT, vpn3⟩
    rename_i h3 h4 h5
    unfold may at hm
    dsimp only
    refine ⟨vhz, by omega, ?_, fun p hp => ?_, by rw [List.length_append]; simp; omega⟩
    · rw [List.pairwise_append]
      refine ⟨vpnU, by simp, fun a ha b hb => ?_⟩
      simp at hb; subst hb
      have := (vpnT a ha).1.2
      show a.1 < d.pid; omega
    · rcases List.mem_append.1 hp with hp | hp
      · have := vpnT p hp; exact ⟨⟨this.1.1, by omega⟩, this.2⟩
      · simp at hp; subst hp
        exact ⟨⟨by show 1 ≤ d.pid; omega, Int.le_refl _⟩, rp, rfl⟩
  rw [if_neg q6]
  by_cases q7 : d.k = 7
  · rw [if_pos q7]
    have hn := hok.2.2.2.1 (by omega)
    have hmx := mxI_p s.tp d.n
    dsimp only
    have hsub : (if (freeP s.pn d.n).2 = 0 then (freeP s.pn d.n).1 else s.pn).Sublist s.pn := by
      split
      · rename_i hr
        unfold freeP at hr ⊢
        split at hr
        · cases hr
        rename_i hneg
        rw [if_neg hneg]
        dsimp only
        rw [← List.eraseIdx_eq_take_drop_succ]
        exact List.eraseIdx_sublist _ _
      · exact List.Sublist.refl _
    refine ⟨vhz, by omega, vpnU.sublist hsub, fun p hp => ?_, Nat.le_trans hsub.length_le vpn3⟩
    have := vpnT p (hsub.subset hp); exact ⟨⟨this.1.1, by omega⟩, this.2⟩
  · rw [if_neg q7]
    exact ⟨vhz, vtp, vpnU, vpnT, vpn3⟩
end Go.Proofs.Ytnjbnndpbegkdaa

/- Package mstate: Conf, Legit; the document's In and Head. Conditions: at most 20 members, 1000 trusted. -/
namespace Go.Proofs.Ytnjbnndpbegkdaa
open Go.RowKit Go.PlainAid
set_option linter.unusedVariables false
set_option linter.unusedSimpArgs false

set_option maxRecDepth 100000 in
theorem in_any (v : Value) (l : List Int) (n : Int) (w : World) (hs : SliceOf (intE .i64) 1 w v l) :
    Calls Try.prog 15 #[v, .int .i64 n] w fun e w' => e = .returned (.bool (inL l n)) ∧ Below w.heap.size w w' := by
 have hB0 := Below.refl w.heap.size w
 have hl_hs := sl_len hs
 refine co_enter (n := 18) Try.func15 rfl rfl rfl [(0, v), (1, .int .i64 n)] rfl (fun a h0 => ?_)
 refine co_seq ?_
 refine co_reg ?_
 refine pk0 (v := .bool false) h0 rfl fun a1 h1 => ?_; clear h0
 refine pl_nil ?_
 refine co_then ?_
 refine co_seq ?_
 refine co_seq ?_
 refine co_reg ?_
 refine pk0 (v := .int .i64 0) h1 rfl fun a2 h2 => ?_; clear h1
 refine pl_nil ?_
 refine co_then ?_
 refine wp_block ?_
 have h3 : Slots 18 [(0, v), (1, .int .i64 n), (5, .int .i64 0)] _ := h2.sub ⟨rfl, rfl, rfl, trivial⟩; clear h2
 refine co_loop (fun mm a x => ∃ (i : Nat), Slots 18 [(0, v), (1, .int .i64 n), (5, .int .i64 ((i : Nat) : Int))] a ∧ mm = l.length - i ∧ (i ≤ l.length) ∧ (∀ j, j < i → ∀ z, l[j]? = some z → z ≠ n) ∧ Below w.heap.size w x) (l.length - 0) ?_ ?_
 · exact ⟨0, h3.sub ⟨rfl, rfl, (slot_eq rfl (congrArg (Value.int .i64) (by first | rfl | omega))), trivial⟩, rfl, by omega, by first | (intro j hj; omega) | exact in_next (by assumption) (by assumption) (by omega), hB0⟩
 · rintro k4 a5 w6 ⟨i, h5, rfl, hi7, hi8, hB9⟩
   have hz10 := hB9.size
   refine co_seq ?_
   refine co_seq ?_
   refine co_reg ?_
   refine pk0 (v := .int .i64 ((i : Nat) : Int)) h5 rfl fun a11 h11 => ?_; clear h5
   refine pk0 (v := v) h11 rfl fun a12 h12 => ?_; clear h11
   refine pk (v := .int .i64 ((l.length : Nat) : Int)) h12 rfl (rn_len rfl rfl Try.underlying33 (hs.below hB9)) fun a13 h13 => ?_; clear h12
   refine pk0 (v := .bool (decide (((i : Nat) : Int) < ((l.length : Nat) : Int)))) h13 rfl fun a14 h14 => ?_; clear h13
   refine pl_nil ?_
   refine co_then ?_
   cases hc15 : (decide (((i : Nat) : Int) < ((l.length : Nat) : Int)))
   ·
    rw [hc15] at h14
    have hp16 : ¬ (((i : Nat) : Int) < ((l.length : Nat) : Int)) := of_decide_eq_false hc15
    clear hc15
    refine co_false h14 rfl ?_
    refine wp_exit ?_
    refine co_thenX ?_
    refine co_thenX ?_
    refine co_blockX ?_
    refine co_then ?_
    refine co_seq ?_
    refine co_reg ?_
    refine pk0 (v := .bool false) h14 rfl fun a17 h17 => ?_; clear h14
    refine pl_nil ?_
    refine co_then ?_
    refine wp_ret ?_
    refine co_ret1 h17 rfl rfl ?_
    exact ⟨ret_bool (by first | exact inL_at (by assumption) (by assumption) (by omega) | exact inL_end (i := i) (by assumption) (by omega)), hB9⟩
   ·
    rw [hc15] at h14
    have hp18 : ((i : Nat) : Int) < ((l.length : Nat) : Int) := of_decide_eq_true hc15
    clear hc15
    refine co_true h14 rfl ?_
    refine wp_skip ?_
    refine co_then ?_
    refine co_seq ?_
    refine wp_block ?_
    refine co_seq ?_
    refine co_reg ?_
    refine pk0 (v := v) h14 rfl fun a19 h19 => ?_; clear h14
    refine pk0 (v := .int .i64 ((i : Nat) : Int)) h19 rfl fun a20 h20 => ?_; clear h19
    obtain ⟨y21, hy21⟩ : ∃ z, l[i]? = some z := ⟨_, List.getElem?_eq_getElem (by first | omega | (simp; done) | (simp; omega))⟩
    refine pk (v := pt (blkOf v) (offOf v + i * 1)) h20 rfl (rn_index rfl rfl rfl Try.underlying33 Try.sizeOf3 (hs.below hB9) (by omega) (by first | omega | (simp; done) | (simp; omega))) fun a22 h22 => ?_; clear h20
    refine pk (v := .int .i64 y21) h22 rfl (rn_load1 rfl rfl Try.isAgg3 ((sl_at (hs.below hB9) hy21) 0 _ rfl)) fun a23 h23 => ?_; clear h22
    refine pk0 (v := .int .i64 n) h23 rfl fun a24 h24 => ?_; clear h23
    refine pk0 (v := .bool (y21 == n)) h24 rfl fun a25 h25 => ?_; clear h24
    refine pl_nil ?_
    refine co_then ?_
    cases hc26 : (y21 == n)
    ·
     rw [hc26] at h25
     have hp27 : ¬ (y21 = n) := by first | simpa using hc26 | simpa [and_assoc] using hc26
     clear hc26
     refine co_false h25 rfl ?_
     refine wp_skip ?_
     refine co_blockN ?_
     refine co_then ?_
     refine co_reg ?_
     refine pk0 (v := .int .i64 ((i : Nat) : Int)) h25 rfl fun a28 h28 => ?_; clear h25
     refine pk (v := .int .i64 ((i + 1 : Nat) : Int)) h28 rfl (rn_arith' rfl rfl rfl rfl rfl rfl (IntWalk.i64_in _ (by omega)) (by omega)) fun a29 h29 => ?_; clear h28
     refine pk0 (v := .int .i64 ((i + 1 : Nat) : Int)) h29 rfl fun a30 h30 => ?_; clear h29
     refine pl_nil ?_
     refine co_then ?_
     refine ⟨(l.length - (i + 1)), by omega, ?_⟩
     exact ⟨i + 1, h30.sub ⟨rfl, rfl, rfl, trivial⟩, rfl, by omega, by first | (intro j hj; omega) | exact in_next (by assumption) (by assumption) (by omega), hB9⟩
    ·
     rw [hc26] at h25
     have hp31 : y21 = n := by first | simpa using hc26 | simpa [and_assoc] using hc26
     clear hc26
     refine co_true h25 rfl ?_
     refine co_seq ?_
     refine co_reg ?_
     refine pk0 (v := .bool true) h25 rfl fun a32 h32 => ?_; clear h25
     refine pl_nil ?_
     refine co_then ?_
     refine wp_ret ?_
     refine co_blockR ?_
     refine co_thenR ?_
     refine co_thenR ?_
     refine co_blockR ?_
     refine co_thenR ?_
     refine co_ret1 h32 rfl rfl ?_
     exact ⟨ret_bool (by first | exact inL_at (by assumption) (by assumption) (by omega) | exact inL_end (i := i) (by assumption) (by omega)), hB9⟩
set_option maxRecDepth 100000 in
theorem at0_any (ep : Int) (fl : Int) (mv : Value) (ms : List MemT) (w : World) (hs : SliceOf memE 2 w mv ms) :
    Calls Try.prog 40 #[.agg #[.int .i64 ep, mv, .int .u64 fl], .int .i64 0] w fun e w' => e = .returned (.int .i64 (headI ms)) ∧ Below w.heap.size w w' := by
 have hB0 := Below.refl w.heap.size w
 have hl_hs := sl_len hs
 refine co_enter (n := 20) Try.func40 rfl rfl rfl [(0, .agg #[.int .i64 ep, mv, .int .u64 fl]), (1, .int .i64 0)] rfl (fun a h0 => ?_)
 refine co_seq ?_
 refine co_reg ?_
 refine pw h0 rfl (op_new (v := fun N => pt N 0) (T := 32) (cs := #[.int .i64 ep, mv, .int .u64 fl]) (by kernel_rfl) (by kernel_rfl) (by kernel_rfl)) ?_; clear h0
 rintro _ w2 a1 ⟨N3, rfl, hN6, hz7, hk5, hg4⟩ h1
 have hz8 := hg4.size
 try dsimp only at h1
 refine pk0 (v := .int .i64 0) h1 rfl fun a9 h9 => ?_; clear h1
 refine pl_nil ?_
 refine co_then ?_
 refine co_seq ?_
 refine co_seq ?_
 refine co_reg ?_
 refine pk0 (v := .int .i64 0) h9 rfl fun a10 h10 => ?_; clear h9
 refine pk0 (v := .bool (decide (0 < 0))) h10 rfl fun a11 h11 => ?_; clear h10
 refine pk0 (v := .bool (decide (0 < 0))) h11 rfl fun a12 h12 => ?_; clear h11
 have hc13 : (decide (0 < 0)) = false := decide_eq_false (by omega)
 rw [hc13] at h12; clear hc13
 refine pk0 (v := .int .i64 0) h12 rfl fun a14 h14 => ?_; clear h12
 refine pk0 (v := pt N3 1) h14 rfl fun a15 h15 => ?_; clear h14
 refine pk (v := mv) h15 rfl (rn_load1 rfl rfl Try.isAgg30 (hk5.cell rfl)) fun a16 h16 => ?_; clear h15
 have hB17 := hb_new hB0 hg4
 refine pk (v := .int .i64 ((ms.length : Nat) : Int)) h16 rfl (rn_len rfl rfl Try.underlying30 (hs.below hB17)) fun a18 h18 => ?_; clear h16
 refine pk0 (v := .bool (decide (0 ≥ ((ms.length : Nat) : Int)))) h18 rfl fun a19 h19 => ?_; clear h18
 refine pk0 (v := .bool (decide (0 ≥ ((ms.length : Nat) : Int)))) h19 rfl fun a20 h20 => ?_; clear h19
 refine pl_nil ?_
 refine co_then ?_
 cases hc21 : (decide (0 ≥ ((ms.length : Nat) : Int)))
 ·
  rw [hc21] at h20
  have hp22 : ¬ (0 ≥ ((ms.length : Nat) : Int)) := of_decide_eq_false hc21
  clear hc21
  refine co_false h20 rfl ?_
  refine wp_skip ?_
  refine co_then ?_
  refine co_seq ?_
  refine co_reg ?_
  refine pk0 (v := pt N3 1) h20 rfl fun a23 h23 => ?_; clear h20
  refine pk (v := mv) h23 rfl (rn_load1 rfl rfl Try.isAgg30 (hk5.cell rfl)) fun a24 h24 => ?_; clear h23
  refine pk0 (v := .int .i64 0) h24 rfl fun a25 h25 => ?_; clear h24
  obtain ⟨y26, hy26⟩ : ∃ z, ms[0]? = some z := ⟨_, List.getElem?_eq_getElem (by first | omega | (simp; done) | (simp; omega))⟩
  refine pk (v := pt (blkOf mv) (offOf mv + 0 * 2)) h25 rfl (rn_index rfl rfl rfl Try.underlying30 Try.sizeOf102 (hs.below hB17) (by omega) (by first | omega | (simp; done) | (simp; omega))) fun a27 h27 => ?_; clear h25
  refine pk0 (v := pt (blkOf mv) (offOf mv + 0 * 2)) h27 rfl fun a28 h28 => ?_; clear h27
  refine pk (v := .int .i64 y26.1) h28 rfl (rn_load1 rfl rfl Try.isAgg3 ((sl_at (hs.below hB17) hy26) 0 _ rfl)) fun a29 h29 => ?_; clear h28
  refine pk0 (v := .int .i64 y26.1) h29 rfl fun a30 h30 => ?_; clear h29
  refine pl_nil ?_
  refine co_then ?_
  refine wp_ret ?_
  refine co_ret1 h30 rfl rfl ?_
  exact ⟨ret_int (by first | exact headI_y (by assumption) | exact headI_0 (by omega)), hB17⟩
 ·
  rw [hc21] at h20
  have hp31 : 0 ≥ ((ms.length : Nat) : Int) := of_decide_eq_true hc21
  clear hc21
  refine co_true h20 rfl ?_
  refine co_seq ?_
  refine co_reg ?_
  refine pk0 (v := .int .i64 (-1)) h20 rfl fun a32 h32 => ?_; clear h20
  refine pl_nil ?_
  refine co_then ?_
  refine wp_ret ?_
  refine co_thenR ?_
  refine co_ret1 h32 rfl rfl ?_
  exact ⟨ret_int (by first | exact headI_y (by assumption) | exact headI_0 (by omega)), hB17⟩
set_option maxRecDepth 100000 in
theorem head27_any (ep : Int) (fl : Int) (mv : Value) (ms : List MemT) (w : World) (hs : SliceOf memE 2 w mv ms) :
    Calls Try.prog 17 #[.agg #[.int .i64 ep, mv, .int .u64 fl]] w fun e w' => e = .returned (.int .i64 (headI ms)) ∧ Below w.heap.size w w' := by
 have hB0 := Below.refl w.heap.size w
 have hl_hs := sl_len hs
 refine co_enter (n := 5) Try.func17 rfl rfl rfl [(0, .agg #[.int .i64 ep, mv, .int .u64 fl])] rfl (fun a h0 => ?_)
 refine co_seq ?_
 refine co_reg ?_
 refine pw h0 rfl (op_new (v := fun N => pt N 0) (T := 32) (cs := #[.int .i64 ep, mv, .int .u64 fl]) (by kernel_rfl) (by kernel_rfl) (by kernel_rfl)) ?_; clear h0
 rintro _ w2 a1 ⟨N3, rfl, hN6, hz7, hk5, hg4⟩ h1
 have hz8 := hg4.size
 try dsimp only at h1
 refine pk0 (v := .int .i64 0) h1 rfl fun a9 h9 => ?_; clear h1
 refine pl_nil ?_
 refine co_then ?_
 refine co_seq ?_
 refine co_reg ?_
 refine pk (v := .agg #[.int .i64 ep, mv, .int .u64 fl]) h9 rfl (rn_loadN rfl rfl Try.underlying32 rfl (by kernel_rfl) hk5.all) fun a10 h10 => ?_; clear h9
 have hB13 := hb_new hB0 hg4
 refine pw h10 rfl (op_call (args := #[.agg #[.int .i64 ep, mv, .int .u64 fl], .int .i64 0]) (R := fun res xw => res = .int .i64 (headI ms) ∧ Below w2.heap.size w2 xw) rfl rfl rfl (by kernel_rfl) (by kernel_rfl) (Try.call40 _ _) (at0_any ep fl mv ms w2 (hs.below hB13)) (by rintro e x ⟨rfl, hb14⟩; exact ⟨_, rfl, ⟨rfl, hb14⟩⟩)) ?_; clear h10
 rintro _ w12 a11 ⟨rfl, hb14⟩ h11
 have hz15 := hb14.size
 refine pk0 (v := .int .i64 (headI ms)) h11 rfl fun a16 h16 => ?_; clear h11
 refine pl_nil ?_
 refine co_then ?_
 refine wp_ret ?_
 refine co_ret1 h16 rfl rfl ?_
 have hB17 := hb_call hB13 hb14
 exact ⟨rfl, hB17⟩
set_option maxRecDepth 100000 in
theorem cloneI_any (v : Value) (l : List Int) (w : World) (hs : SliceOf (intE .i64) 1 w v l) (hlen : l.length ≤ 1000) :
    Calls Try.prog 39 #[v] w fun e w' => ∃ (u : Value), e = .returned (u) ∧ w'.ownsRow w.heap.size 3 1 u l.length (l.flatMap (intE .i64)) ∧ Below w.heap.size w w' := by
 have hB0 := Below.refl w.heap.size w
 have hl_hs := sl_len hs
 have hs' := hs; obtain ⟨ao, cap, hv, _, _, h3, _⟩ := hs'; subst hv; rcases ao with _ | ad
 · obtain ⟨hl0, hc0⟩ := h3 rfl; obtain rfl : l = [] := List.eq_nil_of_length_eq_zero hl0; subst hc0
   refine co_enter (n := 8) Try.func39 rfl rfl rfl [(0, .slice none 0 0)] rfl (fun a h0 => ?_)
   refine co_seq ?_
   refine co_reg ?_
   refine pk0 (v := .slice none 0 0) h0 rfl fun a1 h1 => ?_; clear h0
   refine pl_nil ?_
   refine co_then ?_
   refine co_seq ?_
   refine co_seq ?_
   refine co_reg ?_
   refine pk0 (v := .slice none 0 0) h1 rfl fun a2 h2 => ?_; clear h1
   refine pk0 (v := .bool true) h2 rfl fun a3 h3 => ?_; clear h2
   refine pl_nil ?_
   refine co_then ?_
   refine co_true h3 rfl ?_
   refine co_seq ?_
   refine co_reg ?_
   refine pk0 (v := .slice none 0 0) h3 rfl fun a4 h4 => ?_; clear h3
   refine pl_nil ?_
   refine co_then ?_
   refine wp_ret ?_
   refine co_thenR ?_
   refine co_ret1 h4 rfl rfl ?_
   exact ⟨_, rfl, (row_nilL _ _ _ _ _), hB0⟩
 · skip
   refine co_enter (n := 8) Try.func39 rfl rfl rfl [(0, .slice (some ad) l.length cap)] rfl (fun a h0 => ?_)
   refine co_seq ?_
   refine co_reg ?_
   refine pk0 (v := .slice none 0 0) h0 rfl fun a5 h5 => ?_; clear h0
   refine pl_nil ?_
   refine co_then ?_
   refine co_seq ?_
   refine co_seq ?_
   refine co_reg ?_
   refine pk0 (v := .slice (some ad) l.length cap) h5 rfl fun a6 h6 => ?_; clear h5
   refine pk0 (v := .bool false) h6 rfl fun a7 h7 => ?_; clear h6
   refine pl_nil ?_
   refine co_then ?_
   refine co_false h7 rfl ?_
   refine wp_skip ?_
   refine co_then ?_
   refine co_seq ?_
   refine co_reg ?_
   refine pw h7 rfl (op_new (v := fun N => .slice (some ⟨N, 0, none⟩) 0 0) (T := 3) (cs := #[]) (by kernel_rfl) (by kernel_rfl) (by kernel_rfl)) ?_; clear h7
   rintro _ w9 a8 ⟨N10, rfl, hN13, hz14, hk12, hg11⟩ h8
   have hz15 := hg11.size
   try dsimp only at h8
   refine pk0 (v := .slice (some ad) l.length cap) h8 rfl fun a16 h16 => ?_; clear h8
   have hr19 := row_of_blkL hk12 (Nat.le_refl _) 1 (intE .i64)
   have hB24 := hb_new hB0 hg11
   refine pw h16 rfl (op_appendSrc rfl N10 3 (z := .int .i64 0) (size := 1) (bytes := 8) Try.underlying33 (by kernel_rfl) rfl rfl rfl hr19 rfl (hs.below hB24) (fun y hy => ⟨(intE_len .i64) y, (intE_one .i64) y⟩) (by first | omega | (simp only [List.length_nil, List.length_append, List.length_cons, List.length_take, List.length_drop]; omega)) (by first | omega | (simp only [List.length_nil, List.length_append, List.length_cons, List.length_take, List.length_drop]; omega)) (by omega)) ?_; clear h16
   rintro v20 w18 a17 ⟨hr21, hg22⟩ h17
   have hr21' : w18.ownsRow N10 3 1 v20 l.length (l.flatMap (intE .i64)) := row_app (l := []) hr21; clear hr21
   have hz25 := hg22.size
   refine pk0 (v := v20) h17 rfl fun a26 h26 => ?_; clear h17
   refine pl_nil ?_
   refine co_then ?_
   refine wp_ret ?_
   refine co_ret1 h26 rfl rfl ?_
   have hB27 := hb_row hB24 hr19 (by omega) hg22
   exact ⟨_, rfl, (row_lows hr21' (by omega)), hB27⟩
set_option maxRecDepth 100000 in
theorem msConf_any (b : Nat) (ep : Int) (cv : Value) (fl : Int) (lgv : Value) (hz : Int) (pv : Value) (tp : Int) (x0 : SdT) (x1 : SdT) (x2 : SdT) (ms : List MemT) (w : World) (hb : Blk w b 66 #[.bool true, .int .i64 ep, cv, .int .u64 fl, lgv, .int .u64 hz, pv, .int .i64 tp, .bool x0.1, .int .i64 x0.2.1, .int .i64 x0.2.2.1, .int .i64 x0.2.2.2.1, .int .i64 x0.2.2.2.2, .bool x1.1, .int .i64 x1.2.1, .int .i64 x1.2.2.1, .int .i64 x1.2.2.2.1, .int .i64 x1.2.2.2.2, .bool x2.1, .int .i64 x2.2.1, .int .i64 x2.2.2.1, .int .i64 x2.2.2.2.1, .int .i64 x2.2.2.2.2]) (hcvr : w.ownsRow 0 102 2 cv ms.length (ms.flatMap memE)) (hm20 : ms.length ≤ 20) :
    Calls Try.prog 13 #[pt b 0] w fun e w' => ∃ (u : Value), e = .returned (.agg #[.int .i64 ep, u, .int .u64 fl]) ∧ w'.ownsRow w.heap.size 102 2 u ms.length (ms.flatMap memE) ∧ Below w.heap.size w w' := by
 have hB0 := Below.refl w.heap.size w
 have hl_hb := hb.lt
 refine co_enter (n := 11) Try.func13 rfl rfl rfl [(0, pt b 0)] rfl (fun a h0 => ?_)
 refine co_seq ?_
 refine co_reg ?_
 refine pw h0 rfl (op_new (v := fun N => pt N 0) (T := 32) (cs := #[.int .i64 0, .slice none 0 0, .int .u64 0]) (by kernel_rfl) (by kernel_rfl) (by kernel_rfl)) ?_; clear h0
 rintro _ w2 a1 ⟨N3, rfl, hN6, hz7, hk5, hg4⟩ h1
 have ha8 := row_fresh hcvr hN6
 have hz9 := hg4.size
 try dsimp only at h1
 refine pl_nil ?_
 refine co_then ?_
 refine co_seq ?_
 refine co_seq ?_
 refine co_reg ?_
 refine pk0 (v := pt b 0) h1 rfl fun a10 h10 => ?_; clear h1
 have hk13 := hb.kept hg4 (by simp)
 refine pw h10 rfl (op_call (args := #[pt b 0]) (R := fun res xw => res = .bool false ∧ Below w2.heap.size w2 xw) rfl rfl rfl (by kernel_rfl) (by kernel_rfl) (Try.call19 _ _) (mszeroT b ep cv fl lgv hz pv tp x0 x1 x2 w2 hk13) (by rintro e x ⟨rfl, hb14⟩; exact ⟨_, rfl, ⟨rfl, hb14⟩⟩)) ?_; clear h10
 rintro _ w12 a11 ⟨rfl, hb14⟩ h11
 have hz15 := hb14.size
 refine pl_nil ?_
 refine co_then ?_
 refine co_false h11 rfl ?_
 refine wp_skip ?_
 refine co_then ?_
 refine co_seq ?_
 refine co_reg ?_
 refine pk0 (v := pt b 0) h11 rfl fun a16 h16 => ?_; clear h11
 refine pk0 (v := pt b 0) h16 rfl fun a17 h17 => ?_; clear h16
 refine pk0 (v := pt b 1) h17 rfl fun a18 h18 => ?_; clear h17
 have hk19 := hk13.below hb14
 refine pk (v := .agg #[.int .i64 ep, cv, .int .u64 fl]) h18 rfl (rn_loadN rfl rfl Try.underlying32 rfl (by kernel_rfl) (blk_part hk19 1 (by rfl))) fun a20 h20 => ?_; clear h18
 have hr23 := row_kept_new hcvr hg4
 have hr24 := row_kept_new hr23 (below_grown hb14)
 refine pw h20 rfl (op_call (args := #[.agg #[.int .i64 ep, cv, .int .u64 fl]]) (R := fun res xw => ∃ u : Value, res = .agg #[.int .i64 ep, u, .int .u64 fl] ∧ xw.ownsRow w12.heap.size 102 2 u ms.length (ms.flatMap memE) ∧ Below w12.heap.size w12 xw) rfl rfl rfl (by kernel_rfl) (by kernel_rfl) (Try.call37 _ _) (freshConf_any ep fl cv ms w12 (row_sl hr24 memE_len) (by first | omega | (simp; done) | (simp; omega))) (by rintro e x ⟨u, rfl, hq26, hb27⟩; exact ⟨_, rfl, ⟨u, rfl, hq26, hb27⟩⟩)) ?_; clear h20
 rintro _ w22 a21 ⟨u25, rfl, hq26, hb27⟩ h21
 have hz28 := hb27.size
 have hl29 := sl_len (row_sl hq26 memE_len)
 have hk35 := hk5.below hb14
 have hk36 := hk35.below hb27
 refine pwD h21 rfl (op_storeN rfl rfl rfl (all_cons rfl (all_cons (row_one hq26) (all_cons rfl all_nil))) (by kernel_rfl) hk36 rfl) ?_; clear h21
 rintro _ w31 a30 ⟨hk32, hz33, hg34⟩ h30
 have hk32' : Blk w31 N3 32 #[.int .i64 ep, u25, .int .u64 fl] := hk32; clear hk32
 have hz37 := hg34.size
 refine pl_nil ?_
 refine co_then ?_
 refine wp_ret ?_
 refine co_retC (Q := fun _ _ _ => True) h30 rfl rfl hk32' Try.underlying32 rfl (by kernel_rfl) ?_
 have hr38 := row_kept_at hq26 hg34 (own_neT hq26 hk36 (by decide))
 have hB39 := hb_new hB0 hg4
 have hB40 := hb_call hB39 hb14
 have hB41 := hb_call hB40 hb27
 have hB42 := hb_at hB41 hg34 (by omega)
 exact ⟨_, rfl, (row_lows hr38 (by omega)), hB42⟩
set_option maxRecDepth 100000 in
theorem msLegit_any (b : Nat) (ep : Int) (cv : Value) (fl : Int) (lgv : Value) (hz : Int) (pv : Value) (tp : Int) (x0 : SdT) (x1 : SdT) (x2 : SdT) (lg : List Int) (w : World) (hb : Blk w b 66 #[.bool true, .int .i64 ep, cv, .int .u64 fl, lgv, .int .u64 hz, pv, .int .i64 tp, .bool x0.1, .int .i64 x0.2.1, .int .i64 x0.2.2.1, .int .i64 x0.2.2.2.1, .int .i64 x0.2.2.2.2, .bool x1.1, .int .i64 x1.2.1, .int .i64 x1.2.2.1, .int .i64 x1.2.2.2.1, .int .i64 x1.2.2.2.2, .bool x2.1, .int .i64 x2.2.1, .int .i64 x2.2.2.1, .int .i64 x2.2.2.2.1, .int .i64 x2.2.2.2.2]) (hlgr : w.ownsRow 0 3 1 lgv lg.length (lg.flatMap (intE .i64))) (hl9 : lg.length ≤ 1000) :
    Calls Try.prog 16 #[pt b 0] w fun e w' => ∃ (u : Value), e = .returned (u) ∧ w'.ownsRow w.heap.size 3 1 u lg.length (lg.flatMap (intE .i64)) ∧ Below w.heap.size w w' := by
 have hB0 := Below.refl w.heap.size w
 have hl_hb := hb.lt
 refine co_enter (n := 10) Try.func16 rfl rfl rfl [(0, pt b 0)] rfl (fun a h0 => ?_)
 refine co_seq ?_
 refine co_reg ?_
 refine pk0 (v := .slice none 0 0) h0 rfl fun a1 h1 => ?_; clear h0
 refine pl_nil ?_
 refine co_then ?_
 refine co_seq ?_
 refine co_seq ?_
 refine co_reg ?_
 refine pk0 (v := pt b 0) h1 rfl fun a2 h2 => ?_; clear h1
 refine pw h2 rfl (op_call (args := #[pt b 0]) (R := fun res xw => res = .bool false ∧ Below w.heap.size w xw) rfl rfl rfl (by kernel_rfl) (by kernel_rfl) (Try.call19 _ _) (mszeroT b ep cv fl lgv hz pv tp x0 x1 x2 w hb) (by rintro e x ⟨rfl, hb5⟩; exact ⟨_, rfl, ⟨rfl, hb5⟩⟩)) ?_; clear h2
 rintro _ w4 a3 ⟨rfl, hb5⟩ h3
 have hz6 := hb5.size
 refine pl_nil ?_
 refine co_then ?_
 refine co_false h3 rfl ?_
 refine wp_skip ?_
 refine co_then ?_
 refine co_seq ?_
 refine co_reg ?_
 refine pk0 (v := pt b 0) h3 rfl fun a7 h7 => ?_; clear h3
 refine pk0 (v := pt b 0) h7 rfl fun a8 h8 => ?_; clear h7
 refine pk0 (v := pt b 4) h8 rfl fun a9 h9 => ?_; clear h8
 have hk10 := hb.below hb5
 refine pk (v := lgv) h9 rfl (rn_load1 rfl rfl Try.isAgg33 (hk10.cell rfl)) fun a11 h11 => ?_; clear h9
 have hr14 := row_kept_new hlgr (below_grown hb5)
 refine pw h11 rfl (op_call (args := #[lgv]) (R := fun res xw => ∃ u : Value, res = u ∧ xw.ownsRow w4.heap.size 3 1 u lg.length (lg.flatMap (intE .i64)) ∧ Below w4.heap.size w4 xw) rfl rfl rfl (by kernel_rfl) (by kernel_rfl) (Try.call39 _ _) (cloneI_any lgv lg w4 (row_sl hr14 (intE_len .i64)) (by first | omega | (simp; done) | (simp; omega))) (by rintro e x ⟨u, rfl, hq16, hb17⟩; exact ⟨_, rfl, ⟨u, rfl, hq16, hb17⟩⟩)) ?_; clear h11
 rintro u15 w13 a12 ⟨_, rfl, hq16, hb17⟩ h12
 have hz18 := hb17.size
 have hl19 := sl_len (row_sl hq16 (intE_len .i64))
 refine pk0 (v := u15) h12 rfl fun a20 h20 => ?_; clear h12
 refine pl_nil ?_
 refine co_then ?_
 refine wp_ret ?_
 refine co_ret1 h20 rfl rfl ?_
 have hB21 := hb_call hB0 hb5
 have hB22 := hb_call hB21 hb17
 exact ⟨_, rfl, (row_lows hq16 (by omega)), hB22⟩
end Go.Proofs.Ytnjbnndpbegkdaa

/- The document's master state: member, conf, pin. Conditions: at most 20 members, 100 trusted, 3 pins. -/
namespace Go.Proofs.Ytnjbnndpbegkdaa
open Go.RowKit Go.PlainAid
set_option linter.unusedVariables false
set_option linter.unusedSimpArgs false


abbrev AnT := Int × Int × Int × Int
theorem docC_y {ep fl : Int} {ms : List MemT} {lg : List Int} {d : NoteD} (h : fwF ep d.ep d.ms d.lg = 0) : docC ep fl ms lg d = (0, d.ep, d.fl, d.ms, d.lg) := by unfold docC; rw [if_pos h]
theorem docC_n {ep fl : Int} {ms : List MemT} {lg : List Int} {d : NoteD} {e : Int} (h : fwF ep d.ep d.ms d.lg = e) (he : e ≠ 0) : docC ep fl ms lg d = (e, ep, fl, ms, lg) := by unfold docC; rw [h, if_neg he]

set_option maxRecDepth 100000 in
theorem rmember28 (ep : Int) (fl : Int) (mv : Value) (ms : List MemT) (n : Int) (w : World) (hs : SliceOf memE 2 w mv ms) :
    Calls Try.prog 29 #[.agg #[.int .i64 ep, mv, .int .u64 fl], .int .i64 n] w fun e w' => e = .returned (.bool (hasM ms n)) ∧ Below w.heap.size w w' := by
 have hB0 := Below.refl w.heap.size w
 have hl_hs := sl_len hs
 refine co_enter (n := 21) Try.func29 rfl rfl rfl [(0, .agg #[.int .i64 ep, mv, .int .u64 fl]), (1, .int .i64 n)] rfl (fun a h0 => ?_)
 refine co_seq ?_
 refine co_reg ?_
 refine pw h0 rfl (op_new (v := fun N => pt N 0) (T := 32) (cs := #[.int .i64 ep, mv, .int .u64 fl]) (by kernel_rfl) (by kernel_rfl) (by kernel_rfl)) ?_; clear h0
 rintro _ w2 a1 ⟨N3, rfl, hN6, hz7, hk5, hg4⟩ h1
 have hz8 := hg4.size
 try dsimp only at h1
 refine pk0 (v := .bool false) h1 rfl fun a9 h9 => ?_; clear h1
 refine pl_nil ?_
 refine co_then ?_
 refine co_seq ?_
 refine co_seq ?_
 refine co_reg ?_
 refine pk0 (v := .int .i64 0) h9 rfl fun a10 h10 => ?_; clear h9
 refine pl_nil ?_
 refine co_then ?_
 refine wp_block ?_
 have h11 : Slots 21 [(1, .int .i64 n), (2, pt N3 0), (5, .int .i64 0)] _ := h10.sub ⟨rfl, rfl, rfl, trivial⟩; clear h10
 refine co_loop (fun mm a x => ∃ (i : Nat), Slots 21 [(1, .int .i64 n), (2, pt N3 0), (5, .int .i64 ((i : Nat) : Int))] a ∧ mm = ms.length - i ∧ (i ≤ ms.length) ∧ (∀ j, j < i → ∀ z, ms[j]? = some z → z.1 ≠ n) ∧ Below w.heap.size w x ∧ Blk x N3 32 #[.int .i64 ep, mv, .int .u64 fl]) (ms.length - 0) ?_ ?_
 have hB12 := hb_new hB0 hg4
 · exact ⟨0, h11.sub ⟨rfl, rfl, (slot_eq rfl (congrArg (Value.int .i64) (by first | rfl | omega))), trivial⟩, rfl, by omega, by first | (intro j hj; omega) | exact has_next (by assumption) (by assumption) (by omega), hB12, hk5⟩
 · rintro k13 a14 w15 ⟨i, h14, rfl, hi16, hi17, hB18, hk19⟩
   have hz20 := hB18.size
   have hl21 := hk19.lt
   refine co_seq ?_
   refine co_seq ?_
   refine co_reg ?_
   refine pk0 (v := .int .i64 ((i : Nat) : Int)) h14 rfl fun a22 h22 => ?_; clear h14
   refine pk0 (v := pt N3 1) h22 rfl fun a23 h23 => ?_; clear h22
   refine pk (v := mv) h23 rfl (rn_load1 rfl rfl Try.isAgg30 (hk19.cell rfl)) fun a24 h24 => ?_; clear h23
   refine pk (v := .int .i64 ((ms.length : Nat) : Int)) h24 rfl (rn_len rfl rfl Try.underlying30 (hs.below hB18)) fun a25 h25 => ?_; clear h24
   refine pk0 (v := .bool (decide (((i : Nat) : Int) < ((ms.length : Nat) : Int)))) h25 rfl fun a26 h26 => ?_; clear h25
   refine pl_nil ?_
   refine co_then ?_
   cases hc27 : (decide (((i : Nat) : Int) < ((ms.length : Nat) : Int)))
   ·
    rw [hc27] at h26
    have hp28 : ¬ (((i : Nat) : Int) < ((ms.length : Nat) : Int)) := of_decide_eq_false hc27
    clear hc27
    refine co_false h26 rfl ?_
    refine wp_exit ?_
    refine co_thenX ?_
    refine co_thenX ?_
    refine co_blockX ?_
    refine co_then ?_
    refine co_seq ?_
    refine co_reg ?_
    refine pk0 (v := .bool false) h26 rfl fun a29 h29 => ?_; clear h26
    refine pl_nil ?_
    refine co_then ?_
    refine wp_ret ?_
    refine co_ret1 h29 rfl rfl ?_
    exact ⟨ret_bool (by first | exact hasM_at (by assumption) (by omega) | exact hasM_end (i := i) (by assumption) (by omega)), hB18⟩
   ·
    rw [hc27] at h26
    have hp30 : ((i : Nat) : Int) < ((ms.length : Nat) : Int) := of_decide_eq_true hc27
    clear hc27
    refine co_true h26 rfl ?_
    refine wp_skip ?_
    refine co_then ?_
    refine co_seq ?_
    refine wp_block ?_
    refine co_seq ?_
    refine co_reg ?_
    refine pk0 (v := pt N3 1) h26 rfl fun a31 h31 => ?_; clear h26
    refine pk (v := mv) h31 rfl (rn_load1 rfl rfl Try.isAgg30 (hk19.cell rfl)) fun a32 h32 => ?_; clear h31
    refine pk0 (v := .int .i64 ((i : Nat) : Int)) h32 rfl fun a33 h33 => ?_; clear h32
    obtain ⟨y34, hy34⟩ : ∃ z, ms[i]? = some z := ⟨_, List.getElem?_eq_getElem (by first | omega | (simp; done) | (simp; omega))⟩
    refine pk (v := pt (blkOf mv) (offOf mv + i * 2)) h33 rfl (rn_index rfl rfl rfl Try.underlying30 Try.sizeOf102 (hs.below hB18) (by omega) (by first | omega | (simp; done) | (simp; omega))) fun a35 h35 => ?_; clear h33
    refine pk0 (v := pt (blkOf mv) (offOf mv + i * 2)) h35 rfl fun a36 h36 => ?_; clear h35
    refine pk (v := .int .i64 y34.1) h36 rfl (rn_load1 rfl rfl Try.isAgg3 ((sl_at (hs.below hB18) hy34) 0 _ rfl)) fun a37 h37 => ?_; clear h36
    refine pk0 (v := .int .i64 n) h37 rfl fun a38 h38 => ?_; clear h37
    refine pk0 (v := .bool (y34.1 == n)) h38 rfl fun a39 h39 => ?_; clear h38
    refine pl_nil ?_
    refine co_then ?_
    cases hc40 : (y34.1 == n)
    ·
     rw [hc40] at h39
     have hp41 : ¬ (y34.1 = n) := by first | simpa using hc40 | simpa [and_assoc] using hc40
     clear hc40
     refine co_false h39 rfl ?_
     refine wp_skip ?_
     refine co_blockN ?_
     refine co_then ?_
     refine co_reg ?_
     refine pk0 (v := .int .i64 ((i : Nat) : Int)) h39 rfl fun a42 h42 => ?_; clear h39
     refine pk (v := .int .i64 ((i + 1 : Nat) : Int)) h42 rfl (rn_arith' rfl rfl rfl rfl rfl rfl (IntWalk.i64_in _ (by omega)) (by omega)) fun a43 h43 => ?_; clear h42
     refine pk0 (v := .int .i64 ((i + 1 : Nat) : Int)) h43 rfl fun a44 h44 => ?_; clear h43
     refine pl_nil ?_
     refine co_then ?_
     refine ⟨(ms.length - (i + 1)), by omega, ?_⟩
     exact ⟨i + 1, h44.sub ⟨rfl, rfl, rfl, trivial⟩, rfl, by omega, by first | (intro j hj; omega) | exact has_next (by assumption) (by assumption) (by omega), hB18, hk19⟩
    ·
     rw [hc40] at h39
     have hp45 : y34.1 = n := by first | simpa using hc40 | simpa [and_assoc] using hc40
     clear hc40
     refine co_true h39 rfl ?_
     refine co_seq ?_
     refine co_reg ?_
     refine pk0 (v := .bool true) h39 rfl fun a46 h46 => ?_; clear h39
     refine pl_nil ?_
     refine co_then ?_
     refine wp_ret ?_
     refine co_blockR ?_
     refine co_thenR ?_
     refine co_thenR ?_
     refine co_blockR ?_
     refine co_thenR ?_
     refine co_ret1 h46 rfl rfl ?_
     exact ⟨ret_bool (by first | exact hasM_at (by assumption) (by omega) | exact hasM_end (i := i) (by assumption) (by omega)), hB18⟩
set_option maxRecDepth 100000 in
set_option maxHeartbeats 1600000 in
theorem dcConf_any (b : Nat) (ep : Int) (cv : Value) (fl : Int) (lgv : Value) (hz : Int) (pv : Value) (tp : Int) (y0 : AnT) (y1 : AnT) (y2 : AnT) (ms : List MemT) (lg : List Int) (d : NoteD) (mv : Value) (lv : Value) (ev : Value) (w : World) (hb : Blk w b 50 #[.int .i64 ep, cv, .int .u64 fl, lgv, .int .u64 hz, pv, .int .i64 tp, .int .i64 y0.1, .int .i64 y0.2.1, .int .i64 y0.2.2.1, .int .i64 y0.2.2.2, .int .i64 y1.1, .int .i64 y1.2.1, .int .i64 y1.2.2.1, .int .i64 y1.2.2.2, .int .i64 y2.1, .int .i64 y2.2.1, .int .i64 y2.2.2.1, .int .i64 y2.2.2.2]) (hcvr : w.ownsRow 0 102 2 cv ms.length (ms.flatMap memE)) (hlgr : w.ownsRow 0 3 1 lgv lg.length (lg.flatMap (intE .i64))) (hm : SliceOf memE 2 w mv d.ms) (hg : SliceOf (intE .i64) 1 w lv d.lg) (he : SliceOf opE 3 w ev d.el) (hR : NoteR d) (hbm : d.ms ≠ [] → ∀ k, mv.ownBlock = some k → ¬ k = b) (hbg : d.lg ≠ [] → ∀ k, lv.ownBlock = some k → ¬ k = b) (hbe : d.el ≠ [] → ∀ k, ev.ownBlock = some k → ¬ k = b) (hln : (ms.length ≤ 20 ∧ lg.length ≤ 100) ∧ d.ms.length ≤ 20 ∧ d.lg.length ≤ 100) :
    Calls Try.prog 28 #[pt b 0, .agg #[.int .i64 d.k, .int .i64 d.n, .int .u64 d.t, .int .i64 d.ep, mv, .int .u64 d.fl, lv, .int .i64 d.ec, .int .i64 d.er, ev, .int .u64 d.ets, .int .i64 d.pid, .int .u64 d.pat, .int .i64 d.plf, .int .i64 d.sc, .int .i64 d.sr, .int .i64 d.se, .int .i64 d.sp]] w fun e w' => ∃ (cv2 : Value) (lv2 : Value), e = .returned (.int .i64 ((docC ep fl ms lg d).1)) ∧ Blk w' b 50 #[.int .i64 ((docC ep fl ms lg d).2.1), cv2, .int .u64 ((docC ep fl ms lg d).2.2.1), lv2, .int .u64 hz, pv, .int .i64 tp, .int .i64 y0.1, .int .i64 y0.2.1, .int .i64 y0.2.2.1, .int .i64 y0.2.2.2, .int .i64 y1.1, .int .i64 y1.2.1, .int .i64 y1.2.2.1, .int .i64 y1.2.2.2, .int .i64 y2.1, .int .i64 y2.2.1, .int .i64 y2.2.2.1, .int .i64 y2.2.2.2] ∧ w'.ownsRow 0 102 2 cv2 ((docC ep fl ms lg d).2.2.2.1).length (((docC ep fl ms lg d).2.2.2.1).flatMap memE) ∧ w'.ownsRow 0 3 1 lv2 ((docC ep fl ms lg d).2.2.2.2).length (((docC ep fl ms lg d).2.2.2.2).flatMap (intE .i64)) ∧ But (fun q => q = b) w w' := by
 have hrng := hR.rng
 have hB0 := But.refl (fun q => q = b) w
 have hl_hb := hb.lt
 have hl_hm := sl_len hm
 have hl_hg := sl_len hg
 have hl_he := sl_len he
 have hu_cv := fun i (hi : Value.ownBlock cv = some i) => (hcvr.lt i hi).2
 have hu_lgv := fun i (hi : Value.ownBlock lgv = some i) => (hlgr.lt i hi).2
 refine co_enter (n := 58) Try.func28 rfl rfl rfl [(0, pt b 0), (1, .agg #[.int .i64 d.k, .int .i64 d.n, .int .u64 d.t, .int .i64 d.ep, mv, .int .u64 d.fl, lv, .int .i64 d.ec, .int .i64 d.er, ev, .int .u64 d.ets, .int .i64 d.pid, .int .u64 d.pat, .int .i64 d.plf, .int .i64 d.sc, .int .i64 d.sr, .int .i64 d.se, .int .i64 d.sp])] rfl (fun a h0 => ?_)
 refine co_seq ?_
 refine co_reg ?_
 refine pw h0 rfl (op_new (v := fun N => pt N 0) (T := 44) (cs := #[.int .i64 d.k, .int .i64 d.n, .int .u64 d.t, .int .i64 d.ep, mv, .int .u64 d.fl, lv, .int .i64 d.ec, .int .i64 d.er, ev, .int .u64 d.ets, .int .i64 d.pid, .int .u64 d.pat, .int .i64 d.plf, .int .i64 d.sc, .int .i64 d.sr, .int .i64 d.se, .int .i64 d.sp]) (by kernel_rfl) (by kernel_rfl) (by kernel_rfl)) ?_; clear h0
 rintro _ w2 a1 ⟨N3, rfl, hN6, hz7, hk5, hg4⟩ h1
 have ha8 := row_fresh hlgr hN6
 have ha9 := row_fresh hcvr hN6
 have hz10 := hg4.size
 try dsimp only at h1
 refine pk0 (v := .int .i64 0) h1 rfl fun a11 h11 => ?_; clear h1
 refine pl_nil ?_
 refine co_then ?_
 refine co_seq ?_
 refine co_seq ?_
 refine dr_eq (by kernel_rfl) (fun w12 hg13 => ?_)
 have hz14 := hg13.size
 refine dk0 0 (v := pt N3 3) h11 rfl rfl rfl fun a15 h15 => ?_; clear h11
 refine dk0 1 (v := pt N3 3) h15 rfl rfl rfl fun a16 h16 => ?_; clear h15
 have hk17 := hk5.kept hg13 (by simp)
 refine dk 2 (v := .int .i64 d.ep) h16 rfl rfl rfl (fun x hx => by subst hx; exact (rn_load1 rfl rfl Try.isAgg3 (hk17.cell rfl))) fun a18 h18 => ?_; clear h16
 refine dk0 3 (v := pt b 0) h18 rfl rfl rfl fun a19 h19 => ?_; clear h18
 refine dk0 4 (v := pt b 0) h19 rfl rfl rfl fun a20 h20 => ?_; clear h19
 refine dk0 5 (v := pt b 0) h20 rfl rfl rfl fun a21 h21 => ?_; clear h20
 refine dk0 6 (v := pt b 0) h21 rfl rfl rfl fun a22 h22 => ?_; clear h21
 have hk23 := hb.kept hg4 (by simp)
 have hk24 := hk23.kept hg13 (by simp)
 refine dk 7 (v := .int .i64 ep) h22 rfl rfl rfl (fun x hx => by subst hx; exact (rn_load1 rfl rfl Try.isAgg3 (hk24.cell rfl))) fun a25 h25 => ?_; clear h22
 refine dk0 8 (v := .bool (decide (d.ep ≤ ep))) h25 rfl rfl rfl fun a26 h26 => ?_; clear h25
 refine dr_done (by kernel_rfl) ?_
 refine co_then ?_
 have hB28 := fb_new hB0 hg4
 have hB29 := fb_new hB28 hg13
 have hr30 := row_kept_new hlgr hg4
 have hr31 := row_kept_new hr30 hg13
 have hr32 := row_kept_new hcvr hg4
 have hr33 := row_kept_new hr32 hg13
 cases hc27 : (decide (d.ep ≤ ep))
 ·
  rw [hc27] at h26
  have hp34 : ¬ (d.ep ≤ ep) := of_decide_eq_false hc27
  clear hc27
  refine co_false h26 rfl ?_
  refine wp_skip ?_
  refine co_then ?_
  refine co_seq ?_
  refine co_seq ?_
  refine co_reg ?_
  refine pk0 (v := .int .i64 0) h26 rfl fun a35 h35 => ?_; clear h26
  refine pl_nil ?_
  refine co_then ?_
  refine wp_block ?_
  have h36 : Slots 58 [(0, pt b 0), (3, pt N3 0), (5, .int .i64 0)] _ := h35.sub ⟨rfl, rfl, rfl, trivial⟩; clear h35
  refine co_loop (fun mm a x => ∃ (k : Nat), Slots 58 [(0, pt b 0), (3, pt N3 0), (5, .int .i64 ((k : Nat) : Int))] a ∧ mm = d.lg.length - k ∧ (k ≤ d.lg.length) ∧ (memIds d.ms (d.lg.take k) = true) ∧ x.ownsRow 0 102 2 cv ms.length (ms.flatMap memE) ∧ x.ownsRow 0 3 1 lgv lg.length (lg.flatMap (intE .i64)) ∧ But (fun q => q = b) w x ∧ Blk x b 50 #[.int .i64 ep, cv, .int .u64 fl, lgv, .int .u64 hz, pv, .int .i64 tp, .int .i64 y0.1, .int .i64 y0.2.1, .int .i64 y0.2.2.1, .int .i64 y0.2.2.2, .int .i64 y1.1, .int .i64 y1.2.1, .int .i64 y1.2.2.1, .int .i64 y1.2.2.2, .int .i64 y2.1, .int .i64 y2.2.1, .int .i64 y2.2.2.1, .int .i64 y2.2.2.2] ∧ Blk x N3 44 #[.int .i64 d.k, .int .i64 d.n, .int .u64 d.t, .int .i64 d.ep, mv, .int .u64 d.fl, lv, .int .i64 d.ec, .int .i64 d.er, ev, .int .u64 d.ets, .int .i64 d.pid, .int .u64 d.pat, .int .i64 d.plf, .int .i64 d.sc, .int .i64 d.sr, .int .i64 d.se, .int .i64 d.sp]) (d.lg.length - 0) ?_ ?_
  · exact ⟨0, h36.sub ⟨rfl, rfl, (slot_eq rfl (congrArg (Value.int .i64) (by first | rfl | omega))), trivial⟩, rfl, by omega, by first | rfl | exact memIds_next (by assumption) (by assumption) (by assumption), hr33, hr31, hB29, hk24, hk17⟩
  · rintro k37 a38 w39 ⟨k, h38, rfl, hi40, hi41, hf42, hf43, hB44, hk45, hk46⟩
    have hz47 := hB44.size
    have hl48 := hk45.lt
    have hl49 := hk46.lt
    refine co_seq ?_
    refine co_seq ?_
    refine co_reg ?_
    refine pk0 (v := .int .i64 ((k : Nat) : Int)) h38 rfl fun a50 h50 => ?_; clear h38
    refine pk0 (v := pt N3 6) h50 rfl fun a51 h51 => ?_; clear h50
    refine pk (v := lv) h51 rfl (rn_load1 rfl rfl Try.isAgg33 (hk46.cell rfl)) fun a52 h52 => ?_; clear h51
    refine pk (v := .int .i64 ((d.lg.length : Nat) : Int)) h52 rfl (rn_len rfl rfl Try.underlying33 (sl_butS hg hB44 hbg)) fun a53 h53 => ?_; clear h52
    refine pk0 (v := .bool (decide (((k : Nat) : Int) < ((d.lg.length : Nat) : Int)))) h53 rfl fun a54 h54 => ?_; clear h53
    refine pl_nil ?_
    refine co_then ?_
    cases hc55 : (decide (((k : Nat) : Int) < ((d.lg.length : Nat) : Int)))
    ·
     rw [hc55] at h54
     have hp56 : ¬ (((k : Nat) : Int) < ((d.lg.length : Nat) : Int)) := of_decide_eq_false hc55
     clear hc55
     refine co_false h54 rfl ?_
     refine wp_exit ?_
     refine co_thenX ?_
     refine co_thenX ?_
     refine co_blockX ?_
     refine co_then ?_
     refine co_seq ?_
     refine co_seq ?_
     refine dr_gen (fun x => But (fun q => q = b) w x ∧ Blk x N3 44 #[.int .i64 d.k, .int .i64 d.n, .int .u64 d.t, .int .i64 d.ep, mv, .int .u64 d.fl, lv, .int .i64 d.ec, .int .i64 d.er, ev, .int .u64 d.ets, .int .i64 d.pid, .int .u64 d.pat, .int .i64 d.plf, .int .i64 d.sc, .int .i64 d.sr, .int .i64 d.se, .int .i64 d.sp]) (by kernel_rfl) (fun w57 hg58 => ?_) (fun w57 hg58 => ?_)
     ·
      have hz59 := hg58.size
      have hB60 := fb_new hB44 hg58
      have hk61 := hk46.kept hg58 (by simp)
      exact ⟨hB60, hk61⟩
     have hz62 := hg58.size
     have hB63 := fb_new hB44 hg58
     have hk64 := hk46.kept hg58 (by simp)
     refine dk0 0 (v := pt N3 6) h54 rfl rfl ⟨hB63, hk64⟩ fun a65 h65 => ?_; clear h54
     refine dk 1 (v := lv) h65 rfl rfl ⟨hB63, hk64⟩ (fun x hx => (rn_load1 rfl rfl Try.isAgg33 (hx.2.cell rfl))) fun a66 h66 => ?_; clear h65
     refine dk0 2 (v := pt N3 3) h66 rfl rfl ⟨hB63, hk64⟩ fun a67 h67 => ?_; clear h66
     refine dk 3 (v := .agg #[.int .i64 d.ep, mv, .int .u64 d.fl]) h67 rfl rfl ⟨hB63, hk64⟩ (fun x hx => (rn_loadN rfl rfl Try.underlying32 rfl (by kernel_rfl) (blk_part hx.2 3 (by rfl)))) fun a68 h68 => ?_; clear h67
     refine d1 4 h68 rfl rfl (op_call (args := #[.agg #[.int .i64 d.ep, mv, .int .u64 d.fl]]) (R := fun res xw => res = .int .i64 (headI d.ms) ∧ Below w57.heap.size w57 xw) rfl rfl rfl (by kernel_rfl) (by kernel_rfl) (Try.call17 _ _) (head27_any d.ep d.fl mv d.ms w57 (sl_butS hm hB63 hbm)) (by rintro e x ⟨rfl, hb71⟩; exact ⟨_, rfl, ⟨rfl, hb71⟩⟩)) ?_ ?_; clear h68
     ·
      rintro _ w70 ⟨rfl, hb71⟩
      have hz72 := hb71.size
      have hB73 := fb_call hB63 hb71
      have hk74 := hk64.below hb71
      exact ⟨hB73, hk74⟩
     rintro _ w70 a69 ⟨rfl, hb71⟩ h69
     have hz72 := hb71.size
     have hB73 := fb_call hB63 hb71
     have hk74 := hk64.below hb71
     refine d1 5 h69 rfl rfl (op_call (args := #[lv, .int .i64 (headI d.ms)]) (R := fun res xw => res = .bool (inL d.lg (headI d.ms)) ∧ Below w70.heap.size w70 xw) rfl rfl rfl (by kernel_rfl) (by kernel_rfl) (Try.call15 _ _) (in_any lv d.lg (headI d.ms) w70 (sl_butS hg hB73 hbg)) (by rintro e x ⟨rfl, hb77⟩; exact ⟨_, rfl, ⟨rfl, hb77⟩⟩)) ?_ ?_; clear h69
     ·
      rintro _ w76 ⟨rfl, hb77⟩
      have hz78 := hb77.size
      have hB79 := fb_call hB73 hb77
      have hk80 := hk74.below hb77
      exact ⟨hB79, hk80⟩
     rintro _ w76 a75 ⟨rfl, hb77⟩ h75
     have hz78 := hb77.size
     have hB79 := fb_call hB73 hb77
     have hk80 := hk74.below hb77
     have hk82 := hk45.kept hg58 (by simp)
     have hk83 := hk82.below hb71
     have hk84 := hk83.below hb77
     have hr85 := row_kept_new hf42 hg58
     have hr86 := row_kept_new hr85 (below_grown hb71)
     have hr87 := row_kept_new hr86 (below_grown hb77)
     have hr88 := row_kept_new hf43 hg58
     have hr89 := row_kept_new hr88 (below_grown hb71)
     have hr90 := row_kept_new hr89 (below_grown hb77)
     cases hc81 : (inL d.lg (headI d.ms))
     ·
      rw [hc81] at h75
      refine dk0 6 (v := .bool true) h75 rfl rfl ⟨hB79, hk80⟩ fun a91 h91 => ?_; clear h75
      refine dr_done (by kernel_rfl) ?_
      refine co_then ?_
      refine co_true h91 rfl ?_
      refine co_seq ?_
      refine co_reg ?_
      refine pk0 (v := .int .i64 18) h91 rfl fun a92 h92 => ?_; clear h91
      refine pl_nil ?_
      refine co_then ?_
      refine wp_ret ?_
      refine co_thenR ?_
      refine co_ret1 h92 rfl rfl ?_
      have hA : docC ep fl ms lg d = (18, ep, fl, ms, lg) := docC_n (by first | exact fwF_1 (by omega) | exact fwF_2 (by omega) (memIds_no (by assumption) (by first | assumption | simp_all)).symm | exact fwF_3 (by omega) (by first | assumption | (have hq := (by assumption : memIds d.ms (d.lg.take k) = true); rwa [List.take_of_length_le (by omega)] at hq)) (by first | assumption | simp_all)) (by decide)
      exact ⟨cv, lgv, by rw [hA], by rw [hA]; exact hk84, by rw [hA]; exact hr87, by rw [hA]; exact hr90, hB79⟩
     ·
      rw [hc81] at h75
      refine dk0 6 (v := .bool false) h75 rfl rfl ⟨hB79, hk80⟩ fun a93 h93 => ?_; clear h75
      refine dr_done (by kernel_rfl) ?_
      refine co_then ?_
      refine co_false h93 rfl ?_
      refine wp_skip ?_
      refine co_then ?_
      refine co_seq ?_
      refine co_reg ?_
      refine pk0 (v := pt N3 3) h93 rfl fun a94 h94 => ?_; clear h93
      refine pk (v := .agg #[.int .i64 d.ep, mv, .int .u64 d.fl]) h94 rfl (rn_loadN rfl rfl Try.underlying32 rfl (by kernel_rfl) (blk_part hk80 3 (by rfl))) fun a95 h95 => ?_; clear h94
      refine pw h95 rfl (op_new (v := fun N => pt N 0) (T := 32) (cs := #[.int .i64 0, .slice none 0 0, .int .u64 0]) (by kernel_rfl) (by kernel_rfl) (by kernel_rfl)) ?_; clear h95
      rintro _ w97 a96 ⟨N98, rfl, hN101, hz102, hk100, hg99⟩ h96
      have ha103 := row_fresh hr87 hN101
      have ha104 := row_fresh hr90 hN101
      have hz105 := hg99.size
      try dsimp only at h96
      have hB111 := fb_new hB79 hg99
      refine pwD h96 rfl (op_storeN rfl rfl rfl (all_cons rfl (all_cons (sl_one (sl_butS hm hB111 hbm)) (all_cons rfl all_nil))) (by kernel_rfl) hk100 rfl) ?_; clear h96
      rintro _ w107 a106 ⟨hk108, hz109, hg110⟩ h106
      have hk108' : Blk w107 N98 32 #[.int .i64 d.ep, mv, .int .u64 d.fl] := hk108; clear hk108
      have hz112 := hg110.size
      refine pl_nil ?_
      refine co_then ?_
      refine co_seq ?_
      refine co_reg ?_
      refine pw h106 rfl (op_new (v := fun N => .slice (some ⟨N, 0, none⟩) 0 0) (T := 102) (cs := #[]) (by kernel_rfl) (by kernel_rfl) (by kernel_rfl)) ?_; clear h106
      rintro _ w114 a113 ⟨N115, rfl, hN118, hz119, hk117, hg116⟩ h113
      have hr121 := row_kept_new hr87 hg99
      have hr122 := row_kept_at hr121 hg110 (ha103)
      have ha120 := row_fresh hr122 hN118
      have hr124 := row_kept_new hr90 hg99
      have hr125 := row_kept_at hr124 hg110 (ha104)
      have ha123 := row_fresh hr125 hN118
      have hz126 := hg116.size
      try dsimp only at h113
      refine pk0 (v := pt N3 3) h113 rfl fun a127 h127 => ?_; clear h113
      refine pk0 (v := pt N3 4) h127 rfl fun a128 h128 => ?_; clear h127
      have hk129 := hk80.kept hg99 (by simp)
      have hk130 := hk129.kept hg110 (by simp; omega)
      have hk131 := hk130.kept hg116 (by simp)
      refine pk (v := mv) h128 rfl (rn_load1 rfl rfl Try.isAgg30 (hk131.cell rfl)) fun a132 h132 => ?_; clear h128
      have hr135 := row_of_blkL hk117 (Nat.le_refl _) 2 memE
      have hB140 := fb_at hB111 hg110 (fun hlt => by first | (exfalso; omega) | (simp; done) | simp_all)
      have hB141 := fb_new hB140 hg116
      refine pw h132 rfl (op_appendSrc rfl N115 102 (z := .agg #[.int .i64 0, .int .i64 0]) (size := 2) (bytes := 16) Try.underlying30 (by kernel_rfl) rfl rfl rfl hr135 rfl (sl_butS hm hB141 hbm) (fun y hy => ⟨memE_len y, memE_one y⟩) (by first | omega | (simp only [List.length_nil, List.length_append, List.length_cons, List.length_take, List.length_drop]; omega)) (by first | omega | (simp only [List.length_nil, List.length_append, List.length_cons, List.length_take, List.length_drop]; omega)) (by omega)) ?_; clear h132
      rintro v136 w134 a133 ⟨hr137, hg138⟩ h133
      have hr137' : w134.ownsRow N115 102 2 v136 d.ms.length (d.ms.flatMap memE) := row_app (l := []) hr137; clear hr137
      have hz142 := hg138.size
      have hk143 := hk84.kept hg99 (by simp)
      have hk144 := hk143.kept hg110 (by simp; omega)
      have hk145 := hk144.kept hg116 (by simp)
      have hk146 := hk108'.kept hg116 (by simp)
      refine pk0 (v := pt N98 1) h133 rfl fun a147 h147 => ?_; clear h133
      have hk153 := hk146.kept hg138 (own_neT hr135 hk146 (by decide))
      refine pwD h147 rfl (op_store1 rfl rfl rfl (row_one hr137') Try.sizeOf30 hk153 rfl) ?_; clear h147
      rintro _ w149 a148 ⟨hk150, hz151, hg152⟩ h148
      have hk150' : Blk w149 N98 32 #[.int .i64 d.ep, v136, .int .u64 d.fl] := hk150; clear hk150
      have hz154 := hg152.size
      refine pl_nil ?_
      refine co_then ?_
      refine co_seq ?_
      refine co_reg ?_
      refine pk0 (v := pt b 0) h148 rfl fun a155 h155 => ?_; clear h148
      refine pk (v := .agg #[.int .i64 d.ep, v136, .int .u64 d.fl]) h155 rfl (rn_loadN rfl rfl Try.underlying32 rfl (by kernel_rfl) hk150'.all) fun a156 h156 => ?_; clear h155
      refine pk0 (v := pt b 0) h156 rfl fun a157 h157 => ?_; clear h156
      refine pk0 (v := pt b 0) h157 rfl fun a158 h158 => ?_; clear h157
      have hr164 := row_kept_at hr137' hg152 (own_neT hr137' hk153 (by decide))
      have hk165 := hk145.kept hg138 (own_neT hr135 hk145 (by decide))
      have hk166 := hk165.kept hg152 (by simp; omega)
      refine pwD h158 rfl (op_storePart (k := 0) (cs' := #[.int .i64 d.ep, v136, .int .u64 d.fl, lgv, .int .u64 hz, pv, .int .i64 tp, .int .i64 y0.1, .int .i64 y0.2.1, .int .i64 y0.2.2.1, .int .i64 y0.2.2.2, .int .i64 y1.1, .int .i64 y1.2.1, .int .i64 y1.2.2.1, .int .i64 y1.2.2.2, .int .i64 y2.1, .int .i64 y2.2.1, .int .i64 y2.2.2.1, .int .i64 y2.2.2.2]) rfl rfl rfl (all_cons rfl (all_cons (row_one hr164) (all_cons rfl all_nil))) (by kernel_rfl) hk166 rfl rfl) ?_; clear h158
      rintro _ w160 a159 ⟨hk161, hz162, hg163⟩ h159
      have hk161' : Blk w160 b 50 #[.int .i64 d.ep, v136, .int .u64 d.fl, lgv, .int .u64 hz, pv, .int .i64 tp, .int .i64 y0.1, .int .i64 y0.2.1, .int .i64 y0.2.2.1, .int .i64 y0.2.2.2, .int .i64 y1.1, .int .i64 y1.2.1, .int .i64 y1.2.2.1, .int .i64 y1.2.2.2, .int .i64 y2.1, .int .i64 y2.2.1, .int .i64 y2.2.2.1, .int .i64 y2.2.2.2] := hk161; clear hk161
      have hz167 := hg163.size
      refine pl_nil ?_
      refine co_then ?_
      refine co_seq ?_
      refine co_reg ?_
      refine pk0 (v := pt b 0) h159 rfl fun a168 h168 => ?_; clear h159
      refine pw h168 rfl (op_new (v := fun N => .slice (some ⟨N, 0, none⟩) 0 0) (T := 3) (cs := #[]) (by kernel_rfl) (by kernel_rfl) (by kernel_rfl)) ?_; clear h168
      rintro _ w170 a169 ⟨N171, rfl, hN174, hz175, hk173, hg172⟩ h169
      have hr177 := row_kept_new hr125 hg116
      have hr178 := row_kept_ap hr177 hr135 (fun i hi => by have := hu_lgv i hi; omega) hg138
      have hr179 := row_kept_at hr178 hg152 (ha104)
      have hr180 := row_kept_at hr179 hg163 (own_neT hr179 hk166 (by decide))
      have ha176 := row_fresh hr180 hN174
      have hr182 := row_kept_at hr164 hg163 (own_neT hr164 hk166 (by decide))
      have ha181 := row_fresh hr182 hN174
      have hz183 := hg172.size
      try dsimp only at h169
      refine pk0 (v := pt N3 6) h169 rfl fun a184 h184 => ?_; clear h169
      have hk185 := hk131.kept hg138 (own_neT hr135 hk131 (by decide))
      have hk186 := hk185.kept hg152 (by simp; omega)
      have hk187 := hk186.kept hg163 (by simp; omega)
      have hk188 := hk187.kept hg172 (by simp)
      refine pk (v := lv) h184 rfl (rn_load1 rfl rfl Try.isAgg33 (hk188.cell rfl)) fun a189 h189 => ?_; clear h184
      have hr192 := row_of_blkL hk173 (Nat.le_refl _) 1 (intE .i64)
      have hB197 := fb_row hB141 hr135 (by omega) hg138
      have hB198 := fb_at hB197 hg152 (fun hlt => by first | (exfalso; omega) | (simp; done) | simp_all)
      have hB199 := fb_at hB198 hg163 (fun hlt => by first | (exfalso; omega) | (simp; done) | simp_all)
      have hB200 := fb_new hB199 hg172
      refine pw h189 rfl (op_appendSrc rfl N171 3 (z := .int .i64 0) (size := 1) (bytes := 8) Try.underlying33 (by kernel_rfl) rfl rfl rfl hr192 rfl (sl_butS hg hB200 hbg) (fun y hy => ⟨(intE_len .i64) y, (intE_one .i64) y⟩) (by first | omega | (simp only [List.length_nil, List.length_append, List.length_cons, List.length_take, List.length_drop]; omega)) (by first | omega | (simp only [List.length_nil, List.length_append, List.length_cons, List.length_take, List.length_drop]; omega)) (by omega)) ?_; clear h189
      rintro v193 w191 a190 ⟨hr194, hg195⟩ h190
      have hr194' : w191.ownsRow N171 3 1 v193 d.lg.length (d.lg.flatMap (intE .i64)) := row_app (l := []) hr194; clear hr194
      have hz201 := hg195.size
      have hk202 := hk150'.kept hg163 (by simp; omega)
      have hk203 := hk202.kept hg172 (by simp)
      have hk204 := hk161'.kept hg172 (by simp)
      refine pk0 (v := pt b 0) h190 rfl fun a205 h205 => ?_; clear h190
      refine pk0 (v := pt b 3) h205 rfl fun a206 h206 => ?_; clear h205
      have hk212 := hk204.kept hg195 (own_neT hr192 hk204 (by decide))
      refine pwD h206 rfl (op_store1 rfl rfl rfl (row_one hr194') Try.sizeOf33 hk212 rfl) ?_; clear h206
      rintro _ w208 a207 ⟨hk209, hz210, hg211⟩ h207
      have hk209' : Blk w208 b 50 #[.int .i64 d.ep, v136, .int .u64 d.fl, v193, .int .u64 hz, pv, .int .i64 tp, .int .i64 y0.1, .int .i64 y0.2.1, .int .i64 y0.2.2.1, .int .i64 y0.2.2.2, .int .i64 y1.1, .int .i64 y1.2.1, .int .i64 y1.2.2.1, .int .i64 y1.2.2.2, .int .i64 y2.1, .int .i64 y2.2.1, .int .i64 y2.2.2.1, .int .i64 y2.2.2.2] := hk209; clear hk209
      have hz213 := hg211.size
      refine pl_nil ?_
      refine co_then ?_
      refine co_seq ?_
      refine co_reg ?_
      refine pk0 (v := .int .i64 0) h207 rfl fun a214 h214 => ?_; clear h207
      refine pl_nil ?_
      refine co_then ?_
      refine wp_ret ?_
      refine co_ret1 h214 rfl rfl ?_
      have hr215 := row_kept_new hr182 hg172
      have hr216 := row_kept_row hr215 hr192 hg195 (by decide)
      have hr217 := row_kept_at hr216 hg211 (own_neT hr216 hk212 (by decide))
      have hr218 := row_kept_at hr194' hg211 (own_neT hr194' hk212 (by decide))
      have hB219 := fb_row hB200 hr192 (by omega) hg195
      have hB220 := fb_at hB219 hg211 (fun hlt => by first | (exfalso; omega) | (simp; done) | simp_all)
      have hA : docC ep fl ms lg d = (0, d.ep, d.fl, d.ms, d.lg) := docC_y (fwF_4 (by omega) (by first | assumption | (have hq := (by assumption : memIds d.ms (d.lg.take k) = true); rwa [List.take_of_length_le (by omega)] at hq)) (by first | assumption | simp_all))
      exact ⟨v136, v193, by rw [hA], by rw [hA]; exact hk209', by rw [hA]; exact row_lows hr217 (Nat.zero_le _), by rw [hA]; exact row_lows hr218 (Nat.zero_le _), hB220⟩
    ·
     rw [hc55] at h54
     have hp221 : ((k : Nat) : Int) < ((d.lg.length : Nat) : Int) := of_decide_eq_true hc55
     clear hc55
     refine co_true h54 rfl ?_
     refine wp_skip ?_
     refine co_then ?_
     refine co_seq ?_
     refine wp_block ?_
     refine co_seq ?_
     refine dr_gen (fun x => But (fun q => q = b) w x ∧ Blk x N3 44 #[.int .i64 d.k, .int .i64 d.n, .int .u64 d.t, .int .i64 d.ep, mv, .int .u64 d.fl, lv, .int .i64 d.ec, .int .i64 d.er, ev, .int .u64 d.ets, .int .i64 d.pid, .int .u64 d.pat, .int .i64 d.plf, .int .i64 d.sc, .int .i64 d.sr, .int .i64 d.se, .int .i64 d.sp]) (by kernel_rfl) (fun w222 hg223 => ?_) (fun w222 hg223 => ?_)
     ·
      have hz224 := hg223.size
      have hB225 := fb_new hB44 hg223
      have hk226 := hk46.kept hg223 (by simp)
      exact ⟨hB225, hk226⟩
     have hz227 := hg223.size
     have hB228 := fb_new hB44 hg223
     have hk229 := hk46.kept hg223 (by simp)
     refine dk0 0 (v := pt N3 3) h54 rfl rfl ⟨hB228, hk229⟩ fun a230 h230 => ?_; clear h54
     refine dk 1 (v := .agg #[.int .i64 d.ep, mv, .int .u64 d.fl]) h230 rfl rfl ⟨hB228, hk229⟩ (fun x hx => (rn_loadN rfl rfl Try.underlying32 rfl (by kernel_rfl) (blk_part hx.2 3 (by rfl)))) fun a231 h231 => ?_; clear h230
     refine dk0 2 (v := pt N3 6) h231 rfl rfl ⟨hB228, hk229⟩ fun a232 h232 => ?_; clear h231
     refine dk 3 (v := lv) h232 rfl rfl ⟨hB228, hk229⟩ (fun x hx => (rn_load1 rfl rfl Try.isAgg33 (hx.2.cell rfl))) fun a233 h233 => ?_; clear h232
     refine dk0 4 (v := .int .i64 ((k : Nat) : Int)) h233 rfl rfl ⟨hB228, hk229⟩ fun a234 h234 => ?_; clear h233
     obtain ⟨y235, hy235⟩ : ∃ z, d.lg[k]? = some z := ⟨_, List.getElem?_eq_getElem (by first | omega | (simp; done) | (simp; omega))⟩
     refine dk 5 (v := pt (blkOf lv) (offOf lv + k * 1)) h234 rfl rfl ⟨hB228, hk229⟩ (fun x hx => (rn_index rfl rfl rfl Try.underlying33 Try.sizeOf3 (sl_butS hg hx.1 hbg) (by omega) (by first | omega | (simp; done) | (simp; omega)))) fun a236 h236 => ?_; clear h234
     refine dk 6 (v := .int .i64 y235) h236 rfl rfl ⟨hB228, hk229⟩ (fun x hx => (rn_load1 rfl rfl Try.isAgg3 ((sl_at (sl_butS hg hx.1 hbg) hy235) 0 _ rfl))) fun a237 h237 => ?_; clear h236
     refine d1 7 h237 rfl rfl (op_call (args := #[.agg #[.int .i64 d.ep, mv, .int .u64 d.fl], .int .i64 y235]) (R := fun res xw => res = .bool (hasM d.ms y235) ∧ Below w222.heap.size w222 xw) rfl rfl rfl (by kernel_rfl) (by kernel_rfl) (Try.call29 _ _) (rmember28 d.ep d.fl mv d.ms y235 w222 (sl_butS hm hB228 hbm)) (by rintro e x ⟨rfl, hb240⟩; exact ⟨_, rfl, ⟨rfl, hb240⟩⟩)) ?_ ?_; clear h237
     ·
      rintro _ w239 ⟨rfl, hb240⟩
      have hz241 := hb240.size
      have hB242 := fb_call hB228 hb240
      have hk243 := hk229.below hb240
      exact ⟨hB242, hk243⟩
     rintro _ w239 a238 ⟨rfl, hb240⟩ h238
     have hz241 := hb240.size
     have hB242 := fb_call hB228 hb240
     have hk243 := hk229.below hb240
     have hk245 := hk45.kept hg223 (by simp)
     have hk246 := hk245.below hb240
     have hr247 := row_kept_new hf42 hg223
     have hr248 := row_kept_new hr247 (below_grown hb240)
     have hr249 := row_kept_new hf43 hg223
     have hr250 := row_kept_new hr249 (below_grown hb240)
     cases hc244 : (hasM d.ms y235)
     ·
      rw [hc244] at h238
      refine dk0 8 (v := .bool true) h238 rfl rfl ⟨hB242, hk243⟩ fun a251 h251 => ?_; clear h238
      refine dr_done (by kernel_rfl) ?_
      refine co_then ?_
      refine co_true h251 rfl ?_
      refine co_seq ?_
      refine co_reg ?_
      refine pk0 (v := .int .i64 7) h251 rfl fun a252 h252 => ?_; clear h251
      refine pl_nil ?_
      refine co_then ?_
      refine wp_ret ?_
      refine co_blockR ?_
      refine co_thenR ?_
      refine co_thenR ?_
      refine co_blockR ?_
      refine co_thenR ?_
      refine co_ret1 h252 rfl rfl ?_
      have hA : docC ep fl ms lg d = (7, ep, fl, ms, lg) := docC_n (by first | exact fwF_1 (by omega) | exact fwF_2 (by omega) (memIds_no (by assumption) (by first | assumption | simp_all)).symm | exact fwF_3 (by omega) (by first | assumption | (have hq := (by assumption : memIds d.ms (d.lg.take k) = true); rwa [List.take_of_length_le (by omega)] at hq)) (by first | assumption | simp_all)) (by decide)
      exact ⟨cv, lgv, by rw [hA], by rw [hA]; exact hk246, by rw [hA]; exact hr248, by rw [hA]; exact hr250, hB242⟩
     ·
      rw [hc244] at h238
      refine dk0 8 (v := .bool false) h238 rfl rfl ⟨hB242, hk243⟩ fun a253 h253 => ?_; clear h238
      refine dr_done (by kernel_rfl) ?_
      refine co_then ?_
      refine co_false h253 rfl ?_
      refine wp_skip ?_
      refine co_blockN ?_
      refine co_then ?_
      refine co_reg ?_
      refine pk0 (v := .int .i64 ((k : Nat) : Int)) h253 rfl fun a254 h254 => ?_; clear h253
      refine pk (v := .int .i64 ((k + 1 : Nat) : Int)) h254 rfl (rn_arith' rfl rfl rfl rfl rfl rfl (IntWalk.i64_in _ (by omega)) (by omega)) fun a255 h255 => ?_; clear h254
      refine pk0 (v := .int .i64 ((k + 1 : Nat) : Int)) h255 rfl fun a256 h256 => ?_; clear h255
      refine pl_nil ?_
      refine co_then ?_
      refine ⟨(d.lg.length - (k + 1)), by omega, ?_⟩
      exact ⟨k + 1, h256.sub ⟨rfl, rfl, rfl, trivial⟩, rfl, by omega, by first | rfl | exact memIds_next (by assumption) (by assumption) (by assumption), hr248, hr250, hB242, hk246, hk243⟩
 ·
  rw [hc27] at h26
  have hp257 : d.ep ≤ ep := of_decide_eq_true hc27
  clear hc27
  refine co_true h26 rfl ?_
  refine co_seq ?_
  refine co_reg ?_
  refine pk0 (v := .int .i64 18) h26 rfl fun a258 h258 => ?_; clear h26
  refine pl_nil ?_
  refine co_then ?_
  refine wp_ret ?_
  refine co_thenR ?_
  refine co_ret1 h258 rfl rfl ?_
  have hA : docC ep fl ms lg d = (18, ep, fl, ms, lg) := docC_n (by first | exact fwF_1 (by omega) | exact fwF_2 (by omega) (memIds_no (by assumption) (by first | assumption | simp_all)).symm | exact fwF_3 (by omega) (by first | assumption | (have hq := (by assumption : memIds d.ms (d.lg.take k) = true); rwa [List.take_of_length_le (by omega)] at hq)) (by first | assumption | simp_all)) (by decide)
  exact ⟨cv, lgv, by rw [hA], by rw [hA]; exact hk24, by rw [hA]; exact hr33, by rw [hA]; exact hr31, hB29⟩
set_option maxRecDepth 100000 in
set_option maxHeartbeats 1600000 in
theorem dcPin_any (b : Nat) (ep : Int) (cv : Value) (fl : Int) (lgv : Value) (hz : Int) (pv : Value) (pn : List PinT) (tp : Int) (y0 : AnT) (y1 : AnT) (y2 : AnT) (id : Int) (at_ : Int) (lf : Int) (w : World) (hb : Blk w b 50 #[.int .i64 ep, cv, .int .u64 fl, lgv, .int .u64 hz, pv, .int .i64 tp, .int .i64 y0.1, .int .i64 y0.2.1, .int .i64 y0.2.2.1, .int .i64 y0.2.2.2, .int .i64 y1.1, .int .i64 y1.2.1, .int .i64 y1.2.2.1, .int .i64 y1.2.2.2, .int .i64 y2.1, .int .i64 y2.2.1, .int .i64 y2.2.2.1, .int .i64 y2.2.2.2]) (hpn : w.ownsRow 0 40 3 pv pn.length (pn.flatMap pinE)) (hp3 : pn.length ≤ 3) :
    Calls Try.prog 30 #[pt b 0, .agg #[.int .i64 id, .int .u64 at_, .int .i64 lf]] w fun e w' => ∃ (pv2 : Value), e = .returned (.int .i64 ((docP pn hz tp id at_).1)) ∧ Blk w' b 50 #[.int .i64 ep, cv, .int .u64 fl, lgv, .int .u64 hz, pv2, .int .i64 ((docP pn hz tp id at_).2.2), .int .i64 y0.1, .int .i64 y0.2.1, .int .i64 y0.2.2.1, .int .i64 y0.2.2.2, .int .i64 y1.1, .int .i64 y1.2.1, .int .i64 y1.2.2.1, .int .i64 y1.2.2.2, .int .i64 y2.1, .int .i64 y2.2.1, .int .i64 y2.2.2.1, .int .i64 y2.2.2.2] ∧ w'.ownsRow 0 40 3 pv2 ((docP pn hz tp id at_).2.1).length (((docP pn hz tp id at_).2.1).flatMap pinE) ∧ But (fun q => q = b) w w' := by
 have hB0 := But.refl (fun q => q = b) w
 have hl_hb := hb.lt
 have hu_pv := fun i (hi : Value.ownBlock pv = some i) => (hpn.lt i hi).2
 refine co_enter (n := 64) Try.func30 rfl rfl rfl [(0, pt b 0), (1, .agg #[.int .i64 id, .int .u64 at_, .int .i64 lf])] rfl (fun a h0 => ?_)
 refine co_seq ?_
 refine co_reg ?_
 refine pw h0 rfl (op_new (v := fun N => pt N 0) (T := 40) (cs := #[.int .i64 id, .int .u64 at_, .int .i64 lf]) (by kernel_rfl) (by kernel_rfl) (by kernel_rfl)) ?_; clear h0
 rintro _ w2 a1 ⟨N3, rfl, hN6, hz7, hk5, hg4⟩ h1
 have ha8 := row_fresh hpn hN6
 have hz9 := hg4.size
 try dsimp only at h1
 refine pk0 (v := .int .i64 0) h1 rfl fun a10 h10 => ?_; clear h1
 refine pl_nil ?_
 refine co_then ?_
 refine co_seq ?_
 refine dr_gen (fun x => But (fun q => q = b) w x ∧ Blk x b 50 #[.int .i64 ep, cv, .int .u64 fl, lgv, .int .u64 hz, pv, .int .i64 tp, .int .i64 y0.1, .int .i64 y0.2.1, .int .i64 y0.2.2.1, .int .i64 y0.2.2.2, .int .i64 y1.1, .int .i64 y1.2.1, .int .i64 y1.2.2.1, .int .i64 y1.2.2.2, .int .i64 y2.1, .int .i64 y2.2.1, .int .i64 y2.2.2.1, .int .i64 y2.2.2.2] ∧ Blk x N3 40 #[.int .i64 id, .int .u64 at_, .int .i64 lf]) (by kernel_rfl) (fun w11 hg12 => ?_) (fun w11 hg12 => ?_)
 ·
  have hz13 := hg12.size
  have hB14 := fb_new hB0 hg4
  have hB15 := fb_new hB14 hg12
  have hk16 := hb.kept hg4 (by simp)
  have hk17 := hk16.kept hg12 (by simp)
  have hk18 := hk5.kept hg12 (by simp)
  exact ⟨hB15, hk17, hk18⟩
 have hz19 := hg12.size
 have hB20 := fb_new hB0 hg4
 have hB21 := fb_new hB20 hg12
 have hk22 := hb.kept hg4 (by simp)
 have hk23 := hk22.kept hg12 (by simp)
 have hk24 := hk5.kept hg12 (by simp)
 refine dk0 0 (v := pt b 0) h10 rfl rfl ⟨hB21, hk23, hk24⟩ fun a25 h25 => ?_; clear h10
 refine dk0 1 (v := pt b 0) h25 rfl rfl ⟨hB21, hk23, hk24⟩ fun a26 h26 => ?_; clear h25
 refine dk0 2 (v := pt b 5) h26 rfl rfl ⟨hB21, hk23, hk24⟩ fun a27 h27 => ?_; clear h26
 refine dk 3 (v := pv) h27 rfl rfl ⟨hB21, hk23, hk24⟩ (fun x hx => (rn_load1 rfl rfl Try.isAgg47 (hx.2.1.cell rfl))) fun a28 h28 => ?_; clear h27
 refine dk0 4 (v := pt N3 0) h28 rfl rfl ⟨hB21, hk23, hk24⟩ fun a29 h29 => ?_; clear h28
 refine dk 5 (v := .int .i64 id) h29 rfl rfl ⟨hB21, hk23, hk24⟩ (fun x hx => (rn_load1 rfl rfl Try.isAgg3 (hx.2.2.cell rfl))) fun a30 h30 => ?_; clear h29
 have hr33 := row_kept_new hpn hg4
 have hr34 := row_kept_new hr33 hg12
 refine d1 6 h30 rfl rfl (op_call (args := #[pv, .int .i64 id]) (R := fun res xw => ∃ u : Value, res = .tuple #[u, .int .i64 ((renewP pn id).2)] ∧ xw.ownsRow w11.heap.size 40 3 u ((renewP pn id).1).length (((renewP pn id).1).flatMap pinE) ∧ Below w11.heap.size w11 xw) rfl rfl rfl (by kernel_rfl) (by kernel_rfl) (Try.call62 _ _) (rleaseRenew_any pv pn id (renewP pn id).1 (renewP pn id).2 w11 (row_sl hr34 pinE_len) (by omega) rfl) (by rintro e x ⟨u, rfl, h⟩; exact ⟨_, rfl, u, rfl, h⟩)) ?_ ?_; clear h30
 ·
  rintro _ w32 ⟨u35, rfl, hr36, hb37⟩
  have hz41 := hb37.size
  have hle42 := renewP_le pn id
  have hB43 := fb_call hB21 hb37
  have hk44 := hk23.below hb37
  have hk45 := hk24.below hb37
  exact ⟨hB43, hk44, hk45⟩
 rintro _ w32 a31 ⟨u35, rfl, hr36, hb37⟩ h31
 have hz41 := hb37.size
 have hle42 := renewP_le pn id
 have hB43 := fb_call hB21 hb37
 have hk44 := hk23.below hb37
 have hk45 := hk24.below hb37
 refine dk0 7 (v := .tuple #[u35, .int .i64 ((renewP pn id).2)]) h31 rfl rfl ⟨hB43, hk44, hk45⟩ fun a46 h46 => ?_; clear h31
 refine dk0 8 (v := u35) h46 rfl rfl ⟨hB43, hk44, hk45⟩ fun a47 h47 => ?_; clear h46
 refine dk0 9 (v := .int .i64 ((renewP pn id).2)) h47 rfl rfl ⟨hB43, hk44, hk45⟩ fun a48 h48 => ?_; clear h47
 refine dk0 10 (v := u35) h48 rfl rfl ⟨hB43, hk44, hk45⟩ fun a49 h49 => ?_; clear h48
 refine dk0 11 (v := .int .i64 ((renewP pn id).2)) h49 rfl rfl ⟨hB43, hk44, hk45⟩ fun a50 h50 => ?_; clear h49
 refine dr_done (by kernel_rfl) ?_
 refine co_then ?_
 refine co_seq ?_
 refine co_seq ?_
 refine co_reg ?_
 refine pk0 (v := .int .i64 ((renewP pn id).2)) h50 rfl fun a51 h51 => ?_; clear h50
 refine pk0 (v := .bool ((renewP pn id).2 == 0)) h51 rfl fun a52 h52 => ?_; clear h51
 refine pl_nil ?_
 refine co_then ?_
 cases hc53 : ((renewP pn id).2 == 0)
 ·
  rw [hc53] at h52
  have hp54 : ¬ ((renewP pn id).2 = 0) := by first | simpa using hc53 | simpa [and_assoc] using hc53
  clear hc53
  refine co_false h52 rfl ?_
  refine wp_skip ?_
  refine co_then ?_
  refine co_seq ?_
  refine co_seq ?_
  refine co_reg ?_
  refine pk0 (v := pt b 0) h52 rfl fun a55 h55 => ?_; clear h52
  refine pk0 (v := pt b 0) h55 rfl fun a56 h56 => ?_; clear h55
  refine pk0 (v := pt b 5) h56 rfl fun a57 h57 => ?_; clear h56
  refine pk (v := pv) h57 rfl (rn_load1 rfl rfl Try.isAgg47 (hk44.cell rfl)) fun a58 h58 => ?_; clear h57
  have hr59 := row_kept_new hr34 (below_grown hb37)
  refine pk (v := .int .i64 ((pn.length : Nat) : Int)) h58 rfl (rn_lenOwn rfl rfl Try.underlying47 hr59) fun a60 h60 => ?_; clear h58
  refine pk0 (v := .bool (decide (((pn.length : Nat) : Int) ≥ 3))) h60 rfl fun a61 h61 => ?_; clear h60
  refine pl_nil ?_
  refine co_then ?_
  cases hc62 : (decide (((pn.length : Nat) : Int) ≥ 3))
  ·
   rw [hc62] at h61
   have hp63 : ¬ (((pn.length : Nat) : Int) ≥ 3) := of_decide_eq_false hc62
   clear hc62
   refine co_false h61 rfl ?_
   refine wp_skip ?_
   refine co_then ?_
   refine co_seq ?_
   refine co_seq ?_
   refine dr_eq (by kernel_rfl) (fun w64 hg65 => ?_)
   have hz66 := hg65.size
   refine dk0 0 (v := pt N3 0) h61 rfl rfl rfl fun a67 h67 => ?_; clear h61
   have hk68 := hk45.kept hg65 (by simp)
   refine dk 1 (v := .int .i64 id) h67 rfl rfl rfl (fun x hx => by subst hx; exact (rn_load1 rfl rfl Try.isAgg3 (hk68.cell rfl))) fun a69 h69 => ?_; clear h67
   refine dk0 2 (v := pt b 0) h69 rfl rfl rfl fun a70 h70 => ?_; clear h69
   refine dk0 3 (v := pt b 0) h70 rfl rfl rfl fun a71 h71 => ?_; clear h70
   refine dk0 4 (v := pt b 6) h71 rfl rfl rfl fun a72 h72 => ?_; clear h71
   have hk73 := hk44.kept hg65 (by simp)
   refine dk 5 (v := .int .i64 tp) h72 rfl rfl rfl (fun x hx => by subst hx; exact (rn_load1 rfl rfl Try.isAgg3 (hk73.cell rfl))) fun a74 h74 => ?_; clear h72
   refine dk0 6 (v := .bool (decide (id ≤ tp))) h74 rfl rfl rfl fun a75 h75 => ?_; clear h74
   refine dr_done (by kernel_rfl) ?_
   refine co_then ?_
   have hB77 := fb_new hB43 hg65
   cases hc76 : (decide (id ≤ tp))
   ·
    rw [hc76] at h75
    have hp78 : ¬ (id ≤ tp) := of_decide_eq_false hc76
    clear hc76
    refine co_false h75 rfl ?_
    refine wp_skip ?_
    refine co_then ?_
    refine co_seq ?_
    refine co_seq ?_
    refine dr_eq (by kernel_rfl) (fun w79 hg80 => ?_)
    have hz81 := hg80.size
    refine dk0 0 (v := pt N3 1) h75 rfl rfl rfl fun a82 h82 => ?_; clear h75
    have hk83 := hk68.kept hg80 (by simp)
    refine dk 1 (v := .int .u64 at_) h82 rfl rfl rfl (fun x hx => by subst hx; exact (rn_load1 rfl rfl Try.isAgg29 (hk83.cell rfl))) fun a84 h84 => ?_; clear h82
    refine dk0 2 (v := pt b 0) h84 rfl rfl rfl fun a85 h85 => ?_; clear h84
    refine dk0 3 (v := pt b 0) h85 rfl rfl rfl fun a86 h86 => ?_; clear h85
    refine dk0 4 (v := pt b 4) h86 rfl rfl rfl fun a87 h87 => ?_; clear h86
    have hk88 := hk73.kept hg80 (by simp)
    refine dk 5 (v := .int .u64 hz) h87 rfl rfl rfl (fun x hx => by subst hx; exact (rn_load1 rfl rfl Try.isAgg29 (hk88.cell rfl))) fun a89 h89 => ?_; clear h87
    refine dk0 6 (v := .bool (decide (at_ < hz))) h89 rfl rfl rfl fun a90 h90 => ?_; clear h89
    refine dr_done (by kernel_rfl) ?_
    refine co_then ?_
    have hB92 := fb_new hB77 hg80
    have hr93 := row_kept_new hr59 hg65
    have hr94 := row_kept_new hr93 hg80
    have hr95 := row_kept_new hr36 hg65
    have hr96 := row_kept_new hr95 hg80
    cases hc91 : (decide (at_ < hz))
    ·
     rw [hc91] at h90
     have hp97 : ¬ (at_ < hz) := of_decide_eq_false hc91
     clear hc91
     refine co_false h90 rfl ?_
     refine wp_skip ?_
     refine co_then ?_
     refine co_seq ?_
     refine dr_gen (fun x => But (fun q => q = b) w x ∧ Blk x N3 40 #[.int .i64 id, .int .u64 at_, .int .i64 lf]) (by kernel_rfl) (fun w98 hg99 => ?_) (fun w98 hg99 => ?_)
     ·
      have hz100 := hg99.size
      have hB101 := fb_new hB92 hg99
      have hk102 := hk83.kept hg99 (by simp)
      exact ⟨hB101, hk102⟩
     have hz103 := hg99.size
     have hB104 := fb_new hB92 hg99
     have hk105 := hk83.kept hg99 (by simp)
     refine dk0 0 (v := pt b 0) h90 rfl rfl ⟨hB104, hk105⟩ fun a106 h106 => ?_; clear h90
     refine dk0 2 (v := pt b 0) h106 rfl rfl ⟨hB104, hk105⟩ fun a107 h107 => ?_; clear h106
     refine dk0 3 (v := pt b 0) h107 rfl rfl ⟨hB104, hk105⟩ fun a108 h108 => ?_; clear h107
     refine dk0 4 (v := pt b 5) h108 rfl rfl ⟨hB104, hk105⟩ fun a109 h109 => ?_; clear h108
     refine dk0 7 (v := pt N3 0) h109 rfl rfl ⟨hB104, hk105⟩ fun a110 h110 => ?_; clear h109
     refine dk 8 (v := .int .i64 id) h110 rfl rfl ⟨hB104, hk105⟩ (fun x hx => (rn_load1 rfl rfl Try.isAgg3 (hx.2.cell rfl))) fun a111 h111 => ?_; clear h110
     refine dk0 9 (v := pt N3 1) h111 rfl rfl ⟨hB104, hk105⟩ fun a112 h112 => ?_; clear h111
     refine dk 10 (v := .int .u64 at_) h112 rfl rfl ⟨hB104, hk105⟩ (fun x hx => (rn_load1 rfl rfl Try.isAgg29 (hx.2.cell rfl))) fun a113 h113 => ?_; clear h112
     refine dk0 11 (v := .agg #[.int .i64 id, .int .u64 at_, .int .i64 8]) h113 rfl rfl ⟨hB104, hk105⟩ fun a114 h114 => ?_; clear h113
     refine dr_many [1, 5, 12] (by kernel_rfl) (by simp) ⟨?_, ?_, ?_, trivial⟩
     ·
      refine dr_op (i := 1) h114 rfl rfl rfl rfl (op_new (v := fun N => .slice (some ⟨N, 0, none⟩) 0 0) (T := 40) (cs := #[]) (by kernel_rfl) (by kernel_rfl) (by kernel_rfl)) ?_ ?_; clear h114
      ·
       rintro _ w116 ⟨N117, rfl, hN120, hz121, hk119, hg118⟩
       have hr123 := row_kept_new hr94 hg99
       have ha122 := row_fresh hr123 hN120
       have hr125 := row_kept_new hr96 hg99
       have ha124 := row_fresh hr125 hN120
       have hz126 := hg118.size
       have hB127 := fb_new hB104 hg118
       have hk128 := hk105.kept hg118 (by simp)
       exact ⟨hB127, hk128⟩
      rintro _ w116 a115 ⟨N117, rfl, hN120, hz121, hk119, hg118⟩ h115
      have hr123 := row_kept_new hr94 hg99
      have ha122 := row_fresh hr123 hN120
      have hr125 := row_kept_new hr96 hg99
      have ha124 := row_fresh hr125 hN120
      have hz126 := hg118.size
      try dsimp only at h115
      have hB127 := fb_new hB104 hg118
      have hk128 := hk105.kept hg118 (by simp)
      refine dr_many [5, 12] (by kernel_rfl) (by simp) ⟨?_, ?_, trivial⟩
      ·
       have hk129 := hk88.kept hg99 (by simp)
       have hk130 := hk129.kept hg118 (by simp)
       refine dr_opVal (i := 5) (v := pv) h115 rfl rfl rfl rfl (by kernel_rfl) rfl (rn_load1 rfl rfl Try.isAgg47 (hk130.cell rfl)) ⟨hB127, hk128⟩ (fun a131 h131 => ?_); clear h115
       refine dr_many [6, 12] (by kernel_rfl) (by simp) ⟨?_, ?_, trivial⟩
       ·
        have hr134 := row_of_blkL hk119 (Nat.le_refl _) 3 pinE
        have hr139 := row_kept_new hr123 hg118
        refine dr_op (i := 6) h131 rfl rfl rfl rfl (op_appendSrc rfl N117 40 (z := .agg #[.int .i64 0, .int .u64 0, .int .i64 0]) (size := 3) (bytes := 24) Try.underlying47 (by kernel_rfl) rfl rfl rfl hr134 rfl (row_sl hr139 pinE_len) (fun y hy => ⟨pinE_len y, pinE_one y⟩) (by first | omega | (simp only [List.length_nil, List.length_append, List.length_cons, List.length_take, List.length_drop]; omega)) (by first | omega | (simp only [List.length_nil, List.length_append, List.length_cons, List.length_take, List.length_drop]; omega)) (by omega)) ?_ ?_; clear h131
        ·
         rintro v135 w133 ⟨hr136, hg137⟩
         have hr136' : w133.ownsRow N117 40 3 v135 pn.length (pn.flatMap pinE) := row_app (l := []) hr136; clear hr136
         have hz140 := hg137.size
         have hB141 := fb_row hB127 hr134 (by omega) hg137
         have hk142 := hk128.kept hg137 (by simp [Value.ownBlock]; omega)
         exact ⟨hB141, hk142⟩
        rintro v135 w133 a132 ⟨hr136, hg137⟩ h132
        have hr136' : w133.ownsRow N117 40 3 v135 pn.length (pn.flatMap pinE) := row_app (l := []) hr136; clear hr136
        have hz140 := hg137.size
        have hB141 := fb_row hB127 hr134 (by omega) hg137
        have hk142 := hk128.kept hg137 (by simp [Value.ownBlock]; omega)
        refine d1 12 h132 rfl rfl (op_new (v := fun N => .slice (some ⟨N, 0, none⟩) 1 1) (T := 40) (cs := #[.int .i64 id, .int .u64 at_, .int .i64 8]) (by kernel_rfl) (by kernel_rfl) (by kernel_rfl)) ?_ ?_; clear h132
        ·
         rintro _ w144 ⟨N145, rfl, hN148, hz149, hk147, hg146⟩
         have ha150 := row_fresh hr136' hN148
         have hz151 := hg146.size
         have hB152 := fb_new hB141 hg146
         have hk153 := hk142.kept hg146 (by simp)
         exact ⟨hB152, hk153⟩
        rintro _ w144 a143 ⟨N145, rfl, hN148, hz149, hk147, hg146⟩ h143
        have ha150 := row_fresh hr136' hN148
        have hz151 := hg146.size
        try dsimp only at h143
        have hB152 := fb_new hB141 hg146
        have hk153 := hk142.kept hg146 (by simp)
        have hr160 := row_kept_new hr136' hg146
        refine d1 13 h143 rfl rfl (op_append rfl N117 40 (z := .agg #[.int .i64 0, .int .u64 0, .int .i64 0]) (size := 3) (bytes := 24) Try.underlying47 (by kernel_rfl) rfl rfl rfl hr160 rfl hk147 rfl (by kernel_rfl) (by first | omega | (simp only [List.length_nil, List.length_append, List.length_cons, List.length_take, List.length_drop]; omega)) (by first | omega | (simp only [List.length_nil, List.length_append, List.length_cons, List.length_take, List.length_drop]; omega)) (by omega)) ?_ ?_; clear h143
        ·
         rintro v156 w155 ⟨hr157, hg158⟩
         have hr157' : w155.ownsRow N117 40 3 v156 ((pn ++ [(id, at_, 8)]).length) ((pn ++ [(id, at_, 8)]).flatMap pinE) := row_push (y := (id, at_, 8)) hr157 rfl rfl; clear hr157
         have hz161 := hg158.size
         have hk162 := hk130.kept hg137 (own_neT hr134 hk130 (by decide))
         have hk163 := hk162.kept hg146 (by simp)
         have hB164 := fb_row hB152 hr160 (by omega) hg158
         have hk165 := hk153.kept hg158 (row_ne_lt hr160 (by omega))
         exact ⟨hB164, hk165⟩
        rintro v156 w155 a154 ⟨hr157, hg158⟩ h154
        have hr157' : w155.ownsRow N117 40 3 v156 ((pn ++ [(id, at_, 8)]).length) ((pn ++ [(id, at_, 8)]).flatMap pinE) := row_push (y := (id, at_, 8)) hr157 rfl rfl; clear hr157
        have hz161 := hg158.size
        have hk162 := hk130.kept hg137 (own_neT hr134 hk130 (by decide))
        have hk163 := hk162.kept hg146 (by simp)
        have hB164 := fb_row hB152 hr160 (by omega) hg158
        have hk165 := hk153.kept hg158 (row_ne_lt hr160 (by omega))
        refine dk0 14 (v := pt b 0) h154 rfl rfl ⟨hB164, hk165⟩ fun a166 h166 => ?_; clear h154
        refine dk0 15 (v := pt b 5) h166 rfl rfl ⟨hB164, hk165⟩ fun a167 h167 => ?_; clear h166
        have hk173 := hk163.kept hg158 (own_neT hr160 hk163 (by decide))
        refine d1D 16 h167 rfl rfl (op_store1 rfl rfl rfl (row_one hr157') Try.sizeOf47 hk173 rfl) ?_ ?_; clear h167
        ·
         rintro _ w169 ⟨hk170, hz171, hg172⟩
         have hk170' : Blk w169 b 50 #[.int .i64 ep, cv, .int .u64 fl, lgv, .int .u64 hz, v156, .int .i64 tp, .int .i64 y0.1, .int .i64 y0.2.1, .int .i64 y0.2.2.1, .int .i64 y0.2.2.2, .int .i64 y1.1, .int .i64 y1.2.1, .int .i64 y1.2.2.1, .int .i64 y1.2.2.2, .int .i64 y2.1, .int .i64 y2.2.1, .int .i64 y2.2.2.1, .int .i64 y2.2.2.2] := hk170; clear hk170
         have hz174 := hg172.size
         have hB175 := fb_at hB164 hg172 (fun hlt => by first | (exfalso; omega) | (simp; done) | simp_all)
         have hk176 := hk165.kept hg172 (by simp; omega)
         exact ⟨hB175, hk176⟩
        rintro _ w169 a168 ⟨hk170, hz171, hg172⟩ h168
        have hk170' : Blk w169 b 50 #[.int .i64 ep, cv, .int .u64 fl, lgv, .int .u64 hz, v156, .int .i64 tp, .int .i64 y0.1, .int .i64 y0.2.1, .int .i64 y0.2.2.1, .int .i64 y0.2.2.2, .int .i64 y1.1, .int .i64 y1.2.1, .int .i64 y1.2.2.1, .int .i64 y1.2.2.2, .int .i64 y2.1, .int .i64 y2.2.1, .int .i64 y2.2.2.1, .int .i64 y2.2.2.2] := hk170; clear hk170
        have hz174 := hg172.size
        refine dr_done (by kernel_rfl) ?_
        refine co_then ?_
        refine co_seq ?_
        refine co_reg ?_
        refine pk0 (v := pt b 0) h168 rfl fun a175 h175 => ?_; clear h168
        refine pk0 (v := pt N3 0) h175 rfl fun a176 h176 => ?_; clear h175
        have hk177 := hk165.kept hg172 (by simp; omega)
        refine pk (v := .int .i64 id) h176 rfl (rn_load1 rfl rfl Try.isAgg3 (hk177.cell rfl)) fun a178 h178 => ?_; clear h176
        refine pk0 (v := pt b 0) h178 rfl fun a179 h179 => ?_; clear h178
        refine pk0 (v := pt b 6) h179 rfl fun a180 h180 => ?_; clear h179
        refine pwD h180 rfl (op_store1 rfl rfl rfl rfl Try.sizeOf3 hk170' rfl) ?_; clear h180
        rintro _ w182 a181 ⟨hk183, hz184, hg185⟩ h181
        have hk183' : Blk w182 b 50 #[.int .i64 ep, cv, .int .u64 fl, lgv, .int .u64 hz, v156, .int .i64 id, .int .i64 y0.1, .int .i64 y0.2.1, .int .i64 y0.2.2.1, .int .i64 y0.2.2.2, .int .i64 y1.1, .int .i64 y1.2.1, .int .i64 y1.2.2.1, .int .i64 y1.2.2.2, .int .i64 y2.1, .int .i64 y2.2.1, .int .i64 y2.2.2.1, .int .i64 y2.2.2.2] := hk183; clear hk183
        have hz186 := hg185.size
        refine pl_nil ?_
        refine co_then ?_
        refine co_seq ?_
        refine co_reg ?_
        refine pk0 (v := .int .i64 0) h181 rfl fun a187 h187 => ?_; clear h181
        refine pl_nil ?_
        refine co_then ?_
        refine wp_ret ?_
        refine co_ret1 h187 rfl rfl ?_
        have hr188 := row_kept_at hr157' hg172 (own_neT hr157' hk173 (by decide))
        have hr189 := row_kept_at hr188 hg185 (own_neT hr188 hk170' (by decide))
        have hB190 := fb_at hB164 hg172 (fun hlt => by first | (exfalso; omega) | (simp; done) | simp_all)
        have hB191 := fb_at hB190 hg185 (fun hlt => by first | (exfalso; omega) | (simp; done) | simp_all)
        have hA : docP pn hz tp id at_ = (0, pn ++ [(id, at_, 8)], id) := by unfold docP; (repeat (first | rw [if_pos (by omega)] | rw [if_neg (by omega)]))
        exact ⟨v156, by rw [hA], by rw [hA]; exact hk183', by rw [hA]; exact row_lows hr189 (Nat.zero_le _), hB191⟩
       ·
        refine dr_op (i := 12) h131 rfl rfl rfl rfl (op_new (v := fun N => .slice (some ⟨N, 0, none⟩) 1 1) (T := 40) (cs := #[.int .i64 id, .int .u64 at_, .int .i64 8]) (by kernel_rfl) (by kernel_rfl) (by kernel_rfl)) ?_ ?_; clear h131
        ·
         rintro _ w193 ⟨N194, rfl, hN197, hz198, hk196, hg195⟩
         have hr200 := row_kept_new hr123 hg118
         have ha199 := row_fresh hr200 hN197
         have hr202 := row_kept_new hr125 hg118
         have ha201 := row_fresh hr202 hN197
         have hz203 := hg195.size
         have hB204 := fb_new hB127 hg195
         have hk205 := hk128.kept hg195 (by simp)
         exact ⟨hB204, hk205⟩
        rintro _ w193 a192 ⟨N194, rfl, hN197, hz198, hk196, hg195⟩ h192
        have hr200 := row_kept_new hr123 hg118
        have ha199 := row_fresh hr200 hN197
        have hr202 := row_kept_new hr125 hg118
        have ha201 := row_fresh hr202 hN197
        have hz203 := hg195.size
        try dsimp only at h192
        have hB204 := fb_new hB127 hg195
        have hk205 := hk128.kept hg195 (by simp)
        have hk209 := hk119.kept hg195 (by simp)
        have hr208 := row_of_blkL hk209 (Nat.le_refl _) 3 pinE
        have hr214 := row_kept_new hr200 hg195
        refine d1 6 h192 rfl rfl (op_appendSrc rfl N117 40 (z := .agg #[.int .i64 0, .int .u64 0, .int .i64 0]) (size := 3) (bytes := 24) Try.underlying47 (by kernel_rfl) rfl rfl rfl hr208 rfl (row_sl hr214 pinE_len) (fun y hy => ⟨pinE_len y, pinE_one y⟩) (by first | omega | (simp only [List.length_nil, List.length_append, List.length_cons, List.length_take, List.length_drop]; omega)) (by first | omega | (simp only [List.length_nil, List.length_append, List.length_cons, List.length_take, List.length_drop]; omega)) (by omega)) ?_ ?_; clear h192
        ·
         rintro v210 w207 ⟨hr211, hg212⟩
         have hr211' : w207.ownsRow N117 40 3 v210 pn.length (pn.flatMap pinE) := row_app (l := []) hr211; clear hr211
         have hz215 := hg212.size
         have hk216 := hk130.kept hg195 (by simp)
         have hB217 := fb_row hB204 hr208 (by omega) hg212
         have hk218 := hk205.kept hg212 (by simp [Value.ownBlock]; omega)
         exact ⟨hB217, hk218⟩
        rintro v210 w207 a206 ⟨hr211, hg212⟩ h206
        have hr211' : w207.ownsRow N117 40 3 v210 pn.length (pn.flatMap pinE) := row_app (l := []) hr211; clear hr211
        have hz215 := hg212.size
        have hk216 := hk130.kept hg195 (by simp)
        have hB217 := fb_row hB204 hr208 (by omega) hg212
        have hk218 := hk205.kept hg212 (by simp [Value.ownBlock]; omega)
        have hk225 := hk196.kept hg212 (by simp [Value.ownBlock]; omega)
        refine d1 13 h206 rfl rfl (op_append rfl N117 40 (z := .agg #[.int .i64 0, .int .u64 0, .int .i64 0]) (size := 3) (bytes := 24) Try.underlying47 (by kernel_rfl) rfl rfl rfl hr211' rfl hk225 rfl (by kernel_rfl) (by first | omega | (simp only [List.length_nil, List.length_append, List.length_cons, List.length_take, List.length_drop]; omega)) (by first | omega | (simp only [List.length_nil, List.length_append, List.length_cons, List.length_take, List.length_drop]; omega)) (by omega)) ?_ ?_; clear h206
        ·
         rintro v221 w220 ⟨hr222, hg223⟩
         have hr222' : w220.ownsRow N117 40 3 v221 ((pn ++ [(id, at_, 8)]).length) ((pn ++ [(id, at_, 8)]).flatMap pinE) := row_push (y := (id, at_, 8)) hr222 rfl rfl; clear hr222
         have hz226 := hg223.size
         have hk227 := hk216.kept hg212 (own_neT hr208 hk216 (by decide))
         have hB228 := fb_row hB217 hr211' (by omega) hg223
         have hk229 := hk218.kept hg223 (row_ne_lt hr211' (by omega))
         exact ⟨hB228, hk229⟩
        rintro v221 w220 a219 ⟨hr222, hg223⟩ h219
        have hr222' : w220.ownsRow N117 40 3 v221 ((pn ++ [(id, at_, 8)]).length) ((pn ++ [(id, at_, 8)]).flatMap pinE) := row_push (y := (id, at_, 8)) hr222 rfl rfl; clear hr222
        have hz226 := hg223.size
        have hk227 := hk216.kept hg212 (own_neT hr208 hk216 (by decide))
        have hB228 := fb_row hB217 hr211' (by omega) hg223
        have hk229 := hk218.kept hg223 (row_ne_lt hr211' (by omega))
        refine dk0 14 (v := pt b 0) h219 rfl rfl ⟨hB228, hk229⟩ fun a230 h230 => ?_; clear h219
        refine dk0 15 (v := pt b 5) h230 rfl rfl ⟨hB228, hk229⟩ fun a231 h231 => ?_; clear h230
        have hk237 := hk227.kept hg223 (own_neT hr211' hk227 (by decide))
        refine d1D 16 h231 rfl rfl (op_store1 rfl rfl rfl (row_one hr222') Try.sizeOf47 hk237 rfl) ?_ ?_; clear h231
        ·
         rintro _ w233 ⟨hk234, hz235, hg236⟩
         have hk234' : Blk w233 b 50 #[.int .i64 ep, cv, .int .u64 fl, lgv, .int .u64 hz, v221, .int .i64 tp, .int .i64 y0.1, .int .i64 y0.2.1, .int .i64 y0.2.2.1, .int .i64 y0.2.2.2, .int .i64 y1.1, .int .i64 y1.2.1, .int .i64 y1.2.2.1, .int .i64 y1.2.2.2, .int .i64 y2.1, .int .i64 y2.2.1, .int .i64 y2.2.2.1, .int .i64 y2.2.2.2] := hk234; clear hk234
         have hz238 := hg236.size
         have hB239 := fb_at hB228 hg236 (fun hlt => by first | (exfalso; omega) | (simp; done) | simp_all)
         have hk240 := hk229.kept hg236 (by simp; omega)
         exact ⟨hB239, hk240⟩
        rintro _ w233 a232 ⟨hk234, hz235, hg236⟩ h232
        have hk234' : Blk w233 b 50 #[.int .i64 ep, cv, .int .u64 fl, lgv, .int .u64 hz, v221, .int .i64 tp, .int .i64 y0.1, .int .i64 y0.2.1, .int .i64 y0.2.2.1, .int .i64 y0.2.2.2, .int .i64 y1.1, .int .i64 y1.2.1, .int .i64 y1.2.2.1, .int .i64 y1.2.2.2, .int .i64 y2.1, .int .i64 y2.2.1, .int .i64 y2.2.2.1, .int .i64 y2.2.2.2] := hk234; clear hk234
        have hz238 := hg236.size
        refine dr_done (by kernel_rfl) ?_
        refine co_then ?_
        refine co_seq ?_
        refine co_reg ?_
        refine pk0 (v := pt b 0) h232 rfl fun a239 h239 => ?_; clear h232
        refine pk0 (v := pt N3 0) h239 rfl fun a240 h240 => ?_; clear h239
        have hk241 := hk229.kept hg236 (by simp; omega)
        refine pk (v := .int .i64 id) h240 rfl (rn_load1 rfl rfl Try.isAgg3 (hk241.cell rfl)) fun a242 h242 => ?_; clear h240
        refine pk0 (v := pt b 0) h242 rfl fun a243 h243 => ?_; clear h242
        refine pk0 (v := pt b 6) h243 rfl fun a244 h244 => ?_; clear h243
        refine pwD h244 rfl (op_store1 rfl rfl rfl rfl Try.sizeOf3 hk234' rfl) ?_; clear h244
        rintro _ w246 a245 ⟨hk247, hz248, hg249⟩ h245
        have hk247' : Blk w246 b 50 #[.int .i64 ep, cv, .int .u64 fl, lgv, .int .u64 hz, v221, .int .i64 id, .int .i64 y0.1, .int .i64 y0.2.1, .int .i64 y0.2.2.1, .int .i64 y0.2.2.2, .int .i64 y1.1, .int .i64 y1.2.1, .int .i64 y1.2.2.1, .int .i64 y1.2.2.2, .int .i64 y2.1, .int .i64 y2.2.1, .int .i64 y2.2.2.1, .int .i64 y2.2.2.2] := hk247; clear hk247
        have hz250 := hg249.size
        refine pl_nil ?_
        refine co_then ?_
        refine co_seq ?_
        refine co_reg ?_
        refine pk0 (v := .int .i64 0) h245 rfl fun a251 h251 => ?_; clear h245
        refine pl_nil ?_
        refine co_then ?_
        refine wp_ret ?_
        refine co_ret1 h251 rfl rfl ?_
        have hr252 := row_kept_at hr222' hg236 (own_neT hr222' hk237 (by decide))
        have hr253 := row_kept_at hr252 hg249 (own_neT hr252 hk234' (by decide))
        have hB254 := fb_at hB228 hg236 (fun hlt => by first | (exfalso; omega) | (simp; done) | simp_all)
        have hB255 := fb_at hB254 hg249 (fun hlt => by first | (exfalso; omega) | (simp; done) | simp_all)
        have hA : docP pn hz tp id at_ = (0, pn ++ [(id, at_, 8)], id) := by unfold docP; (repeat (first | rw [if_pos (by omega)] | rw [if_neg (by omega)]))
        exact ⟨v221, by rw [hA], by rw [hA]; exact hk247', by rw [hA]; exact row_lows hr253 (Nat.zero_le _), hB255⟩
      ·
       refine dr_op (i := 12) h115 rfl rfl rfl rfl (op_new (v := fun N => .slice (some ⟨N, 0, none⟩) 1 1) (T := 40) (cs := #[.int .i64 id, .int .u64 at_, .int .i64 8]) (by kernel_rfl) (by kernel_rfl) (by kernel_rfl)) ?_ ?_; clear h115
       ·
        rintro _ w257 ⟨N258, rfl, hN261, hz262, hk260, hg259⟩
        have hr264 := row_kept_new hr123 hg118
        have ha263 := row_fresh hr264 hN261
        have hr266 := row_kept_new hr125 hg118
        have ha265 := row_fresh hr266 hN261
        have hz267 := hg259.size
        have hB268 := fb_new hB127 hg259
        have hk269 := hk128.kept hg259 (by simp)
        exact ⟨hB268, hk269⟩
       rintro _ w257 a256 ⟨N258, rfl, hN261, hz262, hk260, hg259⟩ h256
       have hr264 := row_kept_new hr123 hg118
       have ha263 := row_fresh hr264 hN261
       have hr266 := row_kept_new hr125 hg118
       have ha265 := row_fresh hr266 hN261
       have hz267 := hg259.size
       try dsimp only at h256
       have hB268 := fb_new hB127 hg259
       have hk269 := hk128.kept hg259 (by simp)
       refine dr_many [5] (by kernel_rfl) (by simp) ⟨?_, trivial⟩
       ·
        have hk270 := hk88.kept hg99 (by simp)
        have hk271 := hk270.kept hg118 (by simp)
        have hk272 := hk271.kept hg259 (by simp)
        refine dr_opVal (i := 5) (v := pv) h256 rfl rfl rfl rfl (by kernel_rfl) rfl (rn_load1 rfl rfl Try.isAgg47 (hk272.cell rfl)) ⟨hB268, hk269⟩ (fun a273 h273 => ?_); clear h256
        have hk277 := hk119.kept hg259 (by simp)
        have hr276 := row_of_blkL hk277 (Nat.le_refl _) 3 pinE
        have hr282 := row_kept_new hr264 hg259
        refine d1 6 h273 rfl rfl (op_appendSrc rfl N117 40 (z := .agg #[.int .i64 0, .int .u64 0, .int .i64 0]) (size := 3) (bytes := 24) Try.underlying47 (by kernel_rfl) rfl rfl rfl hr276 rfl (row_sl hr282 pinE_len) (fun y hy => ⟨pinE_len y, pinE_one y⟩) (by first | omega | (simp only [List.length_nil, List.length_append, List.length_cons, List.length_take, List.length_drop]; omega)) (by first | omega | (simp only [List.length_nil, List.length_append, List.length_cons, List.length_take, List.length_drop]; omega)) (by omega)) ?_ ?_; clear h273
        ·
         rintro v278 w275 ⟨hr279, hg280⟩
         have hr279' : w275.ownsRow N117 40 3 v278 pn.length (pn.flatMap pinE) := row_app (l := []) hr279; clear hr279
         have hz283 := hg280.size
         have hB284 := fb_row hB268 hr276 (by omega) hg280
         have hk285 := hk269.kept hg280 (by simp [Value.ownBlock]; omega)
         exact ⟨hB284, hk285⟩
        rintro v278 w275 a274 ⟨hr279, hg280⟩ h274
        have hr279' : w275.ownsRow N117 40 3 v278 pn.length (pn.flatMap pinE) := row_app (l := []) hr279; clear hr279
        have hz283 := hg280.size
        have hB284 := fb_row hB268 hr276 (by omega) hg280
        have hk285 := hk269.kept hg280 (by simp [Value.ownBlock]; omega)
        have hk292 := hk260.kept hg280 (by simp [Value.ownBlock]; omega)
        refine d1 13 h274 rfl rfl (op_append rfl N117 40 (z := .agg #[.int .i64 0, .int .u64 0, .int .i64 0]) (size := 3) (bytes := 24) Try.underlying47 (by kernel_rfl) rfl rfl rfl hr279' rfl hk292 rfl (by kernel_rfl) (by first | omega | (simp only [List.length_nil, List.length_append, List.length_cons, List.length_take, List.length_drop]; omega)) (by first | omega | (simp only [List.length_nil, List.length_append, List.length_cons, List.length_take, List.length_drop]; omega)) (by omega)) ?_ ?_; clear h274
        ·
         rintro v288 w287 ⟨hr289, hg290⟩
         have hr289' : w287.ownsRow N117 40 3 v288 ((pn ++ [(id, at_, 8)]).length) ((pn ++ [(id, at_, 8)]).flatMap pinE) := row_push (y := (id, at_, 8)) hr289 rfl rfl; clear hr289
         have hz293 := hg290.size
         have hk294 := hk272.kept hg280 (own_neT hr276 hk272 (by decide))
         have hB295 := fb_row hB284 hr279' (by omega) hg290
         have hk296 := hk285.kept hg290 (row_ne_lt hr279' (by omega))
         exact ⟨hB295, hk296⟩
        rintro v288 w287 a286 ⟨hr289, hg290⟩ h286
        have hr289' : w287.ownsRow N117 40 3 v288 ((pn ++ [(id, at_, 8)]).length) ((pn ++ [(id, at_, 8)]).flatMap pinE) := row_push (y := (id, at_, 8)) hr289 rfl rfl; clear hr289
        have hz293 := hg290.size
        have hk294 := hk272.kept hg280 (own_neT hr276 hk272 (by decide))
        have hB295 := fb_row hB284 hr279' (by omega) hg290
        have hk296 := hk285.kept hg290 (row_ne_lt hr279' (by omega))
        refine dk0 14 (v := pt b 0) h286 rfl rfl ⟨hB295, hk296⟩ fun a297 h297 => ?_; clear h286
        refine dk0 15 (v := pt b 5) h297 rfl rfl ⟨hB295, hk296⟩ fun a298 h298 => ?_; clear h297
        have hk304 := hk294.kept hg290 (own_neT hr279' hk294 (by decide))
        refine d1D 16 h298 rfl rfl (op_store1 rfl rfl rfl (row_one hr289') Try.sizeOf47 hk304 rfl) ?_ ?_; clear h298
        ·
         rintro _ w300 ⟨hk301, hz302, hg303⟩
         have hk301' : Blk w300 b 50 #[.int .i64 ep, cv, .int .u64 fl, lgv, .int .u64 hz, v288, .int .i64 tp, .int .i64 y0.1, .int .i64 y0.2.1, .int .i64 y0.2.2.1, .int .i64 y0.2.2.2, .int .i64 y1.1, .int .i64 y1.2.1, .int .i64 y1.2.2.1, .int .i64 y1.2.2.2, .int .i64 y2.1, .int .i64 y2.2.1, .int .i64 y2.2.2.1, .int .i64 y2.2.2.2] := hk301; clear hk301
         have hz305 := hg303.size
         have hB306 := fb_at hB295 hg303 (fun hlt => by first | (exfalso; omega) | (simp; done) | simp_all)
         have hk307 := hk296.kept hg303 (by simp; omega)
         exact ⟨hB306, hk307⟩
        rintro _ w300 a299 ⟨hk301, hz302, hg303⟩ h299
        have hk301' : Blk w300 b 50 #[.int .i64 ep, cv, .int .u64 fl, lgv, .int .u64 hz, v288, .int .i64 tp, .int .i64 y0.1, .int .i64 y0.2.1, .int .i64 y0.2.2.1, .int .i64 y0.2.2.2, .int .i64 y1.1, .int .i64 y1.2.1, .int .i64 y1.2.2.1, .int .i64 y1.2.2.2, .int .i64 y2.1, .int .i64 y2.2.1, .int .i64 y2.2.2.1, .int .i64 y2.2.2.2] := hk301; clear hk301
        have hz305 := hg303.size
        refine dr_done (by kernel_rfl) ?_
        refine co_then ?_
        refine co_seq ?_
        refine co_reg ?_
        refine pk0 (v := pt b 0) h299 rfl fun a306 h306 => ?_; clear h299
        refine pk0 (v := pt N3 0) h306 rfl fun a307 h307 => ?_; clear h306
        have hk308 := hk296.kept hg303 (by simp; omega)
        refine pk (v := .int .i64 id) h307 rfl (rn_load1 rfl rfl Try.isAgg3 (hk308.cell rfl)) fun a309 h309 => ?_; clear h307
        refine pk0 (v := pt b 0) h309 rfl fun a310 h310 => ?_; clear h309
        refine pk0 (v := pt b 6) h310 rfl fun a311 h311 => ?_; clear h310
        refine pwD h311 rfl (op_store1 rfl rfl rfl rfl Try.sizeOf3 hk301' rfl) ?_; clear h311
        rintro _ w313 a312 ⟨hk314, hz315, hg316⟩ h312
        have hk314' : Blk w313 b 50 #[.int .i64 ep, cv, .int .u64 fl, lgv, .int .u64 hz, v288, .int .i64 id, .int .i64 y0.1, .int .i64 y0.2.1, .int .i64 y0.2.2.1, .int .i64 y0.2.2.2, .int .i64 y1.1, .int .i64 y1.2.1, .int .i64 y1.2.2.1, .int .i64 y1.2.2.2, .int .i64 y2.1, .int .i64 y2.2.1, .int .i64 y2.2.2.1, .int .i64 y2.2.2.2] := hk314; clear hk314
        have hz317 := hg316.size
        refine pl_nil ?_
        refine co_then ?_
        refine co_seq ?_
        refine co_reg ?_
        refine pk0 (v := .int .i64 0) h312 rfl fun a318 h318 => ?_; clear h312
        refine pl_nil ?_
        refine co_then ?_
        refine wp_ret ?_
        refine co_ret1 h318 rfl rfl ?_
        have hr319 := row_kept_at hr289' hg303 (own_neT hr289' hk304 (by decide))
        have hr320 := row_kept_at hr319 hg316 (own_neT hr319 hk301' (by decide))
        have hB321 := fb_at hB295 hg303 (fun hlt => by first | (exfalso; omega) | (simp; done) | simp_all)
        have hB322 := fb_at hB321 hg316 (fun hlt => by first | (exfalso; omega) | (simp; done) | simp_all)
        have hA : docP pn hz tp id at_ = (0, pn ++ [(id, at_, 8)], id) := by unfold docP; (repeat (first | rw [if_pos (by omega)] | rw [if_neg (by omega)]))
        exact ⟨v288, by rw [hA], by rw [hA]; exact hk314', by rw [hA]; exact row_lows hr320 (Nat.zero_le _), hB322⟩
     ·
      have hk323 := hk88.kept hg99 (by simp)
      refine dr_opVal (i := 5) (v := pv) h114 rfl rfl rfl rfl (by kernel_rfl) rfl (rn_load1 rfl rfl Try.isAgg47 (hk323.cell rfl)) ⟨hB104, hk105⟩ (fun a324 h324 => ?_); clear h114
      refine dr_many [1, 12] (by kernel_rfl) (by simp) ⟨?_, ?_, trivial⟩
      ·
       refine dr_op (i := 1) h324 rfl rfl rfl rfl (op_new (v := fun N => .slice (some ⟨N, 0, none⟩) 0 0) (T := 40) (cs := #[]) (by kernel_rfl) (by kernel_rfl) (by kernel_rfl)) ?_ ?_; clear h324
       ·
        rintro _ w326 ⟨N327, rfl, hN330, hz331, hk329, hg328⟩
        have hr333 := row_kept_new hr94 hg99
        have ha332 := row_fresh hr333 hN330
        have hr335 := row_kept_new hr96 hg99
        have ha334 := row_fresh hr335 hN330
        have hz336 := hg328.size
        have hB337 := fb_new hB104 hg328
        have hk338 := hk105.kept hg328 (by simp)
        exact ⟨hB337, hk338⟩
       rintro _ w326 a325 ⟨N327, rfl, hN330, hz331, hk329, hg328⟩ h325
       have hr333 := row_kept_new hr94 hg99
       have ha332 := row_fresh hr333 hN330
       have hr335 := row_kept_new hr96 hg99
       have ha334 := row_fresh hr335 hN330
       have hz336 := hg328.size
       try dsimp only at h325
       have hB337 := fb_new hB104 hg328
       have hk338 := hk105.kept hg328 (by simp)
       refine dr_many [6, 12] (by kernel_rfl) (by simp) ⟨?_, ?_, trivial⟩
       ·
        have hr341 := row_of_blkL hk329 (Nat.le_refl _) 3 pinE
        have hr346 := row_kept_new hr333 hg328
        refine dr_op (i := 6) h325 rfl rfl rfl rfl (op_appendSrc rfl N327 40 (z := .agg #[.int .i64 0, .int .u64 0, .int .i64 0]) (size := 3) (bytes := 24) Try.underlying47 (by kernel_rfl) rfl rfl rfl hr341 rfl (row_sl hr346 pinE_len) (fun y hy => ⟨pinE_len y, pinE_one y⟩) (by first | omega | (simp only [List.length_nil, List.length_append, List.length_cons, List.length_take, List.length_drop]; omega)) (by first | omega | (simp only [List.length_nil, List.length_append, List.length_cons, List.length_take, List.length_drop]; omega)) (by omega)) ?_ ?_; clear h325
        ·
         rintro v342 w340 ⟨hr343, hg344⟩
         have hr343' : w340.ownsRow N327 40 3 v342 pn.length (pn.flatMap pinE) := row_app (l := []) hr343; clear hr343
         have hz347 := hg344.size
         have hk348 := hk323.kept hg328 (by simp)
         have hB349 := fb_row hB337 hr341 (by omega) hg344
         have hk350 := hk338.kept hg344 (by simp [Value.ownBlock]; omega)
         exact ⟨hB349, hk350⟩
        rintro v342 w340 a339 ⟨hr343, hg344⟩ h339
        have hr343' : w340.ownsRow N327 40 3 v342 pn.length (pn.flatMap pinE) := row_app (l := []) hr343; clear hr343
        have hz347 := hg344.size
        have hk348 := hk323.kept hg328 (by simp)
        have hB349 := fb_row hB337 hr341 (by omega) hg344
        have hk350 := hk338.kept hg344 (by simp [Value.ownBlock]; omega)
        refine d1 12 h339 rfl rfl (op_new (v := fun N => .slice (some ⟨N, 0, none⟩) 1 1) (T := 40) (cs := #[.int .i64 id, .int .u64 at_, .int .i64 8]) (by kernel_rfl) (by kernel_rfl) (by kernel_rfl)) ?_ ?_; clear h339
        ·
         rintro _ w352 ⟨N353, rfl, hN356, hz357, hk355, hg354⟩
         have ha358 := row_fresh hr343' hN356
         have hz359 := hg354.size
         have hB360 := fb_new hB349 hg354
         have hk361 := hk350.kept hg354 (by simp)
         exact ⟨hB360, hk361⟩
        rintro _ w352 a351 ⟨N353, rfl, hN356, hz357, hk355, hg354⟩ h351
        have ha358 := row_fresh hr343' hN356
        have hz359 := hg354.size
        try dsimp only at h351
        have hB360 := fb_new hB349 hg354
        have hk361 := hk350.kept hg354 (by simp)
        have hr368 := row_kept_new hr343' hg354
        refine d1 13 h351 rfl rfl (op_append rfl N327 40 (z := .agg #[.int .i64 0, .int .u64 0, .int .i64 0]) (size := 3) (bytes := 24) Try.underlying47 (by kernel_rfl) rfl rfl rfl hr368 rfl hk355 rfl (by kernel_rfl) (by first | omega | (simp only [List.length_nil, List.length_append, List.length_cons, List.length_take, List.length_drop]; omega)) (by first | omega | (simp only [List.length_nil, List.length_append, List.length_cons, List.length_take, List.length_drop]; omega)) (by omega)) ?_ ?_; clear h351
        ·
         rintro v364 w363 ⟨hr365, hg366⟩
         have hr365' : w363.ownsRow N327 40 3 v364 ((pn ++ [(id, at_, 8)]).length) ((pn ++ [(id, at_, 8)]).flatMap pinE) := row_push (y := (id, at_, 8)) hr365 rfl rfl; clear hr365
         have hz369 := hg366.size
         have hk370 := hk348.kept hg344 (own_neT hr341 hk348 (by decide))
         have hk371 := hk370.kept hg354 (by simp)
         have hB372 := fb_row hB360 hr368 (by omega) hg366
         have hk373 := hk361.kept hg366 (row_ne_lt hr368 (by omega))
         exact ⟨hB372, hk373⟩
        rintro v364 w363 a362 ⟨hr365, hg366⟩ h362
        have hr365' : w363.ownsRow N327 40 3 v364 ((pn ++ [(id, at_, 8)]).length) ((pn ++ [(id, at_, 8)]).flatMap pinE) := row_push (y := (id, at_, 8)) hr365 rfl rfl; clear hr365
        have hz369 := hg366.size
        have hk370 := hk348.kept hg344 (own_neT hr341 hk348 (by decide))
        have hk371 := hk370.kept hg354 (by simp)
        have hB372 := fb_row hB360 hr368 (by omega) hg366
        have hk373 := hk361.kept hg366 (row_ne_lt hr368 (by omega))
        refine dk0 14 (v := pt b 0) h362 rfl rfl ⟨hB372, hk373⟩ fun a374 h374 => ?_; clear h362
        refine dk0 15 (v := pt b 5) h374 rfl rfl ⟨hB372, hk373⟩ fun a375 h375 => ?_; clear h374
        have hk381 := hk371.kept hg366 (own_neT hr368 hk371 (by decide))
        refine d1D 16 h375 rfl rfl (op_store1 rfl rfl rfl (row_one hr365') Try.sizeOf47 hk381 rfl) ?_ ?_; clear h375
        ·
         rintro _ w377 ⟨hk378, hz379, hg380⟩
         have hk378' : Blk w377 b 50 #[.int .i64 ep, cv, .int .u64 fl, lgv, .int .u64 hz, v364, .int .i64 tp, .int .i64 y0.1, .int .i64 y0.2.1, .int .i64 y0.2.2.1, .int .i64 y0.2.2.2, .int .i64 y1.1, .int .i64 y1.2.1, .int .i64 y1.2.2.1, .int .i64 y1.2.2.2, .int .i64 y2.1, .int .i64 y2.2.1, .int .i64 y2.2.2.1, .int .i64 y2.2.2.2] := hk378; clear hk378
         have hz382 := hg380.size
         have hB383 := fb_at hB372 hg380 (fun hlt => by first | (exfalso; omega) | (simp; done) | simp_all)
         have hk384 := hk373.kept hg380 (by simp; omega)
         exact ⟨hB383, hk384⟩
        rintro _ w377 a376 ⟨hk378, hz379, hg380⟩ h376
        have hk378' : Blk w377 b 50 #[.int .i64 ep, cv, .int .u64 fl, lgv, .int .u64 hz, v364, .int .i64 tp, .int .i64 y0.1, .int .i64 y0.2.1, .int .i64 y0.2.2.1, .int .i64 y0.2.2.2, .int .i64 y1.1, .int .i64 y1.2.1, .int .i64 y1.2.2.1, .int .i64 y1.2.2.2, .int .i64 y2.1, .int .i64 y2.2.1, .int .i64 y2.2.2.1, .int .i64 y2.2.2.2] := hk378; clear hk378
        have hz382 := hg380.size
        refine dr_done (by kernel_rfl) ?_
        refine co_then ?_
        refine co_seq ?_
        refine co_reg ?_
        refine pk0 (v := pt b 0) h376 rfl fun a383 h383 => ?_; clear h376
        refine pk0 (v := pt N3 0) h383 rfl fun a384 h384 => ?_; clear h383
        have hk385 := hk373.kept hg380 (by simp; omega)
        refine pk (v := .int .i64 id) h384 rfl (rn_load1 rfl rfl Try.isAgg3 (hk385.cell rfl)) fun a386 h386 => ?_; clear h384
        refine pk0 (v := pt b 0) h386 rfl fun a387 h387 => ?_; clear h386
        refine pk0 (v := pt b 6) h387 rfl fun a388 h388 => ?_; clear h387
        refine pwD h388 rfl (op_store1 rfl rfl rfl rfl Try.sizeOf3 hk378' rfl) ?_; clear h388
        rintro _ w390 a389 ⟨hk391, hz392, hg393⟩ h389
        have hk391' : Blk w390 b 50 #[.int .i64 ep, cv, .int .u64 fl, lgv, .int .u64 hz, v364, .int .i64 id, .int .i64 y0.1, .int .i64 y0.2.1, .int .i64 y0.2.2.1, .int .i64 y0.2.2.2, .int .i64 y1.1, .int .i64 y1.2.1, .int .i64 y1.2.2.1, .int .i64 y1.2.2.2, .int .i64 y2.1, .int .i64 y2.2.1, .int .i64 y2.2.2.1, .int .i64 y2.2.2.2] := hk391; clear hk391
        have hz394 := hg393.size
        refine pl_nil ?_
        refine co_then ?_
        refine co_seq ?_
        refine co_reg ?_
        refine pk0 (v := .int .i64 0) h389 rfl fun a395 h395 => ?_; clear h389
        refine pl_nil ?_
        refine co_then ?_
        refine wp_ret ?_
        refine co_ret1 h395 rfl rfl ?_
        have hr396 := row_kept_at hr365' hg380 (own_neT hr365' hk381 (by decide))
        have hr397 := row_kept_at hr396 hg393 (own_neT hr396 hk378' (by decide))
        have hB398 := fb_at hB372 hg380 (fun hlt => by first | (exfalso; omega) | (simp; done) | simp_all)
        have hB399 := fb_at hB398 hg393 (fun hlt => by first | (exfalso; omega) | (simp; done) | simp_all)
        have hA : docP pn hz tp id at_ = (0, pn ++ [(id, at_, 8)], id) := by unfold docP; (repeat (first | rw [if_pos (by omega)] | rw [if_neg (by omega)]))
        exact ⟨v364, by rw [hA], by rw [hA]; exact hk391', by rw [hA]; exact row_lows hr397 (Nat.zero_le _), hB399⟩
       ·
        refine dr_op (i := 12) h325 rfl rfl rfl rfl (op_new (v := fun N => .slice (some ⟨N, 0, none⟩) 1 1) (T := 40) (cs := #[.int .i64 id, .int .u64 at_, .int .i64 8]) (by kernel_rfl) (by kernel_rfl) (by kernel_rfl)) ?_ ?_; clear h325
        ·
         rintro _ w401 ⟨N402, rfl, hN405, hz406, hk404, hg403⟩
         have hr408 := row_kept_new hr333 hg328
         have ha407 := row_fresh hr408 hN405
         have hr410 := row_kept_new hr335 hg328
         have ha409 := row_fresh hr410 hN405
         have hz411 := hg403.size
         have hB412 := fb_new hB337 hg403
         have hk413 := hk338.kept hg403 (by simp)
         exact ⟨hB412, hk413⟩
        rintro _ w401 a400 ⟨N402, rfl, hN405, hz406, hk404, hg403⟩ h400
        have hr408 := row_kept_new hr333 hg328
        have ha407 := row_fresh hr408 hN405
        have hr410 := row_kept_new hr335 hg328
        have ha409 := row_fresh hr410 hN405
        have hz411 := hg403.size
        try dsimp only at h400
        have hB412 := fb_new hB337 hg403
        have hk413 := hk338.kept hg403 (by simp)
        have hk417 := hk329.kept hg403 (by simp)
        have hr416 := row_of_blkL hk417 (Nat.le_refl _) 3 pinE
        have hr422 := row_kept_new hr408 hg403
        refine d1 6 h400 rfl rfl (op_appendSrc rfl N327 40 (z := .agg #[.int .i64 0, .int .u64 0, .int .i64 0]) (size := 3) (bytes := 24) Try.underlying47 (by kernel_rfl) rfl rfl rfl hr416 rfl (row_sl hr422 pinE_len) (fun y hy => ⟨pinE_len y, pinE_one y⟩) (by first | omega | (simp only [List.length_nil, List.length_append, List.length_cons, List.length_take, List.length_drop]; omega)) (by first | omega | (simp only [List.length_nil, List.length_append, List.length_cons, List.length_take, List.length_drop]; omega)) (by omega)) ?_ ?_; clear h400
        ·
         rintro v418 w415 ⟨hr419, hg420⟩
         have hr419' : w415.ownsRow N327 40 3 v418 pn.length (pn.flatMap pinE) := row_app (l := []) hr419; clear hr419
         have hz423 := hg420.size
         have hk424 := hk323.kept hg328 (by simp)
         have hk425 := hk424.kept hg403 (by simp)
         have hB426 := fb_row hB412 hr416 (by omega) hg420
         have hk427 := hk413.kept hg420 (by simp [Value.ownBlock]; omega)
         exact ⟨hB426, hk427⟩
        rintro v418 w415 a414 ⟨hr419, hg420⟩ h414
        have hr419' : w415.ownsRow N327 40 3 v418 pn.length (pn.flatMap pinE) := row_app (l := []) hr419; clear hr419
        have hz423 := hg420.size
        have hk424 := hk323.kept hg328 (by simp)
        have hk425 := hk424.kept hg403 (by simp)
        have hB426 := fb_row hB412 hr416 (by omega) hg420
        have hk427 := hk413.kept hg420 (by simp [Value.ownBlock]; omega)
        have hk434 := hk404.kept hg420 (by simp [Value.ownBlock]; omega)
        refine d1 13 h414 rfl rfl (op_append rfl N327 40 (z := .agg #[.int .i64 0, .int .u64 0, .int .i64 0]) (size := 3) (bytes := 24) Try.underlying47 (by kernel_rfl) rfl rfl rfl hr419' rfl hk434 rfl (by kernel_rfl) (by first | omega | (simp only [List.length_nil, List.length_append, List.length_cons, List.length_take, List.length_drop]; omega)) (by first | omega | (simp only [List.length_nil, List.length_append, List.length_cons, List.length_take, List.length_drop]; omega)) (by omega)) ?_ ?_; clear h414
        ·
         rintro v430 w429 ⟨hr431, hg432⟩
         have hr431' : w429.ownsRow N327 40 3 v430 ((pn ++ [(id, at_, 8)]).length) ((pn ++ [(id, at_, 8)]).flatMap pinE) := row_push (y := (id, at_, 8)) hr431 rfl rfl; clear hr431
         have hz435 := hg432.size
         have hk436 := hk425.kept hg420 (own_neT hr416 hk425 (by decide))
         have hB437 := fb_row hB426 hr419' (by omega) hg432
         have hk438 := hk427.kept hg432 (row_ne_lt hr419' (by omega))
         exact ⟨hB437, hk438⟩
        rintro v430 w429 a428 ⟨hr431, hg432⟩ h428
        have hr431' : w429.ownsRow N327 40 3 v430 ((pn ++ [(id, at_, 8)]).length) ((pn ++ [(id, at_, 8)]).flatMap pinE) := row_push (y := (id, at_, 8)) hr431 rfl rfl; clear hr431
        have hz435 := hg432.size
        have hk436 := hk425.kept hg420 (own_neT hr416 hk425 (by decide))
        have hB437 := fb_row hB426 hr419' (by omega) hg432
        have hk438 := hk427.kept hg432 (row_ne_lt hr419' (by omega))
        refine dk0 14 (v := pt b 0) h428 rfl rfl ⟨hB437, hk438⟩ fun a439 h439 => ?_; clear h428
        refine dk0 15 (v := pt b 5) h439 rfl rfl ⟨hB437, hk438⟩ fun a440 h440 => ?_; clear h439
        have hk446 := hk436.kept hg432 (own_neT hr419' hk436 (by decide))
        refine d1D 16 h440 rfl rfl (op_store1 rfl rfl rfl (row_one hr431') Try.sizeOf47 hk446 rfl) ?_ ?_; clear h440
        ·
         rintro _ w442 ⟨hk443, hz444, hg445⟩
         have hk443' : Blk w442 b 50 #[.int .i64 ep, cv, .int .u64 fl, lgv, .int .u64 hz, v430, .int .i64 tp, .int .i64 y0.1, .int .i64 y0.2.1, .int .i64 y0.2.2.1, .int .i64 y0.2.2.2, .int .i64 y1.1, .int .i64 y1.2.1, .int .i64 y1.2.2.1, .int .i64 y1.2.2.2, .int .i64 y2.1, .int .i64 y2.2.1, .int .i64 y2.2.2.1, .int .i64 y2.2.2.2] := hk443; clear hk443
         have hz447 := hg445.size
         have hB448 := fb_at hB437 hg445 (fun hlt => by first | (exfalso; omega) | (simp; done) | simp_all)
         have hk449 := hk438.kept hg445 (by simp; omega)
         exact ⟨hB448, hk449⟩
        rintro _ w442 a441 ⟨hk443, hz444, hg445⟩ h441
        have hk443' : Blk w442 b 50 #[.int .i64 ep, cv, .int .u64 fl, lgv, .int .u64 hz, v430, .int .i64 tp, .int .i64 y0.1, .int .i64 y0.2.1, .int .i64 y0.2.2.1, .int .i64 y0.2.2.2, .int .i64 y1.1, .int .i64 y1.2.1, .int .i64 y1.2.2.1, .int .i64 y1.2.2.2, .int .i64 y2.1, .int .i64 y2.2.1, .int .i64 y2.2.2.1, .int .i64 y2.2.2.2] := hk443; clear hk443
        have hz447 := hg445.size
        refine dr_done (by kernel_rfl) ?_
        refine co_then ?_
        refine co_seq ?_
        refine co_reg ?_
        refine pk0 (v := pt b 0) h441 rfl fun a448 h448 => ?_; clear h441
        refine pk0 (v := pt N3 0) h448 rfl fun a449 h449 => ?_; clear h448
        have hk450 := hk438.kept hg445 (by simp; omega)
        refine pk (v := .int .i64 id) h449 rfl (rn_load1 rfl rfl Try.isAgg3 (hk450.cell rfl)) fun a451 h451 => ?_; clear h449
        refine pk0 (v := pt b 0) h451 rfl fun a452 h452 => ?_; clear h451
        refine pk0 (v := pt b 6) h452 rfl fun a453 h453 => ?_; clear h452
        refine pwD h453 rfl (op_store1 rfl rfl rfl rfl Try.sizeOf3 hk443' rfl) ?_; clear h453
        rintro _ w455 a454 ⟨hk456, hz457, hg458⟩ h454
        have hk456' : Blk w455 b 50 #[.int .i64 ep, cv, .int .u64 fl, lgv, .int .u64 hz, v430, .int .i64 id, .int .i64 y0.1, .int .i64 y0.2.1, .int .i64 y0.2.2.1, .int .i64 y0.2.2.2, .int .i64 y1.1, .int .i64 y1.2.1, .int .i64 y1.2.2.1, .int .i64 y1.2.2.2, .int .i64 y2.1, .int .i64 y2.2.1, .int .i64 y2.2.2.1, .int .i64 y2.2.2.2] := hk456; clear hk456
        have hz459 := hg458.size
        refine pl_nil ?_
        refine co_then ?_
        refine co_seq ?_
        refine co_reg ?_
        refine pk0 (v := .int .i64 0) h454 rfl fun a460 h460 => ?_; clear h454
        refine pl_nil ?_
        refine co_then ?_
        refine wp_ret ?_
        refine co_ret1 h460 rfl rfl ?_
        have hr461 := row_kept_at hr431' hg445 (own_neT hr431' hk446 (by decide))
        have hr462 := row_kept_at hr461 hg458 (own_neT hr461 hk443' (by decide))
        have hB463 := fb_at hB437 hg445 (fun hlt => by first | (exfalso; omega) | (simp; done) | simp_all)
        have hB464 := fb_at hB463 hg458 (fun hlt => by first | (exfalso; omega) | (simp; done) | simp_all)
        have hA : docP pn hz tp id at_ = (0, pn ++ [(id, at_, 8)], id) := by unfold docP; (repeat (first | rw [if_pos (by omega)] | rw [if_neg (by omega)]))
        exact ⟨v430, by rw [hA], by rw [hA]; exact hk456', by rw [hA]; exact row_lows hr462 (Nat.zero_le _), hB464⟩
      ·
       refine dr_op (i := 12) h324 rfl rfl rfl rfl (op_new (v := fun N => .slice (some ⟨N, 0, none⟩) 1 1) (T := 40) (cs := #[.int .i64 id, .int .u64 at_, .int .i64 8]) (by kernel_rfl) (by kernel_rfl) (by kernel_rfl)) ?_ ?_; clear h324
       ·
        rintro _ w466 ⟨N467, rfl, hN470, hz471, hk469, hg468⟩
        have hr473 := row_kept_new hr94 hg99
        have ha472 := row_fresh hr473 hN470
        have hr475 := row_kept_new hr96 hg99
        have ha474 := row_fresh hr475 hN470
        have hz476 := hg468.size
        have hB477 := fb_new hB104 hg468
        have hk478 := hk105.kept hg468 (by simp)
        exact ⟨hB477, hk478⟩
       rintro _ w466 a465 ⟨N467, rfl, hN470, hz471, hk469, hg468⟩ h465
       have hr473 := row_kept_new hr94 hg99
       have ha472 := row_fresh hr473 hN470
       have hr475 := row_kept_new hr96 hg99
       have ha474 := row_fresh hr475 hN470
       have hz476 := hg468.size
       try dsimp only at h465
       have hB477 := fb_new hB104 hg468
       have hk478 := hk105.kept hg468 (by simp)
       refine d1 1 h465 rfl rfl (op_new (v := fun N => .slice (some ⟨N, 0, none⟩) 0 0) (T := 40) (cs := #[]) (by kernel_rfl) (by kernel_rfl) (by kernel_rfl)) ?_ ?_; clear h465
       ·
        rintro _ w480 ⟨N481, rfl, hN484, hz485, hk483, hg482⟩
        have hr487 := row_kept_new hr473 hg468
        have ha486 := row_fresh hr487 hN484
        have hr489 := row_kept_new hr475 hg468
        have ha488 := row_fresh hr489 hN484
        have hz490 := hg482.size
        have hB491 := fb_new hB477 hg482
        have hk492 := hk478.kept hg482 (by simp)
        exact ⟨hB491, hk492⟩
       rintro _ w480 a479 ⟨N481, rfl, hN484, hz485, hk483, hg482⟩ h479
       have hr487 := row_kept_new hr473 hg468
       have ha486 := row_fresh hr487 hN484
       have hr489 := row_kept_new hr475 hg468
       have ha488 := row_fresh hr489 hN484
       have hz490 := hg482.size
       try dsimp only at h479
       have hB491 := fb_new hB477 hg482
       have hk492 := hk478.kept hg482 (by simp)
       have hr495 := row_of_blkL hk483 (Nat.le_refl _) 3 pinE
       have hr500 := row_kept_new hr487 hg482
       refine d1 6 h479 rfl rfl (op_appendSrc rfl N481 40 (z := .agg #[.int .i64 0, .int .u64 0, .int .i64 0]) (size := 3) (bytes := 24) Try.underlying47 (by kernel_rfl) rfl rfl rfl hr495 rfl (row_sl hr500 pinE_len) (fun y hy => ⟨pinE_len y, pinE_one y⟩) (by first | omega | (simp only [List.length_nil, List.length_append, List.length_cons, List.length_take, List.length_drop]; omega)) (by first | omega | (simp only [List.length_nil, List.length_append, List.length_cons, List.length_take, List.length_drop]; omega)) (by omega)) ?_ ?_; clear h479
       ·
        rintro v496 w494 ⟨hr497, hg498⟩
        have hr497' : w494.ownsRow N481 40 3 v496 pn.length (pn.flatMap pinE) := row_app (l := []) hr497; clear hr497
        have hz501 := hg498.size
        have hk502 := hk323.kept hg468 (by simp)
        have hk503 := hk502.kept hg482 (by simp)
        have hB504 := fb_row hB491 hr495 (by omega) hg498
        have hk505 := hk492.kept hg498 (by simp [Value.ownBlock]; omega)
        exact ⟨hB504, hk505⟩
       rintro v496 w494 a493 ⟨hr497, hg498⟩ h493
       have hr497' : w494.ownsRow N481 40 3 v496 pn.length (pn.flatMap pinE) := row_app (l := []) hr497; clear hr497
       have hz501 := hg498.size
       have hk502 := hk323.kept hg468 (by simp)
       have hk503 := hk502.kept hg482 (by simp)
       have hB504 := fb_row hB491 hr495 (by omega) hg498
       have hk505 := hk492.kept hg498 (by simp [Value.ownBlock]; omega)
       have hk512 := hk469.kept hg482 (by simp)
       have hk513 := hk512.kept hg498 (by simp [Value.ownBlock]; omega)
       refine d1 13 h493 rfl rfl (op_append rfl N481 40 (z := .agg #[.int .i64 0, .int .u64 0, .int .i64 0]) (size := 3) (bytes := 24) Try.underlying47 (by kernel_rfl) rfl rfl rfl hr497' rfl hk513 rfl (by kernel_rfl) (by first | omega | (simp only [List.length_nil, List.length_append, List.length_cons, List.length_take, List.length_drop]; omega)) (by first | omega | (simp only [List.length_nil, List.length_append, List.length_cons, List.length_take, List.length_drop]; omega)) (by omega)) ?_ ?_; clear h493
       ·
        rintro v508 w507 ⟨hr509, hg510⟩
        have hr509' : w507.ownsRow N481 40 3 v508 ((pn ++ [(id, at_, 8)]).length) ((pn ++ [(id, at_, 8)]).flatMap pinE) := row_push (y := (id, at_, 8)) hr509 rfl rfl; clear hr509
        have hz514 := hg510.size
        have hk515 := hk503.kept hg498 (own_neT hr495 hk503 (by decide))
        have hB516 := fb_row hB504 hr497' (by omega) hg510
        have hk517 := hk505.kept hg510 (row_ne_lt hr497' (by omega))
        exact ⟨hB516, hk517⟩
       rintro v508 w507 a506 ⟨hr509, hg510⟩ h506
       have hr509' : w507.ownsRow N481 40 3 v508 ((pn ++ [(id, at_, 8)]).length) ((pn ++ [(id, at_, 8)]).flatMap pinE) := row_push (y := (id, at_, 8)) hr509 rfl rfl; clear hr509
       have hz514 := hg510.size
       have hk515 := hk503.kept hg498 (own_neT hr495 hk503 (by decide))
       have hB516 := fb_row hB504 hr497' (by omega) hg510
       have hk517 := hk505.kept hg510 (row_ne_lt hr497' (by omega))
       refine dk0 14 (v := pt b 0) h506 rfl rfl ⟨hB516, hk517⟩ fun a518 h518 => ?_; clear h506
       refine dk0 15 (v := pt b 5) h518 rfl rfl ⟨hB516, hk517⟩ fun a519 h519 => ?_; clear h518
       have hk525 := hk515.kept hg510 (own_neT hr497' hk515 (by decide))
       refine d1D 16 h519 rfl rfl (op_store1 rfl rfl rfl (row_one hr509') Try.sizeOf47 hk525 rfl) ?_ ?_; clear h519
       ·
        rintro _ w521 ⟨hk522, hz523, hg524⟩
        have hk522' : Blk w521 b 50 #[.int .i64 ep, cv, .int .u64 fl, lgv, .int .u64 hz, v508, .int .i64 tp, .int .i64 y0.1, .int .i64 y0.2.1, .int .i64 y0.2.2.1, .int .i64 y0.2.2.2, .int .i64 y1.1, .int .i64 y1.2.1, .int .i64 y1.2.2.1, .int .i64 y1.2.2.2, .int .i64 y2.1, .int .i64 y2.2.1, .int .i64 y2.2.2.1, .int .i64 y2.2.2.2] := hk522; clear hk522
        have hz526 := hg524.size
        have hB527 := fb_at hB516 hg524 (fun hlt => by first | (exfalso; omega) | (simp; done) | simp_all)
        have hk528 := hk517.kept hg524 (by simp; omega)
        exact ⟨hB527, hk528⟩
       rintro _ w521 a520 ⟨hk522, hz523, hg524⟩ h520
       have hk522' : Blk w521 b 50 #[.int .i64 ep, cv, .int .u64 fl, lgv, .int .u64 hz, v508, .int .i64 tp, .int .i64 y0.1, .int .i64 y0.2.1, .int .i64 y0.2.2.1, .int .i64 y0.2.2.2, .int .i64 y1.1, .int .i64 y1.2.1, .int .i64 y1.2.2.1, .int .i64 y1.2.2.2, .int .i64 y2.1, .int .i64 y2.2.1, .int .i64 y2.2.2.1, .int .i64 y2.2.2.2] := hk522; clear hk522
       have hz526 := hg524.size
       refine dr_done (by kernel_rfl) ?_
       refine co_then ?_
       refine co_seq ?_
       refine co_reg ?_
       refine pk0 (v := pt b 0) h520 rfl fun a527 h527 => ?_; clear h520
       refine pk0 (v := pt N3 0) h527 rfl fun a528 h528 => ?_; clear h527
       have hk529 := hk517.kept hg524 (by simp; omega)
       refine pk (v := .int .i64 id) h528 rfl (rn_load1 rfl rfl Try.isAgg3 (hk529.cell rfl)) fun a530 h530 => ?_; clear h528
       refine pk0 (v := pt b 0) h530 rfl fun a531 h531 => ?_; clear h530
       refine pk0 (v := pt b 6) h531 rfl fun a532 h532 => ?_; clear h531
       refine pwD h532 rfl (op_store1 rfl rfl rfl rfl Try.sizeOf3 hk522' rfl) ?_; clear h532
       rintro _ w534 a533 ⟨hk535, hz536, hg537⟩ h533
       have hk535' : Blk w534 b 50 #[.int .i64 ep, cv, .int .u64 fl, lgv, .int .u64 hz, v508, .int .i64 id, .int .i64 y0.1, .int .i64 y0.2.1, .int .i64 y0.2.2.1, .int .i64 y0.2.2.2, .int .i64 y1.1, .int .i64 y1.2.1, .int .i64 y1.2.2.1, .int .i64 y1.2.2.2, .int .i64 y2.1, .int .i64 y2.2.1, .int .i64 y2.2.2.1, .int .i64 y2.2.2.2] := hk535; clear hk535
       have hz538 := hg537.size
       refine pl_nil ?_
       refine co_then ?_
       refine co_seq ?_
       refine co_reg ?_
       refine pk0 (v := .int .i64 0) h533 rfl fun a539 h539 => ?_; clear h533
       refine pl_nil ?_
       refine co_then ?_
       refine wp_ret ?_
       refine co_ret1 h539 rfl rfl ?_
       have hr540 := row_kept_at hr509' hg524 (own_neT hr509' hk525 (by decide))
       have hr541 := row_kept_at hr540 hg537 (own_neT hr540 hk522' (by decide))
       have hB542 := fb_at hB516 hg524 (fun hlt => by first | (exfalso; omega) | (simp; done) | simp_all)
       have hB543 := fb_at hB542 hg537 (fun hlt => by first | (exfalso; omega) | (simp; done) | simp_all)
       have hA : docP pn hz tp id at_ = (0, pn ++ [(id, at_, 8)], id) := by unfold docP; (repeat (first | rw [if_pos (by omega)] | rw [if_neg (by omega)]))
       exact ⟨v508, by rw [hA], by rw [hA]; exact hk535', by rw [hA]; exact row_lows hr541 (Nat.zero_le _), hB543⟩
     ·
      refine dr_op (i := 12) h114 rfl rfl rfl rfl (op_new (v := fun N => .slice (some ⟨N, 0, none⟩) 1 1) (T := 40) (cs := #[.int .i64 id, .int .u64 at_, .int .i64 8]) (by kernel_rfl) (by kernel_rfl) (by kernel_rfl)) ?_ ?_; clear h114
      ·
       rintro _ w545 ⟨N546, rfl, hN549, hz550, hk548, hg547⟩
       have hr552 := row_kept_new hr94 hg99
       have ha551 := row_fresh hr552 hN549
       have hr554 := row_kept_new hr96 hg99
       have ha553 := row_fresh hr554 hN549
       have hz555 := hg547.size
       have hB556 := fb_new hB104 hg547
       have hk557 := hk105.kept hg547 (by simp)
       exact ⟨hB556, hk557⟩
      rintro _ w545 a544 ⟨N546, rfl, hN549, hz550, hk548, hg547⟩ h544
      have hr552 := row_kept_new hr94 hg99
      have ha551 := row_fresh hr552 hN549
      have hr554 := row_kept_new hr96 hg99
      have ha553 := row_fresh hr554 hN549
      have hz555 := hg547.size
      try dsimp only at h544
      have hB556 := fb_new hB104 hg547
      have hk557 := hk105.kept hg547 (by simp)
      refine dr_many [1, 5] (by kernel_rfl) (by simp) ⟨?_, ?_, trivial⟩
      ·
       refine dr_op (i := 1) h544 rfl rfl rfl rfl (op_new (v := fun N => .slice (some ⟨N, 0, none⟩) 0 0) (T := 40) (cs := #[]) (by kernel_rfl) (by kernel_rfl) (by kernel_rfl)) ?_ ?_; clear h544
       ·
        rintro _ w559 ⟨N560, rfl, hN563, hz564, hk562, hg561⟩
        have hr566 := row_kept_new hr552 hg547
        have ha565 := row_fresh hr566 hN563
        have hr568 := row_kept_new hr554 hg547
        have ha567 := row_fresh hr568 hN563
        have hz569 := hg561.size
        have hB570 := fb_new hB556 hg561
        have hk571 := hk557.kept hg561 (by simp)
        exact ⟨hB570, hk571⟩
       rintro _ w559 a558 ⟨N560, rfl, hN563, hz564, hk562, hg561⟩ h558
       have hr566 := row_kept_new hr552 hg547
       have ha565 := row_fresh hr566 hN563
       have hr568 := row_kept_new hr554 hg547
       have ha567 := row_fresh hr568 hN563
       have hz569 := hg561.size
       try dsimp only at h558
       have hB570 := fb_new hB556 hg561
       have hk571 := hk557.kept hg561 (by simp)
       refine dr_many [5] (by kernel_rfl) (by simp) ⟨?_, trivial⟩
       ·
        have hk572 := hk88.kept hg99 (by simp)
        have hk573 := hk572.kept hg547 (by simp)
        have hk574 := hk573.kept hg561 (by simp)
        refine dr_opVal (i := 5) (v := pv) h558 rfl rfl rfl rfl (by kernel_rfl) rfl (rn_load1 rfl rfl Try.isAgg47 (hk574.cell rfl)) ⟨hB570, hk571⟩ (fun a575 h575 => ?_); clear h558
        have hr578 := row_of_blkL hk562 (Nat.le_refl _) 3 pinE
        have hr583 := row_kept_new hr566 hg561
        refine d1 6 h575 rfl rfl (op_appendSrc rfl N560 40 (z := .agg #[.int .i64 0, .int .u64 0, .int .i64 0]) (size := 3) (bytes := 24) Try.underlying47 (by kernel_rfl) rfl rfl rfl hr578 rfl (row_sl hr583 pinE_len) (fun y hy => ⟨pinE_len y, pinE_one y⟩) (by first | omega | (simp only [List.length_nil, List.length_append, List.length_cons, List.length_take, List.length_drop]; omega)) (by first | omega | (simp only [List.length_nil, List.length_append, List.length_cons, List.length_take, List.length_drop]; omega)) (by omega)) ?_ ?_; clear h575
        ·
         rintro v579 w577 ⟨hr580, hg581⟩
         have hr580' : w577.ownsRow N560 40 3 v579 pn.length (pn.flatMap pinE) := row_app (l := []) hr580; clear hr580
         have hz584 := hg581.size
         have hB585 := fb_row hB570 hr578 (by omega) hg581
         have hk586 := hk571.kept hg581 (by simp [Value.ownBlock]; omega)
         exact ⟨hB585, hk586⟩
        rintro v579 w577 a576 ⟨hr580, hg581⟩ h576
        have hr580' : w577.ownsRow N560 40 3 v579 pn.length (pn.flatMap pinE) := row_app (l := []) hr580; clear hr580
        have hz584 := hg581.size
        have hB585 := fb_row hB570 hr578 (by omega) hg581
        have hk586 := hk571.kept hg581 (by simp [Value.ownBlock]; omega)
        have hk593 := hk548.kept hg561 (by simp)
        have hk594 := hk593.kept hg581 (by simp [Value.ownBlock]; omega)
        refine d1 13 h576 rfl rfl (op_append rfl N560 40 (z := .agg #[.int .i64 0, .int .u64 0, .int .i64 0]) (size := 3) (bytes := 24) Try.underlying47 (by kernel_rfl) rfl rfl rfl hr580' rfl hk594 rfl (by kernel_rfl) (by first | omega | (simp only [List.length_nil, List.length_append, List.length_cons, List.length_take, List.length_drop]; omega)) (by first | omega | (simp only [List.length_nil, List.length_append, List.length_cons, List.length_take, List.length_drop]; omega)) (by omega)) ?_ ?_; clear h576
        ·
         rintro v589 w588 ⟨hr590, hg591⟩
         have hr590' : w588.ownsRow N560 40 3 v589 ((pn ++ [(id, at_, 8)]).length) ((pn ++ [(id, at_, 8)]).flatMap pinE) := row_push (y := (id, at_, 8)) hr590 rfl rfl; clear hr590
         have hz595 := hg591.size
         have hk596 := hk574.kept hg581 (own_neT hr578 hk574 (by decide))
         have hB597 := fb_row hB585 hr580' (by omega) hg591
         have hk598 := hk586.kept hg591 (row_ne_lt hr580' (by omega))
         exact ⟨hB597, hk598⟩
        rintro v589 w588 a587 ⟨hr590, hg591⟩ h587
        have hr590' : w588.ownsRow N560 40 3 v589 ((pn ++ [(id, at_, 8)]).length) ((pn ++ [(id, at_, 8)]).flatMap pinE) := row_push (y := (id, at_, 8)) hr590 rfl rfl; clear hr590
        have hz595 := hg591.size
        have hk596 := hk574.kept hg581 (own_neT hr578 hk574 (by decide))
        have hB597 := fb_row hB585 hr580' (by omega) hg591
        have hk598 := hk586.kept hg591 (row_ne_lt hr580' (by omega))
        refine dk0 14 (v := pt b 0) h587 rfl rfl ⟨hB597, hk598⟩ fun a599 h599 => ?_; clear h587
        refine dk0 15 (v := pt b 5) h599 rfl rfl ⟨hB597, hk598⟩ fun a600 h600 => ?_; clear h599
        have hk606 := hk596.kept hg591 (own_neT hr580' hk596 (by decide))
        refine d1D 16 h600 rfl rfl (op_store1 rfl rfl rfl (row_one hr590') Try.sizeOf47 hk606 rfl) ?_ ?_; clear h600
        ·
         rintro _ w602 ⟨hk603, hz604, hg605⟩
         have hk603' : Blk w602 b 50 #[.int .i64 ep, cv, .int .u64 fl, lgv, .int .u64 hz, v589, .int .i64 tp, .int .i64 y0.1, .int .i64 y0.2.1, .int .i64 y0.2.2.1, .int .i64 y0.2.2.2, .int .i64 y1.1, .int .i64 y1.2.1, .int .i64 y1.2.2.1, .int .i64 y1.2.2.2, .int .i64 y2.1, .int .i64 y2.2.1, .int .i64 y2.2.2.1, .int .i64 y2.2.2.2] := hk603; clear hk603
         have hz607 := hg605.size
         have hB608 := fb_at hB597 hg605 (fun hlt => by first | (exfalso; omega) | (simp; done) | simp_all)
         have hk609 := hk598.kept hg605 (by simp; omega)
         exact ⟨hB608, hk609⟩
        rintro _ w602 a601 ⟨hk603, hz604, hg605⟩ h601
        have hk603' : Blk w602 b 50 #[.int .i64 ep, cv, .int .u64 fl, lgv, .int .u64 hz, v589, .int .i64 tp, .int .i64 y0.1, .int .i64 y0.2.1, .int .i64 y0.2.2.1, .int .i64 y0.2.2.2, .int .i64 y1.1, .int .i64 y1.2.1, .int .i64 y1.2.2.1, .int .i64 y1.2.2.2, .int .i64 y2.1, .int .i64 y2.2.1, .int .i64 y2.2.2.1, .int .i64 y2.2.2.2] := hk603; clear hk603
        have hz607 := hg605.size
        refine dr_done (by kernel_rfl) ?_
        refine co_then ?_
        refine co_seq ?_
        refine co_reg ?_
        refine pk0 (v := pt b 0) h601 rfl fun a608 h608 => ?_; clear h601
        refine pk0 (v := pt N3 0) h608 rfl fun a609 h609 => ?_; clear h608
        have hk610 := hk598.kept hg605 (by simp; omega)
        refine pk (v := .int .i64 id) h609 rfl (rn_load1 rfl rfl Try.isAgg3 (hk610.cell rfl)) fun a611 h611 => ?_; clear h609
        refine pk0 (v := pt b 0) h611 rfl fun a612 h612 => ?_; clear h611
        refine pk0 (v := pt b 6) h612 rfl fun a613 h613 => ?_; clear h612
        refine pwD h613 rfl (op_store1 rfl rfl rfl rfl Try.sizeOf3 hk603' rfl) ?_; clear h613
        rintro _ w615 a614 ⟨hk616, hz617, hg618⟩ h614
        have hk616' : Blk w615 b 50 #[.int .i64 ep, cv, .int .u64 fl, lgv, .int .u64 hz, v589, .int .i64 id, .int .i64 y0.1, .int .i64 y0.2.1, .int .i64 y0.2.2.1, .int .i64 y0.2.2.2, .int .i64 y1.1, .int .i64 y1.2.1, .int .i64 y1.2.2.1, .int .i64 y1.2.2.2, .int .i64 y2.1, .int .i64 y2.2.1, .int .i64 y2.2.2.1, .int .i64 y2.2.2.2] := hk616; clear hk616
        have hz619 := hg618.size
        refine pl_nil ?_
        refine co_then ?_
        refine co_seq ?_
        refine co_reg ?_
        refine pk0 (v := .int .i64 0) h614 rfl fun a620 h620 => ?_; clear h614
        refine pl_nil ?_
        refine co_then ?_
        refine wp_ret ?_
        refine co_ret1 h620 rfl rfl ?_
        have hr621 := row_kept_at hr590' hg605 (own_neT hr590' hk606 (by decide))
        have hr622 := row_kept_at hr621 hg618 (own_neT hr621 hk603' (by decide))
        have hB623 := fb_at hB597 hg605 (fun hlt => by first | (exfalso; omega) | (simp; done) | simp_all)
        have hB624 := fb_at hB623 hg618 (fun hlt => by first | (exfalso; omega) | (simp; done) | simp_all)
        have hA : docP pn hz tp id at_ = (0, pn ++ [(id, at_, 8)], id) := by unfold docP; (repeat (first | rw [if_pos (by omega)] | rw [if_neg (by omega)]))
        exact ⟨v589, by rw [hA], by rw [hA]; exact hk616', by rw [hA]; exact row_lows hr622 (Nat.zero_le _), hB624⟩
      ·
       have hk625 := hk88.kept hg99 (by simp)
       have hk626 := hk625.kept hg547 (by simp)
       refine dr_opVal (i := 5) (v := pv) h544 rfl rfl rfl rfl (by kernel_rfl) rfl (rn_load1 rfl rfl Try.isAgg47 (hk626.cell rfl)) ⟨hB556, hk557⟩ (fun a627 h627 => ?_); clear h544
       refine d1 1 h627 rfl rfl (op_new (v := fun N => .slice (some ⟨N, 0, none⟩) 0 0) (T := 40) (cs := #[]) (by kernel_rfl) (by kernel_rfl) (by kernel_rfl)) ?_ ?_; clear h627
       ·
        rintro _ w629 ⟨N630, rfl, hN633, hz634, hk632, hg631⟩
        have hr636 := row_kept_new hr552 hg547
        have ha635 := row_fresh hr636 hN633
        have hr638 := row_kept_new hr554 hg547
        have ha637 := row_fresh hr638 hN633
        have hz639 := hg631.size
        have hB640 := fb_new hB556 hg631
        have hk641 := hk557.kept hg631 (by simp)
        exact ⟨hB640, hk641⟩
       rintro _ w629 a628 ⟨N630, rfl, hN633, hz634, hk632, hg631⟩ h628
       have hr636 := row_kept_new hr552 hg547
       have ha635 := row_fresh hr636 hN633
       have hr638 := row_kept_new hr554 hg547
       have ha637 := row_fresh hr638 hN633
       have hz639 := hg631.size
       try dsimp only at h628
       have hB640 := fb_new hB556 hg631
       have hk641 := hk557.kept hg631 (by simp)
       have hr644 := row_of_blkL hk632 (Nat.le_refl _) 3 pinE
       have hr649 := row_kept_new hr636 hg631
       refine d1 6 h628 rfl rfl (op_appendSrc rfl N630 40 (z := .agg #[.int .i64 0, .int .u64 0, .int .i64 0]) (size := 3) (bytes := 24) Try.underlying47 (by kernel_rfl) rfl rfl rfl hr644 rfl (row_sl hr649 pinE_len) (fun y hy => ⟨pinE_len y, pinE_one y⟩) (by first | omega | (simp only [List.length_nil, List.length_append, List.length_cons, List.length_take, List.length_drop]; omega)) (by first | omega | (simp only [List.length_nil, List.length_append, List.length_cons, List.length_take, List.length_drop]; omega)) (by omega)) ?_ ?_; clear h628
       ·
        rintro v645 w643 ⟨hr646, hg647⟩
        have hr646' : w643.ownsRow N630 40 3 v645 pn.length (pn.flatMap pinE) := row_app (l := []) hr646; clear hr646
        have hz650 := hg647.size
        have hk651 := hk626.kept hg631 (by simp)
        have hB652 := fb_row hB640 hr644 (by omega) hg647
        have hk653 := hk641.kept hg647 (by simp [Value.ownBlock]; omega)
        exact ⟨hB652, hk653⟩
       rintro v645 w643 a642 ⟨hr646, hg647⟩ h642
       have hr646' : w643.ownsRow N630 40 3 v645 pn.length (pn.flatMap pinE) := row_app (l := []) hr646; clear hr646
       have hz650 := hg647.size
       have hk651 := hk626.kept hg631 (by simp)
       have hB652 := fb_row hB640 hr644 (by omega) hg647
       have hk653 := hk641.kept hg647 (by simp [Value.ownBlock]; omega)
       have hk660 := hk548.kept hg631 (by simp)
       have hk661 := hk660.kept hg647 (by simp [Value.ownBlock]; omega)
       refine d1 13 h642 rfl rfl (op_append rfl N630 40 (z := .agg #[.int .i64 0, .int .u64 0, .int .i64 0]) (size := 3) (bytes := 24) Try.underlying47 (by kernel_rfl) rfl rfl rfl hr646' rfl hk661 rfl (by kernel_rfl) (by first | omega | (simp only [List.length_nil, List.length_append, List.length_cons, List.length_take, List.length_drop]; omega)) (by first | omega | (simp only [List.length_nil, List.length_append, List.length_cons, List.length_take, List.length_drop]; omega)) (by omega)) ?_ ?_; clear h642
       ·
        rintro v656 w655 ⟨hr657, hg658⟩
        have hr657' : w655.ownsRow N630 40 3 v656 ((pn ++ [(id, at_, 8)]).length) ((pn ++ [(id, at_, 8)]).flatMap pinE) := row_push (y := (id, at_, 8)) hr657 rfl rfl; clear hr657
        have hz662 := hg658.size
        have hk663 := hk651.kept hg647 (own_neT hr644 hk651 (by decide))
        have hB664 := fb_row hB652 hr646' (by omega) hg658
        have hk665 := hk653.kept hg658 (row_ne_lt hr646' (by omega))
        exact ⟨hB664, hk665⟩
       rintro v656 w655 a654 ⟨hr657, hg658⟩ h654
       have hr657' : w655.ownsRow N630 40 3 v656 ((pn ++ [(id, at_, 8)]).length) ((pn ++ [(id, at_, 8)]).flatMap pinE) := row_push (y := (id, at_, 8)) hr657 rfl rfl; clear hr657
       have hz662 := hg658.size
       have hk663 := hk651.kept hg647 (own_neT hr644 hk651 (by decide))
       have hB664 := fb_row hB652 hr646' (by omega) hg658
       have hk665 := hk653.kept hg658 (row_ne_lt hr646' (by omega))
       refine dk0 14 (v := pt b 0) h654 rfl rfl ⟨hB664, hk665⟩ fun a666 h666 => ?_; clear h654
       refine dk0 15 (v := pt b 5) h666 rfl rfl ⟨hB664, hk665⟩ fun a667 h667 => ?_; clear h666
       have hk673 := hk663.kept hg658 (own_neT hr646' hk663 (by decide))
       refine d1D 16 h667 rfl rfl (op_store1 rfl rfl rfl (row_one hr657') Try.sizeOf47 hk673 rfl) ?_ ?_; clear h667
       ·
        rintro _ w669 ⟨hk670, hz671, hg672⟩
        have hk670' : Blk w669 b 50 #[.int .i64 ep, cv, .int .u64 fl, lgv, .int .u64 hz, v656, .int .i64 tp, .int .i64 y0.1, .int .i64 y0.2.1, .int .i64 y0.2.2.1, .int .i64 y0.2.2.2, .int .i64 y1.1, .int .i64 y1.2.1, .int .i64 y1.2.2.1, .int .i64 y1.2.2.2, .int .i64 y2.1, .int .i64 y2.2.1, .int .i64 y2.2.2.1, .int .i64 y2.2.2.2] := hk670; clear hk670
        have hz674 := hg672.size
        have hB675 := fb_at hB664 hg672 (fun hlt => by first | (exfalso; omega) | (simp; done) | simp_all)
        have hk676 := hk665.kept hg672 (by simp; omega)
        exact ⟨hB675, hk676⟩
       rintro _ w669 a668 ⟨hk670, hz671, hg672⟩ h668
       have hk670' : Blk w669 b 50 #[.int .i64 ep, cv, .int .u64 fl, lgv, .int .u64 hz, v656, .int .i64 tp, .int .i64 y0.1, .int .i64 y0.2.1, .int .i64 y0.2.2.1, .int .i64 y0.2.2.2, .int .i64 y1.1, .int .i64 y1.2.1, .int .i64 y1.2.2.1, .int .i64 y1.2.2.2, .int .i64 y2.1, .int .i64 y2.2.1, .int .i64 y2.2.2.1, .int .i64 y2.2.2.2] := hk670; clear hk670
       have hz674 := hg672.size
       refine dr_done (by kernel_rfl) ?_
       refine co_then ?_
       refine co_seq ?_
       refine co_reg ?_
       refine pk0 (v := pt b 0) h668 rfl fun a675 h675 => ?_; clear h668
       refine pk0 (v := pt N3 0) h675 rfl fun a676 h676 => ?_; clear h675
       have hk677 := hk665.kept hg672 (by simp; omega)
       refine pk (v := .int .i64 id) h676 rfl (rn_load1 rfl rfl Try.isAgg3 (hk677.cell rfl)) fun a678 h678 => ?_; clear h676
       refine pk0 (v := pt b 0) h678 rfl fun a679 h679 => ?_; clear h678
       refine pk0 (v := pt b 6) h679 rfl fun a680 h680 => ?_; clear h679
       refine pwD h680 rfl (op_store1 rfl rfl rfl rfl Try.sizeOf3 hk670' rfl) ?_; clear h680
       rintro _ w682 a681 ⟨hk683, hz684, hg685⟩ h681
       have hk683' : Blk w682 b 50 #[.int .i64 ep, cv, .int .u64 fl, lgv, .int .u64 hz, v656, .int .i64 id, .int .i64 y0.1, .int .i64 y0.2.1, .int .i64 y0.2.2.1, .int .i64 y0.2.2.2, .int .i64 y1.1, .int .i64 y1.2.1, .int .i64 y1.2.2.1, .int .i64 y1.2.2.2, .int .i64 y2.1, .int .i64 y2.2.1, .int .i64 y2.2.2.1, .int .i64 y2.2.2.2] := hk683; clear hk683
       have hz686 := hg685.size
       refine pl_nil ?_
       refine co_then ?_
       refine co_seq ?_
       refine co_reg ?_
       refine pk0 (v := .int .i64 0) h681 rfl fun a687 h687 => ?_; clear h681
       refine pl_nil ?_
       refine co_then ?_
       refine wp_ret ?_
       refine co_ret1 h687 rfl rfl ?_
       have hr688 := row_kept_at hr657' hg672 (own_neT hr657' hk673 (by decide))
       have hr689 := row_kept_at hr688 hg685 (own_neT hr688 hk670' (by decide))
       have hB690 := fb_at hB664 hg672 (fun hlt => by first | (exfalso; omega) | (simp; done) | simp_all)
       have hB691 := fb_at hB690 hg685 (fun hlt => by first | (exfalso; omega) | (simp; done) | simp_all)
       have hA : docP pn hz tp id at_ = (0, pn ++ [(id, at_, 8)], id) := by unfold docP; (repeat (first | rw [if_pos (by omega)] | rw [if_neg (by omega)]))
       exact ⟨v656, by rw [hA], by rw [hA]; exact hk683', by rw [hA]; exact row_lows hr689 (Nat.zero_le _), hB691⟩
    ·
     rw [hc91] at h90
     have hp692 : at_ < hz := of_decide_eq_true hc91
     clear hc91
     refine co_true h90 rfl ?_
     refine co_seq ?_
     refine co_reg ?_
     refine pk0 (v := .int .i64 13) h90 rfl fun a693 h693 => ?_; clear h90
     refine pl_nil ?_
     refine co_then ?_
     refine wp_ret ?_
     refine co_thenR ?_
     refine co_ret1 h693 rfl rfl ?_
     have hA : docP pn hz tp id at_ = (13, pn, tp) := by unfold docP; (repeat (first | rw [if_pos (by omega)] | rw [if_neg (by omega)]))
     exact ⟨pv, by rw [hA], by rw [hA]; exact hk88, by rw [hA]; exact row_lows hr94 (Nat.zero_le _), hB92⟩
   ·
    rw [hc76] at h75
    have hp694 : id ≤ tp := of_decide_eq_true hc76
    clear hc76
    refine co_true h75 rfl ?_
    refine co_seq ?_
    refine co_reg ?_
    refine pk0 (v := .int .i64 18) h75 rfl fun a695 h695 => ?_; clear h75
    refine pl_nil ?_
    refine co_then ?_
    refine wp_ret ?_
    refine co_thenR ?_
    refine co_ret1 h695 rfl rfl ?_
    have hr696 := row_kept_new hr59 hg65
    have hA : docP pn hz tp id at_ = (18, pn, tp) := by unfold docP; (repeat (first | rw [if_pos (by omega)] | rw [if_neg (by omega)]))
    exact ⟨pv, by rw [hA], by rw [hA]; exact hk73, by rw [hA]; exact row_lows hr696 (Nat.zero_le _), hB77⟩
  ·
   rw [hc62] at h61
   have hp697 : ((pn.length : Nat) : Int) ≥ 3 := of_decide_eq_true hc62
   clear hc62
   refine co_true h61 rfl ?_
   refine co_seq ?_
   refine co_reg ?_
   refine pk0 (v := .int .i64 17) h61 rfl fun a698 h698 => ?_; clear h61
   refine pl_nil ?_
   refine co_then ?_
   refine wp_ret ?_
   refine co_thenR ?_
   refine co_ret1 h698 rfl rfl ?_
   have hA : docP pn hz tp id at_ = (17, pn, tp) := by unfold docP; (repeat (first | rw [if_pos (by omega)] | rw [if_neg (by omega)]))
   exact ⟨pv, by rw [hA], by rw [hA]; exact hk44, by rw [hA]; exact row_lows hr59 (Nat.zero_le _), hB43⟩
 ·
  rw [hc53] at h52
  have hp699 : (renewP pn id).2 = 0 := by first | simpa using hc53 | simpa [and_assoc] using hc53
  clear hc53
  refine co_true h52 rfl ?_
  refine co_seq ?_
  refine co_reg ?_
  refine pk0 (v := pt b 0) h52 rfl fun a700 h700 => ?_; clear h52
  refine pk0 (v := u35) h700 rfl fun a701 h701 => ?_; clear h700
  refine pk0 (v := pt b 0) h701 rfl fun a702 h702 => ?_; clear h701
  refine pk0 (v := pt b 5) h702 rfl fun a703 h703 => ?_; clear h702
  refine pwD h703 rfl (op_store1 rfl rfl rfl (row_one hr36) Try.sizeOf47 hk44 rfl) ?_; clear h703
  rintro _ w705 a704 ⟨hk706, hz707, hg708⟩ h704
  have hk706' : Blk w705 b 50 #[.int .i64 ep, cv, .int .u64 fl, lgv, .int .u64 hz, u35, .int .i64 tp, .int .i64 y0.1, .int .i64 y0.2.1, .int .i64 y0.2.2.1, .int .i64 y0.2.2.2, .int .i64 y1.1, .int .i64 y1.2.1, .int .i64 y1.2.2.1, .int .i64 y1.2.2.2, .int .i64 y2.1, .int .i64 y2.2.1, .int .i64 y2.2.2.1, .int .i64 y2.2.2.2] := hk706; clear hk706
  have hz709 := hg708.size
  refine pl_nil ?_
  refine co_then ?_
  refine co_seq ?_
  refine co_reg ?_
  refine pk0 (v := .int .i64 0) h704 rfl fun a710 h710 => ?_; clear h704
  refine pl_nil ?_
  refine co_then ?_
  refine wp_ret ?_
  refine co_thenR ?_
  refine co_ret1 h710 rfl rfl ?_
  have hr711 := row_kept_at hr36 hg708 (own_neT hr36 hk44 (by decide))
  have hB712 := fb_at hB43 hg708 (fun hlt => by first | (exfalso; omega) | (simp; done) | simp_all)
  have hA : docP pn hz tp id at_ = (0, (renewP pn id).1, tp) := by unfold docP; (repeat (first | rw [if_pos (by omega)] | rw [if_neg (by omega)]))
  exact ⟨u35, by rw [hA], by rw [hA]; exact hk706', by rw [hA]; exact row_lows hr711 (Nat.zero_le _), hB712⟩
end Go.Proofs.Ytnjbnndpbegkdaa

/- The document's master state: Apply of pins, horizons, of a note that may not be written. Conditions: at most 3 pins. -/
namespace Go.Proofs.Ytnjbnndpbegkdaa
open Go.RowKit Go.PlainAid
set_option linter.unusedVariables false
set_option linter.unusedSimpArgs false


/-- What a note comes to, that is of no configuration, member or client: the document's way. -/
def docF (pn : List PinT) (hz tp : Int) (d : NoteD) : Int × Int × List PinT × Int :=
  if chkN d ≠ 0 then (chkN d, hz, pn, tp) else if d.k = 4 then (if d.t < hz then (18, hz, pn, tp) else (0, d.t, pn, tp))
  else if d.k = 6 then ((docP pn hz tp d.pid d.pat).1, hz, (docP pn hz tp d.pid d.pat).2.1, (docP pn hz tp d.pid d.pat).2.2)
  else if d.k = 7 then (0, hz, if (freeP pn d.n).2 = 0 then (freeP pn d.n).1 else pn, mxI tp d.n) else (11, hz, pn, tp)
theorem docF_eq {s : MsT} {d : NoteD} (v : VaM s) : docF s.pn s.hz s.tp d = apF s.pn s.hz s.tp d := by
  unfold docF apF
  by_cases h0 : chkN d ≠ 0
  · rw [if_pos h0, if_pos h0]
  rw [if_neg h0, if_neg h0]
  by_cases h6 : d.k = 6
  · have hm := ((chkN_ok (d := d) (by omega)).2.2.2.2.1 h6).1
    rw [if_neg (show ¬ d.k = 4 by omega), if_neg (show ¬ d.k = 4 by omega), if_pos h6, if_pos h6, docP_eq v hm]
  · rw [if_neg h6, if_neg h6]
def doc1 (ep fl : Int) (ms : List MemT) (lg : List Int) (d : NoteD) : Int × Int × Int × List MemT × List Int := if chkN d ≠ 0 then (chkN d, ep, fl, ms, lg) else docC ep fl ms lg d
def doc5 (ms : List MemT) (lg : List Int) (d : NoteD) : Int × List Int := if chkN d ≠ 0 then (chkN d, lg) else if hasM ms d.n = true then (0, docL lg d.n 4) else (7, lg)
theorem doc1_eq {ep fl : Int} {ms : List MemT} {lg : List Int} {d : NoteD} (hk : d.k = 1) : doc1 ep fl ms lg d = ap1 ep fl ms lg d := by
  unfold doc1
  by_cases h0 : chkN d ≠ 0
  · rw [if_pos h0]; unfold ap1; rw [if_pos h0]
  · rw [if_neg h0, docC_eq (by omega) hk]
theorem doc5_eq' {s : MsT} {d : NoteD} (v : VaM s) (hk : d.k = 5) : doc5 s.ms s.lg d = ap5 s.ms s.lg d := by
  unfold doc5
  by_cases h0 : chkN d ≠ 0
  · rw [if_pos h0]; unfold ap5; rw [if_pos h0]
  · rw [if_neg h0, doc5_eq v (by omega) hk]
def docS (y : AnT) (d : NoteD) : Int × AnT := if chkN d ≠ 0 then (chkN d, y) else if d.sr < y.2.1 then (18, y) else (0, (d.sc, d.sr, d.se, d.sp))
theorem docS_eq (x : SdT) (d : NoteD) : docS x.2 d = ((sdF x d).1, (sdF x d).2.2) := by
  unfold docS sdF
  split
  · rfl
  split
  · rfl
  · rfl

set_option maxRecDepth 100000 in
set_option maxHeartbeats 1600000 in
theorem dcApplyP (b : Nat) (ep : Int) (cv : Value) (fl : Int) (lgv : Value) (hz : Int) (pv : Value) (pn : List PinT) (tp : Int) (y0 : AnT) (y1 : AnT) (y2 : AnT) (d : NoteD) (mv : Value) (lv : Value) (ev : Value) (w : World) (hb : Blk w b 50 #[.int .i64 ep, cv, .int .u64 fl, lgv, .int .u64 hz, pv, .int .i64 tp, .int .i64 y0.1, .int .i64 y0.2.1, .int .i64 y0.2.2.1, .int .i64 y0.2.2.2, .int .i64 y1.1, .int .i64 y1.2.1, .int .i64 y1.2.2.1, .int .i64 y1.2.2.2, .int .i64 y2.1, .int .i64 y2.2.1, .int .i64 y2.2.2.1, .int .i64 y2.2.2.2]) (hpn : w.ownsRow 0 40 3 pv pn.length (pn.flatMap pinE)) (hp3 : pn.length ≤ 3) (hm : SliceOf memE 2 w mv d.ms) (hg : SliceOf (intE .i64) 1 w lv d.lg) (he : SliceOf opE 3 w ev d.el) (hR : NoteR d) (hbm : d.ms ≠ [] → ∀ k, mv.ownBlock = some k → ¬ k = b) (hbg : d.lg ≠ [] → ∀ k, lv.ownBlock = some k → ¬ k = b) (hbe : d.el ≠ [] → ∀ k, ev.ownBlock = some k → ¬ k = b) (hkx : ¬ d.k = 1 ∧ ¬ d.k = 5 ∧ ¬ d.k = 8) :
    Calls Try.prog 10 #[pt b 0, .agg #[.int .i64 d.k, .int .i64 d.n, .int .u64 d.t, .int .i64 d.ep, mv, .int .u64 d.fl, lv, .int .i64 d.ec, .int .i64 d.er, ev, .int .u64 d.ets, .int .i64 d.pid, .int .u64 d.pat, .int .i64 d.plf, .int .i64 d.sc, .int .i64 d.sr, .int .i64 d.se, .int .i64 d.sp]] w fun e w' => ∃ (pv2 : Value), e = .returned (.int .i64 ((docF pn hz tp d).1)) ∧ Blk w' b 50 #[.int .i64 ep, cv, .int .u64 fl, lgv, .int .u64 ((docF pn hz tp d).2.1), pv2, .int .i64 ((docF pn hz tp d).2.2.2), .int .i64 y0.1, .int .i64 y0.2.1, .int .i64 y0.2.2.1, .int .i64 y0.2.2.2, .int .i64 y1.1, .int .i64 y1.2.1, .int .i64 y1.2.2.1, .int .i64 y1.2.2.2, .int .i64 y2.1, .int .i64 y2.2.1, .int .i64 y2.2.2.1, .int .i64 y2.2.2.2] ∧ w'.ownsRow 0 40 3 pv2 ((docF pn hz tp d).2.2.1).length (((docF pn hz tp d).2.2.1).flatMap pinE) ∧ But (fun q => q = b) w w' := by
 have hrng := hR.rng
 have hB0 := But.refl (fun q => q = b) w
 have hl_hb := hb.lt
 have hl_hm := sl_len hm
 have hl_hg := sl_len hg
 have hl_he := sl_len he
 have hu_pv := fun i (hi : Value.ownBlock pv = some i) => (hpn.lt i hi).2
 refine co_enter (n := 128) Try.func10 rfl rfl rfl [(0, pt b 0), (1, .agg #[.int .i64 d.k, .int .i64 d.n, .int .u64 d.t, .int .i64 d.ep, mv, .int .u64 d.fl, lv, .int .i64 d.ec, .int .i64 d.er, ev, .int .u64 d.ets, .int .i64 d.pid, .int .u64 d.pat, .int .i64 d.plf, .int .i64 d.sc, .int .i64 d.sr, .int .i64 d.se, .int .i64 d.sp])] rfl (fun a h0 => ?_)
 refine co_seq ?_
 refine co_reg ?_
 refine pw h0 rfl (op_new (v := fun N => pt N 0) (T := 44) (cs := #[.int .i64 d.k, .int .i64 d.n, .int .u64 d.t, .int .i64 d.ep, mv, .int .u64 d.fl, lv, .int .i64 d.ec, .int .i64 d.er, ev, .int .u64 d.ets, .int .i64 d.pid, .int .u64 d.pat, .int .i64 d.plf, .int .i64 d.sc, .int .i64 d.sr, .int .i64 d.se, .int .i64 d.sp]) (by kernel_rfl) (by kernel_rfl) (by kernel_rfl)) ?_; clear h0
 rintro _ w2 a1 ⟨N3, rfl, hN6, hz7, hk5, hg4⟩ h1
 have ha8 := row_fresh hpn hN6
 have hz9 := hg4.size
 try dsimp only at h1
 refine pk0 (v := .int .i64 0) h1 rfl fun a10 h10 => ?_; clear h1
 refine pl_nil ?_
 refine co_then ?_
 refine co_seq ?_
 refine co_seq ?_
 refine co_reg ?_
 refine pk (v := .agg #[.int .i64 d.k, .int .i64 d.n, .int .u64 d.t, .int .i64 d.ep, mv, .int .u64 d.fl, lv, .int .i64 d.ec, .int .i64 d.er, ev, .int .u64 d.ets, .int .i64 d.pid, .int .u64 d.pat, .int .i64 d.plf, .int .i64 d.sc, .int .i64 d.sr, .int .i64 d.se, .int .i64 d.sp]) h10 rfl (rn_loadN rfl rfl Try.underlying44 rfl (by kernel_rfl) hk5.all) fun a11 h11 => ?_; clear h10
 have hB14 := fb_new hB0 hg4
 refine pw h11 rfl (op_call (args := #[.agg #[.int .i64 d.k, .int .i64 d.n, .int .u64 d.t, .int .i64 d.ep, mv, .int .u64 d.fl, lv, .int .i64 d.ec, .int .i64 d.er, ev, .int .u64 d.ets, .int .i64 d.pid, .int .u64 d.pat, .int .i64 d.plf, .int .i64 d.sc, .int .i64 d.sr, .int .i64 d.se, .int .i64 d.sp]]) (R := fun res xw => res = .int .i64 (chkN d) ∧ Below w2.heap.size w2 xw) rfl rfl rfl (by kernel_rfl) (by kernel_rfl) (Try.call27 _ _) (rnCheck_any d mv lv ev w2 (sl_butS hm hB14 hbm) (sl_butS hg hB14 hbg) (sl_butS he hB14 hbe) hR) (by rintro e x ⟨rfl, hb15⟩; exact ⟨_, rfl, ⟨rfl, hb15⟩⟩)) ?_; clear h11
 rintro _ w13 a12 ⟨rfl, hb15⟩ h12
 have hz16 := hb15.size
 refine pk0 (v := .int .i64 (chkN d)) h12 rfl fun a17 h17 => ?_; clear h12
 refine pl_nil ?_
 refine co_then ?_
 refine co_seq ?_
 refine co_reg ?_
 refine pk0 (v := .int .i64 (chkN d)) h17 rfl fun a18 h18 => ?_; clear h17
 refine pk0 (v := .bool (chkN d != 0)) h18 rfl fun a19 h19 => ?_; clear h18
 refine pl_nil ?_
 refine co_then ?_
 have hB21 := fb_call hB14 hb15
 have hk22 := hb.kept hg4 (by simp)
 have hk23 := hk22.below hb15
 have hr24 := row_kept_new hpn hg4
 have hr25 := row_kept_new hr24 (below_grown hb15)
 cases hc20 : (chkN d != 0)
 ·
  rw [hc20] at h19
  have hp26 : ¬ (chkN d ≠ 0) := by first | simpa using hc20 | simpa [and_assoc] using hc20
  clear hc20
  refine co_false h19 rfl ?_
  refine wp_skip ?_
  refine co_then ?_
  refine co_seq ?_
  refine co_seq ?_
  refine co_reg ?_
  refine pk0 (v := pt N3 0) h19 rfl fun a27 h27 => ?_; clear h19
  have hk28 := hk5.below hb15
  refine pk (v := .int .i64 d.k) h27 rfl (rn_load1 rfl rfl Try.isAgg3 (hk28.cell rfl)) fun a29 h29 => ?_; clear h27
  refine pl_nil ?_
  refine co_then ?_
  refine wp_block ?_
  refine co_seq ?_
  refine co_reg ?_
  refine pk0 (v := .bool (d.k == 1)) h29 rfl fun a30 h30 => ?_; clear h29
  refine pk0 (v := .bool (d.k == 1)) h30 rfl fun a31 h31 => ?_; clear h30
  refine pl_nil ?_
  refine co_then ?_
  have hc32 : (d.k == 1) = false := by first | (simp; done) | (simp; omega) | exact beq_false_of_ne (by omega) | exact beq_iff_eq.2 (by omega)
  rw [hc32] at h31; clear hc32
  refine co_false h31 rfl ?_
  refine co_seq ?_
  refine co_reg ?_
  refine pk0 (v := .bool (d.k == 5)) h31 rfl fun a33 h33 => ?_; clear h31
  refine pk0 (v := .bool (d.k == 5)) h33 rfl fun a34 h34 => ?_; clear h33
  refine pl_nil ?_
  refine co_then ?_
  have hc35 : (d.k == 5) = false := by first | (simp; done) | (simp; omega) | exact beq_false_of_ne (by omega) | exact beq_iff_eq.2 (by omega)
  rw [hc35] at h34; clear hc35
  refine co_false h34 rfl ?_
  refine co_seq ?_
  refine co_reg ?_
  refine pk0 (v := .bool (d.k == 4)) h34 rfl fun a36 h36 => ?_; clear h34
  refine pk0 (v := .bool (d.k == 4)) h36 rfl fun a37 h37 => ?_; clear h36
  refine pl_nil ?_
  refine co_then ?_
  cases hc38 : (d.k == 4)
  ·
   rw [hc38] at h37
   have hp39 : ¬ (d.k = 4) := by first | simpa using hc38 | simpa [and_assoc] using hc38
   clear hc38
   refine co_false h37 rfl ?_
   refine co_seq ?_
   refine co_reg ?_
   refine pk0 (v := .bool (d.k == 6)) h37 rfl fun a40 h40 => ?_; clear h37
   refine pk0 (v := .bool (d.k == 6)) h40 rfl fun a41 h41 => ?_; clear h40
   refine pl_nil ?_
   refine co_then ?_
   cases hc42 : (d.k == 6)
   ·
    rw [hc42] at h41
    have hp43 : ¬ (d.k = 6) := by first | simpa using hc42 | simpa [and_assoc] using hc42
    clear hc42
    refine co_false h41 rfl ?_
    refine co_seq ?_
    refine co_reg ?_
    refine pk0 (v := .bool (d.k == 7)) h41 rfl fun a44 h44 => ?_; clear h41
    refine pk0 (v := .bool (d.k == 7)) h44 rfl fun a45 h45 => ?_; clear h44
    refine pl_nil ?_
    refine co_then ?_
    cases hc46 : (d.k == 7)
    ·
     rw [hc46] at h45
     have hp47 : ¬ (d.k = 7) := by first | simpa using hc46 | simpa [and_assoc] using hc46
     clear hc46
     refine co_false h45 rfl ?_
     refine co_seq ?_
     refine co_reg ?_
     refine pk0 (v := .bool (d.k == 8)) h45 rfl fun a48 h48 => ?_; clear h45
     refine pk0 (v := .bool (d.k == 8)) h48 rfl fun a49 h49 => ?_; clear h48
     refine pl_nil ?_
     refine co_then ?_
     have hc50 : (d.k == 8) = false := by first | (simp; done) | (simp; omega) | exact beq_false_of_ne (by omega) | exact beq_iff_eq.2 (by omega)
     rw [hc50] at h49; clear hc50
     refine co_false h49 rfl ?_
     refine co_seq ?_
     refine co_reg ?_
     refine pk0 (v := .int .i64 11) h49 rfl fun a51 h51 => ?_; clear h49
     refine pl_nil ?_
     refine co_then ?_
     refine wp_ret ?_
     refine co_blockR ?_
     refine co_thenR ?_
     refine co_ret1 h51 rfl rfl ?_
     have hA : docF pn hz tp d = (11, hz, pn, tp) := by unfold docF; (repeat (first | rw [if_pos (by omega)] | rw [if_neg (by omega)]))
     exact ⟨pv, by rw [hA], by rw [hA]; exact hk23, by rw [hA]; exact row_lows hr25 (Nat.zero_le _), hB21⟩
    ·
     rw [hc46] at h45
     have hp52 : d.k = 7 := by first | simpa using hc46 | simpa [and_assoc] using hc46
     clear hc46
     refine co_true h45 rfl ?_
     refine co_seq ?_
     refine dr_gen (fun x => But (fun q => q = b) w x ∧ Blk x b 50 #[.int .i64 ep, cv, .int .u64 fl, lgv, .int .u64 hz, pv, .int .i64 tp, .int .i64 y0.1, .int .i64 y0.2.1, .int .i64 y0.2.2.1, .int .i64 y0.2.2.2, .int .i64 y1.1, .int .i64 y1.2.1, .int .i64 y1.2.2.1, .int .i64 y1.2.2.2, .int .i64 y2.1, .int .i64 y2.2.1, .int .i64 y2.2.2.1, .int .i64 y2.2.2.2] ∧ Blk x N3 44 #[.int .i64 d.k, .int .i64 d.n, .int .u64 d.t, .int .i64 d.ep, mv, .int .u64 d.fl, lv, .int .i64 d.ec, .int .i64 d.er, ev, .int .u64 d.ets, .int .i64 d.pid, .int .u64 d.pat, .int .i64 d.plf, .int .i64 d.sc, .int .i64 d.sr, .int .i64 d.se, .int .i64 d.sp]) (by kernel_rfl) (fun w53 hg54 => ?_) (fun w53 hg54 => ?_)
     ·
      have hz55 := hg54.size
      have hB56 := fb_new hB21 hg54
      have hk57 := hk23.kept hg54 (by simp)
      have hk58 := hk28.kept hg54 (by simp)
      exact ⟨hB56, hk57, hk58⟩
     have hz59 := hg54.size
     have hB60 := fb_new hB21 hg54
     have hk61 := hk23.kept hg54 (by simp)
     have hk62 := hk28.kept hg54 (by simp)
     refine dk0 0 (v := pt b 0) h45 rfl rfl ⟨hB60, hk61, hk62⟩ fun a63 h63 => ?_; clear h45
     refine dk0 1 (v := pt b 0) h63 rfl rfl ⟨hB60, hk61, hk62⟩ fun a64 h64 => ?_; clear h63
     refine dk0 2 (v := pt b 5) h64 rfl rfl ⟨hB60, hk61, hk62⟩ fun a65 h65 => ?_; clear h64
     refine dk 3 (v := pv) h65 rfl rfl ⟨hB60, hk61, hk62⟩ (fun x hx => (rn_load1 rfl rfl Try.isAgg47 (hx.2.1.cell rfl))) fun a66 h66 => ?_; clear h65
     refine dk0 4 (v := pt N3 1) h66 rfl rfl ⟨hB60, hk61, hk62⟩ fun a67 h67 => ?_; clear h66
     refine dk 5 (v := .int .i64 d.n) h67 rfl rfl ⟨hB60, hk61, hk62⟩ (fun x hx => (rn_load1 rfl rfl Try.isAgg3 (hx.2.2.cell rfl))) fun a68 h68 => ?_; clear h67
     have hr77 := row_kept_new hr25 hg54
     refine d1 6 h68 rfl rfl (op_call (args := #[pv, .int .i64 d.n]) (R := fun res xw => ∃ u : Value, res = .tuple #[u, .int .i64 ((freeP pn d.n).2)] ∧ xw.ownsRow w53.heap.size 40 3 u ((freeP pn d.n).1).length (((freeP pn d.n).1).flatMap pinE) ∧ Below w53.heap.size w53 xw) rfl rfl rfl (by kernel_rfl) (by kernel_rfl) (Try.call31 _ _) (rleaseFree_any pv pn d.n (freeP pn d.n).1 (freeP pn d.n).2 w53 (row_sl hr77 pinE_len) (by omega) rfl) (by rintro e x ⟨u, rfl, h⟩; exact ⟨_, rfl, u, rfl, h⟩)) ?_ ?_; clear h68
     ·
      rintro _ w70 ⟨u71, rfl, hr72, hb73⟩
      have hz78 := hb73.size
      have hle79 := freeP_le pn d.n
      have hB80 := fb_call hB60 hb73
      have hk81 := hk61.below hb73
      have hk82 := hk62.below hb73
      exact ⟨hB80, hk81, hk82⟩
     rintro _ w70 a69 ⟨u71, rfl, hr72, hb73⟩ h69
     have hz78 := hb73.size
     have hle79 := freeP_le pn d.n
     have hB80 := fb_call hB60 hb73
     have hk81 := hk61.below hb73
     have hk82 := hk62.below hb73
     refine dk0 7 (v := .tuple #[u71, .int .i64 ((freeP pn d.n).2)]) h69 rfl rfl ⟨hB80, hk81, hk82⟩ fun a83 h83 => ?_; clear h69
     refine dk0 8 (v := u71) h83 rfl rfl ⟨hB80, hk81, hk82⟩ fun a84 h84 => ?_; clear h83
     refine dk0 9 (v := .int .i64 ((freeP pn d.n).2)) h84 rfl rfl ⟨hB80, hk81, hk82⟩ fun a85 h85 => ?_; clear h84
     refine dk0 10 (v := u71) h85 rfl rfl ⟨hB80, hk81, hk82⟩ fun a86 h86 => ?_; clear h85
     refine dk0 11 (v := .int .i64 ((freeP pn d.n).2)) h86 rfl rfl ⟨hB80, hk81, hk82⟩ fun a87 h87 => ?_; clear h86
     refine dr_done (by kernel_rfl) ?_
     refine co_then ?_
     refine co_seq ?_
     refine co_seq ?_
     refine co_reg ?_
     refine pk0 (v := .int .i64 ((freeP pn d.n).2)) h87 rfl fun a88 h88 => ?_; clear h87
     refine pk0 (v := .bool ((freeP pn d.n).2 == 0)) h88 rfl fun a89 h89 => ?_; clear h88
     refine pl_nil ?_
     refine co_then ?_
     cases hc90 : ((freeP pn d.n).2 == 0)
     ·
      rw [hc90] at h89
      have hp91 : ¬ ((freeP pn d.n).2 = 0) := by first | simpa using hc90 | simpa [and_assoc] using hc90
      clear hc90
      refine co_false h89 rfl ?_
      refine wp_skip ?_
      refine co_then ?_
      refine dr_gen (fun x => But (fun q => q = b) w x ∧ Blk x N3 44 #[.int .i64 d.k, .int .i64 d.n, .int .u64 d.t, .int .i64 d.ep, mv, .int .u64 d.fl, lv, .int .i64 d.ec, .int .i64 d.er, ev, .int .u64 d.ets, .int .i64 d.pid, .int .u64 d.pat, .int .i64 d.plf, .int .i64 d.sc, .int .i64 d.sr, .int .i64 d.se, .int .i64 d.sp]) (by kernel_rfl) (fun w92 hg93 => ?_) (fun w92 hg93 => ?_)
      ·
       have hz94 := hg93.size
       have hB95 := fb_new hB80 hg93
       have hk96 := hk82.kept hg93 (by simp)
       exact ⟨hB95, hk96⟩
      have hz97 := hg93.size
      have hB98 := fb_new hB80 hg93
      have hk99 := hk82.kept hg93 (by simp)
      refine dk0 0 (v := pt b 0) h89 rfl rfl ⟨hB98, hk99⟩ fun a100 h100 => ?_; clear h89
      refine dk0 1 (v := pt b 0) h100 rfl rfl ⟨hB98, hk99⟩ fun a101 h101 => ?_; clear h100
      refine dk0 2 (v := pt b 0) h101 rfl rfl ⟨hB98, hk99⟩ fun a102 h102 => ?_; clear h101
      refine dk0 3 (v := pt b 6) h102 rfl rfl ⟨hB98, hk99⟩ fun a103 h103 => ?_; clear h102
      refine dk0 5 (v := pt N3 1) h103 rfl rfl ⟨hB98, hk99⟩ fun a104 h104 => ?_; clear h103
      refine dk 6 (v := .int .i64 d.n) h104 rfl rfl ⟨hB98, hk99⟩ (fun x hx => (rn_load1 rfl rfl Try.isAgg3 (hx.2.cell rfl))) fun a105 h105 => ?_; clear h104
      refine dr_many [4] (by kernel_rfl) (by simp) ⟨?_, trivial⟩
      ·
       have hk106 := hk81.kept hg93 (by simp)
       refine dr_opVal (i := 4) (v := .int .i64 tp) h105 rfl rfl rfl rfl (by kernel_rfl) rfl (rn_load1 rfl rfl Try.isAgg3 (hk106.cell rfl)) ⟨hB98, hk99⟩ (fun a107 h107 => ?_); clear h105
       have hmm108 := mxI_p tp d.n
       refine dk0 7 (v := .int .i64 (mxI tp d.n)) h107 rfl rfl ⟨hB98, hk99⟩ fun a109 h109 => ?_; clear h107
       refine dk0 8 (v := pt b 0) h109 rfl rfl ⟨hB98, hk99⟩ fun a110 h110 => ?_; clear h109
       refine dk0 9 (v := pt b 6) h110 rfl rfl ⟨hB98, hk99⟩ fun a111 h111 => ?_; clear h110
       refine d1D 10 h111 rfl rfl (op_store1 rfl rfl rfl rfl Try.sizeOf3 hk106 rfl) ?_ ?_; clear h111
       ·
        rintro _ w113 ⟨hk114, hz115, hg116⟩
        have hk114' : Blk w113 b 50 #[.int .i64 ep, cv, .int .u64 fl, lgv, .int .u64 hz, pv, .int .i64 (mxI tp d.n), .int .i64 y0.1, .int .i64 y0.2.1, .int .i64 y0.2.2.1, .int .i64 y0.2.2.2, .int .i64 y1.1, .int .i64 y1.2.1, .int .i64 y1.2.2.1, .int .i64 y1.2.2.2, .int .i64 y2.1, .int .i64 y2.2.1, .int .i64 y2.2.2.1, .int .i64 y2.2.2.2] := hk114; clear hk114
        have hz117 := hg116.size
        have hB118 := fb_at hB98 hg116 (fun hlt => by first | (exfalso; omega) | (simp; done) | simp_all)
        have hk119 := hk99.kept hg116 (by simp; omega)
        exact ⟨hB118, hk119⟩
       rintro _ w113 a112 ⟨hk114, hz115, hg116⟩ h112
       have hk114' : Blk w113 b 50 #[.int .i64 ep, cv, .int .u64 fl, lgv, .int .u64 hz, pv, .int .i64 (mxI tp d.n), .int .i64 y0.1, .int .i64 y0.2.1, .int .i64 y0.2.2.1, .int .i64 y0.2.2.2, .int .i64 y1.1, .int .i64 y1.2.1, .int .i64 y1.2.2.1, .int .i64 y1.2.2.2, .int .i64 y2.1, .int .i64 y2.2.1, .int .i64 y2.2.2.1, .int .i64 y2.2.2.2] := hk114; clear hk114
       have hz117 := hg116.size
       refine dr_done (by kernel_rfl) ?_
       refine co_blockN ?_
       refine co_then ?_
       refine co_seq ?_
       refine co_reg ?_
       refine pk0 (v := .int .i64 0) h112 rfl fun a118 h118 => ?_; clear h112
       refine pl_nil ?_
       refine co_then ?_
       refine wp_ret ?_
       refine co_ret1 h118 rfl rfl ?_
       have hr119 := row_kept_new hr77 (below_grown hb73)
       have hr120 := row_kept_new hr119 hg93
       have hr121 := row_kept_at hr120 hg116 (own_neT hr120 hk106 (by decide))
       have hB122 := fb_at hB98 hg116 (fun hlt => by first | (exfalso; omega) | (simp; done) | simp_all)
       have hA : docF pn hz tp d = (0, hz, pn, mxI tp d.n) := by unfold docF; (repeat (first | rw [if_pos (by omega)] | rw [if_neg (by omega)]))
       exact ⟨pv, by rw [hA], by rw [hA]; exact hk114', by rw [hA]; exact row_lows hr121 (Nat.zero_le _), hB122⟩
     ·
      rw [hc90] at h89
      have hp123 : (freeP pn d.n).2 = 0 := by first | simpa using hc90 | simpa [and_assoc] using hc90
      clear hc90
      refine co_true h89 rfl ?_
      refine co_reg ?_
      refine pk0 (v := pt b 0) h89 rfl fun a124 h124 => ?_; clear h89
      refine pk0 (v := u71) h124 rfl fun a125 h125 => ?_; clear h124
      refine pk0 (v := pt b 0) h125 rfl fun a126 h126 => ?_; clear h125
      refine pk0 (v := pt b 5) h126 rfl fun a127 h127 => ?_; clear h126
      refine pwD h127 rfl (op_store1 rfl rfl rfl (row_one hr72) Try.sizeOf47 hk81 rfl) ?_; clear h127
      rintro _ w129 a128 ⟨hk130, hz131, hg132⟩ h128
      have hk130' : Blk w129 b 50 #[.int .i64 ep, cv, .int .u64 fl, lgv, .int .u64 hz, u71, .int .i64 tp, .int .i64 y0.1, .int .i64 y0.2.1, .int .i64 y0.2.2.1, .int .i64 y0.2.2.2, .int .i64 y1.1, .int .i64 y1.2.1, .int .i64 y1.2.2.1, .int .i64 y1.2.2.2, .int .i64 y2.1, .int .i64 y2.2.1, .int .i64 y2.2.2.1, .int .i64 y2.2.2.2] := hk130; clear hk130
      have hz133 := hg132.size
      refine pl_nil ?_
      refine co_then ?_
      refine dr_gen (fun x => But (fun q => q = b) w x ∧ Blk x N3 44 #[.int .i64 d.k, .int .i64 d.n, .int .u64 d.t, .int .i64 d.ep, mv, .int .u64 d.fl, lv, .int .i64 d.ec, .int .i64 d.er, ev, .int .u64 d.ets, .int .i64 d.pid, .int .u64 d.pat, .int .i64 d.plf, .int .i64 d.sc, .int .i64 d.sr, .int .i64 d.se, .int .i64 d.sp]) (by kernel_rfl) (fun w134 hg135 => ?_) (fun w134 hg135 => ?_)
      ·
       have hz136 := hg135.size
       have hB137 := fb_at hB80 hg132 (fun hlt => by first | (exfalso; omega) | (simp; done) | simp_all)
       have hB138 := fb_new hB137 hg135
       have hk139 := hk82.kept hg132 (by simp; omega)
       have hk140 := hk139.kept hg135 (by simp)
       exact ⟨hB138, hk140⟩
      have hz141 := hg135.size
      have hB142 := fb_at hB80 hg132 (fun hlt => by first | (exfalso; omega) | (simp; done) | simp_all)
      have hB143 := fb_new hB142 hg135
      have hk144 := hk82.kept hg132 (by simp; omega)
      have hk145 := hk144.kept hg135 (by simp)
      refine dk0 0 (v := pt b 0) h128 rfl rfl ⟨hB143, hk145⟩ fun a146 h146 => ?_; clear h128
      refine dk0 1 (v := pt b 0) h146 rfl rfl ⟨hB143, hk145⟩ fun a147 h147 => ?_; clear h146
      refine dk0 2 (v := pt b 0) h147 rfl rfl ⟨hB143, hk145⟩ fun a148 h148 => ?_; clear h147
      refine dk0 3 (v := pt b 6) h148 rfl rfl ⟨hB143, hk145⟩ fun a149 h149 => ?_; clear h148
      refine dk0 5 (v := pt N3 1) h149 rfl rfl ⟨hB143, hk145⟩ fun a150 h150 => ?_; clear h149
      refine dk 6 (v := .int .i64 d.n) h150 rfl rfl ⟨hB143, hk145⟩ (fun x hx => (rn_load1 rfl rfl Try.isAgg3 (hx.2.cell rfl))) fun a151 h151 => ?_; clear h150
      refine dr_many [4] (by kernel_rfl) (by simp) ⟨?_, trivial⟩
      ·
       have hk152 := hk130'.kept hg135 (by simp)
       refine dr_opVal (i := 4) (v := .int .i64 tp) h151 rfl rfl rfl rfl (by kernel_rfl) rfl (rn_load1 rfl rfl Try.isAgg3 (hk152.cell rfl)) ⟨hB143, hk145⟩ (fun a153 h153 => ?_); clear h151
       have hmm154 := mxI_p tp d.n
       refine dk0 7 (v := .int .i64 (mxI tp d.n)) h153 rfl rfl ⟨hB143, hk145⟩ fun a155 h155 => ?_; clear h153
       refine dk0 8 (v := pt b 0) h155 rfl rfl ⟨hB143, hk145⟩ fun a156 h156 => ?_; clear h155
       refine dk0 9 (v := pt b 6) h156 rfl rfl ⟨hB143, hk145⟩ fun a157 h157 => ?_; clear h156
       refine d1D 10 h157 rfl rfl (op_store1 rfl rfl rfl rfl Try.sizeOf3 hk152 rfl) ?_ ?_; clear h157
       ·
        rintro _ w159 ⟨hk160, hz161, hg162⟩
        have hk160' : Blk w159 b 50 #[.int .i64 ep, cv, .int .u64 fl, lgv, .int .u64 hz, u71, .int .i64 (mxI tp d.n), .int .i64 y0.1, .int .i64 y0.2.1, .int .i64 y0.2.2.1, .int .i64 y0.2.2.2, .int .i64 y1.1, .int .i64 y1.2.1, .int .i64 y1.2.2.1, .int .i64 y1.2.2.2, .int .i64 y2.1, .int .i64 y2.2.1, .int .i64 y2.2.2.1, .int .i64 y2.2.2.2] := hk160; clear hk160
        have hz163 := hg162.size
        have hB164 := fb_at hB143 hg162 (fun hlt => by first | (exfalso; omega) | (simp; done) | simp_all)
        have hk165 := hk145.kept hg162 (by simp; omega)
        exact ⟨hB164, hk165⟩
       rintro _ w159 a158 ⟨hk160, hz161, hg162⟩ h158
       have hk160' : Blk w159 b 50 #[.int .i64 ep, cv, .int .u64 fl, lgv, .int .u64 hz, u71, .int .i64 (mxI tp d.n), .int .i64 y0.1, .int .i64 y0.2.1, .int .i64 y0.2.2.1, .int .i64 y0.2.2.2, .int .i64 y1.1, .int .i64 y1.2.1, .int .i64 y1.2.2.1, .int .i64 y1.2.2.2, .int .i64 y2.1, .int .i64 y2.2.1, .int .i64 y2.2.2.1, .int .i64 y2.2.2.2] := hk160; clear hk160
       have hz163 := hg162.size
       refine dr_done (by kernel_rfl) ?_
       refine co_blockN ?_
       refine co_then ?_
       refine co_seq ?_
       refine co_reg ?_
       refine pk0 (v := .int .i64 0) h158 rfl fun a164 h164 => ?_; clear h158
       refine pl_nil ?_
       refine co_then ?_
       refine wp_ret ?_
       refine co_ret1 h164 rfl rfl ?_
       have hr165 := row_kept_at hr72 hg132 (own_neT hr72 hk81 (by decide))
       have hr166 := row_kept_new hr165 hg135
       have hr167 := row_kept_at hr166 hg162 (own_neT hr166 hk152 (by decide))
       have hB168 := fb_at hB143 hg162 (fun hlt => by first | (exfalso; omega) | (simp; done) | simp_all)
       have hA : docF pn hz tp d = (0, hz, (freeP pn d.n).1, mxI tp d.n) := by unfold docF; (repeat (first | rw [if_pos (by omega)] | rw [if_neg (by omega)]))
       exact ⟨u71, by rw [hA], by rw [hA]; exact hk160', by rw [hA]; exact row_lows hr167 (Nat.zero_le _), hB168⟩
   ·
    rw [hc42] at h41
    have hp169 : d.k = 6 := by first | simpa using hc42 | simpa [and_assoc] using hc42
    clear hc42
    refine co_true h41 rfl ?_
    refine co_seq ?_
    refine co_reg ?_
    refine pk0 (v := pt b 0) h41 rfl fun a170 h170 => ?_; clear h41
    refine pk0 (v := pt N3 11) h170 rfl fun a171 h171 => ?_; clear h170
    refine pk (v := .agg #[.int .i64 d.pid, .int .u64 d.pat, .int .i64 d.plf]) h171 rfl (rn_loadN rfl rfl Try.underlying40 rfl (by kernel_rfl) (blk_part hk28 11 (by rfl))) fun a172 h172 => ?_; clear h171
    refine pw h172 rfl (op_call (args := #[pt b 0, .agg #[.int .i64 d.pid, .int .u64 d.pat, .int .i64 d.plf]]) (R := fun res xw => ∃ pv2 : Value, res = .int .i64 ((docP pn hz tp d.pid d.pat).1) ∧ Blk xw b 50 #[.int .i64 ep, cv, .int .u64 fl, lgv, .int .u64 hz, pv2, .int .i64 ((docP pn hz tp d.pid d.pat).2.2), .int .i64 y0.1, .int .i64 y0.2.1, .int .i64 y0.2.2.1, .int .i64 y0.2.2.2, .int .i64 y1.1, .int .i64 y1.2.1, .int .i64 y1.2.2.1, .int .i64 y1.2.2.2, .int .i64 y2.1, .int .i64 y2.2.1, .int .i64 y2.2.2.1, .int .i64 y2.2.2.2] ∧ xw.ownsRow 0 40 3 pv2 ((docP pn hz tp d.pid d.pat).2.1).length (((docP pn hz tp d.pid d.pat).2.1).flatMap pinE) ∧ But (fun q => q = b) w13 xw) rfl rfl rfl (by kernel_rfl) (by kernel_rfl) (Try.call30 _ _) (dcPin_any b ep cv fl lgv hz pv pn tp y0 y1 y2 d.pid d.pat d.plf w13 hk23 (row_lows hr25 (Nat.zero_le _)) (by omega)) (by rintro e x ⟨pv2, rfl, hq176, hq177, hb178⟩; exact ⟨_, rfl, ⟨pv2, rfl, hq176, hq177, hb178⟩⟩)) ?_; clear h172
    rintro _ w174 a173 ⟨pv2175, rfl, hq176, hq177, hb178⟩ h173
    have hz179 := hb178.size
    have hl180 := hq176.lt
    refine pk0 (v := .int .i64 ((docP pn hz tp d.pid d.pat).1)) h173 rfl fun a181 h181 => ?_; clear h173
    refine pl_nil ?_
    refine co_then ?_
    refine wp_ret ?_
    refine co_blockR ?_
    refine co_thenR ?_
    refine co_ret1 h181 rfl rfl ?_
    have hB182 := fb_foot hB21 hb178 (fun i hlt hS => by (try simp at hS); first | omega | (simp; omega) | simp_all)
    have hA : docF pn hz tp d = ((docP pn hz tp d.pid d.pat).1, hz, (docP pn hz tp d.pid d.pat).2.1, (docP pn hz tp d.pid d.pat).2.2) := by unfold docF; (repeat (first | rw [if_pos (by omega)] | rw [if_neg (by omega)]))
    exact ⟨pv2175, by rw [hA], by rw [hA]; exact hq176, by rw [hA]; exact row_lows hq177 (Nat.zero_le _), hB182⟩
  ·
   rw [hc38] at h37
   have hp183 : d.k = 4 := by first | simpa using hc38 | simpa [and_assoc] using hc38
   clear hc38
   refine co_true h37 rfl ?_
   refine co_seq ?_
   refine co_seq ?_
   refine dr_eq (by kernel_rfl) (fun w184 hg185 => ?_)
   have hz186 := hg185.size
   refine dk0 0 (v := pt N3 2) h37 rfl rfl rfl fun a187 h187 => ?_; clear h37
   have hk188 := hk28.kept hg185 (by simp)
   refine dk 1 (v := .int .u64 d.t) h187 rfl rfl rfl (fun x hx => by subst hx; exact (rn_load1 rfl rfl Try.isAgg29 (hk188.cell rfl))) fun a189 h189 => ?_; clear h187
   refine dk0 2 (v := pt b 0) h189 rfl rfl rfl fun a190 h190 => ?_; clear h189
   refine dk0 3 (v := pt b 0) h190 rfl rfl rfl fun a191 h191 => ?_; clear h190
   refine dk0 4 (v := pt b 4) h191 rfl rfl rfl fun a192 h192 => ?_; clear h191
   have hk193 := hk23.kept hg185 (by simp)
   refine dk 5 (v := .int .u64 hz) h192 rfl rfl rfl (fun x hx => by subst hx; exact (rn_load1 rfl rfl Try.isAgg29 (hk193.cell rfl))) fun a194 h194 => ?_; clear h192
   refine dk0 6 (v := .bool (decide (d.t < hz))) h194 rfl rfl rfl fun a195 h195 => ?_; clear h194
   refine dr_done (by kernel_rfl) ?_
   refine co_then ?_
   have hB197 := fb_new hB21 hg185
   cases hc196 : (decide (d.t < hz))
   ·
    rw [hc196] at h195
    have hp198 : ¬ (d.t < hz) := of_decide_eq_false hc196
    clear hc196
    refine co_false h195 rfl ?_
    refine wp_skip ?_
    refine co_then ?_
    refine co_reg ?_
    refine pk0 (v := pt b 0) h195 rfl fun a199 h199 => ?_; clear h195
    refine pk0 (v := pt N3 2) h199 rfl fun a200 h200 => ?_; clear h199
    refine pk (v := .int .u64 d.t) h200 rfl (rn_load1 rfl rfl Try.isAgg29 (hk188.cell rfl)) fun a201 h201 => ?_; clear h200
    refine pk0 (v := pt b 0) h201 rfl fun a202 h202 => ?_; clear h201
    refine pk0 (v := pt b 4) h202 rfl fun a203 h203 => ?_; clear h202
    refine pwD h203 rfl (op_store1 rfl rfl rfl rfl Try.sizeOf29 hk193 rfl) ?_; clear h203
    rintro _ w205 a204 ⟨hk206, hz207, hg208⟩ h204
    have hk206' : Blk w205 b 50 #[.int .i64 ep, cv, .int .u64 fl, lgv, .int .u64 d.t, pv, .int .i64 tp, .int .i64 y0.1, .int .i64 y0.2.1, .int .i64 y0.2.2.1, .int .i64 y0.2.2.2, .int .i64 y1.1, .int .i64 y1.2.1, .int .i64 y1.2.2.1, .int .i64 y1.2.2.2, .int .i64 y2.1, .int .i64 y2.2.1, .int .i64 y2.2.2.1, .int .i64 y2.2.2.2] := hk206; clear hk206
    have hz209 := hg208.size
    refine pl_nil ?_
    refine co_blockN ?_
    refine co_then ?_
    refine co_seq ?_
    refine co_reg ?_
    refine pk0 (v := .int .i64 0) h204 rfl fun a210 h210 => ?_; clear h204
    refine pl_nil ?_
    refine co_then ?_
    refine wp_ret ?_
    refine co_ret1 h210 rfl rfl ?_
    have hr211 := row_kept_new hr25 hg185
    have hr212 := row_kept_at hr211 hg208 (own_neT hr211 hk193 (by decide))
    have hB213 := fb_at hB197 hg208 (fun hlt => by first | (exfalso; omega) | (simp; done) | simp_all)
    have hA : docF pn hz tp d = (0, d.t, pn, tp) := by unfold docF; (repeat (first | rw [if_pos (by omega)] | rw [if_neg (by omega)]))
    exact ⟨pv, by rw [hA], by rw [hA]; exact hk206', by rw [hA]; exact row_lows hr212 (Nat.zero_le _), hB213⟩
   ·
    rw [hc196] at h195
    have hp214 : d.t < hz := of_decide_eq_true hc196
    clear hc196
    refine co_true h195 rfl ?_
    refine co_seq ?_
    refine co_reg ?_
    refine pk0 (v := .int .i64 18) h195 rfl fun a215 h215 => ?_; clear h195
    refine pl_nil ?_
    refine co_then ?_
    refine wp_ret ?_
    refine co_thenR ?_
    refine co_blockR ?_
    refine co_thenR ?_
    refine co_ret1 h215 rfl rfl ?_
    have hr216 := row_kept_new hr25 hg185
    have hA : docF pn hz tp d = (18, hz, pn, tp) := by unfold docF; (repeat (first | rw [if_pos (by omega)] | rw [if_neg (by omega)]))
    exact ⟨pv, by rw [hA], by rw [hA]; exact hk193, by rw [hA]; exact row_lows hr216 (Nat.zero_le _), hB197⟩
 ·
  rw [hc20] at h19
  have hp217 : chkN d ≠ 0 := by first | simpa using hc20 | simpa [and_assoc] using hc20
  clear hc20
  refine co_true h19 rfl ?_
  refine co_seq ?_
  refine co_reg ?_
  refine pk0 (v := .int .i64 (chkN d)) h19 rfl fun a218 h218 => ?_; clear h19
  refine pk0 (v := .int .i64 (chkN d)) h218 rfl fun a219 h219 => ?_; clear h218
  refine pl_nil ?_
  refine co_then ?_
  refine wp_ret ?_
  refine co_thenR ?_
  refine co_ret1 h219 rfl rfl ?_
  have hA : docF pn hz tp d = (chkN d, hz, pn, tp) := by unfold docF; (repeat (first | rw [if_pos (by omega)] | rw [if_neg (by omega)]))
  exact ⟨pv, by rw [hA], by rw [hA]; exact hk23, by rw [hA]; exact row_lows hr25 (Nat.zero_le _), hB21⟩
set_option maxRecDepth 100000 in
set_option maxHeartbeats 1600000 in
theorem dcApplyE (b : Nat) (ep : Int) (cv : Value) (fl : Int) (lgv : Value) (hz : Int) (pv : Value) (tp : Int) (y0 : AnT) (y1 : AnT) (y2 : AnT) (d : NoteD) (mv : Value) (lv : Value) (ev : Value) (w : World) (hb : Blk w b 50 #[.int .i64 ep, cv, .int .u64 fl, lgv, .int .u64 hz, pv, .int .i64 tp, .int .i64 y0.1, .int .i64 y0.2.1, .int .i64 y0.2.2.1, .int .i64 y0.2.2.2, .int .i64 y1.1, .int .i64 y1.2.1, .int .i64 y1.2.2.1, .int .i64 y1.2.2.2, .int .i64 y2.1, .int .i64 y2.2.1, .int .i64 y2.2.2.1, .int .i64 y2.2.2.2]) (hm : SliceOf memE 2 w mv d.ms) (hg : SliceOf (intE .i64) 1 w lv d.lg) (he : SliceOf opE 3 w ev d.el) (hR : NoteR d) (hbm : d.ms ≠ [] → ∀ k, mv.ownBlock = some k → ¬ k = b) (hbg : d.lg ≠ [] → ∀ k, lv.ownBlock = some k → ¬ k = b) (hbe : d.el ≠ [] → ∀ k, ev.ownBlock = some k → ¬ k = b) (hch : chkN d ≠ 0) :
    Calls Try.prog 10 #[pt b 0, .agg #[.int .i64 d.k, .int .i64 d.n, .int .u64 d.t, .int .i64 d.ep, mv, .int .u64 d.fl, lv, .int .i64 d.ec, .int .i64 d.er, ev, .int .u64 d.ets, .int .i64 d.pid, .int .u64 d.pat, .int .i64 d.plf, .int .i64 d.sc, .int .i64 d.sr, .int .i64 d.se, .int .i64 d.sp]] w fun e w' => e = .returned (.int .i64 (chkN d)) ∧ Blk w' b 50 #[.int .i64 ep, cv, .int .u64 fl, lgv, .int .u64 hz, pv, .int .i64 tp, .int .i64 y0.1, .int .i64 y0.2.1, .int .i64 y0.2.2.1, .int .i64 y0.2.2.2, .int .i64 y1.1, .int .i64 y1.2.1, .int .i64 y1.2.2.1, .int .i64 y1.2.2.2, .int .i64 y2.1, .int .i64 y2.2.1, .int .i64 y2.2.2.1, .int .i64 y2.2.2.2] ∧ But (fun q => q = b) w w' := by
 have hrng := hR.rng
 have hB0 := But.refl (fun q => q = b) w
 have hl_hb := hb.lt
 have hl_hm := sl_len hm
 have hl_hg := sl_len hg
 have hl_he := sl_len he
 refine co_enter (n := 128) Try.func10 rfl rfl rfl [(0, pt b 0), (1, .agg #[.int .i64 d.k, .int .i64 d.n, .int .u64 d.t, .int .i64 d.ep, mv, .int .u64 d.fl, lv, .int .i64 d.ec, .int .i64 d.er, ev, .int .u64 d.ets, .int .i64 d.pid, .int .u64 d.pat, .int .i64 d.plf, .int .i64 d.sc, .int .i64 d.sr, .int .i64 d.se, .int .i64 d.sp])] rfl (fun a h0 => ?_)
 refine co_seq ?_
 refine co_reg ?_
 refine pw h0 rfl (op_new (v := fun N => pt N 0) (T := 44) (cs := #[.int .i64 d.k, .int .i64 d.n, .int .u64 d.t, .int .i64 d.ep, mv, .int .u64 d.fl, lv, .int .i64 d.ec, .int .i64 d.er, ev, .int .u64 d.ets, .int .i64 d.pid, .int .u64 d.pat, .int .i64 d.plf, .int .i64 d.sc, .int .i64 d.sr, .int .i64 d.se, .int .i64 d.sp]) (by kernel_rfl) (by kernel_rfl) (by kernel_rfl)) ?_; clear h0
 rintro _ w2 a1 ⟨N3, rfl, hN6, hz7, hk5, hg4⟩ h1
 have hz8 := hg4.size
 try dsimp only at h1
 refine pk0 (v := .int .i64 0) h1 rfl fun a9 h9 => ?_; clear h1
 refine pl_nil ?_
 refine co_then ?_
 refine co_seq ?_
 refine co_seq ?_
 refine co_reg ?_
 refine pk (v := .agg #[.int .i64 d.k, .int .i64 d.n, .int .u64 d.t, .int .i64 d.ep, mv, .int .u64 d.fl, lv, .int .i64 d.ec, .int .i64 d.er, ev, .int .u64 d.ets, .int .i64 d.pid, .int .u64 d.pat, .int .i64 d.plf, .int .i64 d.sc, .int .i64 d.sr, .int .i64 d.se, .int .i64 d.sp]) h9 rfl (rn_loadN rfl rfl Try.underlying44 rfl (by kernel_rfl) hk5.all) fun a10 h10 => ?_; clear h9
 have hB13 := fb_new hB0 hg4
 refine pw h10 rfl (op_call (args := #[.agg #[.int .i64 d.k, .int .i64 d.n, .int .u64 d.t, .int .i64 d.ep, mv, .int .u64 d.fl, lv, .int .i64 d.ec, .int .i64 d.er, ev, .int .u64 d.ets, .int .i64 d.pid, .int .u64 d.pat, .int .i64 d.plf, .int .i64 d.sc, .int .i64 d.sr, .int .i64 d.se, .int .i64 d.sp]]) (R := fun res xw => res = .int .i64 (chkN d) ∧ Below w2.heap.size w2 xw) rfl rfl rfl (by kernel_rfl) (by kernel_rfl) (Try.call27 _ _) (rnCheck_any d mv lv ev w2 (sl_butS hm hB13 hbm) (sl_butS hg hB13 hbg) (sl_butS he hB13 hbe) hR) (by rintro e x ⟨rfl, hb14⟩; exact ⟨_, rfl, ⟨rfl, hb14⟩⟩)) ?_; clear h10
 rintro _ w12 a11 ⟨rfl, hb14⟩ h11
 have hz15 := hb14.size
 refine pk0 (v := .int .i64 (chkN d)) h11 rfl fun a16 h16 => ?_; clear h11
 refine pl_nil ?_
 refine co_then ?_
 refine co_seq ?_
 refine co_reg ?_
 refine pk0 (v := .int .i64 (chkN d)) h16 rfl fun a17 h17 => ?_; clear h16
 refine pk0 (v := .bool (chkN d != 0)) h17 rfl fun a18 h18 => ?_; clear h17
 refine pl_nil ?_
 refine co_then ?_
 have hc19 : (chkN d != 0) = true := by first | (simp; done) | (simp; omega) | exact beq_false_of_ne (by omega) | exact beq_iff_eq.2 (by omega)
 rw [hc19] at h18; clear hc19
 refine co_true h18 rfl ?_
 refine co_seq ?_
 refine co_reg ?_
 refine pk0 (v := .int .i64 (chkN d)) h18 rfl fun a20 h20 => ?_; clear h18
 refine pk0 (v := .int .i64 (chkN d)) h20 rfl fun a21 h21 => ?_; clear h20
 refine pl_nil ?_
 refine co_then ?_
 refine wp_ret ?_
 refine co_thenR ?_
 refine co_ret1 h21 rfl rfl ?_
 have hk22 := hb.kept hg4 (by simp)
 have hk23 := hk22.below hb14
 have hB24 := fb_call hB13 hb14
 exact ⟨rfl, hk23, hB24⟩
end Go.Proofs.Ytnjbnndpbegkdaa

/- The document's master state: Apply of a configuration, of one who is trusted. Conditions: at most 20 members, 100 trusted. -/
namespace Go.Proofs.Ytnjbnndpbegkdaa
open Go.RowKit Go.PlainAid
set_option linter.unusedVariables false
set_option linter.unusedSimpArgs false

set_option maxRecDepth 100000 in
set_option maxHeartbeats 1600000 in
theorem dcApply1 (b : Nat) (ep : Int) (cv : Value) (fl : Int) (lgv : Value) (hz : Int) (pv : Value) (tp : Int) (y0 : AnT) (y1 : AnT) (y2 : AnT) (ms : List MemT) (lg : List Int) (d : NoteD) (mv : Value) (lv : Value) (ev : Value) (w : World) (hb : Blk w b 50 #[.int .i64 ep, cv, .int .u64 fl, lgv, .int .u64 hz, pv, .int .i64 tp, .int .i64 y0.1, .int .i64 y0.2.1, .int .i64 y0.2.2.1, .int .i64 y0.2.2.2, .int .i64 y1.1, .int .i64 y1.2.1, .int .i64 y1.2.2.1, .int .i64 y1.2.2.2, .int .i64 y2.1, .int .i64 y2.2.1, .int .i64 y2.2.2.1, .int .i64 y2.2.2.2]) (hcvr : w.ownsRow 0 102 2 cv ms.length (ms.flatMap memE)) (hlgr : w.ownsRow 0 3 1 lgv lg.length (lg.flatMap (intE .i64))) (hm : SliceOf memE 2 w mv d.ms) (hg : SliceOf (intE .i64) 1 w lv d.lg) (he : SliceOf opE 3 w ev d.el) (hR : NoteR d) (hbm : d.ms ≠ [] → ∀ k, mv.ownBlock = some k → ¬ k = b) (hbg : d.lg ≠ [] → ∀ k, lv.ownBlock = some k → ¬ k = b) (hbe : d.el ≠ [] → ∀ k, ev.ownBlock = some k → ¬ k = b) (hkx : d.k = 1) (hln : ms.length ≤ 20 ∧ lg.length ≤ 100) :
    Calls Try.prog 10 #[pt b 0, .agg #[.int .i64 d.k, .int .i64 d.n, .int .u64 d.t, .int .i64 d.ep, mv, .int .u64 d.fl, lv, .int .i64 d.ec, .int .i64 d.er, ev, .int .u64 d.ets, .int .i64 d.pid, .int .u64 d.pat, .int .i64 d.plf, .int .i64 d.sc, .int .i64 d.sr, .int .i64 d.se, .int .i64 d.sp]] w fun e w' => ∃ (cv2 : Value) (lv2 : Value), e = .returned (.int .i64 ((doc1 ep fl ms lg d).1)) ∧ Blk w' b 50 #[.int .i64 ((doc1 ep fl ms lg d).2.1), cv2, .int .u64 ((doc1 ep fl ms lg d).2.2.1), lv2, .int .u64 hz, pv, .int .i64 tp, .int .i64 y0.1, .int .i64 y0.2.1, .int .i64 y0.2.2.1, .int .i64 y0.2.2.2, .int .i64 y1.1, .int .i64 y1.2.1, .int .i64 y1.2.2.1, .int .i64 y1.2.2.2, .int .i64 y2.1, .int .i64 y2.2.1, .int .i64 y2.2.2.1, .int .i64 y2.2.2.2] ∧ w'.ownsRow 0 102 2 cv2 ((doc1 ep fl ms lg d).2.2.2.1).length (((doc1 ep fl ms lg d).2.2.2.1).flatMap memE) ∧ w'.ownsRow 0 3 1 lv2 ((doc1 ep fl ms lg d).2.2.2.2).length (((doc1 ep fl ms lg d).2.2.2.2).flatMap (intE .i64)) ∧ But (fun q => q = b) w w' := by
 have hrng := hR.rng
 have hB0 := But.refl (fun q => q = b) w
 have hl_hb := hb.lt
 have hl_hm := sl_len hm
 have hl_hg := sl_len hg
 have hl_he := sl_len he
 have hu_cv := fun i (hi : Value.ownBlock cv = some i) => (hcvr.lt i hi).2
 have hu_lgv := fun i (hi : Value.ownBlock lgv = some i) => (hlgr.lt i hi).2
 refine co_enter (n := 128) Try.func10 rfl rfl rfl [(0, pt b 0), (1, .agg #[.int .i64 d.k, .int .i64 d.n, .int .u64 d.t, .int .i64 d.ep, mv, .int .u64 d.fl, lv, .int .i64 d.ec, .int .i64 d.er, ev, .int .u64 d.ets, .int .i64 d.pid, .int .u64 d.pat, .int .i64 d.plf, .int .i64 d.sc, .int .i64 d.sr, .int .i64 d.se, .int .i64 d.sp])] rfl (fun a h0 => ?_)
 refine co_seq ?_
 refine co_reg ?_
 refine pw h0 rfl (op_new (v := fun N => pt N 0) (T := 44) (cs := #[.int .i64 d.k, .int .i64 d.n, .int .u64 d.t, .int .i64 d.ep, mv, .int .u64 d.fl, lv, .int .i64 d.ec, .int .i64 d.er, ev, .int .u64 d.ets, .int .i64 d.pid, .int .u64 d.pat, .int .i64 d.plf, .int .i64 d.sc, .int .i64 d.sr, .int .i64 d.se, .int .i64 d.sp]) (by kernel_rfl) (by kernel_rfl) (by kernel_rfl)) ?_; clear h0
 rintro _ w2 a1 ⟨N3, rfl, hN6, hz7, hk5, hg4⟩ h1
 have ha8 := row_fresh hlgr hN6
 have ha9 := row_fresh hcvr hN6
 have hz10 := hg4.size
 try dsimp only at h1
 refine pk0 (v := .int .i64 0) h1 rfl fun a11 h11 => ?_; clear h1
 refine pl_nil ?_
 refine co_then ?_
 refine co_seq ?_
 refine co_seq ?_
 refine co_reg ?_
 refine pk (v := .agg #[.int .i64 d.k, .int .i64 d.n, .int .u64 d.t, .int .i64 d.ep, mv, .int .u64 d.fl, lv, .int .i64 d.ec, .int .i64 d.er, ev, .int .u64 d.ets, .int .i64 d.pid, .int .u64 d.pat, .int .i64 d.plf, .int .i64 d.sc, .int .i64 d.sr, .int .i64 d.se, .int .i64 d.sp]) h11 rfl (rn_loadN rfl rfl Try.underlying44 rfl (by kernel_rfl) hk5.all) fun a12 h12 => ?_; clear h11
 have hB15 := fb_new hB0 hg4
 refine pw h12 rfl (op_call (args := #[.agg #[.int .i64 d.k, .int .i64 d.n, .int .u64 d.t, .int .i64 d.ep, mv, .int .u64 d.fl, lv, .int .i64 d.ec, .int .i64 d.er, ev, .int .u64 d.ets, .int .i64 d.pid, .int .u64 d.pat, .int .i64 d.plf, .int .i64 d.sc, .int .i64 d.sr, .int .i64 d.se, .int .i64 d.sp]]) (R := fun res xw => res = .int .i64 (chkN d) ∧ Below w2.heap.size w2 xw) rfl rfl rfl (by kernel_rfl) (by kernel_rfl) (Try.call27 _ _) (rnCheck_any d mv lv ev w2 (sl_butS hm hB15 hbm) (sl_butS hg hB15 hbg) (sl_butS he hB15 hbe) hR) (by rintro e x ⟨rfl, hb16⟩; exact ⟨_, rfl, ⟨rfl, hb16⟩⟩)) ?_; clear h12
 rintro _ w14 a13 ⟨rfl, hb16⟩ h13
 have hz17 := hb16.size
 refine pk0 (v := .int .i64 (chkN d)) h13 rfl fun a18 h18 => ?_; clear h13
 refine pl_nil ?_
 refine co_then ?_
 refine co_seq ?_
 refine co_reg ?_
 refine pk0 (v := .int .i64 (chkN d)) h18 rfl fun a19 h19 => ?_; clear h18
 refine pk0 (v := .bool (chkN d != 0)) h19 rfl fun a20 h20 => ?_; clear h19
 refine pl_nil ?_
 refine co_then ?_
 have hB22 := fb_call hB15 hb16
 have hk23 := hb.kept hg4 (by simp)
 have hk24 := hk23.below hb16
 have hr25 := row_kept_new hlgr hg4
 have hr26 := row_kept_new hr25 (below_grown hb16)
 have hr27 := row_kept_new hcvr hg4
 have hr28 := row_kept_new hr27 (below_grown hb16)
 cases hc21 : (chkN d != 0)
 ·
  rw [hc21] at h20
  have hp29 : ¬ (chkN d ≠ 0) := by first | simpa using hc21 | simpa [and_assoc] using hc21
  clear hc21
  refine co_false h20 rfl ?_
  refine wp_skip ?_
  refine co_then ?_
  refine co_seq ?_
  refine co_seq ?_
  refine co_reg ?_
  refine pk0 (v := pt N3 0) h20 rfl fun a30 h30 => ?_; clear h20
  have hk31 := hk5.below hb16
  refine pk (v := .int .i64 d.k) h30 rfl (rn_load1 rfl rfl Try.isAgg3 (hk31.cell rfl)) fun a32 h32 => ?_; clear h30
  refine pl_nil ?_
  refine co_then ?_
  refine wp_block ?_
  refine co_seq ?_
  refine co_reg ?_
  refine pk0 (v := .bool (d.k == 1)) h32 rfl fun a33 h33 => ?_; clear h32
  refine pk0 (v := .bool (d.k == 1)) h33 rfl fun a34 h34 => ?_; clear h33
  refine pl_nil ?_
  refine co_then ?_
  have hc35 : (d.k == 1) = true := by first | (simp; done) | (simp; omega) | exact beq_false_of_ne (by omega) | exact beq_iff_eq.2 (by omega)
  rw [hc35] at h34; clear hc35
  refine co_true h34 rfl ?_
  refine co_seq ?_
  refine co_reg ?_
  refine pk0 (v := pt b 0) h34 rfl fun a36 h36 => ?_; clear h34
  refine pk (v := .agg #[.int .i64 d.k, .int .i64 d.n, .int .u64 d.t, .int .i64 d.ep, mv, .int .u64 d.fl, lv, .int .i64 d.ec, .int .i64 d.er, ev, .int .u64 d.ets, .int .i64 d.pid, .int .u64 d.pat, .int .i64 d.plf, .int .i64 d.sc, .int .i64 d.sr, .int .i64 d.se, .int .i64 d.sp]) h36 rfl (rn_loadN rfl rfl Try.underlying44 rfl (by kernel_rfl) hk31.all) fun a37 h37 => ?_; clear h36
  have hml : d.ms.length ≤ 20 := chkC_lenM (((chkN_ok (d := d) (by omega)).2.1 (by omega)).1)
  have hgl := ((chkN_ok (d := d) (by omega)).2.1 (by omega)).2.2
  refine pw h37 rfl (op_call (args := #[pt b 0, .agg #[.int .i64 d.k, .int .i64 d.n, .int .u64 d.t, .int .i64 d.ep, mv, .int .u64 d.fl, lv, .int .i64 d.ec, .int .i64 d.er, ev, .int .u64 d.ets, .int .i64 d.pid, .int .u64 d.pat, .int .i64 d.plf, .int .i64 d.sc, .int .i64 d.sr, .int .i64 d.se, .int .i64 d.sp]]) (R := fun res xw => ∃ cv2 : Value, ∃ lv2 : Value, res = .int .i64 ((docC ep fl ms lg d).1) ∧ Blk xw b 50 #[.int .i64 ((docC ep fl ms lg d).2.1), cv2, .int .u64 ((docC ep fl ms lg d).2.2.1), lv2, .int .u64 hz, pv, .int .i64 tp, .int .i64 y0.1, .int .i64 y0.2.1, .int .i64 y0.2.2.1, .int .i64 y0.2.2.2, .int .i64 y1.1, .int .i64 y1.2.1, .int .i64 y1.2.2.1, .int .i64 y1.2.2.2, .int .i64 y2.1, .int .i64 y2.2.1, .int .i64 y2.2.2.1, .int .i64 y2.2.2.2] ∧ xw.ownsRow 0 102 2 cv2 ((docC ep fl ms lg d).2.2.2.1).length (((docC ep fl ms lg d).2.2.2.1).flatMap memE) ∧ xw.ownsRow 0 3 1 lv2 ((docC ep fl ms lg d).2.2.2.2).length (((docC ep fl ms lg d).2.2.2.2).flatMap (intE .i64)) ∧ But (fun q => q = b) w14 xw) rfl rfl rfl (by kernel_rfl) (by kernel_rfl) (Try.call28 _ _) (dcConf_any b ep cv fl lgv hz pv tp y0 y1 y2 ms lg d mv lv ev w14 hk24 (row_lows hr28 (Nat.zero_le _)) (row_lows hr26 (Nat.zero_le _)) (sl_butS hm hB22 hbm) (sl_butS hg hB22 hbg) (sl_butS he hB22 hbe) hR hbm hbg hbe (by omega)) (by rintro e x ⟨cv2, lv2, rfl, hq42, hq43, hq44, hb45⟩; exact ⟨_, rfl, ⟨cv2, lv2, rfl, hq42, hq43, hq44, hb45⟩⟩)) ?_; clear h37
  rintro _ w39 a38 ⟨cv240, lv241, rfl, hq42, hq43, hq44, hb45⟩ h38
  have hz46 := hb45.size
  have hl47 := hq42.lt
  refine pk0 (v := .int .i64 ((docC ep fl ms lg d).1)) h38 rfl fun a48 h48 => ?_; clear h38
  refine pl_nil ?_
  refine co_then ?_
  refine wp_ret ?_
  refine co_blockR ?_
  refine co_thenR ?_
  refine co_ret1 h48 rfl rfl ?_
  have hB49 := fb_foot hB22 hb45 (fun i hlt hS => by (try simp at hS); first | omega | (simp; omega) | simp_all)
  have hA : doc1 ep fl ms lg d = ((docC ep fl ms lg d).1, (docC ep fl ms lg d).2.1, (docC ep fl ms lg d).2.2.1, (docC ep fl ms lg d).2.2.2.1, (docC ep fl ms lg d).2.2.2.2) := by unfold doc1; first | (rw [if_pos (by omega)]; done) | (rw [if_neg (by omega)]; done) | (rw [if_neg (by omega)]; rfl)
  exact ⟨cv240, lv241, by rw [hA], by rw [hA]; exact hq42, by rw [hA]; exact hq43, by rw [hA]; exact hq44, hB49⟩
 ·
  rw [hc21] at h20
  have hp50 : chkN d ≠ 0 := by first | simpa using hc21 | simpa [and_assoc] using hc21
  clear hc21
  refine co_true h20 rfl ?_
  refine co_seq ?_
  refine co_reg ?_
  refine pk0 (v := .int .i64 (chkN d)) h20 rfl fun a51 h51 => ?_; clear h20
  refine pk0 (v := .int .i64 (chkN d)) h51 rfl fun a52 h52 => ?_; clear h51
  refine pl_nil ?_
  refine co_then ?_
  refine wp_ret ?_
  refine co_thenR ?_
  refine co_ret1 h52 rfl rfl ?_
  have hA : doc1 ep fl ms lg d = (chkN d, ep, fl, ms, lg) := by unfold doc1; first | (rw [if_pos (by omega)]; done) | (rw [if_neg (by omega)]; done) | (rw [if_neg (by omega)]; rfl)
  exact ⟨cv, lgv, by rw [hA], by rw [hA]; exact hk24, by rw [hA]; exact hr28, by rw [hA]; exact hr26, hB22⟩
set_option maxRecDepth 100000 in
set_option maxHeartbeats 3200000 in
theorem dcApply5 (b : Nat) (ep : Int) (cv : Value) (fl : Int) (lgv : Value) (hz : Int) (pv : Value) (tp : Int) (y0 : AnT) (y1 : AnT) (y2 : AnT) (ms : List MemT) (lg : List Int) (d : NoteD) (mv : Value) (lv : Value) (ev : Value) (w : World) (hb : Blk w b 50 #[.int .i64 ep, cv, .int .u64 fl, lgv, .int .u64 hz, pv, .int .i64 tp, .int .i64 y0.1, .int .i64 y0.2.1, .int .i64 y0.2.2.1, .int .i64 y0.2.2.2, .int .i64 y1.1, .int .i64 y1.2.1, .int .i64 y1.2.2.1, .int .i64 y1.2.2.2, .int .i64 y2.1, .int .i64 y2.2.1, .int .i64 y2.2.2.1, .int .i64 y2.2.2.2]) (hcvr : w.ownsRow 0 102 2 cv ms.length (ms.flatMap memE)) (hlgr : w.ownsRow 0 3 1 lgv lg.length (lg.flatMap (intE .i64))) (hm : SliceOf memE 2 w mv d.ms) (hg : SliceOf (intE .i64) 1 w lv d.lg) (he : SliceOf opE 3 w ev d.el) (hR : NoteR d) (hbm : d.ms ≠ [] → ∀ k, mv.ownBlock = some k → ¬ k = b) (hbg : d.lg ≠ [] → ∀ k, lv.ownBlock = some k → ¬ k = b) (hbe : d.el ≠ [] → ∀ k, ev.ownBlock = some k → ¬ k = b) (hkx : d.k = 5) (hln : ms.length ≤ 20 ∧ lg.length ≤ 100) :
    Calls Try.prog 10 #[pt b 0, .agg #[.int .i64 d.k, .int .i64 d.n, .int .u64 d.t, .int .i64 d.ep, mv, .int .u64 d.fl, lv, .int .i64 d.ec, .int .i64 d.er, ev, .int .u64 d.ets, .int .i64 d.pid, .int .u64 d.pat, .int .i64 d.plf, .int .i64 d.sc, .int .i64 d.sr, .int .i64 d.se, .int .i64 d.sp]] w fun e w' => ∃ (lv2 : Value), e = .returned (.int .i64 ((doc5 ms lg d).1)) ∧ Blk w' b 50 #[.int .i64 ep, cv, .int .u64 fl, lv2, .int .u64 hz, pv, .int .i64 tp, .int .i64 y0.1, .int .i64 y0.2.1, .int .i64 y0.2.2.1, .int .i64 y0.2.2.2, .int .i64 y1.1, .int .i64 y1.2.1, .int .i64 y1.2.2.1, .int .i64 y1.2.2.2, .int .i64 y2.1, .int .i64 y2.2.1, .int .i64 y2.2.2.1, .int .i64 y2.2.2.2] ∧ w'.ownsRow 0 3 1 lv2 ((doc5 ms lg d).2).length (((doc5 ms lg d).2).flatMap (intE .i64)) ∧ But (fun q => q = b) w w' := by
 have hrng := hR.rng
 have hB0 := But.refl (fun q => q = b) w
 have hl_hb := hb.lt
 have hl_hm := sl_len hm
 have hl_hg := sl_len hg
 have hl_he := sl_len he
 have hu_cv := fun i (hi : Value.ownBlock cv = some i) => (hcvr.lt i hi).2
 have hu_lgv := fun i (hi : Value.ownBlock lgv = some i) => (hlgr.lt i hi).2
 refine co_enter (n := 128) Try.func10 rfl rfl rfl [(0, pt b 0), (1, .agg #[.int .i64 d.k, .int .i64 d.n, .int .u64 d.t, .int .i64 d.ep, mv, .int .u64 d.fl, lv, .int .i64 d.ec, .int .i64 d.er, ev, .int .u64 d.ets, .int .i64 d.pid, .int .u64 d.pat, .int .i64 d.plf, .int .i64 d.sc, .int .i64 d.sr, .int .i64 d.se, .int .i64 d.sp])] rfl (fun a h0 => ?_)
 refine co_seq ?_
 refine co_reg ?_
 refine pw h0 rfl (op_new (v := fun N => pt N 0) (T := 44) (cs := #[.int .i64 d.k, .int .i64 d.n, .int .u64 d.t, .int .i64 d.ep, mv, .int .u64 d.fl, lv, .int .i64 d.ec, .int .i64 d.er, ev, .int .u64 d.ets, .int .i64 d.pid, .int .u64 d.pat, .int .i64 d.plf, .int .i64 d.sc, .int .i64 d.sr, .int .i64 d.se, .int .i64 d.sp]) (by kernel_rfl) (by kernel_rfl) (by kernel_rfl)) ?_; clear h0
 rintro _ w2 a1 ⟨N3, rfl, hN6, hz7, hk5, hg4⟩ h1
 have ha8 := row_fresh hlgr hN6
 have ha9 := row_fresh hcvr hN6
 have hz10 := hg4.size
 try dsimp only at h1
 refine pk0 (v := .int .i64 0) h1 rfl fun a11 h11 => ?_; clear h1
 refine pl_nil ?_
 refine co_then ?_
 refine co_seq ?_
 refine co_seq ?_
 refine co_reg ?_
 refine pk (v := .agg #[.int .i64 d.k, .int .i64 d.n, .int .u64 d.t, .int .i64 d.ep, mv, .int .u64 d.fl, lv, .int .i64 d.ec, .int .i64 d.er, ev, .int .u64 d.ets, .int .i64 d.pid, .int .u64 d.pat, .int .i64 d.plf, .int .i64 d.sc, .int .i64 d.sr, .int .i64 d.se, .int .i64 d.sp]) h11 rfl (rn_loadN rfl rfl Try.underlying44 rfl (by kernel_rfl) hk5.all) fun a12 h12 => ?_; clear h11
 have hB15 := fb_new hB0 hg4
 refine pw h12 rfl (op_call (args := #[.agg #[.int .i64 d.k, .int .i64 d.n, .int .u64 d.t, .int .i64 d.ep, mv, .int .u64 d.fl, lv, .int .i64 d.ec, .int .i64 d.er, ev, .int .u64 d.ets, .int .i64 d.pid, .int .u64 d.pat, .int .i64 d.plf, .int .i64 d.sc, .int .i64 d.sr, .int .i64 d.se, .int .i64 d.sp]]) (R := fun res xw => res = .int .i64 (chkN d) ∧ Below w2.heap.size w2 xw) rfl rfl rfl (by kernel_rfl) (by kernel_rfl) (Try.call27 _ _) (rnCheck_any d mv lv ev w2 (sl_butS hm hB15 hbm) (sl_butS hg hB15 hbg) (sl_butS he hB15 hbe) hR) (by rintro e x ⟨rfl, hb16⟩; exact ⟨_, rfl, ⟨rfl, hb16⟩⟩)) ?_; clear h12
 rintro _ w14 a13 ⟨rfl, hb16⟩ h13
 have hz17 := hb16.size
 refine pk0 (v := .int .i64 (chkN d)) h13 rfl fun a18 h18 => ?_; clear h13
 refine pl_nil ?_
 refine co_then ?_
 refine co_seq ?_
 refine co_reg ?_
 refine pk0 (v := .int .i64 (chkN d)) h18 rfl fun a19 h19 => ?_; clear h18
 refine pk0 (v := .bool (chkN d != 0)) h19 rfl fun a20 h20 => ?_; clear h19
 refine pl_nil ?_
 refine co_then ?_
 have hB22 := fb_call hB15 hb16
 have hk23 := hb.kept hg4 (by simp)
 have hk24 := hk23.below hb16
 have hr25 := row_kept_new hlgr hg4
 have hr26 := row_kept_new hr25 (below_grown hb16)
 have hr27 := row_kept_new hcvr hg4
 have hr28 := row_kept_new hr27 (below_grown hb16)
 cases hc21 : (chkN d != 0)
 ·
  rw [hc21] at h20
  have hp29 : ¬ (chkN d ≠ 0) := by first | simpa using hc21 | simpa [and_assoc] using hc21
  clear hc21
  refine co_false h20 rfl ?_
  refine wp_skip ?_
  refine co_then ?_
  refine co_seq ?_
  refine co_seq ?_
  refine co_reg ?_
  refine pk0 (v := pt N3 0) h20 rfl fun a30 h30 => ?_; clear h20
  have hk31 := hk5.below hb16
  refine pk (v := .int .i64 d.k) h30 rfl (rn_load1 rfl rfl Try.isAgg3 (hk31.cell rfl)) fun a32 h32 => ?_; clear h30
  refine pl_nil ?_
  refine co_then ?_
  refine wp_block ?_
  refine co_seq ?_
  refine co_reg ?_
  refine pk0 (v := .bool (d.k == 1)) h32 rfl fun a33 h33 => ?_; clear h32
  refine pk0 (v := .bool (d.k == 1)) h33 rfl fun a34 h34 => ?_; clear h33
  refine pl_nil ?_
  refine co_then ?_
  have hc35 : (d.k == 1) = false := by first | (simp; done) | (simp; omega) | exact beq_false_of_ne (by omega) | exact beq_iff_eq.2 (by omega)
  rw [hc35] at h34; clear hc35
  refine co_false h34 rfl ?_
  refine co_seq ?_
  refine co_reg ?_
  refine pk0 (v := .bool (d.k == 5)) h34 rfl fun a36 h36 => ?_; clear h34
  refine pk0 (v := .bool (d.k == 5)) h36 rfl fun a37 h37 => ?_; clear h36
  refine pl_nil ?_
  refine co_then ?_
  have hc38 : (d.k == 5) = true := by first | (simp; done) | (simp; omega) | exact beq_false_of_ne (by omega) | exact beq_iff_eq.2 (by omega)
  rw [hc38] at h37; clear hc38
  refine co_true h37 rfl ?_
  refine co_seq ?_
  refine co_seq ?_
  refine dr_gen (fun x => But (fun q => q = b) w x ∧ Blk x b 50 #[.int .i64 ep, cv, .int .u64 fl, lgv, .int .u64 hz, pv, .int .i64 tp, .int .i64 y0.1, .int .i64 y0.2.1, .int .i64 y0.2.2.1, .int .i64 y0.2.2.2, .int .i64 y1.1, .int .i64 y1.2.1, .int .i64 y1.2.2.1, .int .i64 y1.2.2.2, .int .i64 y2.1, .int .i64 y2.2.1, .int .i64 y2.2.2.1, .int .i64 y2.2.2.2] ∧ Blk x N3 44 #[.int .i64 d.k, .int .i64 d.n, .int .u64 d.t, .int .i64 d.ep, mv, .int .u64 d.fl, lv, .int .i64 d.ec, .int .i64 d.er, ev, .int .u64 d.ets, .int .i64 d.pid, .int .u64 d.pat, .int .i64 d.plf, .int .i64 d.sc, .int .i64 d.sr, .int .i64 d.se, .int .i64 d.sp]) (by kernel_rfl) (fun w39 hg40 => ?_) (fun w39 hg40 => ?_)
  ·
   have hz41 := hg40.size
   have hB42 := fb_new hB22 hg40
   have hk43 := hk24.kept hg40 (by simp)
   have hk44 := hk31.kept hg40 (by simp)
   exact ⟨hB42, hk43, hk44⟩
  have hz45 := hg40.size
  have hB46 := fb_new hB22 hg40
  have hk47 := hk24.kept hg40 (by simp)
  have hk48 := hk31.kept hg40 (by simp)
  refine dk0 0 (v := pt b 0) h37 rfl rfl ⟨hB46, hk47, hk48⟩ fun a49 h49 => ?_; clear h37
  refine dk0 1 (v := pt b 0) h49 rfl rfl ⟨hB46, hk47, hk48⟩ fun a50 h50 => ?_; clear h49
  refine dk0 2 (v := pt b 0) h50 rfl rfl ⟨hB46, hk47, hk48⟩ fun a51 h51 => ?_; clear h50
  refine dk 3 (v := .agg #[.int .i64 ep, cv, .int .u64 fl]) h51 rfl rfl ⟨hB46, hk47, hk48⟩ (fun x hx => (rn_loadN rfl rfl Try.underlying32 rfl (by kernel_rfl) (blk_part hx.2.1 0 (by rfl)))) fun a52 h52 => ?_; clear h51
  refine dk0 4 (v := pt N3 1) h52 rfl rfl ⟨hB46, hk47, hk48⟩ fun a53 h53 => ?_; clear h52
  refine dk 5 (v := .int .i64 d.n) h53 rfl rfl ⟨hB46, hk47, hk48⟩ (fun x hx => (rn_load1 rfl rfl Try.isAgg3 (hx.2.2.cell rfl))) fun a54 h54 => ?_; clear h53
  have hr57 := row_kept_new hr28 hg40
  refine d1 6 h54 rfl rfl (op_call (args := #[.agg #[.int .i64 ep, cv, .int .u64 fl], .int .i64 d.n]) (R := fun res xw => res = .bool (hasM ms d.n) ∧ Below w39.heap.size w39 xw) rfl rfl rfl (by kernel_rfl) (by kernel_rfl) (Try.call29 _ _) (rmember28 ep fl cv ms d.n w39 (row_sl hr57 memE_len)) (by rintro e x ⟨rfl, hb58⟩; exact ⟨_, rfl, ⟨rfl, hb58⟩⟩)) ?_ ?_; clear h54
  ·
   rintro _ w56 ⟨rfl, hb58⟩
   have hz59 := hb58.size
   have hB60 := fb_call hB46 hb58
   have hk61 := hk47.below hb58
   have hk62 := hk48.below hb58
   exact ⟨hB60, hk61, hk62⟩
  rintro _ w56 a55 ⟨rfl, hb58⟩ h55
  have hz59 := hb58.size
  have hB60 := fb_call hB46 hb58
  have hk61 := hk47.below hb58
  have hk62 := hk48.below hb58
  have hr64 := row_kept_new hr26 hg40
  have hr65 := row_kept_new hr64 (below_grown hb58)
  cases hc63 : (hasM ms d.n)
  ·
   rw [hc63] at h55
   refine dk0 7 (v := .bool true) h55 rfl rfl ⟨hB60, hk61, hk62⟩ fun a66 h66 => ?_; clear h55
   refine dr_done (by kernel_rfl) ?_
   refine co_then ?_
   refine co_true h66 rfl ?_
   refine co_seq ?_
   refine co_reg ?_
   refine pk0 (v := .int .i64 7) h66 rfl fun a67 h67 => ?_; clear h66
   refine pl_nil ?_
   refine co_then ?_
   refine wp_ret ?_
   refine co_thenR ?_
   refine co_blockR ?_
   refine co_thenR ?_
   refine co_ret1 h67 rfl rfl ?_
   have hA : doc5 ms lg d = (7, lg) := by unfold doc5; first | (rw [if_pos (by omega)]; done) | (rw [if_neg (by omega), if_pos (by first | assumption | simp_all)]; done) | (rw [if_neg (by omega), if_neg (by simp_all)]; done)
   exact ⟨lgv, by rw [hA], hk61, by rw [hA]; exact row_lows hr65 (Nat.zero_le _), hB60⟩
  ·
   rw [hc63] at h55
   refine dk0 7 (v := .bool false) h55 rfl rfl ⟨hB60, hk61, hk62⟩ fun a68 h68 => ?_; clear h55
   refine dr_done (by kernel_rfl) ?_
   refine co_then ?_
   refine co_false h68 rfl ?_
   refine wp_skip ?_
   refine co_then ?_
   refine co_seq ?_
   refine co_reg ?_
   refine pk0 (v := .slice none 0 0) h68 rfl fun a69 h69 => ?_; clear h68
   refine pl_nil ?_
   refine co_then ?_
   refine co_seq ?_
   refine co_seq ?_
   refine co_reg ?_
   refine pk0 (v := .int .i64 0) h69 rfl fun a70 h70 => ?_; clear h69
   refine pl_nil ?_
   refine co_then ?_
   refine wp_block ?_
   have h71 : Slots 128 [(0, pt b 0), (3, pt N3 0), (6, .slice none 0 0), (7, .int .i64 0)] _ := h70.sub ⟨rfl, rfl, rfl, rfl, trivial⟩; clear h70
   refine co_loop (fun mm a x => ∃ (i : Nat) (u : Value), Slots 128 [(0, pt b 0), (3, pt N3 0), (6, u), (7, .int .i64 ((i : Nat) : Int))] a ∧ mm = 4 - i ∧ (i ≤ 4) ∧ x.ownsRow 0 3 1 lgv lg.length (lg.flatMap (intE .i64)) ∧ x.ownsRow 0 102 2 cv ms.length (ms.flatMap memE) ∧ x.ownsRow w.heap.size 3 1 u (docL lg d.n i).length ((docL lg d.n i).flatMap (intE .i64)) ∧ But (fun q => q = b) w x ∧ Blk x b 50 #[.int .i64 ep, cv, .int .u64 fl, lgv, .int .u64 hz, pv, .int .i64 tp, .int .i64 y0.1, .int .i64 y0.2.1, .int .i64 y0.2.2.1, .int .i64 y0.2.2.2, .int .i64 y1.1, .int .i64 y1.2.1, .int .i64 y1.2.2.1, .int .i64 y1.2.2.2, .int .i64 y2.1, .int .i64 y2.2.1, .int .i64 y2.2.2.1, .int .i64 y2.2.2.2] ∧ Blk x N3 44 #[.int .i64 d.k, .int .i64 d.n, .int .u64 d.t, .int .i64 d.ep, mv, .int .u64 d.fl, lv, .int .i64 d.ec, .int .i64 d.er, ev, .int .u64 d.ets, .int .i64 d.pid, .int .u64 d.pat, .int .i64 d.plf, .int .i64 d.sc, .int .i64 d.sr, .int .i64 d.se, .int .i64 d.sp]) (4 - 0) ?_ ?_
   have hr72 := row_kept_new hr57 (below_grown hb58)
   · exact ⟨0, (.slice none 0 0), h71.sub ⟨rfl, rfl, rfl, (slot_eq rfl (congrArg (Value.int .i64) (by first | rfl | omega))), trivial⟩, rfl, by omega, hr65, hr72, (row_nilL _ _ _ _ _), hB60, hk61, hk62⟩
   · rintro k73 a74 w75 ⟨i, u, h74, rfl, hi76, hf77, hf78, hf79, hB80, hk81, hk82⟩
     have hz83 := hB80.size
     have hl84 := hk81.lt
     have hl85 := hk82.lt
     have hdl := docL_len lg d.n i
     refine co_seq ?_
     refine co_seq ?_
     refine co_reg ?_
     refine pk0 (v := .int .i64 ((i : Nat) : Int)) h74 rfl fun a86 h86 => ?_; clear h74
     refine pk0 (v := .bool (decide (((i : Nat) : Int) < 4))) h86 rfl fun a87 h87 => ?_; clear h86
     refine pl_nil ?_
     refine co_then ?_
     cases hc88 : (decide (((i : Nat) : Int) < 4))
     ·
      rw [hc88] at h87
      have hp89 : ¬ (((i : Nat) : Int) < 4) := of_decide_eq_false hc88
      clear hc88
      refine co_false h87 rfl ?_
      refine wp_exit ?_
      refine co_thenX ?_
      refine co_thenX ?_
      refine co_blockX ?_
      refine co_then ?_
      refine co_reg ?_
      refine pk0 (v := pt b 0) h87 rfl fun a90 h90 => ?_; clear h87
      refine pk0 (v := u) h90 rfl fun a91 h91 => ?_; clear h90
      refine pk0 (v := pt b 0) h91 rfl fun a92 h92 => ?_; clear h91
      refine pk0 (v := pt b 3) h92 rfl fun a93 h93 => ?_; clear h92
      refine pwD h93 rfl (op_store1 rfl rfl rfl (row_one hf79) Try.sizeOf33 hk81 rfl) ?_; clear h93
      rintro _ w95 a94 ⟨hk96, hz97, hg98⟩ h94
      have hk96' : Blk w95 b 50 #[.int .i64 ep, cv, .int .u64 fl, u, .int .u64 hz, pv, .int .i64 tp, .int .i64 y0.1, .int .i64 y0.2.1, .int .i64 y0.2.2.1, .int .i64 y0.2.2.2, .int .i64 y1.1, .int .i64 y1.2.1, .int .i64 y1.2.2.1, .int .i64 y1.2.2.2, .int .i64 y2.1, .int .i64 y2.2.1, .int .i64 y2.2.2.1, .int .i64 y2.2.2.2] := hk96; clear hk96
      have hz99 := hg98.size
      refine pl_nil ?_
      refine co_blockN ?_
      refine co_then ?_
      refine co_seq ?_
      refine co_reg ?_
      refine pk0 (v := .int .i64 0) h94 rfl fun a100 h100 => ?_; clear h94
      refine pl_nil ?_
      refine co_then ?_
      refine wp_ret ?_
      refine co_ret1 h100 rfl rfl ?_
      have hr101 := row_kept_at hf79 hg98 (own_neT hf79 hk81 (by decide))
      have hB102 := fb_at hB80 hg98 (fun hlt => by first | (exfalso; omega) | (simp; done) | simp_all)
      obtain rfl : i = 4 := by omega
      have hA : doc5 ms lg d = (0, docL lg d.n 4) := by unfold doc5; first | (rw [if_pos (by omega)]; done) | (rw [if_neg (by omega), if_pos (by first | assumption | simp_all)]; done) | (rw [if_neg (by omega), if_neg (by simp_all)]; done)
      exact ⟨u, by rw [hA], hk96', by rw [hA]; exact row_lows hr101 (Nat.zero_le _), hB102⟩
     ·
      rw [hc88] at h87
      have hp103 : ((i : Nat) : Int) < 4 := of_decide_eq_true hc88
      clear hc88
      refine co_true h87 rfl ?_
      refine wp_skip ?_
      refine co_then ?_
      refine co_seq ?_
      refine wp_block ?_
      refine co_seq ?_
      refine co_reg ?_
      refine pk0 (v := .int .i64 ((i : Nat) : Int)) h87 rfl fun a104 h104 => ?_; clear h87
      refine pk0 (v := pt N3 1) h104 rfl fun a105 h105 => ?_; clear h104
      refine pk (v := .int .i64 d.n) h105 rfl (rn_load1 rfl rfl Try.isAgg3 (hk82.cell rfl)) fun a106 h106 => ?_; clear h105
      refine pk0 (v := .bool (((i : Nat) : Int) == d.n)) h106 rfl fun a107 h107 => ?_; clear h106
      refine pk0 (v := .bool (((i : Nat) : Int) == d.n)) h107 rfl fun a108 h108 => ?_; clear h107
      cases hc109 : (((i : Nat) : Int) == d.n)
      ·
       rw [hc109] at h108
       have hp110 : ¬ (((i : Nat) : Int) = d.n) := by first | simpa using hc109 | simpa [and_assoc] using hc109
       clear hc109
       refine pk0 (v := pt b 0) h108 rfl fun a111 h111 => ?_; clear h108
       refine pk0 (v := pt b 0) h111 rfl fun a112 h112 => ?_; clear h111
       refine pk0 (v := pt b 3) h112 rfl fun a113 h113 => ?_; clear h112
       refine pk (v := lgv) h113 rfl (rn_load1 rfl rfl Try.isAgg33 (hk81.cell rfl)) fun a114 h114 => ?_; clear h113
       refine pk0 (v := .int .i64 ((i : Nat) : Int)) h114 rfl fun a115 h115 => ?_; clear h114
       refine pw h115 rfl (op_call (args := #[lgv, .int .i64 ((i : Nat) : Int)]) (R := fun res xw => res = .bool (inL lg ((i : Nat) : Int)) ∧ Below w75.heap.size w75 xw) rfl rfl rfl (by kernel_rfl) (by kernel_rfl) (Try.call15 _ _) (in_any lgv lg ((i : Nat) : Int) w75 (row_sl hf77 (intE_len .i64))) (by rintro e x ⟨rfl, hb118⟩; exact ⟨_, rfl, ⟨rfl, hb118⟩⟩)) ?_; clear h115
       rintro _ w117 a116 ⟨rfl, hb118⟩ h116
       have hz119 := hb118.size
       refine pk0 (v := .bool (inL lg ((i : Nat) : Int))) h116 rfl fun a120 h120 => ?_; clear h116
       refine pl_nil ?_
       refine co_then ?_
       have hB122 := fb_call hB80 hb118
       cases hc121 : (inL lg ((i : Nat) : Int))
       ·
        rw [hc121] at h120
        refine co_false h120 rfl ?_
        refine wp_skip ?_
        refine co_blockN ?_
        refine co_then ?_
        refine co_reg ?_
        refine pk0 (v := .int .i64 ((i : Nat) : Int)) h120 rfl fun a123 h123 => ?_; clear h120
        refine pk (v := .int .i64 ((i + 1 : Nat) : Int)) h123 rfl (rn_arith' rfl rfl rfl rfl rfl rfl (IntWalk.i64_in _ (by omega)) (by omega)) fun a124 h124 => ?_; clear h123
        refine pk0 (v := .int .i64 ((i + 1 : Nat) : Int)) h124 rfl fun a125 h125 => ?_; clear h124
        refine pl_nil ?_
        refine co_then ?_
        refine ⟨(4 - (i + 1)), by omega, ?_⟩
        have hr126 := row_kept_new hf77 (below_grown hb118)
        have hr127 := row_kept_new hf78 (below_grown hb118)
        have hr128 := row_kept_new hf79 (below_grown hb118)
        have hk129 := hk81.below hb118
        have hk130 := hk82.below hb118
        exact ⟨i + 1, u, h125.sub ⟨rfl, rfl, rfl, rfl, trivial⟩, rfl, by omega, hr126, hr127, (row_eq hr128 (by first | rfl | exact docL_y (.inl (by omega)) | exact docL_y (.inr (by assumption)) | exact docL_n (by omega) (by assumption))), hB122, hk129, hk130⟩
       ·
        rw [hc121] at h120
        refine co_true h120 rfl ?_
        refine co_reg ?_
        refine pk0 (v := u) h120 rfl fun a131 h131 => ?_; clear h120
        refine pk0 (v := .int .i64 ((i : Nat) : Int)) h131 rfl fun a132 h132 => ?_; clear h131
        refine pw h132 rfl (op_new (v := fun N => .slice (some ⟨N, 0, none⟩) 1 1) (T := 3) (cs := #[.int .i64 ((i : Nat) : Int)]) (by kernel_rfl) (by kernel_rfl) (by kernel_rfl)) ?_; clear h132
        rintro _ w134 a133 ⟨N135, rfl, hN138, hz139, hk137, hg136⟩ h133
        have hr141 := row_kept_new hf77 (below_grown hb118)
        have ha140 := row_fresh hr141 hN138
        have hr143 := row_kept_new hf78 (below_grown hb118)
        have ha142 := row_fresh hr143 hN138
        have hr145 := row_kept_new hf79 (below_grown hb118)
        have ha144 := row_fresh hr145 hN138
        have hz146 := hg136.size
        try dsimp only at h133
        have hr153 := row_kept_new hr145 hg136
        refine pw h133 rfl (op_append rfl w.heap.size 3 (z := .int .i64 0) (size := 1) (bytes := 8) Try.underlying33 (by kernel_rfl) rfl rfl rfl hr153 rfl hk137 rfl (by kernel_rfl) (by first | omega | (simp only [List.length_nil, List.length_append, List.length_cons, List.length_take, List.length_drop]; omega)) (by first | omega | (simp only [List.length_nil, List.length_append, List.length_cons, List.length_take, List.length_drop]; omega)) (by omega)) ?_; clear h133
        rintro v149 w148 a147 ⟨hr150, hg151⟩ h147
        have hr150' : w148.ownsRow w.heap.size 3 1 v149 ((docL lg d.n i ++ [((i : Nat) : Int)]).length) ((docL lg d.n i ++ [((i : Nat) : Int)]).flatMap (intE .i64)) := row_push (y := ((i : Nat) : Int)) hr150 rfl rfl; clear hr150
        have hz154 := hg151.size
        refine pk0 (v := v149) h147 rfl fun a155 h155 => ?_; clear h147
        refine pl_nil ?_
        refine co_blockN ?_
        refine co_then ?_
        refine co_reg ?_
        refine pk0 (v := .int .i64 ((i : Nat) : Int)) h155 rfl fun a156 h156 => ?_; clear h155
        refine pk (v := .int .i64 ((i + 1 : Nat) : Int)) h156 rfl (rn_arith' rfl rfl rfl rfl rfl rfl (IntWalk.i64_in _ (by omega)) (by omega)) fun a157 h157 => ?_; clear h156
        refine pk0 (v := .int .i64 ((i + 1 : Nat) : Int)) h157 rfl fun a158 h158 => ?_; clear h157
        refine pl_nil ?_
        refine co_then ?_
        refine ⟨(4 - (i + 1)), by omega, ?_⟩
        have hr159 := row_kept_new hr141 hg136
        have hr160 := row_kept_ap hr159 hr153 (fun i hi => by have := hu_lgv i hi; omega) hg151
        have hr161 := row_kept_new hr143 hg136
        have hr162 := row_kept_ap hr161 hr153 (fun i hi => by have := hu_cv i hi; omega) hg151
        have hB163 := fb_new hB122 hg136
        have hB164 := fb_row hB163 hr153 (by omega) hg151
        have hk165 := hk81.below hb118
        have hk166 := hk165.kept hg136 (by simp)
        have hk167 := hk166.kept hg151 (own_neT hr153 hk166 (by decide))
        have hk168 := hk82.below hb118
        have hk169 := hk168.kept hg136 (by simp)
        have hk170 := hk169.kept hg151 (own_neT hr153 hk169 (by decide))
        exact ⟨i + 1, v149, h158.sub ⟨rfl, rfl, rfl, rfl, trivial⟩, rfl, by omega, hr160, hr162, (row_eq hr150' (by first | rfl | exact docL_y (.inl (by omega)) | exact docL_y (.inr (by assumption)) | exact docL_n (by omega) (by assumption))), hB164, hk167, hk170⟩
      ·
       rw [hc109] at h108
       have hp171 : ((i : Nat) : Int) = d.n := by first | simpa using hc109 | simpa [and_assoc] using hc109
       clear hc109
       refine psk h108 rfl fun a172 h172 => ?_; clear h108
       refine psk h172 rfl fun a173 h173 => ?_; clear h172
       refine psk h173 rfl fun a174 h174 => ?_; clear h173
       refine psk h174 rfl fun a175 h175 => ?_; clear h174
       refine psk h175 rfl fun a176 h176 => ?_; clear h175
       refine psk h176 rfl fun a177 h177 => ?_; clear h176
       refine pk0 (v := .bool true) h177 rfl fun a178 h178 => ?_; clear h177
       refine pl_nil ?_
       refine co_then ?_
       refine co_true h178 rfl ?_
       refine co_reg ?_
       refine pk0 (v := u) h178 rfl fun a179 h179 => ?_; clear h178
       refine pk0 (v := .int .i64 ((i : Nat) : Int)) h179 rfl fun a180 h180 => ?_; clear h179
       refine pw h180 rfl (op_new (v := fun N => .slice (some ⟨N, 0, none⟩) 1 1) (T := 3) (cs := #[.int .i64 ((i : Nat) : Int)]) (by kernel_rfl) (by kernel_rfl) (by kernel_rfl)) ?_; clear h180
       rintro _ w182 a181 ⟨N183, rfl, hN186, hz187, hk185, hg184⟩ h181
       have ha188 := row_fresh hf77 hN186
       have ha189 := row_fresh hf78 hN186
       have ha190 := row_fresh hf79 hN186
       have hz191 := hg184.size
       try dsimp only at h181
       have hr198 := row_kept_new hf79 hg184
       refine pw h181 rfl (op_append rfl w.heap.size 3 (z := .int .i64 0) (size := 1) (bytes := 8) Try.underlying33 (by kernel_rfl) rfl rfl rfl hr198 rfl hk185 rfl (by kernel_rfl) (by first | omega | (simp only [List.length_nil, List.length_append, List.length_cons, List.length_take, List.length_drop]; omega)) (by first | omega | (simp only [List.length_nil, List.length_append, List.length_cons, List.length_take, List.length_drop]; omega)) (by omega)) ?_; clear h181
       rintro v194 w193 a192 ⟨hr195, hg196⟩ h192
       have hr195' : w193.ownsRow w.heap.size 3 1 v194 ((docL lg d.n i ++ [((i : Nat) : Int)]).length) ((docL lg d.n i ++ [((i : Nat) : Int)]).flatMap (intE .i64)) := row_push (y := ((i : Nat) : Int)) hr195 rfl rfl; clear hr195
       have hz199 := hg196.size
       refine pk0 (v := v194) h192 rfl fun a200 h200 => ?_; clear h192
       refine pl_nil ?_
       refine co_blockN ?_
       refine co_then ?_
       refine co_reg ?_
       refine pk0 (v := .int .i64 ((i : Nat) : Int)) h200 rfl fun a201 h201 => ?_; clear h200
       refine pk (v := .int .i64 ((i + 1 : Nat) : Int)) h201 rfl (rn_arith' rfl rfl rfl rfl rfl rfl (IntWalk.i64_in _ (by omega)) (by omega)) fun a202 h202 => ?_; clear h201
       refine pk0 (v := .int .i64 ((i + 1 : Nat) : Int)) h202 rfl fun a203 h203 => ?_; clear h202
       refine pl_nil ?_
       refine co_then ?_
       refine ⟨(4 - (i + 1)), by omega, ?_⟩
       have hr204 := row_kept_new hf77 hg184
       have hr205 := row_kept_ap hr204 hr198 (fun i hi => by have := hu_lgv i hi; omega) hg196
       have hr206 := row_kept_new hf78 hg184
       have hr207 := row_kept_ap hr206 hr198 (fun i hi => by have := hu_cv i hi; omega) hg196
       have hB208 := fb_new hB80 hg184
       have hB209 := fb_row hB208 hr198 (by omega) hg196
       have hk210 := hk81.kept hg184 (by simp)
       have hk211 := hk210.kept hg196 (own_neT hr198 hk210 (by decide))
       have hk212 := hk82.kept hg184 (by simp)
       have hk213 := hk212.kept hg196 (own_neT hr198 hk212 (by decide))
       exact ⟨i + 1, v194, h203.sub ⟨rfl, rfl, rfl, rfl, trivial⟩, rfl, by omega, hr205, hr207, (row_eq hr195' (by first | rfl | exact docL_y (.inl (by omega)) | exact docL_y (.inr (by assumption)) | exact docL_n (by omega) (by assumption))), hB209, hk211, hk213⟩
 ·
  rw [hc21] at h20
  have hp214 : chkN d ≠ 0 := by first | simpa using hc21 | simpa [and_assoc] using hc21
  clear hc21
  refine co_true h20 rfl ?_
  refine co_seq ?_
  refine co_reg ?_
  refine pk0 (v := .int .i64 (chkN d)) h20 rfl fun a215 h215 => ?_; clear h20
  refine pk0 (v := .int .i64 (chkN d)) h215 rfl fun a216 h216 => ?_; clear h215
  refine pl_nil ?_
  refine co_then ?_
  refine wp_ret ?_
  refine co_thenR ?_
  refine co_ret1 h216 rfl rfl ?_
  have hA : doc5 ms lg d = (chkN d, lg) := by unfold doc5; first | (rw [if_pos (by omega)]; done) | (rw [if_neg (by omega), if_pos (by first | assumption | simp_all)]; done) | (rw [if_neg (by omega), if_neg (by simp_all)]; done)
  exact ⟨lgv, by rw [hA], hk24, by rw [hA]; exact row_lows hr26 (Nat.zero_le _), hB22⟩
end Go.Proofs.Ytnjbnndpbegkdaa
