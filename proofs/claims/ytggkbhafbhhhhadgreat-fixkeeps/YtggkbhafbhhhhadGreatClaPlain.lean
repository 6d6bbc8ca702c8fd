/-
  PLAIN: clauses, and what they leave of a store; that no values are lost.
-/
import Derived.Test.YtggkbhafbhhhhadGreatLitPlain
namespace Go.Proofs.YtggkbhafbhhhhadGreat

abbrev Cla := List MLit
/-- Does a clause hold of values? -/
def claB (c : Cla) (vals : List Int) : Bool := c.any fun l => litV (vals.getD l.var.toNat 0) l
def claE (vs : List MVar) (c : Cla) : Int := if 40 < c.length then 2 else firstE (c.map (litE vs))
/-- Does one of the literals of a variable hold of a value? -/
def oneB (c : Cla) (k : Nat) (z : Int) : Bool := c.any fun l => decide (l.var = (k : Int)) && litV z l
/-- The literals that are not told to hold of nothing. -/
def liveL (s : Sto) (c : Cla) : Cla := c.filter fun l => decide (heldN (rowOf s l) l ≠ 0)
def clasE (vs : List MVar) (l : List Cla) : Int := if 600 < l.length then 2 else firstE (l.map (claE vs))
def liveB (s : Sto) (l : MLit) : Bool := (rowOf s l).any fun z => litV z l
def unitS (s : Sto) (c : Cla) : Sto :=
  if failedS s then s
  else match liveL s c with
    | [] => siftS s fun _ _ => false
    | l0 :: rest => if rest.all (fun l => decide (l.var = l0.var)) then siftS s (fun k z => decide ((k : Int) ≠ l0.var) || oneB c k z) else s
def denyS (s : Sto) (c : Cla) : Sto := siftS s fun k z => !oneB c k z

theorem held_pos (r : List Int) (l : MLit) : heldN r l ≠ 0 ↔ ∃ x ∈ r, litV x l = true := by
  unfold heldN
  rw [Ne, List.length_eq_zero_iff, List.filter_eq_nil_iff]
  constructor
  · intro h
    apply Classical.byContradiction
    intro hn
    exact h fun x hx hl => hn ⟨x, hx, hl⟩
  · rintro ⟨x, hx, hl⟩ h
    exact h x hx hl
theorem mem_live (s : Sto) (c : Cla) (l : MLit) : l ∈ liveL s c ↔ l ∈ c ∧ ∃ x ∈ rowOf s l, litV x l = true := by
  unfold liveL
  rw [List.mem_filter, decide_eq_true_eq, held_pos]
theorem oneB_iff (c : Cla) (k : Nat) (z : Int) : oneB c k z = true ↔ ∃ l ∈ c, l.var = (k : Int) ∧ litV z l = true := by
  unfold oneB
  rw [List.any_eq_true]
  exact ⟨fun ⟨l, h1, h2⟩ => ⟨l, h1, by simpa using h2⟩, fun ⟨l, h1, h2⟩ => ⟨l, h1, by simpa using h2⟩⟩
theorem claB_iff (c : Cla) (vals : List Int) : claB c vals = true ↔ ∃ l ∈ c, litV (vals.getD l.var.toNat 0) l = true := by unfold claB; rw [List.any_eq_true]

/-- All literals of a clause are of variables of the store. -/
def ClaIn (s : Sto) (c : Cla) : Prop := ∀ l ∈ c, 0 ≤ l.var ∧ l.var < (s.length : Int)
theorem has_val (s : Sto) (vals : List Int) (h : hasS s vals = true) (l : MLit) (h0 : 0 ≤ l.var) (h1 : l.var < (s.length : Int)) : vals.getD l.var.toNat 0 ∈ rowOf s l := by
  rw [hasS_iff] at h
  have hi : l.var.toNat < s.length := by omega
  have e1 : s[l.var.toNat]? = some s[l.var.toNat] := by simp [hi]
  have e2 : vals[l.var.toNat]? = some (vals[l.var.toNat]'(by omega)) := by simp [show l.var.toNat < vals.length by omega]
  unfold rowOf
  rw [List.getD_eq_getElem?_getD, List.getD_eq_getElem?_getD, e1, e2]
  exact h.2 _ _ _ e1 e2
theorem has_not_failed (s : Sto) (vals : List Int) (h : hasS s vals = true) : failedS s = false := by
  rw [hasS_iff] at h
  cases hf : failedS s
  · rfl
  · unfold failedS at hf
    rw [List.any_eq_true] at hf
    obtain ⟨r, hr, h0⟩ := hf
    obtain ⟨k, hk⟩ := List.mem_iff_getElem?.1 hr
    have hkl : k < s.length := (List.getElem?_eq_some_iff.1 hk).1
    have e2 : vals[k]? = some (vals[k]'(by omega)) := by simp [show k < vals.length by omega]
    have := h.2 k r _ hk e2
    have hn : r = [] := List.eq_nil_of_length_eq_zero (by simpa using h0)
    rw [hn] at this
    cases this
/-- NO VALUES OF WHICH THE CLAUSE HOLDS ARE LOST BY UNIT. -/
theorem unit_keeps (s : Sto) (c : Cla) (hc : ClaIn s c) (vals : List Int) (hs : hasS s vals = true) (hh : claB c vals = true) : hasS (unitS s c) vals = true := by
  obtain ⟨l, hl, hlv⟩ := (claB_iff c vals).1 hh
  obtain ⟨h0, h1⟩ := hc l hl
  have hlive : l ∈ liveL s c := (mem_live s c l).2 ⟨hl, _, has_val s vals hs l h0 h1, hlv⟩
  unfold unitS
  rw [has_not_failed s vals hs, if_neg (by simp)]
  match hq : liveL s c with
  | [] => rw [hq] at hlive; cases hlive
  | l0 :: rest =>
    simp only
    split
    · rename_i hall
      have hv : l.var = l0.var := by
        rw [hq] at hlive
        rcases List.mem_cons.1 hlive with rfl | h
        · rfl
        · simpa using List.all_eq_true.1 hall l h
      rw [hasS_iff] at hs ⊢
      refine ⟨by rw [siftS_len]; exact hs.1, fun k r x hr hx => ?_⟩
      obtain ⟨q, hq2, rfl⟩ := siftS_back _ _ _ _ hr
      refine List.mem_filter.2 ⟨hs.2 k q x hq2 hx, ?_⟩
      by_cases hk : (k : Int) = l0.var
      · simp only [hk, ne_eq, not_true_eq_false, decide_false, Bool.false_or]
        rw [oneB_iff]
        refine ⟨l, hl, by rw [hv, hk], ?_⟩
        have : l.var.toNat = k := by rw [hv, ← hk]; simp
        rw [this, List.getD_eq_getElem?_getD, hx] at hlv
        exact hlv
      · simp [hk]
    · exact hs
/-- DENY LEAVES JUST THE VALUES OF WHICH THE CLAUSE DOES NOT HOLD. -/
theorem deny_has (s : Sto) (c : Cla) (hc : ClaIn s c) (vals : List Int) (hs : hasS s vals = true) : hasS (denyS s c) vals = !claB c vals := by
  have hs2 := (hasS_iff s vals).1 hs
  rw [Bool.eq_iff_iff, hasS_iff]
  constructor
  · rintro ⟨_, h⟩
    cases hh : claB c vals
    · rfl
    · obtain ⟨l, hl, hlv⟩ := (claB_iff c vals).1 hh
      obtain ⟨h0, h1⟩ := hc l hl
      have hi : l.var.toNat < s.length := by omega
      have e1 : s[l.var.toNat]? = some s[l.var.toNat] := by simp [hi]
      have e2 : vals[l.var.toNat]? = some (vals[l.var.toNat]'(by omega)) := by simp [show l.var.toNat < vals.length by omega]
      have hm := h _ _ _ (siftS_get s _ _ _ e1) e2
      have hno := (List.mem_filter.1 hm).2
      have hyes : oneB c l.var.toNat (vals[l.var.toNat]'(by omega)) = true := by
        rw [oneB_iff]
        refine ⟨l, hl, by omega, ?_⟩
        rw [List.getD_eq_getElem?_getD, e2] at hlv
        exact hlv
      rw [hyes] at hno
      cases hno
  · intro hno
    refine ⟨by unfold denyS; rw [siftS_len]; exact hs2.1, fun k r x hr hx => ?_⟩
    obtain ⟨q, hq, rfl⟩ := siftS_back _ _ _ _ hr
    refine List.mem_filter.2 ⟨hs2.2 k q x hq hx, ?_⟩
    cases ho : oneB c k x
    · rfl
    · obtain ⟨l, hl, hk, hlv⟩ := (oneB_iff c k x).1 ho
      have : claB c vals = true := by
        rw [claB_iff]
        refine ⟨l, hl, ?_⟩
        have hkn : l.var.toNat = k := by rw [hk]; simp
        rw [hkn, List.getD_eq_getElem?_getD, hx]
        exact hlv
      rw [this] at hno
      cases hno
theorem checkV_unit (vs : List MVar) (s : Sto) (c : Cla) (hs : checkV vs s = 0) : checkV vs (unitS s c) = 0 := by
  unfold unitS
  split
  · exact hs
  · split
    · exact checkV_sift _ _ _ hs
    · split
      · exact checkV_sift _ _ _ hs
      · exact hs
theorem checkV_deny (vs : List MVar) (s : Sto) (c : Cla) (hs : checkV vs s = 0) : checkV vs (denyS s c) = 0 := checkV_sift _ _ _ hs

/-- One store is within another. -/
def SubS (t s : Sto) : Prop := t.length = s.length ∧ ∀ (k : Nat) r q, t[k]? = some r → s[k]? = some q → ∀ x ∈ r, x ∈ q
theorem SubS.refl (s : Sto) : SubS s s := ⟨rfl, fun k r q hr hq x hx => by rw [hr] at hq; cases hq; exact hx⟩
theorem SubS.trans {a b c : Sto} (h : SubS a b) (k : SubS b c) : SubS a c := by
  refine ⟨h.1.trans k.1, fun i r q hr hq x hx => ?_⟩
  have hi : i < b.length := by rw [← h.1]; exact (List.getElem?_eq_some_iff.1 hr).1
  have e : b[i]? = some b[i] := by simp [hi]
  exact k.2 i _ q e hq x (h.2 i r _ hr e x hx)
theorem sub_sift (s : Sto) (p : Nat → Int → Bool) : SubS (siftS s p) s := by
  refine ⟨siftS_len _ _, fun k r q hr hq x hx => ?_⟩
  obtain ⟨a, ha, rfl⟩ := siftS_back _ _ _ _ hr
  rw [hq] at ha; cases ha
  exact (List.mem_filter.1 hx).1
theorem sub_unit (s : Sto) (c : Cla) : SubS (unitS s c) s := by
  unfold unitS
  split
  · exact SubS.refl _
  · split
    · exact sub_sift _ _
    · split
      · exact sub_sift _ _
      · exact SubS.refl _
theorem sub_row {t s : Sto} (h : SubS t s) (l : MLit) : ∀ x ∈ rowOf t l, x ∈ rowOf s l := by
  intro x hx
  unfold rowOf at *
  rw [List.getD_eq_getElem?_getD] at *
  cases hq : t[l.var.toNat]? with
  | none => rw [hq] at hx; cases hx
  | some r =>
    rw [hq] at hx
    have hi : l.var.toNat < s.length := by rw [← h.1]; exact (List.getElem?_eq_some_iff.1 hq).1
    have e : s[l.var.toNat]? = some s[l.var.toNat] := by simp [hi]
    rw [e]
    exact h.2 _ _ _ hq e x hx
/-- WHAT UNIT LEAVES OF LESS IS LESS. -/
theorem unit_mono (s t : Sto) (c : Cla) (h : SubS t s) (ht : failedS t = false) (hs : failedS s = false) : SubS (unitS t c) (unitS s c) := by
  have hlive : ∀ l ∈ liveL t c, l ∈ liveL s c := fun l hl => by
    rw [mem_live] at *
    obtain ⟨h1, x, hx, h2⟩ := hl
    exact ⟨h1, x, sub_row h l x hx, h2⟩
  unfold unitS
  rw [ht, hs, if_neg (by simp), if_neg (by simp)]
  match hqs : liveL s c with
  | [] =>
    have hqt : liveL t c = [] := by
      rcases hq : liveL t c with _ | ⟨a, r⟩
      · rfl
      · have := hlive a (by rw [hq]; exact List.mem_cons_self ..)
        rw [hqs] at this; cases this
    rw [hqt]
    simp only
    refine ⟨by rw [siftS_len, siftS_len]; exact h.1, fun k r q hr hq x hx => ?_⟩
    obtain ⟨a, ha, rfl⟩ := siftS_back _ _ _ _ hr
    simp at hx
  | l0 :: rest =>
    simp only
    by_cases hall : rest.all (fun l => decide (l.var = l0.var)) = true
    · rw [if_pos hall]
      have hv : ∀ l ∈ liveL s c, l.var = l0.var := fun l hl => by
        rw [hqs] at hl
        rcases List.mem_cons.1 hl with rfl | h
        · rfl
        · simpa using List.all_eq_true.1 hall l h
      match hqt : liveL t c with
      | [] =>
        simp only
        refine ⟨by rw [siftS_len, siftS_len]; exact h.1, fun k r q hr hq x hx => ?_⟩
        obtain ⟨a, ha, rfl⟩ := siftS_back _ _ _ _ hr
        simp at hx
      | a :: r =>
        simp only
        have ha : a.var = l0.var := hv a (hlive a (by rw [hqt]; exact List.mem_cons_self ..))
        have hall2 : r.all (fun l => decide (l.var = a.var)) = true := by
          rw [List.all_eq_true]
          intro l hl
          have := hv l (hlive l (by rw [hqt]; exact List.mem_cons_of_mem _ hl))
          simp [this, ha]
        rw [if_pos hall2, ha]
        refine ⟨by rw [siftS_len, siftS_len]; exact h.1, fun k r q hr hq x hx => ?_⟩
        obtain ⟨b, hb, rfl⟩ := siftS_back _ _ _ _ hr
        obtain ⟨d, hd, rfl⟩ := siftS_back _ _ _ _ hq
        obtain ⟨h1, h2⟩ := List.mem_filter.1 hx
        exact List.mem_filter.2 ⟨h.2 k b d hb hd x h1, h2⟩
    · rw [if_neg hall]
      have := sub_unit t c
      unfold unitS at this
      rw [ht, if_neg (by simp)] at this
      exact this.trans h

theorem sift_same (s : Sto) (p : Nat → Int → Bool) (h : ∀ (k : Nat) r z, s[k]? = some r → z ∈ r → p k z = true) : siftS s p = s := by
  refine sto_ext _ _ (siftS_len _ _) fun k r q hr hq => ?_
  obtain ⟨a, ha, rfl⟩ := siftS_back _ _ _ _ hr
  rw [hq] at ha; cases ha
  exact List.filter_eq_self.2 fun z hz => h k _ z hq hz
theorem live_iff (s : Sto) (c : Cla) (l : MLit) : l ∈ liveL s c ↔ l ∈ c ∧ liveB s l = true := by
  rw [mem_live]
  unfold liveB
  rw [List.any_eq_true]
/-- What the program goes by: none can hold. -/
theorem unit_none (s : Sto) (c : Cla) (hf : failedS s = false) (h : c.any (liveB s) = false) : unitS s c = siftS s fun _ _ => false := by
  have hn : liveL s c = [] := by
    rcases hq : liveL s c with _ | ⟨a, r⟩
    · rfl
    · obtain ⟨h1, h2⟩ := (live_iff s c a).1 (by rw [hq]; exact List.mem_cons_self ..)
      have : c.any (liveB s) = true := List.any_eq_true.2 ⟨a, h1, h2⟩
      rw [h] at this; cases this
  unfold unitS
  rw [hf, if_neg (by simp), hn]
theorem unit_cases (s : Sto) (c : Cla) (hf : failedS s = false) (t : MLit) (ht : t ∈ c) (hl : liveB s t = true) :
    unitS s c = if c.any (fun l => !decide (l.var = t.var) && liveB s l) then s else siftS s (fun k z => decide ((k : Int) ≠ t.var) || oneB c k z) := by
  have hm : t ∈ liveL s c := (live_iff s c t).2 ⟨ht, hl⟩
  unfold unitS
  rw [hf, if_neg (by simp)]
  match hq : liveL s c with
  | [] => rw [hq] at hm; cases hm
  | l0 :: rest =>
    simp only
    by_cases hall : rest.all (fun l => decide (l.var = l0.var)) = true
    · have hv : ∀ l ∈ liveL s c, l.var = l0.var := fun l hl => by
        rw [hq] at hl
        rcases List.mem_cons.1 hl with rfl | h
        · rfl
        · simpa using List.all_eq_true.1 hall l h
      have hno : c.any (fun l => !decide (l.var = t.var) && liveB s l) = false := by
        rw [List.any_eq_false]
        intro l hlc hx
        simp only [Bool.and_eq_true, Bool.not_eq_true', decide_eq_false_iff_not] at hx
        exact hx.1 ((hv l ((live_iff s c l).2 ⟨hlc, hx.2⟩)).trans (hv t hm).symm)
      rw [if_pos hall, hno, hv t hm]
      rfl
    · rw [if_neg hall]
      have hyes : c.any (fun l => !decide (l.var = t.var) && liveB s l) = true := by
        have h1 : ∃ l ∈ rest, l.var ≠ l0.var := by
          apply Classical.byContradiction
          intro hn
          apply hall
          rw [List.all_eq_true]
          intro l hl
          by_cases e : l.var = l0.var
          · simp [e]
          · exact absurd ⟨l, hl, e⟩ hn
        obtain ⟨l, hl1, hne⟩ := h1
        have hlm : l ∈ liveL s c := by rw [hq]; exact List.mem_cons_of_mem _ hl1
        have h0m : l0 ∈ liveL s c := by rw [hq]; exact List.mem_cons_self ..
        rw [List.any_eq_true]
        by_cases e : l.var = t.var
        · have : l0.var ≠ t.var := fun e2 => hne (e.trans e2.symm)
          obtain ⟨a1, a2⟩ := (live_iff s c l0).1 h0m
          exact ⟨l0, a1, by simp [this, a2]⟩
        · obtain ⟨a1, a2⟩ := (live_iff s c l).1 hlm
          exact ⟨l, a1, by simp [e, a2]⟩
      rw [hyes]
      rfl
theorem unit_many (s : Sto) (c : Cla) (hf : failedS s = false) (t : MLit) (ht : t ∈ c) (hl : liveB s t = true) (h : c.any (fun l => !decide (l.var = t.var) && liveB s l) = true) : unitS s c = s := by
  rw [unit_cases s c hf t ht hl, h, if_pos rfl]
theorem unit_one (s : Sto) (c : Cla) (hf : failedS s = false) (t : MLit) (ht : t ∈ c) (hl : liveB s t = true) (h : c.any (fun l => !decide (l.var = t.var) && liveB s l) = false) :
    unitS s c = siftS s (fun k z => decide ((k : Int) ≠ t.var) || oneB c k z) := by
  rw [unit_cases s c hf t ht hl, h, if_neg (by simp)]
theorem unit_stays (s : Sto) (c : Cla) (hf : failedS s = false) (t : MLit) (ht : t ∈ c) (hl : liveB s t = true) (h : c.any (fun l => !decide (l.var = t.var) && liveB s l) = false)
    (k : Nat) (r : List Int) (hk : t.var = (k : Int)) (hr : s[k]? = some r) (hg : r.any (fun z => !oneB c k z) = false) : unitS s c = s := by
  rw [unit_one s c hf t ht hl h]
  refine sift_same _ _ fun j q z hq hz => ?_
  by_cases e : (j : Int) = t.var
  · have : j = k := by omega
    subst this
    rw [hr] at hq; cases hq
    have := (List.any_eq_false.1 hg) z hz
    simp only [Bool.not_eq_true', Bool.not_eq_false] at this
    simp [this]
  · simp [e]
end Go.Proofs.YtggkbhafbhhhhadGreat
