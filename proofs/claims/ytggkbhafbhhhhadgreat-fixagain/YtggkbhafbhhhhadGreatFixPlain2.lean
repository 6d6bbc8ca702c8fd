/-
  PLAIN: the steps of constraints and of clauses; what all together leave.
-/
import Derived.Test.YtggkbhafbhhhhadGreatFixPlain
import Derived.Test.YtggkbhafbhhhhadGreatFilPlain
namespace Go.Proofs.YtggkbhafbhhhhadGreat

def filtS (n : Nat) (c : MCon) (s : Sto) : Sto := if s.length = n then filterS c s else s
theorem filt_eq (n : Nat) (c : MCon) (s : Sto) (h : s.length = n) : filtS n c s = filterS c s := by unfold filtS; rw [if_pos h]
theorem filt_step (n : Nat) (c : MCon) (hsc : ∀ v ∈ scopeC c, 0 ≤ v ∧ v < (n : Int)) (hl : c.kind = 10 → c.lits ≠ []) : StepOk (filtS n c) where
  dec s := by
    unfold filtS
    split
    · exact sub_sift _ _
    · exact SubS.refl _
  row s := by
    unfold filtS
    split
    · exact row_sift _ _
    · exact RowSub.refl _
  mono s t h ht hs := by
    unfold filtS
    by_cases hn : s.length = n
    · have hm : t.length = n := h.1.trans hn
      rw [if_pos hn, if_pos hm]
      refine within_sub (by unfold filterS; rw [siftS_len, siftS_len]; exact h.1) ?_
      exact filter_less c s t h.1 (by rw [hn]; exact hsc) hl ht hs (sub_within h)
    · have hm : t.length ≠ n := fun e => hn (h.1.symm.trans e)
      rw [if_neg hn, if_neg hm]
      exact h
  stay s h := by
    unfold filtS
    split
    · exact filter_failed c s h
    · rfl
def conSteps (m : Mod) : List (Sto → Sto) := m.cons.map fun c => filtS m.vars.length c
def claSteps (l : List Cla) : List (Sto → Sto) := l.map fun c => fun s => unitS s c
def bothSteps (m : Mod) (l : List Cla) : List (Sto → Sto) := claSteps l ++ conSteps m
theorem con_steps (m : Mod) (hm : checkM m = 0) : ∀ f ∈ conSteps m, StepOk f := by
  intro f hf
  obtain ⟨c, hc, rfl⟩ := List.mem_map.1 hf
  obtain ⟨j, hj⟩ := List.mem_iff_getElem?.1 hc
  obtain ⟨h1, h2⟩ := scope_in m hm j c hj
  exact filt_step _ c h1 h2
theorem cla_steps (l : List Cla) : ∀ f ∈ claSteps l, StepOk f := by
  intro f hf
  obtain ⟨c, _, rfl⟩ := List.mem_map.1 hf
  exact unit_step c
theorem both_steps (m : Mod) (l : List Cla) (hm : checkM m = 0) : ∀ f ∈ bothSteps m l, StepOk f := by
  intro f hf
  rcases List.mem_append.1 hf with h | h
  · exact cla_steps l f h
  · exact con_steps m hm f h
theorem checkV_filt (vs : List MVar) (n : Nat) (c : MCon) (s : Sto) (h : checkV vs s = 0) : checkV vs (filtS n c s) = 0 := by
  unfold filtS
  split
  · exact checkV_sift _ _ _ h
  · exact h
theorem con_right (m : Mod) : ∀ f ∈ conSteps m, ∀ u, checkV m.vars u = 0 → checkV m.vars (f u) = 0 := by
  intro f hf u hu
  obtain ⟨c, _, rfl⟩ := List.mem_map.1 hf
  exact checkV_filt _ _ c u hu
theorem cla_right (vs : List MVar) (l : List Cla) : ∀ f ∈ claSteps l, ∀ u, checkV vs u = 0 → checkV vs (f u) = 0 := by
  intro f hf u hu
  obtain ⟨c, _, rfl⟩ := List.mem_map.1 hf
  exact checkV_unit vs u c hu
theorem both_right (m : Mod) (l : List Cla) : ∀ f ∈ bothSteps m l, ∀ u, checkV m.vars u = 0 → checkV m.vars (f u) = 0 := by
  intro f hf
  rcases List.mem_append.1 hf with h | h
  · exact cla_right _ l f h
  · exact con_right m f h
/-- What a call of package fix answers: an error, or the greatest store. -/
def FixR (chk : Int) (fs : List (Sto → Sto)) (vs : List MVar) (s t : Sto) (er : Int) : Prop :=
  (chk ≠ 0 → er = chk ∧ t = []) ∧ (chk = 0 → er = 0 ∧ Greatest fs s t ∧ checkV vs t = 0)
def bothE (m : Mod) (s : Sto) (l : List Cla) : Int := if checkL m [s] = 0 then clasE m.vars l else checkL m [s]
theorem bothE_ok (m : Mod) (s : Sto) (l : List Cla) (h : bothE m s l = 0) : checkL m [s] = 0 ∧ clasE m.vars l = 0 := by
  unfold bothE at h
  split at h
  · rename_i h0; exact ⟨h0, h⟩
  · contradiction
theorem claE_ok (vs : List MVar) (c : Cla) (h : claE vs c = 0) : c.length ≤ 40 ∧ ∀ l ∈ c, litE vs l = 0 := by
  unfold claE at h
  split at h
  · cases h
  · refine ⟨by omega, fun l hl => firstE_all _ h _ (List.mem_map.2 ⟨l, hl, rfl⟩)⟩
theorem clasE_ok (vs : List MVar) (l : List Cla) (h : clasE vs l = 0) : l.length ≤ 600 ∧ ∀ c ∈ l, claE vs c = 0 := by
  unfold clasE at h
  split at h
  · cases h
  · refine ⟨by omega, fun c hc => firstE_all _ h _ (List.mem_map.2 ⟨c, hc, rfl⟩)⟩
theorem claIn_of (vs : List MVar) (s : Sto) (c : Cla) (hs : s.length = vs.length) (h : claE vs c = 0) : ClaIn s c := by
  intro l hl
  have := ((litE_ok vs l).1 ((claE_ok vs c h).2 l hl)).1
  rw [hs]; exact this
/-- NO VALUES OF WHICH ALL OF IT HOLDS ARE LOST. -/
theorem both_keeps (m : Mod) (l : List Cla) (s t : Sto) (hm : checkM m = 0) (hs : checkV m.vars s = 0) (hl : clasE m.vars l = 0) (h : Greatest (bothSteps m l) s t) (vals : List Int) (hv : hasS s vals = true)
    (h1 : ∀ c ∈ m.cons, holdsC c vals = true) (h2 : ∀ c ∈ l, claB c vals = true) : hasS t vals = true := by
  have hlen := ((checkV_ok _ _).1 hs).1
  refine great_keeps h vals hv fun f hf u hu huv => ?_
  rcases List.mem_append.1 hf with hf | hf
  · obtain ⟨c, hc, rfl⟩ := List.mem_map.1 hf
    exact unit_keeps u c (claIn_of m.vars u c (by rw [hu, hlen]) ((clasE_ok _ _ hl).2 c hc)) vals huv (h2 c hc)
  · obtain ⟨c, hc, rfl⟩ := List.mem_map.1 hf
    obtain ⟨j, hj⟩ := List.mem_iff_getElem?.1 hc
    obtain ⟨k1, k2⟩ := scope_in m hm j c hj
    have hul : u.length = m.vars.length := by rw [hu, hlen]
    rw [filt_eq _ c u hul]
    rw [hasS_iff] at huv ⊢
    refine ⟨by rw [← huv.1]; exact siftS_len _ _, fun k r x hr hx => ?_⟩
    exact filter_keeps c u (by rw [hul]; exact k1) k2 vals huv.1.symm huv.2 (h1 c hc) k r x hr hx
end Go.Proofs.YtggkbhafbhhhhadGreat
