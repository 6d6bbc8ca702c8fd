/-
  PLAIN: the store of those values that stay.
-/
import Derived.Test.YtggkbhafbhhhhabStoPlain
namespace Go.Proofs.Ytggkbhafbhhhhab

def siftS (s : Sto) (p : Nat → Int → Bool) : Sto := s.mapIdx fun k r => r.filter (p k)
theorem siftS_len (s : Sto) (p : Nat → Int → Bool) : (siftS s p).length = s.length := by simp [siftS]
theorem siftS_get (s : Sto) (p : Nat → Int → Bool) (k : Nat) (r : List Int) (h : s[k]? = some r) : (siftS s p)[k]? = some (r.filter (p k)) := by
  simp [siftS, h]
theorem siftS_back (s : Sto) (p : Nat → Int → Bool) (k : Nat) (q : List Int) (h : (siftS s p)[k]? = some q) : ∃ r, s[k]? = some r ∧ q = r.filter (p k) := by
  have hk : k < s.length := by rw [← siftS_len s p]; exact (List.getElem?_eq_some_iff.1 h).1
  refine ⟨s[k], by simp [hk], ?_⟩
  rw [siftS_get s p k s[k] (by simp [hk])] at h
  exact (Option.some.inj h).symm
theorem sto_ext (s t : Sto) (hl : s.length = t.length) (h : ∀ (k : Nat) r q, s[k]? = some r → t[k]? = some q → r = q) : s = t := by
  apply List.ext_getElem? 
  intro k
  by_cases hk : k < s.length
  · have h1 : s[k]? = some s[k] := by simp [hk]
    have h2 : t[k]? = some (t[k]'(by omega)) := by simp [show k < t.length by omega]
    rw [h1, h2, h k _ _ h1 h2]
  · rw [List.getElem?_eq_none (by omega), List.getElem?_eq_none (by omega)]
theorem checkV_sift (vs : List MVar) (s : Sto) (p : Nat → Int → Bool) (hs : checkV vs s = 0) : checkV vs (siftS s p) = 0 := by
  rw [checkV_ok] at *
  obtain ⟨s1, s2, s3⟩ := hs
  refine ⟨by rw [siftS_len, s1], ?_, ?_⟩
  · unfold rangeS at *
    rw [all_zip] at *
    intro i v r hv hr
    obtain ⟨q, hq, rfl⟩ := siftS_back s p i r hr
    have h0 := s2 i v q hv hq
    rw [List.all_eq_true] at h0 ⊢
    intro n hn
    exact h0 n (List.mem_filter.1 hn).1
  · rw [List.all_eq_true] at *
    intro r hr
    obtain ⟨i, hi⟩ := List.mem_iff_getElem?.1 hr
    obtain ⟨q, hq, rfl⟩ := siftS_back s p i r hi
    rw [rises_pair]
    exact ((rises_pair _).1 (s3 _ (List.mem_of_getElem? hq))).sublist List.filter_sublist
theorem within_sift (s : Sto) (p : Nat → Int → Bool) : withinS (siftS s p) s = true := by
  unfold withinS
  rw [all_zip]
  intro i r a hr ha
  obtain ⟨q, hq, rfl⟩ := siftS_back s p i r hr
  rw [ha] at hq; cases hq
  exact (withinR_iff _ _).2 fun n hn => (List.mem_filter.1 hn).1
theorem meetS_sift (s t : Sto) (h : t.length = s.length) : meetS s t = siftS s fun k z => hasB (t.getD k []) z := by
  refine sto_ext _ _ (by rw [meetS_len s t h, siftS_len]) fun k r q hr hq => ?_
  obtain ⟨a, ha, rfl⟩ := siftS_back _ _ _ _ hq
  have hk : k < s.length := (List.getElem?_eq_some_iff.1 ha).1
  have hb : t[k]? = some (t[k]'(by omega)) := by simp [show k < t.length by omega]
  rw [meetS_get s t k _ _ ha hb] at hr
  cases hr
  unfold meetR
  rw [List.getD_eq_getElem?_getD, hb]; rfl
def hasS (s : Sto) (vals : List Int) : Bool := decide (s.length = vals.length) && (s.zip vals).all fun p => hasB p.1 p.2
theorem hasS_iff (s : Sto) (vals : List Int) : hasS s vals = true ↔ s.length = vals.length ∧ ∀ (k : Nat) r x, s[k]? = some r → vals[k]? = some x → x ∈ r := by
  unfold hasS
  rw [Bool.and_eq_true, decide_eq_true_eq, all_zip]
  exact ⟨fun h => ⟨h.1, fun k r x hr hx => (hasB_iff _ _).1 (h.2 k r x hr hx)⟩, fun h => ⟨h.1, fun k r x hr hx => (hasB_iff _ _).2 (h.2 k r x hr hx)⟩⟩
end Go.Proofs.Ytggkbhafbhhhhab
