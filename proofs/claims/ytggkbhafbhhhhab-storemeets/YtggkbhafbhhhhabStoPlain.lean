/-
  PLAIN: stores, and what the program's calls say of them, as functions on data; no program in it.
-/
import Derived.Test.YtggkbhafbhhhhabModH
namespace Go.Proofs.Ytggkbhafbhhhhab

abbrev Sto := List (List Int)
def insideB (v : MVar) (n : Int) : Bool := decide (v.lo ≤ n) && decide (n ≤ v.hi)
def risesB : List Int → Bool
  | a :: b :: r => decide (a < b) && risesB (b :: r)
  | _ => true
def rangeS (vs : List MVar) (s : Sto) : Bool := (vs.zip s).all fun p => p.2.all (insideB p.1)
def checkV (vs : List MVar) (s : Sto) : Int :=
  if s.length = vs.length then (if rangeS vs s then (if s.all risesB then 0 else 4) else 3) else 1
/-- What is wrong with a model, then with the stores, one after the other. -/
def checkL (m : Mod) (l : List Sto) : Int := if checkM m = 0 then firstE (l.map (checkV m.vars)) else checkM m
def hasB (l : List Int) (n : Int) : Bool := l.any (fun k => n == k)
def meetR (a b : List Int) : List Int := a.filter (hasB b)
def meetS (s t : Sto) : Sto := List.zipWith meetR s t
def withinR (a b : List Int) : Bool := a.all (hasB b)
def withinS (s t : Sto) : Bool := (s.zip t).all fun p => withinR p.1 p.2
def failedS (s : Sto) : Bool := s.any fun r => decide (r.length = 0)
def spanR (lo hi : Int) : List Int := (List.range (hi + 1 - lo).toNat).map fun (k : Nat) => lo + (k : Int)
def beginS (vs : List MVar) : Sto := vs.map fun v => spanR v.lo v.hi

theorem hasB_iff (l : List Int) (n : Int) : hasB l n = true ↔ n ∈ l := by
  unfold hasB; rw [List.any_eq_true]
  constructor
  · rintro ⟨k, hk, he⟩; rwa [beq_iff_eq.1 he]
  · intro h; exact ⟨n, h, by simp⟩
theorem withinR_iff (a b : List Int) : withinR a b = true ↔ ∀ n ∈ a, n ∈ b := by
  unfold withinR; rw [List.all_eq_true]
  exact ⟨fun h n hn => (hasB_iff b n).1 (h n hn), fun h n hn => (hasB_iff b n).2 (h n hn)⟩
theorem mem_meetR (a b : List Int) (n : Int) : n ∈ meetR a b ↔ n ∈ a ∧ n ∈ b := by
  unfold meetR; rw [List.mem_filter, hasB_iff]
theorem rises_pair (l : List Int) : risesB l = true ↔ l.Pairwise (· < ·) := by
  induction l with
  | nil => simp [risesB]
  | cons a r ih =>
    cases r with
    | nil => simp [risesB]
    | cons b r =>
      simp only [risesB, Bool.and_eq_true, decide_eq_true_eq]
      rw [ih]
      constructor
      · rintro ⟨hab, hp⟩
        refine List.pairwise_cons.2 ⟨fun c hc => ?_, hp⟩
        rcases List.mem_cons.1 hc with rfl | hc
        · exact hab
        · have := (List.pairwise_cons.1 hp).1 c hc; omega
      · intro hp
        exact ⟨(List.pairwise_cons.1 hp).1 b (List.mem_cons_self ..), (List.pairwise_cons.1 hp).2⟩
theorem meetS_len (s t : Sto) (h : t.length = s.length) : (meetS s t).length = s.length := by simp [meetS, h]
theorem meetS_get (s t : Sto) (i : Nat) (a b : List Int) (ha : s[i]? = some a) (hb : t[i]? = some b) : (meetS s t)[i]? = some (meetR a b) := by
  simp [meetS, List.getElem?_zipWith, ha, hb]

theorem all_zip {α β : Type} (p : α × β → Bool) : ∀ (a : List α) (b : List β), (a.zip b).all p = true ↔ ∀ (i : Nat) x y, a[i]? = some x → b[i]? = some y → p (x, y) = true
  | [], b => by simp
  | x :: a, [] => by simp
  | x :: a, y :: b => by
    rw [List.zip_cons_cons, List.all_cons, Bool.and_eq_true, all_zip p a b]
    constructor
    · rintro ⟨h0, h1⟩ i u v hu hv
      cases i with
      | zero => simp at hu hv; subst hu; subst hv; exact h0
      | succ i => exact h1 i u v (by simpa using hu) (by simpa using hv)
    · intro h
      exact ⟨h 0 x y rfl rfl, fun i u v hu hv => h (i + 1) u v (by simpa using hu) (by simpa using hv)⟩

theorem checkV_ok (vs : List MVar) (s : Sto) : checkV vs s = 0 ↔ s.length = vs.length ∧ rangeS vs s = true ∧ s.all risesB = true := by
  unfold checkV
  by_cases h1 : s.length = vs.length
  · cases h2 : rangeS vs s <;> cases h3 : s.all risesB <;> simp [h1]
  · simp [h1]
theorem checkV_meet (vs : List MVar) (s t : Sto) (hs : checkV vs s = 0) (ht : checkV vs t = 0) : checkV vs (meetS s t) = 0 := by
  rw [checkV_ok] at *
  obtain ⟨s1, s2, s3⟩ := hs
  obtain ⟨t1, t2, t3⟩ := ht
  have hl : t.length = s.length := by omega
  refine ⟨by rw [meetS_len s t hl, s1], ?_, ?_⟩
  · unfold rangeS at *
    rw [all_zip] at *
    intro i v r hv hr
    have hi : i < s.length := by rw [← meetS_len s t hl]; exact (List.getElem?_eq_some_iff.1 hr).1
    have ha : s[i]? = some s[i] := by simp [hi]
    have hb : t[i]? = some (t[i]'(by omega)) := by simp [show i < t.length by omega]
    rw [meetS_get s t i _ _ ha hb] at hr
    cases hr
    have h0 := s2 i v _ hv ha
    rw [List.all_eq_true] at h0 ⊢
    intro n hn
    exact h0 n ((mem_meetR _ _ _).1 hn).1
  · rw [List.all_eq_true] at *
    intro r hr
    obtain ⟨i, hi⟩ := List.mem_iff_getElem?.1 hr
    have hi' : i < s.length := by rw [← meetS_len s t hl]; exact (List.getElem?_eq_some_iff.1 hi).1
    have ha : s[i]? = some s[i] := by simp [hi']
    have hb : t[i]? = some (t[i]'(by omega)) := by simp [show i < t.length by omega]
    rw [meetS_get s t i _ _ ha hb] at hi
    cases hi
    rw [rises_pair]
    exact ((rises_pair _).1 (s3 _ (List.mem_of_getElem? ha))).sublist (List.filter_sublist)
theorem within_meet_l (s t : Sto) (hl : t.length = s.length) : withinS (meetS s t) s = true := by
  unfold withinS
  rw [all_zip]
  intro i r a hr ha
  have hi : i < s.length := (List.getElem?_eq_some_iff.1 ha).1
  have hb : t[i]? = some (t[i]'(by omega)) := by simp [show i < t.length by omega]
  rw [meetS_get s t i _ _ ha hb] at hr
  cases hr
  exact (withinR_iff _ _).2 fun n hn => ((mem_meetR _ _ _).1 hn).1
theorem within_meet_r (s t : Sto) (hl : t.length = s.length) : withinS (meetS s t) t = true := by
  unfold withinS
  rw [all_zip]
  intro i r b hr hb
  have hi : i < t.length := (List.getElem?_eq_some_iff.1 hb).1
  have ha : s[i]? = some (s[i]'(by omega)) := by simp [show i < s.length by omega]
  rw [meetS_get s t i _ _ ha hb] at hr
  cases hr
  exact (withinR_iff _ _).2 fun n hn => ((mem_meetR _ _ _).1 hn).2
theorem within_meet (s t u : Sto) (hl : t.length = s.length) (hu : u.length = s.length) : withinS u (meetS s t) = (withinS u s && withinS u t) := by
  rw [Bool.eq_iff_iff, Bool.and_eq_true]
  unfold withinS
  rw [all_zip, all_zip, all_zip]
  constructor
  · intro h
    refine ⟨fun i r a hr ha => ?_, fun i r b hr hb => ?_⟩
    · have hi : i < s.length := (List.getElem?_eq_some_iff.1 ha).1
      have hb : t[i]? = some (t[i]'(by omega)) := by simp [show i < t.length by omega]
      have := h i r _ hr (meetS_get s t i _ _ ha hb)
      exact (withinR_iff _ _).2 fun n hn => ((mem_meetR _ _ _).1 ((withinR_iff _ _).1 this n hn)).1
    · have hi : i < t.length := (List.getElem?_eq_some_iff.1 hb).1
      have ha : s[i]? = some (s[i]'(by omega)) := by simp [show i < s.length by omega]
      have := h i r _ hr (meetS_get s t i _ _ ha hb)
      exact (withinR_iff _ _).2 fun n hn => ((mem_meetR _ _ _).1 ((withinR_iff _ _).1 this n hn)).2
  · rintro ⟨h1, h2⟩ i r x hr hx
    have hi : i < s.length := by rw [← meetS_len s t hl]; exact (List.getElem?_eq_some_iff.1 hx).1
    have ha : s[i]? = some (s[i]'(by omega)) := by simp [hi]
    have hb : t[i]? = some (t[i]'(by omega)) := by simp [show i < t.length by omega]
    rw [meetS_get s t i _ _ ha hb] at hx
    cases hx
    refine (withinR_iff _ _).2 fun n hn => (mem_meetR _ _ _).2 ⟨?_, ?_⟩
    · exact (withinR_iff _ _).1 (h1 i r _ hr ha) n hn
    · exact (withinR_iff _ _).1 (h2 i r _ hr hb) n hn
end Go.Proofs.Ytggkbhafbhhhhab
