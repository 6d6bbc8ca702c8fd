/-
  PART 5 of what the proof leans on (FilPlain, FixPlain2, FixM, FauA, FauB, FilA, FilB, FilC, StoE, FilD).
-/
import Derived.Test.YtggkbhafbhhhhadGreatPartD
import Derived.Maps.OwnSet
import Derived.Maps.AppendAt
import Derived.DeepKeys4
import Derived.WalkKit
import Derived.Deep.RegionHeld3
import Derived.Deep.DeepCutAuto
import Derived.Deep.OwnRows
/-
  PLAIN: what a constraint by itself leaves of a store; that no values are lost; that twice is once; that less leaves less.
-/
namespace Go.Proofs.YtggkbhafbhhhhadGreat

/-- All values that are tried, from a place of the scope on. -/
def reach (s : Sto) : List Int → List Int → List (List Int)
  | [], vals => [vals]
  | v :: r, vals => (s.getD v.toNat []).flatMap fun x => reach s r (vals.set v.toNat x)
def keysOf (scope u : List Int) : List (Int × Int) := scope.map fun v => (v, valAt u v)
/-- What is met, in its order. -/
def metK (c : MCon) (scope : List Int) (us : List (List Int)) : List (Int × Int) := us.flatMap fun u => if holdsC c u then keysOf scope u else []
def zerosOf (n : Nat) : List Int := List.replicate n 0
def metAll (c : MCon) (s : Sto) : List (Int × Int) := metK c (scopeC c) (reach s (scopeC c) (zerosOf s.length))
def staysB (c : MCon) (s : Sto) (k : Nat) (z : Int) : Bool :=
  if failedS s then true
  else if (scopeC c).length = 0 then holdsC c (zerosOf s.length)
  else if hasB (scopeC c) (k : Int) then (metAll c s).contains ((k : Int), z)
  else true
def filterS (c : MCon) (s : Sto) : Sto := siftS s (staysB c s)
def filterA (m : Mod) (con : Int) (s : Sto) : Sto × Int :=
  if checkL m [s] = 0 then (if conCheck m con = 0 then (filterS (m.cons.getD con.toNat noCon) s, 0) else ([], conCheck m con)) else ([], checkL m [s])

theorem mem_comp (zs : List Int) (x : Int) : x ∈ compI zs ↔ x ∈ zs := by
  unfold compI Lib.compact Lib.compactUpTo
  constructor
  · intro h
    obtain ⟨i, hi, rfl⟩ := List.mem_map.1 h
    have hi' : i < zs.length := List.mem_range.1 (List.mem_filter.1 hi).1
    simp [getElem!_pos, hi']
  · intro h
    obtain ⟨i, hi, rfl⟩ := List.mem_iff_getElem.1 h
    have key : ∀ (j : Nat) (hj : j < zs.length), zs[j] ∈ ((List.range zs.length).filter (Lib.keeps zs.toArray)).map (zs.toArray[·]!) := by
      intro j
      induction j with
      | zero =>
        intro hj
        exact List.mem_map.2 ⟨0, List.mem_filter.2 ⟨List.mem_range.2 hj, by simp [Lib.keeps]⟩, by simp [getElem!_pos, hj]⟩
      | succ j ih =>
        intro hj
        by_cases hk : Lib.keeps zs.toArray (j + 1) = true
        · exact List.mem_map.2 ⟨j + 1, List.mem_filter.2 ⟨List.mem_range.2 hj, hk⟩, by simp [getElem!_pos, hj]⟩
        · have he : zs[j + 1] = zs[j] := by
            have h1 : ¬ (j + 1 = 0 ∨ zs.toArray[j + 1]! ≠ zs.toArray[j + 1 - 1]!) := by simpa [Lib.keeps] using hk
            have h2 : zs.toArray[j + 1]! = zs.toArray[j]! := by
              by_cases h3 : zs.toArray[j + 1]! = zs.toArray[j]!
              · exact h3
              · exact absurd (Or.inr h3) h1
            rw [getElem!_pos zs.toArray (j + 1) (by simpa using hj), getElem!_pos zs.toArray j (by simp; omega)] at h2
            simpa using h2
          rw [he]
          exact ih (by omega)
    exact key i hi
theorem mem_scope (c : MCon) (x : Int) : x ∈ scopeC c ↔ x ∈ scopeL c := by
  unfold scopeC
  rw [mem_comp]
  unfold sortI
  exact (List.mergeSort_perm _ _).mem_iff
theorem ownV_same (vars a b : List Int) (h : ∀ v ∈ vars, valAt a v = valAt b v) : ownV vars a = ownV vars b := List.map_congr_left h
theorem litB_same (a b : List Int) (l : MLit) (h : valAt a l.var = valAt b l.var) : litB a l = litB b l := by unfold litB; rw [h]
/-- A constraint speaks of its scope alone. -/
theorem holds_scope (c : MCon) (a b : List Int) (h : ∀ v ∈ scopeC c, valAt a v = valAt b v) (hl : c.kind = 10 → c.lits ≠ []) : holdsC c a = holdsC c b := by
  have h0 : ∀ v ∈ c.vars, valAt a v = valAt b v := fun v hv => h v ((mem_scope c v).2 (List.mem_append_left _ hv))
  have h1 : ∀ l ∈ c.lits, litB a l = litB b l := fun l hl => litB_same a b l (h _ ((mem_scope c _).2 (List.mem_append_right _ (List.mem_map.2 ⟨l, hl, rfl⟩))))
  have h2 := ownV_same c.vars a b h0
  have h3 : c.lits.any (litB a) = c.lits.any (litB b) := by
    rw [Bool.eq_iff_iff, List.any_eq_true, List.any_eq_true]
    exact ⟨fun ⟨l, hm, hq⟩ => ⟨l, hm, by rw [← h1 l hm]; exact hq⟩, fun ⟨l, hm, hq⟩ => ⟨l, hm, by rw [h1 l hm]; exact hq⟩⟩
  by_cases hk : c.kind = 10
  · have h4 : litB a (c.lits.getD 0 ⟨0, 0, 0⟩) = litB b (c.lits.getD 0 ⟨0, 0, 0⟩) := by
      match hc : c.lits with
      | [] => exact absurd hc (hl hk)
      | l :: r => exact h1 l (by rw [hc]; exact List.mem_cons_self ..)
    unfold holdsC
    rw [h2, h3, h4]
  · unfold holdsC
    rw [h2, h3]
    simp only [hk, if_false]

theorem valAt_set_self (vals : List Int) (v x : Int) (h : v.toNat < vals.length) : valAt (vals.set v.toNat x) v = x := by
  unfold valAt; rw [List.getD_eq_getElem?_getD, List.getElem?_set_self h]; rfl
theorem valAt_set_ne (vals : List Int) (v x u : Int) (h : v.toNat ≠ u.toNat) : valAt (vals.set v.toNat x) u = valAt vals u := by
  unfold valAt; rw [List.getD_eq_getElem?_getD, List.getD_eq_getElem?_getD, List.getElem?_set_ne h]

theorem reach_len (s : Sto) : ∀ (r vals u : List Int), u ∈ reach s r vals → u.length = vals.length
  | [], vals, u, h => by simp [reach] at h; rw [h]
  | v :: r, vals, u, h => by
    unfold reach at h
    obtain ⟨x, _, hx⟩ := List.mem_flatMap.1 h
    have := reach_len s r _ u hx
    simpa using this
theorem reach_out (s : Sto) : ∀ (r vals u : List Int), u ∈ reach s r vals → ∀ w : Int, (∀ v ∈ r, v.toNat ≠ w.toNat) → valAt u w = valAt vals w
  | [], vals, u, h, w, _ => by simp [reach] at h; rw [h]
  | v :: r, vals, u, h, w, hw => by
    unfold reach at h
    obtain ⟨x, _, hx⟩ := List.mem_flatMap.1 h
    rw [reach_out s r _ u hx w (fun v' hv => hw v' (List.mem_cons_of_mem _ hv)), valAt_set_ne _ _ _ _ (hw v (List.mem_cons_self ..))]
theorem reach_in (s : Sto) : ∀ (r vals u : List Int), (∀ v ∈ r, v.toNat < vals.length) → u ∈ reach s r vals → ∀ w ∈ r, ∃ v ∈ r, v.toNat = w.toNat ∧ valAt u w ∈ s.getD v.toNat []
  | [], vals, u, _, h, w, hw => by cases hw
  | v :: r, vals, u, hb, h, w, hw => by
    unfold reach at h
    obtain ⟨x, hx0, hx⟩ := List.mem_flatMap.1 h
    by_cases hq : ∃ v' ∈ r, v'.toNat = w.toNat
    · obtain ⟨v', hv', he⟩ := hq
      obtain ⟨v2, hv2, he2, hm⟩ := reach_in s r _ u (fun v'' hv'' => by simpa using hb v'' (List.mem_cons_of_mem _ hv'')) hx v' hv'
      refine ⟨v2, List.mem_cons_of_mem _ hv2, by omega, ?_⟩
      have : valAt u w = valAt u v' := by unfold valAt; rw [he]
      rw [this]; exact hm
    · have hne : ∀ v' ∈ r, v'.toNat ≠ w.toNat := fun v' hv' he => hq ⟨v', hv', he⟩
      have hwv : w = v := by
        rcases List.mem_cons.1 hw with h | h
        · exact h
        · exact absurd rfl (hne w h)
      subst hwv
      refine ⟨w, List.mem_cons_self .., rfl, ?_⟩
      rw [reach_out s r _ u hx w hne, valAt_set_self _ _ _ (hb w (List.mem_cons_self ..))]
      exact hx0
theorem reach_hits (s : Sto) : ∀ (r vals u : List Int), (∀ v ∈ r, v.toNat < vals.length) → u.length = vals.length → (∀ v ∈ r, valAt u v ∈ s.getD v.toNat []) →
    (∀ w : Nat, (∀ v ∈ r, v.toNat ≠ w) → u[w]? = vals[w]?) → u ∈ reach s r vals
  | [], vals, u, _, hl, _, ho => by
    simp only [reach, List.mem_singleton]
    exact List.ext_getElem? fun w => ho w (fun v hv => by cases hv)
  | v :: r, vals, u, hb, hl, hi, ho => by
    unfold reach
    refine List.mem_flatMap.2 ⟨valAt u v, hi v (List.mem_cons_self ..), ?_⟩
    refine reach_hits s r _ u (fun v' hv' => by simpa using hb v' (List.mem_cons_of_mem _ hv')) (by simpa using hl) (fun v' hv' => hi v' (List.mem_cons_of_mem _ hv')) fun w hw => ?_
    by_cases hwv : w = v.toNat
    · subst hwv
      have hlt := hb v (List.mem_cons_self ..)
      rw [List.getElem?_set_self hlt]
      unfold valAt
      rw [List.getD_eq_getElem?_getD]
      rw [List.getElem?_eq_getElem (by omega)]; rfl
    · rw [List.getElem?_set_ne (fun h => hwv h.symm)]
      refine ho w fun v' hv' => ?_
      rcases List.mem_cons.1 hv' with rfl | h
      · exact fun h => hwv h.symm
      · exact hw v' h

/-- Values that agree but for a rest of the scope reach the same. -/
def Agree (r a b : List Int) : Prop := a.length = b.length ∧ ∀ w : Nat, (∀ v ∈ r, v.toNat ≠ w) → a[w]? = b[w]?
theorem Agree.refl (r a : List Int) : Agree r a a := ⟨rfl, fun _ _ => rfl⟩
theorem Agree.trans {r a b c : List Int} (h : Agree r a b) (k : Agree r b c) : Agree r a c := ⟨h.1.trans k.1, fun w hw => (h.2 w hw).trans (k.2 w hw)⟩
theorem Agree.symm {r a b : List Int} (h : Agree r a b) : Agree r b a := ⟨h.1.symm, fun w hw => (h.2 w hw).symm⟩
theorem Agree.cons {r a b : List Int} (v : Int) (h : Agree r a b) : Agree (v :: r) a b := ⟨h.1, fun w hw => h.2 w fun v' hv' => hw v' (List.mem_cons_of_mem _ hv')⟩
theorem Agree.set {r a b : List Int} {v : Int} (x : Int) (h : Agree (v :: r) a b) : Agree r (a.set v.toNat x) (b.set v.toNat x) := by
  refine ⟨by simpa using h.1, fun w hw => ?_⟩
  by_cases hwv : w = v.toNat
  · subst hwv
    by_cases hlt : v.toNat < a.length
    · rw [List.getElem?_set_self hlt, List.getElem?_set_self (by rw [← h.1]; exact hlt)]
    · rw [List.getElem?_eq_none (by simp; omega), List.getElem?_eq_none (by have := h.1; simp; omega)]
  · rw [List.getElem?_set_ne (fun h => hwv h.symm), List.getElem?_set_ne (fun h => hwv h.symm)]
    refine h.2 w fun v' hv' => ?_
    rcases List.mem_cons.1 hv' with rfl | h'
    · exact fun h => hwv h.symm
    · exact hw v' h'
theorem Agree.of_set (r a : List Int) (v x : Int) : Agree (v :: r) a (a.set v.toNat x) := by
  refine ⟨by simp, fun w hw => ?_⟩
  rw [List.getElem?_set_ne (hw v (List.mem_cons_self ..))]
theorem reach_same (s : Sto) : ∀ (r a b : List Int), Agree r a b → reach s r a = reach s r b
  | [], a, b, h => by
    unfold reach
    rw [show a = b from List.ext_getElem? fun w => h.2 w (fun v hv => by cases hv)]
  | v :: r, a, b, h => by
    unfold reach
    congr 1
    funext x
    exact reach_same s r _ _ (h.set x)

/-- A value is part of values of which the constraint holds. -/
def Part (c : MCon) (s : Sto) (k : Nat) (z : Int) : Prop := ∃ u : List Int, u.length = s.length ∧ (∀ v ∈ scopeC c, valAt u v ∈ s.getD v.toNat []) ∧ holdsC c u = true ∧ valAt u (k : Int) = z

theorem mem_metK (c : MCon) (scope : List Int) (us : List (List Int)) (k z : Int) : (k, z) ∈ metK c scope us ↔ ∃ u ∈ us, holdsC c u = true ∧ k ∈ scope ∧ valAt u k = z := by
  unfold metK
  rw [List.mem_flatMap]
  constructor
  · rintro ⟨u, hu, h⟩
    cases hh : holdsC c u
    · rw [hh] at h; simp at h
    · rw [hh, if_pos rfl] at h
      obtain ⟨v, hv, he⟩ := List.mem_map.1 h
      cases he
      exact ⟨u, hu, hh, hv, rfl⟩
  · rintro ⟨u, hu, hh, hv, rfl⟩
    exact ⟨u, hu, by rw [hh, if_pos rfl]; exact List.mem_map.2 ⟨k, hv, rfl⟩⟩

theorem getElem_zeros (n w : Nat) (h : w < n) : (zerosOf n)[w]? = some 0 := by simp [zerosOf, h]
theorem met_iff (c : MCon) (s : Sto) (hsc : ∀ v ∈ scopeC c, 0 ≤ v ∧ v < s.length) (hl : c.kind = 10 → c.lits ≠ []) (k : Nat) (z : Int) (hk : (k : Int) ∈ scopeC c) :
    (metAll c s).contains ((k : Int), z) = true ↔ Part c s k z := by
  rw [List.contains_iff_mem]
  unfold metAll
  rw [mem_metK]
  have hb : ∀ v ∈ scopeC c, v.toNat < (zerosOf s.length).length := fun v hv => by
    have := hsc v hv
    simp only [zerosOf, List.length_replicate]
    omega
  constructor
  · rintro ⟨u, hu, hh, _, hz⟩
    refine ⟨u, by rw [reach_len s _ _ u hu]; simp [zerosOf], fun v hv => ?_, hh, hz⟩
    obtain ⟨v', _, he, hm⟩ := reach_in s _ _ u hb hu v hv
    rw [← he]; exact hm
  · rintro ⟨u, hul, hu, hh, hz⟩
    let u' : List Int := (List.range s.length).map fun (i : Nat) => if (i : Int) ∈ scopeC c then valAt u (i : Int) else 0
    have hu'l : u'.length = s.length := by simp [u']
    have hval : ∀ v ∈ scopeC c, valAt u' v = valAt u v := fun v hv => by
      obtain ⟨h0, h1⟩ := hsc v hv
      obtain ⟨i, rfl⟩ : ∃ i : Nat, v = (i : Int) := ⟨v.toNat, by omega⟩
      have hi : i < s.length := by omega
      unfold valAt
      rw [List.getD_eq_getElem?_getD]
      simp only [u', Int.toNat_natCast, List.getElem?_map, List.getElem?_range hi, Option.map_some, Option.getD_some, if_pos hv]
      rfl
    refine ⟨u', reach_hits s _ _ u' hb (by rw [hu'l]; simp [zerosOf]) (fun v hv => by rw [hval v hv]; exact hu v hv) (fun w hw => ?_), ?_, hk, by rw [hval _ hk]; exact hz⟩
    · by_cases hws : w < s.length
      · rw [getElem_zeros _ _ hws]
        simp only [u', List.getElem?_map, List.getElem?_range hws, Option.map_some]
        rw [if_neg (fun h => hw _ h (by simp))]
      · rw [List.getElem?_eq_none (by omega), List.getElem?_eq_none (by simp [zerosOf]; omega)]
    · rw [holds_scope c u' u hval hl]; exact hh

theorem stays_in (c : MCon) (s : Sto) (hf : failedS s = false) (k : Nat) (z : Int) (hk : (k : Int) ∈ scopeC c) : staysB c s k z = (metAll c s).contains ((k : Int), z) := by
  have hn : (scopeC c).length ≠ 0 := fun h => by rw [List.eq_nil_of_length_eq_zero h] at hk; cases hk
  unfold staysB
  rw [hf, if_neg (by simp), if_neg hn, if_pos ((hasB_iff _ _).2 hk)]
theorem stays_out (c : MCon) (s : Sto) (hn : (scopeC c).length ≠ 0) (k : Nat) (z : Int) (hk : (k : Int) ∉ scopeC c) : staysB c s k z = true := by
  unfold staysB
  cases failedS s
  · rw [if_neg (by simp), if_neg hn, if_neg (fun h => hk ((hasB_iff _ _).1 h))]
  · rfl
theorem stays_none (c : MCon) (s : Sto) (hf : failedS s = false) (hn : (scopeC c).length = 0) (k : Nat) (z : Int) : staysB c s k z = holdsC c (zerosOf s.length) := by
  unfold staysB
  rw [hf, if_neg (by simp), if_pos hn]
theorem stays_failed (c : MCon) (s : Sto) (hf : failedS s = true) (k : Nat) (z : Int) : staysB c s k z = true := by
  unfold staysB; rw [hf, if_pos rfl]
theorem filter_failed (c : MCon) (s : Sto) (hf : failedS s = true) : filterS c s = s := by
  unfold filterS
  refine sto_ext _ _ (siftS_len _ _) fun k r q hr hq => ?_
  obtain ⟨a, ha, rfl⟩ := siftS_back _ _ _ _ hr
  rw [hq] at ha; cases ha
  exact List.filter_eq_self.2 fun z _ => stays_failed c s hf k z
theorem getD_row (s : Sto) (k : Nat) (r : List Int) (h : s[k]? = some r) : s.getD k [] = r := by rw [List.getD_eq_getElem?_getD, h]; rfl

/-- NO VALUES ARE LOST. -/
theorem filter_keeps (c : MCon) (s : Sto) (hsc : ∀ v ∈ scopeC c, 0 ≤ v ∧ v < s.length) (hl : c.kind = 10 → c.lits ≠ []) (vals : List Int) (hv : vals.length = s.length)
    (hin : ∀ (k : Nat) r x, s[k]? = some r → vals[k]? = some x → x ∈ r) (hh : holdsC c vals = true) (k : Nat) (r : List Int) (x : Int) (hr : (filterS c s)[k]? = some r) (hx : vals[k]? = some x) : x ∈ r := by
  obtain ⟨a, ha, rfl⟩ := siftS_back _ _ _ _ hr
  refine List.mem_filter.2 ⟨hin k a x ha hx, ?_⟩
  cases hf : failedS s
  · by_cases hn : (scopeC c).length = 0
    · rw [stays_none c s hf hn, holds_scope c (zerosOf s.length) vals (fun v hv => by rw [List.eq_nil_of_length_eq_zero hn] at hv; cases hv) hl]
      exact hh
    · by_cases hk : (k : Int) ∈ scopeC c
      · rw [stays_in c s hf k x hk, met_iff c s hsc hl k x hk]
        refine ⟨vals, hv, fun v hvs => ?_, hh, valAt_get vals k x hx⟩
        obtain ⟨h0, h1⟩ := hsc v hvs
        obtain ⟨i, rfl⟩ : ∃ i : Nat, v = (i : Int) := ⟨v.toNat, by omega⟩
        have hi : i < s.length := by omega
        have e1 : s[i]? = some s[i] := by simp [hi]
        have e2 : vals[i]? = some (vals[i]'(by omega)) := by simp [show i < vals.length by omega]
        rw [Int.toNat_natCast, getD_row s i _ e1, valAt_get vals i _ e2]
        exact hin i _ _ e1 e2
      · exact stays_out c s hn k x hk
  · exact stays_failed c s hf k x

theorem failed_iff (s : Sto) : failedS s = true ↔ ∃ k : Nat, s[k]? = some [] := by
  unfold failedS
  rw [List.any_eq_true]
  constructor
  · rintro ⟨r, hr, h⟩
    obtain ⟨k, hk⟩ := List.mem_iff_getElem?.1 hr
    have : r = [] := List.eq_nil_of_length_eq_zero (by simpa using h)
    exact ⟨k, by rw [hk, this]⟩
  · rintro ⟨k, hk⟩
    exact ⟨[], List.mem_of_getElem? hk, rfl⟩

/-- FILTERED TWICE IT IS FILTERED ONCE. -/
theorem filter_twice (c : MCon) (s : Sto) (hsc : ∀ v ∈ scopeC c, 0 ≤ v ∧ v < s.length) (hl : c.kind = 10 → c.lits ≠ []) : filterS c (filterS c s) = filterS c s := by
  cases hf : failedS s
  · cases hf2 : failedS (filterS c s)
    · have hlen : (filterS c s).length = s.length := siftS_len _ _
      refine sto_ext _ _ (siftS_len _ _) fun k r q hr hq => ?_
      obtain ⟨a, ha, rfl⟩ := siftS_back _ _ _ _ hr
      rw [hq] at ha; cases ha
      refine List.filter_eq_self.2 fun z hz => ?_
      obtain ⟨b, hb, rfl⟩ := siftS_back _ _ _ _ hq
      obtain ⟨hz1, hz2⟩ := List.mem_filter.1 hz
      by_cases hn : (scopeC c).length = 0
      · rw [stays_none c _ hf2 hn, hlen]
        rw [stays_none c s hf hn] at hz2
        exact hz2
      · by_cases hk : (k : Int) ∈ scopeC c
        · rw [stays_in c s hf k z hk, met_iff c s hsc hl k z hk] at hz2
          rw [stays_in c _ hf2 k z hk, met_iff c _ (by rw [hlen]; exact hsc) hl k z hk]
          obtain ⟨u, hul, hu, hh, huz⟩ := hz2
          refine ⟨u, by rw [hlen]; exact hul, fun v hv => ?_, hh, huz⟩
          obtain ⟨h0, h1⟩ := hsc v hv
          obtain ⟨i, rfl⟩ : ∃ i : Nat, v = (i : Int) := ⟨v.toNat, by omega⟩
          have hi : i < s.length := by omega
          have e1 : s[i]? = some s[i] := by simp [hi]
          have := hu _ hv
          rw [Int.toNat_natCast] at this ⊢
          rw [getD_row s i _ e1] at this
          show _ ∈ (siftS s (staysB c s)).getD i []
          rw [getD_row _ i _ (siftS_get s (staysB c s) i _ e1)]
          refine List.mem_filter.2 ⟨this, ?_⟩
          rw [stays_in c s hf i _ hv, met_iff c s hsc hl i _ hv]
          exact ⟨u, hul, hu, hh, rfl⟩
        · exact stays_out c _ hn k z hk
    · exact filter_failed c _ hf2
  · rw [filter_failed c s hf, filter_failed c s hf]

/-- WHAT IS FILTERED OF LESS IS LESS. -/
theorem filter_less (c : MCon) (s t : Sto) (hlen : t.length = s.length) (hsc : ∀ v ∈ scopeC c, 0 ≤ v ∧ v < s.length) (hl : c.kind = 10 → c.lits ≠ []) (hft : failedS t = false) (hfs : failedS s = false)
    (hw : withinS t s = true) : withinS (filterS c t) (filterS c s) = true := by
  unfold withinS at *
  rw [all_zip] at *
  have hsub : ∀ (i : Nat) r q, t[i]? = some r → s[i]? = some q → ∀ n ∈ r, n ∈ q := fun i r q hr hq => (withinR_iff r q).1 (hw i r q hr hq)
  intro k r q hr hq
  obtain ⟨a, ha, rfl⟩ := siftS_back _ _ _ _ hr
  obtain ⟨b, hb, rfl⟩ := siftS_back _ _ _ _ hq
  refine (withinR_iff _ _).2 fun z hz => ?_
  obtain ⟨hz1, hz2⟩ := List.mem_filter.1 hz
  refine List.mem_filter.2 ⟨hsub k a b ha hb z hz1, ?_⟩
  by_cases hn : (scopeC c).length = 0
  · rw [stays_none c s hfs hn]
    rw [stays_none c t hft hn, hlen] at hz2
    exact hz2
  · by_cases hk : (k : Int) ∈ scopeC c
    · rw [stays_in c t hft k z hk, met_iff c t (by rw [hlen]; exact hsc) hl k z hk] at hz2
      rw [stays_in c s hfs k z hk, met_iff c s hsc hl k z hk]
      obtain ⟨u, hul, hu, hh, huz⟩ := hz2
      refine ⟨u, by rw [hul, hlen], fun v hv => ?_, hh, huz⟩
      obtain ⟨h0, h1⟩ := hsc v hv
      obtain ⟨i, rfl⟩ : ∃ i : Nat, v = (i : Int) := ⟨v.toNat, by omega⟩
      have hi : i < s.length := by omega
      have e1 : s[i]? = some s[i] := by simp [hi]
      have e2 : t[i]? = some (t[i]'(by omega)) := by simp [show i < t.length by omega]
      have := hu _ hv
      rw [Int.toNat_natCast] at this ⊢
      rw [getD_row s i _ e1]
      rw [getD_row t i _ e2] at this
      exact hsub i _ _ e2 e1 _ this
    · exact stays_out c s hn k z hk
/-- What a right model's constraints have. -/
theorem scope_in (m : Mod) (hm : checkM m = 0) (j : Nat) (c : MCon) (hc : m.cons[j]? = some c) : (∀ v ∈ scopeC c, 0 ≤ v ∧ v < (m.vars.length : Int)) ∧ (c.kind = 10 → c.lits ≠ []) := by
  obtain ⟨_, _, hform, hvars, _, _⟩ := con_facts _ _ (con_ok m hm j c hc)
  obtain ⟨h1, h2⟩ := vars_in c _ hvars
  refine ⟨fun v hv => ?_, fun hk => ?_⟩
  · rw [mem_scope] at hv
    unfold scopeL at hv
    rcases List.mem_append.1 hv with h | h
    · exact h1 v h
    · obtain ⟨l, hl, rfl⟩ := List.mem_map.1 h
      exact h2 l hl
  · intro h
    unfold formB at hform
    rw [hk, h] at hform
    simp at hform
end Go.Proofs.YtggkbhafbhhhhadGreat
/-
  PLAIN: the steps of constraints and of clauses; what all together leave.
-/
namespace Go.Proofs.YtggkbhafbhhhhadGreat

def filtS (n : Nat) (c : MCon) (s : Sto) : Sto := if s.length = n then filterS c s else s
theorem filt_eq (n : Nat) (c : MCon) (s : Sto) (h : s.length = n) : filtS n c s = filterS c s := by unfold filtS; rw [if_pos h]
theorem filt_step (n : Nat) (c : MCon) (hsc : ∀ v ∈ scopeC c, 0 ≤ v ∧ v < (n : Int)) (hl : c.kind = 10 → c.lits ≠ []) : StepOk (filtS n c) where
  dec s := by
    unfold filtS
    split
    · exact sub_sift _ _
    · exact SubS.refl _
  row s := by
    unfold filtS
    split
    · exact row_sift _ _
    · exact RowSub.refl _
  mono s t h ht hs := by
    unfold filtS
    by_cases hn : s.length = n
    · have hm : t.length = n := h.1.trans hn
      rw [if_pos hn, if_pos hm]
      refine within_sub (by unfold filterS; rw [siftS_len, siftS_len]; exact h.1) ?_
      exact filter_less c s t h.1 (by rw [hn]; exact hsc) hl ht hs (sub_within h)
    · have hm : t.length ≠ n := fun e => hn (h.1.symm.trans e)
      rw [if_neg hn, if_neg hm]
      exact h
  stay s h := by
    unfold filtS
    split
    · exact filter_failed c s h
    · rfl
def conSteps (m : Mod) : List (Sto → Sto) := m.cons.map fun c => filtS m.vars.length c
def claSteps (l : List Cla) : List (Sto → Sto) := l.map fun c => fun s => unitS s c
def bothSteps (m : Mod) (l : List Cla) : List (Sto → Sto) := claSteps l ++ conSteps m
theorem con_steps (m : Mod) (hm : checkM m = 0) : ∀ f ∈ conSteps m, StepOk f := by
  intro f hf
  obtain ⟨c, hc, rfl⟩ := List.mem_map.1 hf
  obtain ⟨j, hj⟩ := List.mem_iff_getElem?.1 hc
  obtain ⟨h1, h2⟩ := scope_in m hm j c hj
  exact filt_step _ c h1 h2
theorem cla_steps (l : List Cla) : ∀ f ∈ claSteps l, StepOk f := by
  intro f hf
  obtain ⟨c, _, rfl⟩ := List.mem_map.1 hf
  exact unit_step c
theorem both_steps (m : Mod) (l : List Cla) (hm : checkM m = 0) : ∀ f ∈ bothSteps m l, StepOk f := by
  intro f hf
  rcases List.mem_append.1 hf with h | h
  · exact cla_steps l f h
  · exact con_steps m hm f h
theorem checkV_filt (vs : List MVar) (n : Nat) (c : MCon) (s : Sto) (h : checkV vs s = 0) : checkV vs (filtS n c s) = 0 := by
  unfold filtS
  split
  · exact checkV_sift _ _ _ h
  · exact h
theorem con_right (m : Mod) : ∀ f ∈ conSteps m, ∀ u, checkV m.vars u = 0 → checkV m.vars (f u) = 0 := by
  intro f hf u hu
  obtain ⟨c, _, rfl⟩ := List.mem_map.1 hf
  exact checkV_filt _ _ c u hu
theorem cla_right (vs : List MVar) (l : List Cla) : ∀ f ∈ claSteps l, ∀ u, checkV vs u = 0 → checkV vs (f u) = 0 := by
  intro f hf u hu
  obtain ⟨c, _, rfl⟩ := List.mem_map.1 hf
  exact checkV_unit vs u c hu
theorem both_right (m : Mod) (l : List Cla) : ∀ f ∈ bothSteps m l, ∀ u, checkV m.vars u = 0 → checkV m.vars (f u) = 0 := by
  intro f hf
  rcases List.mem_append.1 hf with h | h
  · exact cla_right _ l f h
  · exact con_right m f h
/-- What a call of package fix answers: an error, or the greatest store. -/
def FixR (chk : Int) (fs : List (Sto → Sto)) (vs : List MVar) (s t : Sto) (er : Int) : Prop :=
  (chk ≠ 0 → er = chk ∧ t = []) ∧ (chk = 0 → er = 0 ∧ Greatest fs s t ∧ checkV vs t = 0)
def bothE (m : Mod) (s : Sto) (l : List Cla) : Int := if checkL m [s] = 0 then clasE m.vars l else checkL m [s]
theorem bothE_ok (m : Mod) (s : Sto) (l : List Cla) (h : bothE m s l = 0) : checkL m [s] = 0 ∧ clasE m.vars l = 0 := by
  unfold bothE at h
  split at h
  · rename_i h0; exact ⟨h0, h⟩
  · contradiction
theorem claE_ok (vs : List MVar) (c : Cla) (h : claE vs c = 0) : c.length ≤ 40 ∧ ∀ l ∈ c, litE vs l = 0 := by
  unfold claE at h
  split at h
  · cases h
  · refine ⟨by omega, fun l hl => firstE_all _ h _ (List.mem_map.2 ⟨l, hl, rfl⟩)⟩
theorem clasE_ok (vs : List MVar) (l : List Cla) (h : clasE vs l = 0) : l.length ≤ 600 ∧ ∀ c ∈ l, claE vs c = 0 := by
  unfold clasE at h
  split at h
  · cases h
  · refine ⟨by omega, fun c hc => firstE_all _ h _ (List.mem_map.2 ⟨c, hc, rfl⟩)⟩
theorem claIn_of (vs : List MVar) (s : Sto) (c : Cla) (hs : s.length = vs.length) (h : claE vs c = 0) : ClaIn s c := by
  intro l hl
  have := ((litE_ok vs l).1 ((claE_ok vs c h).2 l hl)).1
  rw [hs]; exact this
/-- NO VALUES OF WHICH ALL OF IT HOLDS ARE LOST. -/
theorem both_keeps (m : Mod) (l : List Cla) (s t : Sto) (hm : checkM m = 0) (hs : checkV m.vars s = 0) (hl : clasE m.vars l = 0) (h : Greatest (bothSteps m l) s t) (vals : List Int) (hv : hasS s vals = true)
    (h1 : ∀ c ∈ m.cons, holdsC c vals = true) (h2 : ∀ c ∈ l, claB c vals = true) : hasS t vals = true := by
  have hlen := ((checkV_ok _ _).1 hs).1
  refine great_keeps h vals hv fun f hf u hu huv => ?_
  rcases List.mem_append.1 hf with hf | hf
  · obtain ⟨c, hc, rfl⟩ := List.mem_map.1 hf
    exact unit_keeps u c (claIn_of m.vars u c (by rw [hu, hlen]) ((clasE_ok _ _ hl).2 c hc)) vals huv (h2 c hc)
  · obtain ⟨c, hc, rfl⟩ := List.mem_map.1 hf
    obtain ⟨j, hj⟩ := List.mem_iff_getElem?.1 hc
    obtain ⟨k1, k2⟩ := scope_in m hm j c hj
    have hul : u.length = m.vars.length := by rw [hu, hlen]
    rw [filt_eq _ c u hul]
    rw [hasS_iff] at huv ⊢
    refine ⟨by rw [← huv.1]; exact siftS_len _ _, fun k r x hr hx => ?_⟩
    exact filter_keeps c u (by rw [hul]; exact k1) k2 vals huv.1.symm huv.2 (h1 c hc) k r x hr hx
end Go.Proofs.YtggkbhafbhhhhadGreat
/-
  MEMORY: ways to narrow a store, as closures; lists of them; lists of clauses.
-/
namespace Go.Proofs.YtggkbhafbhhhhadGreat
open Go.RowKit

/-- Some blocks are as they were. -/
structure KeepS (S : Nat → Prop) (w w' : World) : Prop where
  base : Below 0 w w'
  block : ∀ k, S k → w'.heap[k]? = w.heap[k]?
theorem KeepS.trans {S : Nat → Prop} {a b c : World} (h : KeepS S a b) (k : KeepS S b c) : KeepS S a c := ⟨h.base.trans k.base, fun i hi => (k.block i hi).trans (h.block i hi)⟩
theorem KeepS.below {S : Nat → Prop} {w w' : World} (h : Below w.heap.size w w') (hS : ∀ k, S k → k < w.heap.size) : KeepS S w w' := ⟨h.mono (Nat.zero_le _), fun k hk => h.block k (hS k hk)⟩
theorem KeepS.grown {S : Nat → Prop} {w w' : World} {row : Option Nat} (h : w.grownBy w' row) (hS : ∀ k, S k → k < w.heap.size ∧ some k ≠ row) : KeepS S w w' :=
  ⟨⟨h.os, h.tape, h.output, h.size, fun _ hk => absurd hk (Nat.not_lt_zero _)⟩, fun k hk => h.block k (hS k hk).1 (hS k hk).2⟩
theorem KeepS.to {S : Nat → Prop} {w w' : World} {N : Nat} (h : KeepS S w w') (hS : ∀ k, k < N → S k) : Below N w w' := ⟨h.base.os, h.base.tape, h.base.output, h.base.size, fun k hk => h.block k (hS k hk)⟩
theorem KeepS.cell {S : Nat → Prop} {w w' : World} (h : KeepS S w w') {p : Addr} (hp : S p.block) : w'.cell? p = w.cell? p := World.cell?_of_block (w := w) (h.block p.block hp)

/-- A way to narrow stores: a closure that hangs on some blocks alone. -/
def ByS (S : Nat → Prop) (ok : Sto → Prop) (f : Sto → Sto) (y : Value) (w : World) : Prop :=
  ∃ F caps, y = .func (.func F) #[] caps ∧ (∀ (args : Array Value) (w' : World), Sem.run Tryz.prog (callFunc F args) w' = .ok (.enter F args) w') ∧
    ∀ (t : Sto) (v : Value) (w' : World), ok t → KeepS S w w' → RArg w' v t → Calls Tryz.prog F (#[v] ++ caps) w' fun e w'' => ∃ x, e = .returned x ∧ RArg w'' x (f t) ∧ Below w'.heap.size w' w''
/-- .. that hangs on what is old. -/
def ByB (ok : Sto → Prop) (f : Sto → Sto) (y : Value) (w : World) : Prop :=
  ∃ F caps, y = .func (.func F) #[] caps ∧ (∀ (args : Array Value) (w' : World), Sem.run Tryz.prog (callFunc F args) w' = .ok (.enter F args) w') ∧
    ∀ (t : Sto) (v : Value) (w' : World), ok t → Below w.heap.size w w' → RArg w' v t → Calls Tryz.prog F (#[v] ++ caps) w' fun e w'' => ∃ x, e = .returned x ∧ RArg w'' x (f t) ∧ Below w'.heap.size w' w''
theorem ByS.keep {S : Nat → Prop} {ok : Sto → Prop} {f : Sto → Sto} {y : Value} {w w' : World} (h : ByS S ok f y w) (k : KeepS S w w') : ByS S ok f y w' := by
  obtain ⟨F, caps, hy, he, hc⟩ := h
  exact ⟨F, caps, hy, he, fun t v w2 ht hk hv => hc t v w2 ht (k.trans hk) hv⟩
theorem ByS.plain {S : Nat → Prop} {ok : Sto → Prop} {f : Sto → Sto} {y : Value} {w : World} (h : ByS S ok f y w) (hS : ∀ k, S k → k < w.heap.size) : ByB ok f y w := by
  obtain ⟨F, caps, hy, he, hc⟩ := h
  exact ⟨F, caps, hy, he, fun t v w2 ht hb hv => hc t v w2 ht (KeepS.below hb hS) hv⟩
theorem ByS.one {S : Nat → Prop} {ok : Sto → Prop} {f : Sto → Sto} {y : Value} {w : World} (h : ByS S ok f y w) : y.oneCell' = true := by
  obtain ⟨F, caps, rfl, _, _⟩ := h
  rfl
theorem ByB.below {ok : Sto → Prop} {f : Sto → Sto} {y : Value} {w w' : World} (h : ByB ok f y w) (hb : Below w.heap.size w w') : ByB ok f y w' := by
  obtain ⟨F, caps, hy, he, hc⟩ := h
  exact ⟨F, caps, hy, he, fun t v w2 ht hb2 hv => hc t v w2 ht (hb.trans (hb2.mono hb.size)) hv⟩
/-- A list of ways. -/
def WArg (ok : Sto → Prop) (w : World) (v : Value) (fs : List (Sto → Sto)) : Prop :=
  ∃ a c, v = .slice a fs.length c ∧ (fs.length ≤ c ∧ c ≤ maxLen) ∧ ∀ (i : Nat) (f : Sto → Sto), fs[i]? = some f → ∃ b off x, a = some ⟨b, off, none⟩ ∧ b < w.heap.size ∧ w.cell? ⟨b, off + i, none⟩ = some x ∧ ByB ok f x w
theorem own_ways {ok : Sto → Prop} {w : World} {base : Nat} {v : Value} {fs : List (Sto → Sto)} {cells : List Value} (h : w.ownsRow base 86 1 v fs.length cells)
    (hb : ∀ (i : Nat) (f : Sto → Sto), fs[i]? = some f → ∃ y, cells[i]? = some y ∧ ByB ok f y w) : WArg ok w v fs := by
  rcases h.2 with ⟨rfl, hn⟩ | ⟨g, cap, cur, rfl, hg, hh, hc1, hc2, _, _⟩
  · have : fs = [] := List.eq_nil_of_length_eq_zero hn
    subst this
    exact ⟨none, 0, rfl, ⟨Nat.le_refl _, Nat.zero_le _⟩, fun i z hz => by simp at hz⟩
  · refine ⟨_, cap, rfl, ⟨hc1, hc2⟩, fun i f hf => ?_⟩
    obtain ⟨y, hy, hby⟩ := hb i f hf
    have hi : i < fs.length := (List.getElem?_eq_some_iff.1 hf).1
    exact ⟨g, 0, y, rfl, (Array.getElem?_eq_some_iff.1 hh).1, by rw [Nat.zero_add, h.cellAt i (by omega)]; exact hy, hby⟩

/-- A list of clauses. -/
def LLArg (w : World) (v : Value) (l : List Cla) : Prop :=
  ∃ a c, v = .slice a l.length c ∧ (l.length ≤ c ∧ c ≤ maxLen) ∧ ∀ (i : Nat) (t : Cla), l[i]? = some t → ∃ b off x, a = some ⟨b, off, none⟩ ∧ b < w.heap.size ∧ w.cell? ⟨b, off + i, none⟩ = some x ∧ LArg w x t
theorem LLArg.below {w w' : World} {v : Value} {l : List Cla} (hb : Below w.heap.size w w') (h : LLArg w v l) : LLArg w' v l := by
  obtain ⟨a, c, hv, hm, hr⟩ := h
  refine ⟨a, c, hv, hm, fun i z hz => ?_⟩
  obtain ⟨b, off, x, ha, hlt, hc, hx⟩ := hr i z hz
  exact ⟨b, off, x, ha, Nat.lt_of_lt_of_le hlt hb.size, (hb.cell (p := ⟨b, off + i, none⟩) hlt).trans hc, LArg.below hb hx⟩

theorem Tryz.infoBy : (Tryz.prog.info? 86).map (fun i => (i.zero, i.size, i.bytes)) = some (some .nilFunc, 1, 8) := by kernel_rfl
theorem Tryz.underBys : Tryz.prog.underlying 50 = some (.slice 86) := by kernel_rfl
/-- Ways are made: all are nil. -/
theorem make_ways (n : Nat) (hn : n ≤ 1000) (w : World) : ∃ w', Sem.run Tryz.prog (Instr.makeSlice 50 (.int .i64 (n : Int)) (.int .i64 (n : Int))) w = .ok (.slice (some ⟨w.heap.size, 0, none⟩) n n) w' ∧
    w'.ownsRow w.heap.size 86 1 (.slice (some ⟨w.heap.size, 0, none⟩) n n) n (List.replicate n .nilFunc) ∧ Below w.heap.size w w' := by
  obtain ⟨i0, hi, hz0, hz1, hz2⟩ := info_parts Tryz.infoBy
  obtain ⟨w', hrun, hown, hg⟩ := run_makeSlice_full w w.heap.size 50 86 i0 .nilFunc 1 Tryz.underBys hi hz0 hz1 .i64 .i64 n (by omega) (by rw [hz2]; omega) (by unfold maxLen; omega) (Nat.le_refl _)
  refine ⟨w', hrun, ?_, (Below.refl _ _).grown hg (Nat.le_refl _) (fun k h => by cases h)⟩
  have : (Value.nilFunc).cells = #[.nilFunc] := rfl
  rw [this, Nat.mul_one, toList_madeCells_one] at hown
  exact hown
end Go.Proofs.YtggkbhafbhhhhadGreat
/-
  WALKS: package fault: what is wrong with a literal.
-/
namespace Go.Proofs.YtggkbhafbhhhhadGreat
open Go.RowKit

set_option maxHeartbeats 800000 in
set_option maxRecDepth 100000 in
theorem lit_check (vs : List MVar) (l : MLit) (v : Value) (w : World) (hv : VArg w v vs) :
    Calls Tryz.prog 126 #[v, .agg #[.int .i64 l.var, .int .i64 l.op, .int .i64 l.n]] w fun e w' => e = .returned (.int .i64 (litE vs l)) ∧ Below w.heap.size w w' := by
  obtain ⟨a, c, rfl, hm, _⟩ := hv
  unfold maxLen at hm
  obtain ⟨hm1, hm⟩ := hm
  obtain ⟨R, hR⟩ : ∃ R, litE vs l = R := ⟨_, rfl⟩
  rw [hR]
  unfold litE at hR
  by_cases q1 : l.var < 0
  · have HE : Hid (R = 5) := by rw [← hR, if_pos (Or.inl q1)]; rfl
    clear hR
    go_enter Tryz.func126, Tryz.ntmps126
    go_wp2
    go_ret
    exact ⟨ret_int HE.out.symm, below_alloc _ _⟩
  by_cases q2 : (vs.length : Int) ≤ l.var
  · have HE : Hid (R = 5) := by rw [← hR, if_pos (Or.inr q2)]; rfl
    clear hR
    go_enter Tryz.func126, Tryz.ntmps126
    go_wp2
    go_ret
    exact ⟨ret_int HE.out.symm, below_alloc _ _⟩
  rw [if_neg (by omega)] at hR
  by_cases q3 : l.op < 1
  · have HE : Hid (R = 7) := by rw [← hR, if_pos (Or.inl q3)]; rfl
    clear hR
    go_enter Tryz.func126, Tryz.ntmps126
    go_wp2
    go_ret
    exact ⟨ret_int HE.out.symm, below_alloc _ _⟩
  by_cases q4 : 4 < l.op
  · have HE : Hid (R = 7) := by rw [← hR, if_pos (Or.inr q4)]; rfl
    clear hR
    go_enter Tryz.func126, Tryz.ntmps126
    go_wp2
    go_ret
    exact ⟨ret_int HE.out.symm, below_alloc _ _⟩
  rw [if_neg (by omega)] at hR
  by_cases q5 : l.n < -1000
  · have HE : Hid (R = 3) := by rw [← hR, if_pos (Or.inl q5)]; rfl
    clear hR
    go_enter Tryz.func126, Tryz.ntmps126
    go_wp2
    go_ret
    exact ⟨ret_int HE.out.symm, below_alloc _ _⟩
  by_cases q6 : 1000 < l.n
  · have HE : Hid (R = 3) := by rw [← hR, if_pos (Or.inr q6)]; rfl
    clear hR
    go_enter Tryz.func126, Tryz.ntmps126
    go_wp2
    go_ret
    exact ⟨ret_int HE.out.symm, below_alloc _ _⟩
  have HE : Hid (R = 0) := by rw [← hR, if_neg (by omega)]; rfl
  clear hR
  go_enter Tryz.func126, Tryz.ntmps126
  go_wp2
  go_ret
  exact ⟨ret_int HE.out.symm, below_alloc _ _⟩

end Go.Proofs.YtggkbhafbhhhhadGreat
/-
  WALKS: package fault: what is wrong with a clause.
-/
namespace Go.Proofs.YtggkbhafbhhhhadGreat
open Go.RowKit

set_option maxHeartbeats 800000 in
set_option maxRecDepth 100000 in
theorem cla_check (vs : List MVar) (c : Cla) (v u : Value) (w : World) (hv : VArg w v vs) (hu : LArg w u c) :
    Calls Tryz.prog 84 #[v, u] w fun e w' => e = .returned (.int .i64 (claE vs c)) ∧ Below w.heap.size w w' := by
  have HVA : Hid (∀ w' : World, Below w.heap.size w w' → VArg w' v vs) := fun w' h => VArg.below h hv
  obtain ⟨a1, c1, rfl, _, _⟩ := hv
  obtain ⟨a, cc, rfl, hm, hr⟩ := hu
  have HV : Hid (∀ (i : Nat) (t : MLit), c[i]? = some t → ∃ b off, a = some ⟨b, off, none⟩ ∧ b < w.heap.size ∧
    w.cell? ⟨b, off + i * 3, none⟩ = some (.int .i64 t.var) ∧ w.cell? ⟨b, off + i * 3 + 1, none⟩ = some (.int .i64 t.op) ∧ w.cell? ⟨b, off + i * 3 + 2, none⟩ = some (.int .i64 t.n)) := hr
  unfold maxLen at hm
  obtain ⟨hm1, hm⟩ := hm
  obtain ⟨R, hR⟩ : ∃ R, claE vs c = R := ⟨_, rfl⟩
  rw [hR]
  have HE : Hid (R = if 40 < c.length then 2 else firstE (c.map (litE vs))) := by rw [← hR]; rfl
  clear hR hr
  by_cases h40 : 40 < c.length
  · have HN : Hid (R = 2) := by rw [HE.out, if_pos h40]; rfl
    go_enter Tryz.func84, Tryz.ntmps84
    go_wp2
    go_ret
    exact ⟨ret_int HN.out.symm, Below.refl _ _⟩
  · have HE2 : Hid (R = firstE (c.map (litE vs))) := by rw [HE.out, if_neg h40]; rfl
    go_enter Tryz.func84, Tryz.ntmps84
    go_wp2_with fail
    go_loopw [13] (fun i wr => ∃ k : Nat, k ≤ c.length ∧ i = .int .i64 k ∧ Hid (firstE ((c.map (litE vs)).take k) = 0) ∧ Below w.heap.size w wr) (fun i _ => c.length - (intOf i).toNat)
    case atStart => exact ⟨0, by omega, rfl, rfl, Below.refl _ _⟩
    case round =>
      obtain ⟨k, hk, rfl, hall, hbw⟩ := hrel
      by_cases hlt : k < c.length
      · obtain ⟨t, hz⟩ : ∃ z, c[k]? = some z := ⟨c[k], by simp [hlt]⟩
        obtain ⟨b, off, ha, hb, q0, q1, q2⟩ := HV.out k t hz
        have hc0 := (hbw.cell (p := ⟨b, off + k * 3, none⟩) hb).trans q0
        have hc1 := (hbw.cell (p := ⟨b, off + k * 3 + 1, none⟩) hb).trans q1
        have hc2 := (hbw.cell (p := ⟨b, off + k * 3 + 2, none⟩) hb).trans q2
        have hsz := hbw.size
        subst ha
        obtain ⟨er, her⟩ : ∃ er, litE vs t = er := ⟨_, rfl⟩
        have HER : Hid (litE vs t = er) := her
        have HZ : Hid ((c.map (litE vs))[k]? = some er) := by show _ = _; rw [List.getElem?_map, hz, ← her]; rfl
        clear hz q0 q1 q2 her
        go_wp2_with fail
        refine (lit_check vs t _ _ ?_).mono ?_
        · exact HVA.out _ (hbw.alloc hsz _)
        rintro e w2 ⟨rfl, hb2⟩
        rw [HER.out]
        have hB2 : Below w.heap.size w w2 := (hbw.alloc hsz _).trans (hb2.mono (by simp; omega))
        clear hb2
        by_cases he : er = 0
        · subst he
          have HN : Hid (firstE ((c.map (litE vs)).take (k + 1)) = 0) := firstE_step _ k hall.out HZ.out
          go_wp2
          go_roundw
          case rel => exact ⟨k + 1, by omega, by go_num, HN, hB2⟩
          case measure => simp [intOf]; omega
        · have HN : Hid (R = er) := by rw [HE2.out]; exact firstE_hit _ k er hall.out HZ.out he
          have he2 : (er != 0) = true := by simpa using he
          clear he
          go_wp2
          go_ret
          exact ⟨ret_int HN.out.symm, hB2⟩
      · have HN : Hid (R = 0) := by
          have := hall.out
          rw [List.take_of_length_le (by simp; omega)] at this
          rw [HE2.out]; exact this
        go_wp2
        go_ret
        exact ⟨ret_int HN.out.symm, hbw⟩
end Go.Proofs.YtggkbhafbhhhhadGreat
/-
  Sets of pairs of numbers: a map whose keys are arrays of two.
-/
namespace Go.Proofs.YtggkbhafbhhhhadGreat
open Go.RowKit Go.Maps

theorem Tryz.pairUnder : Tryz.prog.underlying 124 = some (.array 2 3) := by kernel_rfl
theorem Tryz.pairWide : (match Tryz.prog.underlying 124 with | some (.array _ _) | some (.struct _) => true | _ => false) = true := by rw [Tryz.pairUnder]
theorem Tryz.pairRow : (124 : Nat) < Tryz.prog.types.size := of_decide_eq_true (by kernel_rfl)
theorem Tryz.pairLaid : laidOutB Tryz.prog = true := by kernel_rfl
theorem Tryz.pairCells : Tryz.prog.cellsOf 124 = 2 := by kernel_rfl
theorem Tryz.pairCell : Tryz.prog.cellsOf 3 = 1 := by kernel_rfl
set_option maxRecDepth 100000 in
theorem Tryz.pairKeyed : Keyed Tryz.prog 124 := Keyed.of_law (deep_law_laid Tryz.pairLaid (m := 2) (by omega) Tryz.pairRow (by kernel_rfl) Tryz.pairWide)
theorem Tryz.pairType : Tryz.prog.keyType 124 = true := by kernel_rfl
theorem Tryz.unitZero (w : World) : (zeroValue 122).run Tryz.prog w = .ok (.agg #[]) w := by kernel_rfl

/-- What such a key reads as. -/
def pairK (a b : Int) : Lit := .string (keyBytes [.int .i64 a, .int .i64 b])
def okInt (a : Int) : Prop := -1000000 ≤ a ∧ a ≤ 1000000
theorem ok_wf {a : Int} (h : okInt a) : (Lit.int .i64 a).wf = true := WalkArith.wf_i64 (by unfold okInt at h; omega)
theorem pair_lits (d : Nat) (a b : Int) (ha : okInt a) (hb : okInt b) : Tryz.prog.keyLits (d + 2) 124 [.int .i64 a, .int .i64 b] = some [.int .i64 a, .int .i64 b] := by
  have h0 : Tryz.prog.underlying 3 = some (.int .i64) := Tryz.underlying3
  unfold Program.keyLits
  simp only [Tryz.pairUnder, Tryz.pairCells, Tryz.pairCell]
  simp [List.range_succ, Program.keyLits, h0, ok_wf ha, ok_wf hb]
theorem keyOf_pair (a b : Int) (ha : okInt a) (hb : okInt b) : keyOf Tryz.prog 124 (.agg #[.int .i64 a, .int .i64 b]) = some (pairK a b) := by
  have hf : (Value.agg #[.int .i64 a, .int .i64 b]).formed Tryz.prog 124 = true := by simp [Value.formed, Tryz.pairCells]
  have hs : ∃ d, Tryz.prog.types.size + 1 = d + 2 := ⟨Tryz.prog.types.size - 1, by have := Tryz.pairRow; omega⟩
  obtain ⟨d, hd⟩ := hs
  unfold keyOf
  rw [Tryz.pairUnder]
  simp only [Tryz.pairType, hf, Bool.and_self, if_true]
  rw [hd]
  show Option.map _ (Tryz.prog.keyLits (d + 2) 124 [.int .i64 a, .int .i64 b]) = _
  rw [pair_lits d a b ha hb]
  rfl
theorem pairK_inj {a b c d : Int} (ha : okInt a) (hb : okInt b) (hc : okInt c) (hd : okInt d) (h : pairK a b = pairK c d) : a = c ∧ b = d := by
  have h1 := keyOf_pair a b ha hb
  have h2 := keyOf_pair c d hc hd
  rw [← h] at h2
  have := Tryz.pairKeyed.inj h1 h2
  simp at this
  exact this

def okPair (p : Int × Int) : Prop := okInt p.1 ∧ okInt p.2
def setP {H : Type} (l : List (Int × Int)) : DataW H := setOf (.agg []) (l.map fun p => pairK p.1 p.2)
theorem setP_next {H : Type} (l : List (Int × Int)) (p : Int × Int) : setP (H := H) (l ++ [p]) = (setP l).put (pairK p.1 p.2) (.agg []) := by
  unfold setP; rw [List.map_append]; exact setOf_snoc _ _ _
theorem has_setP {H : Type} (l : List (Int × Int)) (p : Int × Int) (hl : ∀ q ∈ l, okPair q) (hp : okPair p) : Maps.has (setP (H := H) l) (pairK p.1 p.2) = l.contains p := by
  unfold setP
  rw [has_setOf _ _ _ (fun y hy => by obtain ⟨q, _, rfl⟩ := List.mem_map.1 hy; unfold pairK; trivial), List.any_map]
  rw [Bool.eq_iff_iff, List.any_eq_true, List.contains_iff_mem]
  constructor
  · rintro ⟨q, hq, he⟩
    have he2 : pairK q.1 q.2 = pairK p.1 p.2 := WideAt.sameKey_eq he
    obtain ⟨h1, h2⟩ := pairK_inj (hl q hq).1 (hl q hq).2 hp.1 hp.2 he2
    have : q = p := Prod.ext h1 h2
    rw [← this]; exact hq
  · intro h
    refine ⟨p, h, ?_⟩
    show (pairK p.1 p.2).sameKey (pairK p.1 p.2) = true
    exact WideAt.sameKey_self (by unfold pairK; trivial)
end Go.Proofs.YtggkbhafbhhhhadGreat
/-
  A trial of values: how it lies in memory. WALK: package filter: meet.
-/
namespace Go.Proofs.YtggkbhafbhhhhadGreat
open Go.RowKit Go.Maps

theorem Tryz.underPairs : Tryz.prog.underlying 118 = some (.map 124 122) := by kernel_rfl
/-- What was so in an old world, and is so still. -/
def Old (N : Nat) (w : World) (P : World → Prop) : Prop := ∃ w0 : World, w0.heap.size ≤ N ∧ P w0 ∧ Below w0.heap.size w0 w
theorem Old.below {N : Nat} {w w' : World} {P : World → Prop} (h : Old N w P) (hb : Below N w w') : Old N w' P := by
  obtain ⟨w0, h1, h2, h3⟩ := h
  exact ⟨w0, h1, h2, h3.trans (hb.mono h1)⟩
theorem bk_cell {w : World} {b : Nat} {cs : Array Value} {t : TypeId} (h : w.heap[b]? = some (.cells cs t)) (i : Nat) (v : Value) (hv : cs[i]? = some v) : w.cell? ⟨b, i, none⟩ = some v := by
  rw [Lib.cell_of_heap h]; exact hv

def trialObj (c : MCon) (vv vc vr vl sv stv : Value) (V n M : Nat) : Obj :=
  .cells #[.int .i64 c.kind, vv, vc, .int .i64 c.n, vr, vl, sv, stv, .slice (some ⟨V, 0, none⟩) n n, .map (some M)] 120
def TrialS (N B V M : Nat) (c : MCon) (vv vc vr vl sv stv : Value) (scope : List Int) (s : Sto) (vals : List Int) (l : List (Int × Int)) (w : World) : Prop :=
  (N ≤ B ∧ N ≤ V ∧ N ≤ M ∧ B ≠ V ∧ B ≠ M ∧ V ≠ M) ∧
  w.heap[B]? = some (trialObj c vv vc vr vl sv stv V vals.length M) ∧
  Old N w (fun u => KArg u vv vc vr vl c ∧ IArg u sv scope ∧ RArg u stv s) ∧
  w.ownsRow N 3 1 (.slice (some ⟨V, 0, none⟩) vals.length vals.length) vals.length (vals.map (Value.int .i64)) ∧
  w.ownsMap Tryz.prog 124 unitElem M l.length (setP (H := Unit) l)

section
variable {N B V M : Nat} {c : MCon} {vv vc vr vl sv stv : Value} {scope : List Int} {s : Sto} {vals : List Int} {l : List (Int × Int)} {w w' : World}
theorem TrialS.lts (h : TrialS N B V M c vv vc vr vl sv stv scope s vals l w) : B < w.heap.size ∧ V < w.heap.size ∧ M < w.heap.size ∧ N ≤ w.heap.size := by
  obtain ⟨⟨h1, _⟩, h2, _, h4, ⟨es, cl, h5, _⟩⟩ := h
  have hb := (Array.getElem?_eq_some_iff.1 h2).1
  have hm := (Array.getElem?_eq_some_iff.1 h5).1
  exact ⟨hb, (h4.lt V rfl).2, hm, by omega⟩
theorem TrialS.below (h : TrialS N B V M c vv vc vr vl sv stv scope s vals l w) (hb : Below w.heap.size w w') : TrialS N B V M c vv vc vr vl sv stv scope s vals l w' := by
  obtain ⟨l1, l2, l3, l4⟩ := h.lts
  obtain ⟨h1, h2, h3, h4, ⟨es, cl, h5, r⟩⟩ := h
  exact ⟨h1, (hb.block B l1).trans h2, h3.below (hb.mono l4), own_below h4 hb, ⟨es, cl, (hb.block M l3).trans h5, r⟩⟩
theorem TrialS.drew (h : TrialS N B V M c vv vc vr vl sv stv scope s vals l w) : TrialS N B V M c vv vc vr vl sv stv scope s vals l w.drew := h.below (Below.refl _ _).drew
theorem TrialS.parts (h : TrialS N B V M c vv vc vr vl sv stv scope s vals l w) : KArg w vv vc vr vl c ∧ IArg w sv scope ∧ RArg w stv s := by
  obtain ⟨_, _, ⟨w0, h1, ⟨k1, k2, k3⟩, h3⟩, _, _⟩ := h
  exact ⟨KArg.below h3 k1, IArg.below h3 k2, RArg.below h3 k3⟩
theorem TrialS.vals_arg (h : TrialS N B V M c vv vc vr vl sv stv scope s vals l w) : IArg w (.slice (some ⟨V, 0, none⟩) vals.length vals.length) vals := own_ints h.2.2.2.1
/-- One more key. -/
theorem TrialS.put (h : TrialS N B V M c vv vc vr vl sv stv scope s vals l w) (p : Int × Int) (hm : w'.ownsMap Tryz.prog 124 unitElem M (l.length + 1) (setP (H := Unit) (l ++ [p]))) (hg : w.grownBy w' (some M)) :
    TrialS N B V M c vv vc vr vl sv stv scope s vals (l ++ [p]) w' ∧ Below N w w' := by
  obtain ⟨l1, l2, l3, l4⟩ := h.lts
  obtain ⟨⟨n1, n2, n3, n4, n5, n6⟩, h2, h3, h4, _⟩ := h
  have hb : Below N w w' := (Below.refl _ _).grown hg l4 (fun k hk => by cases hk; exact n3)
  refine ⟨⟨⟨n1, n2, n3, n4, n5, n6⟩, (hg.block B l1 (fun h => n5 (Option.some.inj h))).trans h2, h3.below hb, h4.kept hg (Or.inr fun h => n6 (Option.some.inj h)), by rw [List.length_append]; exact hm⟩, hb⟩
/-- One value set. -/
theorem TrialS.set (h : TrialS N B V M c vv vc vr vl sv stv scope s vals l w) (k : Nat) (x : Int) :
    TrialS N B V M c vv vc vr vl sv stv scope s (vals.set k x) l (w.setCell ⟨V, k, none⟩ (.int .i64 x)) ∧ Below N w (w.setCell ⟨V, k, none⟩ (.int .i64 x)) := by
  obtain ⟨l1, l2, l3, l4⟩ := h.lts
  obtain ⟨⟨n1, n2, n3, n4, n5, n6⟩, h2, h3, h4, ⟨es, cl, h5, r⟩⟩ := h
  have hb : Below N w (w.setCell ⟨V, k, none⟩ (.int .i64 x)) := (Below.refl _ _).setCell n2 _
  refine ⟨⟨⟨n1, n2, n3, n4, n5, n6⟩, ?_, h3.below hb, ?_, ⟨es, cl, (Below.heap_setCell _ _ _ _ (fun h => n6 h.symm)).trans h5, r⟩⟩, hb⟩
  · rw [List.length_set]; exact (Below.heap_setCell _ _ _ _ n4).trans h2
  · have := (h4.stored k (.int .i64 x)).1
    rw [List.length_set, List.map_set]
    exact this
end

theorem keys_next (scope vals : List Int) (k : Nat) (v : Int) (h : scope[k]? = some v) : keysOf (scope.take (k + 1)) vals = keysOf (scope.take k) vals ++ [(v, valAt vals v)] := by
  unfold keysOf; rw [List.take_add_one, h, List.map_append]; rfl

set_option maxHeartbeats 1600000 in
set_option maxRecDepth 100000 in
theorem meet_any (N B V M : Nat) (c : MCon) (vv vc vr vl sv stv : Value) (scope : List Int) (s : Sto) (vals : List Int) (l : List (Int × Int)) (w : World)
    (hT : TrialS N B V M c vv vc vr vl sv stv scope s vals l w) (hsc : ∀ v ∈ scope, 0 ≤ v ∧ v < vals.length) (hvb : ∀ x ∈ vals, -50 ≤ x ∧ x ≤ 50) (hn : scope.length ≤ 8) (hv6 : vals.length ≤ 6) (hbud : l.length + scope.length ≤ 1000000000) :
    Calls Tryz.prog 131 #[.pointer (some ⟨B, 0, none⟩)] w fun e w' => e = .returned (.tuple #[]) ∧ TrialS N B V M c vv vc vr vl sv stv scope s vals (l ++ keysOf scope vals) w' ∧ Below N w w' := by
  obtain ⟨asv, csv, hsv, hms, _⟩ := hT.parts.2.1
  subst hsv
  unfold maxLen at hms
  obtain ⟨hms1, hms⟩ := hms
  have b6 := bk_cell hT.2.1 6 _ rfl
  have HT : Hid (TrialS N B V M c vv vc vr vl (.slice asv scope.length csv) stv scope s vals l w) := hT
  have HSC : Hid (∀ v ∈ scope, 0 ≤ v ∧ v < (vals.length : Int)) := hsc
  have HVB : Hid (∀ x ∈ vals, -50 ≤ x ∧ x ≤ 50) := hvb
  clear hT hsc hvb
  go_enter Tryz.func131, Tryz.ntmps131
  go_wp2_with fail
  clear b6
  go_loopw [9] (fun i wr => ∃ k : Nat, k ≤ scope.length ∧ i = .int .i64 k ∧ TrialS N B V M c vv vc vr vl (.slice asv scope.length csv) stv scope s vals (l ++ keysOf (scope.take k) vals) wr ∧ Below N w wr) (fun i _ => scope.length - (intOf i).toNat)
  case atStart => exact ⟨0, by omega, rfl, by simpa [keysOf] using HT.out, Below.refl _ _⟩
  case round =>
    obtain ⟨k, hk, rfl, hTr, hbw⟩ := hrel
    have HTR : Hid (TrialS N B V M c vv vc vr vl (.slice asv scope.length csv) stv scope s vals (l ++ keysOf (scope.take k) vals) wr) := hTr
    have HBW : Hid (Below N w wr) := hbw
    clear hTr hbw
    by_cases hlt : k < scope.length
    · obtain ⟨z, hz⟩ : ∃ z, scope[k]? = some z := ⟨scope[k], by simp [hlt]⟩
      obtain ⟨hz0, hz1⟩ := HSC.out z (List.mem_of_getElem? hz)
      obtain ⟨j, rfl⟩ : ∃ j : Nat, z = (j : Int) := ⟨z.toNat, by omega⟩
      have hjl : j < vals.length := by omega
      obtain ⟨y, hy⟩ : ∃ y, vals[j]? = some y := ⟨vals[j], by simp [hjl]⟩
      have hyb := HVB.out y (List.mem_of_getElem? hy)
      obtain ⟨a', c', hva, _, hrc⟩ := HTR.out.parts.2.1
      obtain ⟨bs, os, hax, hbs, e0⟩ := hrc k _ hz
      have has : asv = some ⟨bs, os, none⟩ := by injection hva with e1; exact e1.trans hax
      subst has
      have c9 := bk_cell HTR.out.2.1 9 _ rfl
      have c8 := bk_cell HTR.out.2.1 8 _ rfl
      have HOW := HTR.out.2.2.2.1
      have cv : wr.cell? ⟨V, j, none⟩ = some (.int .i64 y) := by rw [HOW.cellAt j (by omega), List.getElem?_map, hy]; rfl
      obtain ⟨l1, l2, l3, l4⟩ := HTR.out.lts
      have hkey : keyOf Tryz.prog 124 (.agg #[.int .i64 (j : Int), .int .i64 y]) = some (pairK (j : Int) y) := keyOf_pair _ _ (by unfold okInt; omega) (by unfold okInt; omega)
      have hlen : (l ++ keysOf (scope.take k) vals).length < maxLen := by
        have : (keysOf (scope.take k) vals).length ≤ scope.length := by unfold keysOf; simp; omega
        rw [List.length_append]; unfold maxLen; omega
      obtain ⟨w1, hrun, hown1, hturn⟩ := World.ownsMap.store (w := wr.drew) HTR.out.drew.2.2.2.2 Tryz.pairKeyed Tryz.underPairs hlen hkey unitElem_mk
      have hgr := hturn.grown
      have hne : (B ≠ M ∧ V ≠ M) := ⟨HTR.out.1.2.2.2.2.1, HTR.out.1.2.2.2.2.2⟩
      have f9 : w1.cell? ⟨B, 9, none⟩ = some (.map (some M)) := hgr.cell (a := ⟨B, 9, none⟩) c9 (fun h => hne.1 (Option.some.inj h))
      have f8 : w1.cell? ⟨B, 8, none⟩ = some (.slice (some ⟨V, 0, none⟩) vals.length vals.length) := hgr.cell (a := ⟨B, 8, none⟩) c8 (fun h => hne.1 (Option.some.inj h))
      have fv : w1.cell? ⟨V, j, none⟩ = some (.int .i64 y) := hgr.cell (a := ⟨V, j, none⟩) cv (fun h => hne.2 (Option.some.inj h))
      have HPUT : Hid (TrialS N B V M c vv vc vr vl (.slice (some ⟨bs, os, none⟩) scope.length csv) stv scope s vals ((l ++ keysOf (scope.take k) vals) ++ [((j : Int), y)]) w1 ∧ Below N wr.drew w1) := HTR.out.drew.put ((j : Int), y) (by rw [setP_next]; exact hown1) hgr
      have HNX : Hid (keysOf (scope.take (k + 1)) vals = keysOf (scope.take k) vals ++ [((j : Int), y)]) := by
        show _ = _; rw [keys_next scope vals k _ hz, valAt_get vals j y hy]
      clear hz hy hva hrc hax HOW hkey hlen hown1 hturn hgr hne hz0 hz1
      go_wp2_with fail
      go_region_held3 (fun w' => w'.cell? ⟨B, 9, none⟩ = some (.map (some M)) ∧ w'.cell? ⟨B, 8, none⟩ = some (.slice (some ⟨V, 0, none⟩) vals.length vals.length) ∧ w'.cell? ⟨V, j, none⟩ = some (.int .i64 y)) (first | exact ⟨c9, c8, cv⟩ | exact ⟨f9, f8, fv⟩) (fail)
      go_wp2
      go_roundw
      case rel => exact ⟨k + 1, by omega, by go_num, by rw [HNX.out, ← List.append_assoc]; exact HPUT.out.1, HBW.out.trans ⟨HPUT.out.2.os, HPUT.out.2.tape, HPUT.out.2.output, HPUT.out.2.size, HPUT.out.2.block⟩⟩
      case measure => simp [intOf]; omega
    · have HF : Hid (TrialS N B V M c vv vc vr vl (.slice asv scope.length csv) stv scope s vals (l ++ keysOf scope vals) wr) := by
        have h := HTR.out
        rwa [List.take_of_length_le (by omega)] at h
      go_wp2
      go_end0
      exact ⟨rfl, HF.out, HBW.out⟩
end Go.Proofs.YtggkbhafbhhhhadGreat
/-
  WALK: package filter: from.
-/
namespace Go.Proofs.YtggkbhafbhhhhadGreat
open Go.RowKit Go.Maps

theorem reach_count (s : Sto) (h6 : ∀ r ∈ s, r.length ≤ 6) : ∀ (r vals : List Int), (reach s r vals).length ≤ 6 ^ r.length
  | [], vals => by simp [reach]
  | v :: r, vals => by
    unfold reach
    have hrow : (s.getD v.toNat []).length ≤ 6 := by
      rw [List.getD_eq_getElem?_getD]
      cases hq : s[v.toNat]? with
      | none => simp
      | some q => exact h6 q (List.mem_of_getElem? hq)
    have key : ∀ q : List Int, (q.flatMap fun x => reach s r (vals.set v.toNat x)).length ≤ q.length * 6 ^ r.length := by
      intro q
      induction q with
      | nil => simp
      | cons a q ih =>
        rw [List.flatMap_cons, List.length_append, List.length_cons]
        have := reach_count s h6 r (vals.set v.toNat a)
        rw [Nat.add_mul]
        omega
    have h1 := key (s.getD v.toNat [])
    have h2 : (s.getD v.toNat []).length * 6 ^ r.length ≤ 6 * 6 ^ r.length := Nat.mul_le_mul_right _ hrow
    rw [List.length_cons, Nat.pow_succ]
    omega
theorem metK_count (c : MCon) (scope : List Int) (us : List (List Int)) : (metK c scope us).length ≤ scope.length * us.length := by
  unfold metK
  induction us with
  | nil => simp
  | cons u us ih =>
    rw [List.flatMap_cons, List.length_append, List.length_cons, Nat.mul_add]
    have : (if holdsC c u then keysOf scope u else []).length ≤ scope.length := by
      split
      · simp [keysOf]
      · simp
    omega
theorem metK_append (c : MCon) (scope : List Int) (a b : List (List Int)) : metK c scope (a ++ b) = metK c scope a ++ metK c scope b := by
  unfold metK; rw [List.flatMap_append]
/-- What has been reached when so many values of a row are through. -/
def reachN (s : Sto) (v : Int) (r vals row : List Int) (j : Nat) : List (List Int) := (row.take j).flatMap fun x => reach s r (vals.set v.toNat x)
theorem reachN_next (s : Sto) (v : Int) (r vals row : List Int) (j : Nat) (x : Int) (h : row[j]? = some x) : reachN s v r vals row (j + 1) = reachN s v r vals row j ++ reach s r (vals.set v.toNat x) := by
  unfold reachN; rw [List.take_add_one, h, List.flatMap_append]; simp
theorem bounds_set (vals : List Int) (k : Nat) (x : Int) (h : ∀ y ∈ vals, -50 ≤ y ∧ y ≤ 50) (hx : -50 ≤ x ∧ x ≤ 50) : ∀ y ∈ vals.set k x, -50 ≤ y ∧ y ≤ 50 := by
  intro y hy
  rcases List.mem_or_eq_of_mem_set hy with h1 | h1
  · exact h y h1
  · rw [h1]; exact hx

set_option maxHeartbeats 3200000 in
set_option maxRecDepth 100000 in
theorem from_any (N B V M : Nat) (c : MCon) (vv vc vr vl sv stv : Value) (scope : List Int) (s : Sto)
    (hsc : ∀ v ∈ scope, 0 ≤ v ∧ v < s.length) (hce : conE s.length c = 0) (hs6 : s.length ≤ 6) (hrow : ∀ r ∈ s, r.length ≤ 6 ∧ ∀ x ∈ r, -50 ≤ x ∧ x ≤ 50) (hn8 : scope.length ≤ 8) :
    ∀ (rest : List Int) (k : Nat) (vals : List Int) (l : List (Int × Int)) (w : World), scope.drop k = rest → k ≤ scope.length → vals.length = s.length → (∀ x ∈ vals, -50 ≤ x ∧ x ≤ 50) → l.length + scope.length * 6 ^ rest.length ≤ 1000000000 →
      TrialS N B V M c vv vc vr vl sv stv scope s vals l w →
      Calls Tryz.prog 100 #[.pointer (some ⟨B, 0, none⟩), .int .i64 k] w fun e w' => e = .returned (.tuple #[]) ∧
        ∃ vals', TrialS N B V M c vv vc vr vl sv stv scope s vals' (l ++ metK c scope (reach s rest vals)) w' ∧ vals'.length = s.length ∧ (∀ x ∈ vals', -50 ≤ x ∧ x ≤ 50) ∧ Agree rest vals vals' ∧ Below N w w' := by
  have HSC : Hid (∀ v ∈ scope, 0 ≤ v ∧ v < (s.length : Int)) := hsc
  have HCE : Hid (conE s.length c = 0) := hce
  have HROW : Hid (∀ r ∈ s, r.length ≤ 6 ∧ ∀ x ∈ r, -50 ≤ x ∧ x ≤ 50) := hrow
  clear hsc hce hrow
  intro rest
  induction rest with
  | nil =>
    intro k vals l w hdr hk hvl hvb hbud hT
    have hks : k = scope.length := by
      have := congrArg List.length hdr
      simp at this
      omega
    subst hks
    obtain ⟨asv, csv, hsv, _, _⟩ := hT.parts.2.1
    subst hsv
    have HK : Hid (∀ w' : World, Below w.heap.size w w' → KArg w' vv vc vr vl c) := fun w' h => KArg.below h hT.parts.1
    have HVA : Hid (∀ w' : World, Below w.heap.size w w' → IArg w' (.slice (some ⟨V, 0, none⟩) vals.length vals.length) vals) := fun w' h => IArg.below h hT.vals_arg
    obtain ⟨⟨q1, r1, h1, _, _⟩, ⟨q2, r2, h2, _, _⟩, ⟨q3, r3, h3, _, _⟩, ⟨q4, r4, h4, _, _⟩⟩ := hT.parts.1
    subst h1; subst h2; subst h3; subst h4
    have b0 := bk_cell hT.2.1 0 _ rfl
    have b1 := bk_cell hT.2.1 1 _ rfl
    have b2 := bk_cell hT.2.1 2 _ rfl
    have b3 := bk_cell hT.2.1 3 _ rfl
    have b4 := bk_cell hT.2.1 4 _ rfl
    have b5 := bk_cell hT.2.1 5 _ rfl
    have b6 := bk_cell hT.2.1 6 _ rfl
    have b8 := bk_cell hT.2.1 8 _ rfl
    have hBl := hT.lts.1
    have HT : Hid (TrialS N B V M c (.slice q1 c.vars.length r1) (.slice q2 c.consts.length r2) (.slice q3 c.rows.length r3) (.slice q4 c.lits.length r4) (.slice asv scope.length csv) stv scope s vals l w) := hT
    have HVB : Hid (∀ x ∈ vals, -50 ≤ x ∧ x ≤ 50) := hvb
    have HVL : Hid (vals.length = s.length) := hvl
    have HNL : Hid (N ≤ w.heap.size) := hT.lts.2.2.2
    have HME : Hid (metK c scope (reach s [] vals) = if holdsC c vals then keysOf scope vals else []) := by show _ = _; simp [metK, reach]
    have hbud2 : l.length + scope.length ≤ 1000000000 := by simpa using hbud
    have hv6 : vals.length ≤ 6 := by omega
    clear hT hvb hdr hvl hbud
    go_enter Tryz.func100, Tryz.ntmps100
    go_wp2_with fail
    go_region_held3 (fun w' => Below w.heap.size w w' ∧ w'.cell? ⟨B, 0, none⟩ = some (.int .i64 c.kind) ∧ w'.cell? ⟨B, 1, none⟩ = some (.slice q1 c.vars.length r1) ∧ w'.cell? ⟨B, 2, none⟩ = some (.slice q2 c.consts.length r2) ∧ w'.cell? ⟨B, 3, none⟩ = some (.int .i64 c.n) ∧ w'.cell? ⟨B, 4, none⟩ = some (.slice q3 c.rows.length r3) ∧ w'.cell? ⟨B, 5, none⟩ = some (.slice q4 c.lits.length r4) ∧ w'.cell? ⟨B, 8, none⟩ = some (.slice (some ⟨V, 0, none⟩) vals.length vals.length))
      ((refine (fun (hB : Below w.heap.size w _) => ⟨hB, (hB.cell (p := ⟨B, 0, none⟩) hBl).trans b0, (hB.cell (p := ⟨B, 1, none⟩) hBl).trans b1, (hB.cell (p := ⟨B, 2, none⟩) hBl).trans b2, (hB.cell (p := ⟨B, 3, none⟩) hBl).trans b3, (hB.cell (p := ⟨B, 4, none⟩) hBl).trans b4, (hB.cell (p := ⟨B, 5, none⟩) hBl).trans b5, (hB.cell (p := ⟨B, 8, none⟩) hBl).trans b8⟩ : Below w.heap.size w _ → _) ?_; first | exact (Below.refl _ _).drew | exact hbq))
      (first
        | (go_at_call 44; refine (holds_any c vals _ _ _ _ _ _ (HK.out _ (Below.refl _ _).drew) (HVA.out _ (Below.refl _ _).drew) (by rw [HVL.out]; exact HCE.out) HVB.out).mono ?_; rintro e w1 ⟨rfl, hbr⟩; have hbq : Below w.heap.size w w1 := ⟨hbr.os, hbr.tape, hbr.output, hbr.size, hbr.block⟩))
    have HT1 : Hid (TrialS N B V M c (.slice q1 c.vars.length r1) (.slice q2 c.consts.length r2) (.slice q3 c.rows.length r3) (.slice q4 c.lits.length r4) (.slice asv scope.length csv) stv scope s vals l w1) := HT.out.below hbq
    have hbN : Below N w w1 := hbq.mono HNL.out
    clear hbr hbq b0 b1 b2 b3 b4 b5 b6 b8 hBl
    cases hq : holdsC c vals
    · rw [hq] at HME
      go_wp2
      (try simp only [Exit.inBlock, Exit.then])
      refine bodyPost_ret (results_none rfl _ _ _) rfl ?_
      refine ⟨rfl, vals, ?_, HVL.out, HVB.out, Agree.refl _ _, hbN⟩
      rw [HME.out]
      simpa using HT1.out
    · rw [hq] at HME
      go_wp2_with fail
      refine (meet_any N B V M c _ _ _ _ _ stv scope s vals l w1 HT1.out (by rw [HVL.out]; exact HSC.out) HVB.out hn8 hv6 hbud2).mono ?_
      rintro e w2 ⟨rfl, hT2, hb2⟩
      have HT2 : Hid (TrialS N B V M c (.slice q1 c.vars.length r1) (.slice q2 c.consts.length r2) (.slice q3 c.rows.length r3) (.slice q4 c.lits.length r4) (.slice asv scope.length csv) stv scope s vals (l ++ keysOf scope vals) w2) := hT2
      clear hT2
      go_wp2
      (try simp only [Exit.inBlock, Exit.then])
      refine bodyPost_ret (results_none rfl _ _ _) rfl ?_
      refine ⟨rfl, vals, ?_, HVL.out, HVB.out, Agree.refl _ _, hbN.trans hb2⟩
      rw [HME.out]
      exact HT2.out
  | cons v rest ih =>
    intro k vals l w hdr hk hvl hvb hbud hT
    have hkl : k < scope.length := by
      have := congrArg List.length hdr
      simp at this
      omega
    have hkv : scope[k]? = some v := by
      have h := congrArg (fun q : List Int => q[0]?) hdr
      simpa using h
    have hdr2 : scope.drop (k + 1) = rest := by
      have h := congrArg List.tail hdr
      simpa using h
    obtain ⟨hv0, hv1⟩ := HSC.out v (List.mem_of_getElem? hkv)
    obtain ⟨j, rfl⟩ : ∃ j : Nat, v = (j : Int) := ⟨v.toNat, by omega⟩
    have hjs : j < s.length := by omega
    obtain ⟨row, hrw⟩ : ∃ row, s[j]? = some row := ⟨s[j], by simp [hjs]⟩
    obtain ⟨hr6, hrb⟩ := HROW.out row (List.mem_of_getElem? hrw)
    obtain ⟨⟨_, _⟩, ⟨asv, csv, hsv, hms, hscell⟩, ⟨ast, cst, hst, hmt, hstcell⟩⟩ := hT.parts
    subst hsv; subst hst
    obtain ⟨bs, os, has, hbs, e0⟩ := hscell k _ hkv
    subst has
    obtain ⟨bt, ot, xt, hat, hbt, e1, hxt⟩ := hstcell j _ hrw
    subst hat
    have HXT : Hid (IArg w xt row) := hxt
    obtain ⟨ar, cr, rfl, hmr, hrc⟩ := hxt
    unfold maxLen at hms hmt hmr
    obtain ⟨hms1, hms⟩ := hms
    obtain ⟨hmt1, hmt⟩ := hmt
    obtain ⟨hmr1, hmr⟩ := hmr
    have b6 := bk_cell hT.2.1 6 _ rfl
    have b7 := bk_cell hT.2.1 7 _ rfl
    have HT : Hid (TrialS N B V M c vv vc vr vl (.slice (some ⟨bs, os, none⟩) scope.length csv) (.slice (some ⟨bt, ot, none⟩) s.length cst) scope s vals l w) := hT
    have HVB : Hid (∀ x ∈ vals, -50 ≤ x ∧ x ≤ 50) := hvb
    have HVL : Hid (vals.length = s.length) := hvl
    have HRB : Hid (∀ x ∈ row, -50 ≤ x ∧ x ≤ 50) := hrb
    have HRW : Hid (s[j]? = some row) := hrw
    have HOR : Hid (∀ w' : World, Below N w w' → IArg w' (.slice ar row.length cr) row) := by
      obtain ⟨_, _, ⟨w0, g1, ⟨_, _, g2⟩, g3⟩, _, _⟩ := hT
      obtain ⟨ast', cst', hst', _, hstc'⟩ := g2
      obtain ⟨bt', ot', xt', hat', hbt', e1', hxt'⟩ := hstc' j _ hrw
      injection hst' with hq
      rw [← hq] at hat'
      cases hat'
      have e2 := (g3.cell (p := ⟨bt, ot + j, none⟩) hbt').trans e1'
      rw [e1] at e2
      cases e2
      intro w' h
      exact IArg.below (g3.trans (h.mono g1)) hxt'
    obtain ⟨X, hX⟩ : ∃ X, scope.length * 6 ^ rest.length = X := ⟨_, rfl⟩
    have hbud2 : l.length + 6 * X ≤ 1000000000 := by
      rw [List.length_cons, Nat.pow_succ] at hbud
      rw [← hX]
      have : scope.length * (6 ^ rest.length * 6) = 6 * (scope.length * 6 ^ rest.length) := by rw [Nat.mul_comm (6 ^ rest.length) 6, ← Nat.mul_assoc, Nat.mul_comm scope.length 6, Nat.mul_assoc]
      omega
    have HRN : Hid (∀ jj, jj ≤ row.length → (metK c scope (reachN s (j : Int) rest vals row jj)).length ≤ jj * X) := by
      intro jj hjj
      refine Nat.le_trans (metK_count c scope _) ?_
      have h1 : (reachN s (j : Int) rest vals row jj).length ≤ jj * 6 ^ rest.length := by
        have key : ∀ q : List Int, (q.flatMap fun x => reach s rest (vals.set ((j : Int)).toNat x)).length ≤ q.length * 6 ^ rest.length := by
          intro q
          induction q with
          | nil => simp
          | cons a q ih2 =>
            rw [List.flatMap_cons, List.length_append, List.length_cons]
            have := reach_count s (fun r hr => (HROW.out r hr).1) rest (vals.set ((j : Int)).toNat a)
            rw [Nat.add_mul]
            omega
        unfold reachN
        have h2 := key (row.take jj)
        rw [List.length_take, Nat.min_eq_left hjj] at h2
        exact h2
      rw [← hX]
      calc scope.length * (reachN s (j : Int) rest vals row jj).length ≤ scope.length * (jj * 6 ^ rest.length) := Nat.mul_le_mul_left _ h1
        _ = jj * (scope.length * 6 ^ rest.length) := by rw [← Nat.mul_assoc, Nat.mul_comm scope.length jj, Nat.mul_assoc]
    have HEND : Hid (reachN s (j : Int) rest vals row row.length = reach s ((j : Int) :: rest) vals) := by
      show _ = _
      unfold reachN
      rw [List.take_length]
      conv => rhs; unfold reach
      rw [Int.toNat_natCast, List.getD_eq_getElem?_getD, hrw]; rfl
    have HIH : Hid (∀ (vals : List Int) (l : List (Int × Int)) (w : World), vals.length = s.length → (∀ x ∈ vals, -50 ≤ x ∧ x ≤ 50) → l.length + X ≤ 1000000000 →
      TrialS N B V M c vv vc vr vl (.slice (some ⟨bs, os, none⟩) scope.length csv) (.slice (some ⟨bt, ot, none⟩) s.length cst) scope s vals l w →
      Calls Tryz.prog 100 #[.pointer (some ⟨B, 0, none⟩), .int .i64 ((k : Int) + 1)] w fun e w' => e = .returned (.tuple #[]) ∧
        ∃ vals', TrialS N B V M c vv vc vr vl (.slice (some ⟨bs, os, none⟩) scope.length csv) (.slice (some ⟨bt, ot, none⟩) s.length cst) scope s vals' (l ++ metK c scope (reach s rest vals)) w' ∧ vals'.length = s.length ∧ (∀ x ∈ vals', -50 ≤ x ∧ x ≤ 50) ∧ Agree rest vals vals' ∧ Below N w w') := by
      intro vals1 l1 w1 a1 a2 a3 a4
      exact ih (k + 1) vals1 l1 w1 hdr2 (by omega) a1 a2 (by rw [hX]; exact a3) a4
    have g0 : ((k : Int) == (scope.length : Int)) = false := by simp; omega
    have hlt8 : k < 8 := by omega
    clear hT hvb hdr hvl hbud hrb hrw hrc hscell hstcell ih hX hdr2 hkv hv0 hv1 HXT
    go_enter Tryz.func100, Tryz.ntmps100
    go_wp2_with fail
    clear b6 b7 e0 e1
    go_loopw [40] (fun i wr => ∃ (jj : Nat) (vals' : List Int), jj ≤ row.length ∧ i = .int .i64 jj ∧ TrialS N B V M c vv vc vr vl (.slice (some ⟨bs, os, none⟩) scope.length csv) (.slice (some ⟨bt, ot, none⟩) s.length cst) scope s vals' (l ++ metK c scope (reachN s (j : Int) rest vals row jj)) wr ∧ Hid (vals'.length = s.length ∧ (∀ x ∈ vals', -50 ≤ x ∧ x ≤ 50) ∧ Agree ((j : Int) :: rest) vals vals') ∧ Below N w wr) (fun i _ => row.length - (intOf i).toNat)
    case atStart => exact ⟨0, vals, by omega, rfl, by simpa [reachN, metK] using HT.out, ⟨HVL.out, HVB.out, Agree.refl _ _⟩, Below.refl _ _⟩
    case round =>
      obtain ⟨jj, vals', hjj, rfl, hTr, hH, hbw⟩ := hrel
      have HTR : Hid (TrialS N B V M c vv vc vr vl (.slice (some ⟨bs, os, none⟩) scope.length csv) (.slice (some ⟨bt, ot, none⟩) s.length cst) scope s vals' (l ++ metK c scope (reachN s (j : Int) rest vals row jj)) wr) := hTr
      have HBW : Hid (Below N w wr) := hbw
      clear hTr hbw
      by_cases hlt : jj < row.length
      · obtain ⟨x, hx⟩ : ∃ x, row[jj]? = some x := ⟨row[jj], by simp [hlt]⟩
        have hxb := HRB.out x (List.mem_of_getElem? hx)
        obtain ⟨a', c', hva, _, hrc⟩ := HOR.out _ HBW.out
        obtain ⟨b2, o2, hax, hb2, e2⟩ := hrc jj _ hx
        have har : ar = some ⟨b2, o2, none⟩ := by injection hva with e1; exact e1.trans hax
        subst har
        have c8 := bk_cell HTR.out.2.1 8 _ rfl
        have HOW := HTR.out.2.2.2.1
        have hjv : j < vals'.length := by rw [hH.out.1]; exact hjs
        obtain ⟨y, hy⟩ : ∃ y, vals'[j]? = some y := ⟨vals'[j], by simp [hjv]⟩
        have cv : wr.cell? ⟨V, j, none⟩ = some (.int .i64 y) := by rw [HOW.cellAt j (by omega), List.getElem?_map, hy]; rfl
        have zv := HOW.frozenAt j
        have HSET := HTR.out.set j x
        have HST : Hid (TrialS N B V M c vv vc vr vl (.slice (some ⟨bs, os, none⟩) scope.length csv) (.slice (some ⟨bt, ot, none⟩) s.length cst) scope s (vals'.set j x) (l ++ metK c scope (reachN s (j : Int) rest vals row jj)) (wr.setCell ⟨V, j, none⟩ (.int .i64 x))) := HSET.1
        have HSB : Hid (Below N w (wr.setCell ⟨V, j, none⟩ (.int .i64 x))) := HBW.out.trans HSET.2
        have HV1 : Hid ((vals'.set j x).length = s.length) := by show _ = _; rw [List.length_set]; exact hH.out.1
        have HV2 : Hid (∀ y ∈ vals'.set j x, -50 ≤ y ∧ y ≤ 50) := bounds_set _ _ _ hH.out.2.1 hxb
        have hbud3 : (l ++ metK c scope (reachN s (j : Int) rest vals row jj)).length + X ≤ 1000000000 := by
          have h1 := HRN.out jj hjj
          have h2 : jj * X ≤ 5 * X := Nat.mul_le_mul_right _ (by omega)
          rw [List.length_append]
          omega
        have HRS : Hid (reach s rest (vals'.set j x) = reach s rest (vals.set ((j : Int)).toNat x)) := by
          have h := (hH.out.2.2).set x
          exact (reach_same s rest _ _ h).symm
        have HNX : Hid (metK c scope (reachN s (j : Int) rest vals row (jj + 1)) = metK c scope (reachN s (j : Int) rest vals row jj) ++ metK c scope (reach s rest (vals'.set j x))) := by
          show _ = _
          rw [reachN_next s _ rest vals row jj x hx, metK_append, HRS.out]
        have HAG : Hid (Agree ((j : Int) :: rest) vals (vals'.set j x)) := (hH.out.2.2).trans (Agree.of_set rest vals' (j : Int) x)
        clear hx hy hva hrc hax HOW HSET hH hxb
        go_wp2_with fail
        refine (HIH.out _ _ _ HV1.out HV2.out hbud3 HST.out).mono ?_
        rintro e w2 ⟨rfl, v2, hT2, hl2, hb2', hag2, hbN2⟩
        have HT2 : Hid (TrialS N B V M c vv vc vr vl (.slice (some ⟨bs, os, none⟩) scope.length csv) (.slice (some ⟨bt, ot, none⟩) s.length cst) scope s v2 (l ++ metK c scope (reachN s (j : Int) rest vals row (jj + 1))) w2) := by
          rw [HNX.out, ← List.append_assoc]; exact hT2
        have HH2 : Hid (v2.length = s.length ∧ (∀ x ∈ v2, -50 ≤ x ∧ x ≤ 50) ∧ Agree ((j : Int) :: rest) vals v2) := ⟨hl2, hb2', HAG.out.trans (Agree.cons _ hag2)⟩
        have HB2 : Hid (Below N w w2) := HSB.out.trans hbN2
        clear hT2 hl2 hb2' hag2 hbN2 hbud3
        go_wp2
        go_roundw
        case rel => exact ⟨jj + 1, v2, by omega, by go_num, HT2.out, HH2, HB2.out⟩
        case measure => simp [intOf]; omega
      · have hje : jj = row.length := by omega
        have HF : Hid (TrialS N B V M c vv vc vr vl (.slice (some ⟨bs, os, none⟩) scope.length csv) (.slice (some ⟨bt, ot, none⟩) s.length cst) scope s vals' (l ++ metK c scope (reach s ((j : Int) :: rest) vals)) wr) := by
          have h := HTR.out
          rw [hje, HEND.out] at h
          exact h
        clear hje
        go_wp2
        go_end0
        exact ⟨rfl, vals', HF.out, hH.out.1, hH.out.2.1, hH.out.2.2, HBW.out⟩
end Go.Proofs.YtggkbhafbhhhhadGreat
/-
  WALKS: package store: Meet.
-/
namespace Go.Proofs.YtggkbhafbhhhhadGreat
open Go.RowKit

def meetA (m : Mod) (s t : Sto) : Sto × Int := if checkL m [s, t] = 0 then (meetS s t, 0) else ([], checkL m [s, t])
theorem rows_short (m : Mod) (s : Sto) (hm : checkM m = 0) (hs : checkV m.vars s = 0) : s.length ≤ 6 ∧ ∀ r ∈ s, r.length ≤ 6 := by
  have h1 := (checkM_vars m hm).2.1
  have h2 := ((checkV_ok _ _).1 hs).1
  refine ⟨by omega, fun r hr => ?_⟩
  obtain ⟨i, hi⟩ := List.mem_iff_getElem?.1 hr
  exact row_short m s hm hs i r hi

set_option maxHeartbeats 400000 in
set_option maxRecDepth 100000 in
theorem shared_any (t : Sto) (v : Value) (b1 k : Nat) (r : List Int) (z : Int) (w : World) (hv : RArg w v t) (ht : t[k]? = some r) (h1 : w.cell? ⟨b1, 0, none⟩ = some v) :
    Calls Tryz.prog 52 #[.int .i64 k, .int .i64 z, .pointer (some ⟨b1, 0, none⟩)] w fun e w' => e = .returned (.bool (hasB r z)) ∧ Below w.heap.size w w' := by
  obtain ⟨a', c, rfl, hm, hr⟩ := hv
  have hkl : k < t.length := (List.getElem?_eq_some_iff.1 ht).1
  obtain ⟨b, off, x, rfl, hlt, hc, hx⟩ := hr k r ht
  have HX : Hid (IArg w x r) := hx
  obtain ⟨a3, c3, rfl, _, _⟩ := hx
  unfold maxLen at hm
  obtain ⟨hm1, hm⟩ := hm
  clear hr ht
  go_enter Tryz.func52, Tryz.ntmps52
  go_wp2_with fail
  refine (contains_ints r _ z _ HX.out).mono ?_
  rintro e w ⟨rfl, rfl⟩
  go_wp2
  go_ret
  exact ⟨rfl, Below.refl _ _⟩
theorem enters_shared (args : Array Value) (w' : World) : Sem.run Tryz.prog (callFunc 52 args) w' = .ok (.enter 52 args) w' := by
  simp [callFunc, go_sem, Tryz.func52, Tryz.f52]

set_option maxHeartbeats 1600000 in
set_option maxRecDepth 100000 in
theorem smeet_any (m : Mod) (s t : Sto) (vs cs v u : Value) (w : World) (hm : MArg w vs cs m) (hv : RArg w v s) (hu : RArg w u t) :
    Calls Tryz.prog 22 #[modV vs cs m, v, u] w fun e w' => ∃ x, e = .returned (.tuple #[x, .int .i64 (meetA m s t).2]) ∧ RArg w' x (meetA m s t).1 ∧ Below w.heap.size w w' := by
  have HMA : Hid (∀ w' : World, Below w.heap.size w w' → MArg w' vs cs m) := fun w' h => MArg.below h hm
  have HVA : Hid (∀ w' : World, Below w.heap.size w w' → RArg w' v s) := fun w' h => RArg.below h hv
  have HUA : Hid (∀ w' : World, Below w.heap.size w w' → RArg w' u t) := fun w' h => RArg.below h hu
  obtain ⟨⟨a1, c1, rfl, _, _⟩, ⟨a2, c2, rfl, _, _⟩⟩ := hm
  obtain ⟨a3, c3, rfl, _, _⟩ := hv
  obtain ⟨a4, c4, rfl, _, _⟩ := hu
  obtain ⟨R, hR⟩ : ∃ R, meetA m s t = R := ⟨_, rfl⟩
  rw [hR]
  obtain ⟨er, her⟩ : ∃ er, checkL m [s, t] = er := ⟨_, rfl⟩
  have HER : Hid (checkL m [s, t] = er) := her
  have HE : Hid (R = if er = 0 then (meetS s t, 0) else ([], er)) := by rw [← hR, ← her]; rfl
  have HOK : Hid (er = 0 → checkM m = 0 ∧ checkV m.vars s = 0 ∧ checkV m.vars t = 0) := by
    intro h0
    rwa [← her, checkL_two] at h0
  clear hR her
  unfold modV
  go_enter Tryz.func22, Tryz.ntmps22
  go_wp2_with fail
  refine (check_any2 m [s, t] (.slice a1 m.vars.length c1) (.slice a2 m.cons.length c2) _ _ ?_ ?_).mono ?_
  · exact HMA.out _ (((below_alloc _ _).alloc (by simp) _).alloc (by simp; omega) _)
  · exact garg_two (by simp) (HVA.out _ ((below_alloc _ _).alloc (by simp) _)) (HUA.out _ ((below_alloc _ _).alloc (by simp) _))
  rintro e w1 ⟨rfl, hb1⟩
  rw [HER.out]
  have d1 : w1.cell? ⟨w.heap.size + 1, 0, none⟩ = some (.slice a4 t.length c4) := by
    refine (hb1.cell (by simp)).trans ((World.cell?_alloc_past _ _ _ (by simp)).trans ?_)
    exact World.cell?_alloc_at _ _ _ 0 (by simp)
  have HB1 : Hid (Below w.heap.size w w1) := (((below_alloc _ _).alloc (by simp) _).alloc (by simp; omega) _).trans (hb1.mono (by simp; omega))
  have hs1 : w.heap.size + 3 ≤ w1.heap.size := by simpa using hb1.size
  clear hb1
  by_cases he : er = 0
  · subst he
    have HOK2 : Hid (checkM m = 0 ∧ checkV m.vars s = 0 ∧ checkV m.vars t = 0) := HOK.out rfl
    have HL2 : Hid (t.length = s.length) := by
      have h2 := ((checkV_ok _ _).1 HOK2.out.2.1).1
      have h3 := ((checkV_ok _ _).1 HOK2.out.2.2).1
      exact h3.trans h2.symm
    obtain ⟨hn6, hr6⟩ := rows_short m s HOK2.out.1 HOK2.out.2.1
    have HR6 : Hid (∀ r ∈ s, r.length ≤ 6) := hr6
    have HE2 : Hid (R = (siftS s (fun k z => hasB (t.getD k []) z), 0)) := by rw [HE.out, if_pos rfl, meetS_sift s t HL2.out]; rfl
    clear hr6
    go_wp2_with fail
    refine (sift_any 52 #[.pointer (some ⟨w.heap.size + 1, 0, none⟩)] s (fun k z => hasB (t.getD k []) z) _ _ (HVA.out _ HB1.out) ⟨enters_shared, ?_⟩ hn6 HR6.out).mono ?_
    · intro k r z w' hk _ hb'
      have hkl : k < t.length := by rw [HL2.out]; exact (List.getElem?_eq_some_iff.1 hk).1
      have hq : t[k]? = some t[k] := by simp [hkl]
      have := shared_any t _ (w.heap.size + 1) k _ z w' (HUA.out _ (HB1.out.trans (hb'.mono HB1.out.size))) hq ((hb'.cell (by simp only; omega)).trans d1)
      have e1 : t.getD k [] = t[k] := by rw [List.getD_eq_getElem?_getD, hq]; rfl
      show Calls Tryz.prog _ _ w' fun e w'' => e = .returned (.bool (hasB (t.getD k []) z)) ∧ _
      rw [e1]
      exact this
    rintro e w2 ⟨x, rfl, hx, hb2⟩
    have HX : Hid (RArg w2 x (siftS s (fun k z => hasB (t.getD k []) z))) := hx
    have hb3 : Below w.heap.size w w2 := HB1.out.trans (hb2.mono (by omega))
    obtain ⟨ax, cx, rfl, _, _⟩ := hx
    clear hb2
    go_wp2
    go_ret2
    rw [HE2.out]
    exact ⟨_, rfl, HX.out, hb3⟩
  · have HN : Hid (R = ([], er)) := by rw [HE.out, if_neg he]; rfl
    have he2 : (er != 0) = true := by simpa using he
    clear he
    go_wp2
    go_ret2
    rw [HN.out]
    exact ⟨_, rfl, ⟨_, _, rfl, ⟨Nat.le_refl _, Nat.zero_le _⟩, fun i r h => by simp at h⟩, HB1.out⟩
end Go.Proofs.YtggkbhafbhhhhadGreat
/-
  WALKS: package filter: which values stay; Filter.
-/
namespace Go.Proofs.YtggkbhafbhhhhadGreat
open Go.RowKit Go.Maps

def staysT (F : Bool) (c : MCon) (scope vals : List Int) (l : List (Int × Int)) (k z : Int) : Bool :=
  if F then true else if scope.length = 0 then holdsC c vals else if hasB scope k then l.contains (k, z) else true

set_option maxHeartbeats 1600000 in
set_option maxRecDepth 100000 in
theorem stays_any (N B V M : Nat) (c : MCon) (vv vc vr vl sv stv : Value) (scope : List Int) (s : Sto) (vals : List Int) (l : List (Int × Int)) (F : Bool) (bf bsc k : Nat) (z : Int) (w : World)
    (hT : TrialS N B V M c vv vc vr vl sv stv scope s vals l w) (hf : w.cell? ⟨bf, 0, none⟩ = some (.bool F)) (hs : w.cell? ⟨bsc, 0, none⟩ = some sv) (hce : conE vals.length c = 0) (hvb : ∀ x ∈ vals, -50 ≤ x ∧ x ≤ 50)
    (hl : ∀ q ∈ l, okPair q) (hk : k ≤ 6) (hz : -50 ≤ z ∧ z ≤ 50) :
    Calls Tryz.prog 101 #[.int .i64 k, .int .i64 z, .pointer (some ⟨bf, 0, none⟩), .pointer (some ⟨bsc, 0, none⟩), .pointer (some ⟨B, 0, none⟩)] w fun e w' => e = .returned (.bool (staysT F c scope vals l k z)) ∧ Below w.heap.size w w' := by
  have HK := hT.parts.1
  have HI : Hid (IArg w sv scope) := hT.parts.2.1
  have HVA : Hid (IArg w (.slice (some ⟨V, 0, none⟩) vals.length vals.length) vals) := hT.vals_arg
  obtain ⟨asv, csv, hsv, hms, _⟩ := hT.parts.2.1
  subst hsv
  have HKK : Hid (KArg w vv vc vr vl c) := HK
  obtain ⟨⟨q1, r1, h1, _, _⟩, ⟨q2, r2, h2, _, _⟩, ⟨q3, r3, h3, _, _⟩, ⟨q4, r4, h4, _, _⟩⟩ := HK
  subst h1; subst h2; subst h3; subst h4
  have b0 := bk_cell hT.2.1 0 _ rfl
  have b1 := bk_cell hT.2.1 1 _ rfl
  have b2 := bk_cell hT.2.1 2 _ rfl
  have b3 := bk_cell hT.2.1 3 _ rfl
  have b4 := bk_cell hT.2.1 4 _ rfl
  have b5 := bk_cell hT.2.1 5 _ rfl
  have b8 := bk_cell hT.2.1 8 _ rfl
  have b9 := bk_cell hT.2.1 9 _ rfl
  have hown := hT.2.2.2.2
  have HHAS : Hid (Maps.has (setP (H := Unit) l) (pairK (k : Int) z) = l.contains ((k : Int), z)) := has_setP l ((k : Int), z) hl ⟨by unfold okInt; simp only; omega, by unfold okInt; simp only; omega⟩
  have hkey : keyOf Tryz.prog 124 (.agg #[.int .i64 (k : Int), .int .i64 z]) = some (pairK (k : Int) z) := keyOf_pair _ _ (by unfold okInt; omega) (by unfold okInt; omega)
  have HCE : Hid (conE vals.length c = 0) := hce
  have HVB : Hid (∀ x ∈ vals, -50 ≤ x ∧ x ≤ 50) := hvb
  unfold maxLen at hms
  obtain ⟨hms1, hms⟩ := hms
  clear hT hl hce hvb
  cases F
  · by_cases h0 : scope.length = 0
    · have HN : Hid (staysT false c scope vals l k z = holdsC c vals) := by show _ = _; unfold staysT; simp [h0]
      have g0 : ((scope.length : Int) == 0) = true := by simp [h0]
      rw [HN.out]
      clear h0 hkey hown
      go_enter Tryz.func101, Tryz.ntmps101
      go_wp2_with fail
      refine (holds_any c vals _ _ _ _ _ _ HKK.out HVA.out HCE.out HVB.out).mono ?_
      rintro e w1 ⟨rfl, hb1⟩
      go_wp2
      go_ret
      exact ⟨rfl, hb1⟩
    · have g0 : ((scope.length : Int) == 0) = false := by simpa using h0
      cases hq : hasB scope (k : Int)
      · have HN : Hid (staysT false c scope vals l k z = true) := by show _ = _; unfold staysT; simp [h0, hq]
        rw [HN.out]
        clear h0 hkey hown
        go_enter Tryz.func101, Tryz.ntmps101
        go_wp2_with fail
        refine (contains_ints scope _ (k : Int) _ HI.out).mono ?_
        rintro e w ⟨rfl, rfl⟩
        rw [hq]
        go_wp2
        go_ret
        exact ⟨rfl, Below.refl _ _⟩
      · have HN : Hid (staysT false c scope vals l k z = l.contains ((k : Int), z)) := by show _ = _; unfold staysT; simp [h0, hq]
        rw [HN.out]
        clear h0
        go_enter Tryz.func101, Tryz.ntmps101
        go_wp2_with fail
        refine (contains_ints scope _ (k : Int) _ HI.out).mono ?_
        rintro e w ⟨rfl, rfl⟩
        rw [hq]
        clear hq
        go_wp2_with (first
          | (at_lookup; refine wpList_lookup_own_unit _ rfl _ _ 118 rfl 124 122 Tryz.pairKeyed Tryz.underPairs (Tryz.unitZero _) M l.length _ rfl hown _ _ rfl hkey ?_)
          | go_in)
        go_ret
        exact ⟨ret_bool HHAS.out, below_alloc _ _⟩
  · have HN : Hid (staysT true c scope vals l k z = true) := rfl
    rw [HN.out]
    clear hkey hown
    go_enter Tryz.func101, Tryz.ntmps101
    go_wp2
    go_ret
    exact ⟨rfl, Below.refl _ _⟩
theorem enters_stays (args : Array Value) (w' : World) : Sem.run Tryz.prog (callFunc 101 args) w' = .ok (.enter 101 args) w' := by
  simp [callFunc, go_sem, Tryz.func101, Tryz.f101]

theorem bl3 (w : World) (o1 o2 o3 : Obj) : (((w.alloc o1).alloc o2).alloc o3).drew.heap[w.heap.size]? = some o1 ∧ (((w.alloc o1).alloc o2).alloc o3).drew.heap[w.heap.size + 1]? = some o2 ∧ (((w.alloc o1).alloc o2).alloc o3).drew.heap[w.heap.size + 1 + 1]? = some o3 := by
  refine ⟨?_, ?_, ?_⟩
  all_goals
    show (((w.heap.push _).push _).push _)[_]? = _
    simp only [Array.getElem?_push, Array.size_push]
    repeat first | rw [if_pos (by omega)] | rw [if_neg (by omega)]
  all_goals simp
theorem owns_none (w : World) (M : Nat) (h : w.heap[M]? = some (.map #[] 0)) : w.ownsMap Tryz.prog 124 unitElem M 0 (setP (H := Unit) []) := by
  obtain ⟨es, clock, hb, F, hs, hd⟩ := World.ownsMap_made (H := Unit) w Tryz.prog 124 unitElem
  have he : (w.alloc (.map #[] 0)).heap[w.heap.size]? = some (.map #[] 0) := by show (w.heap.push _)[w.heap.size]? = _; simp
  rw [he] at hb
  cases hb
  exact ⟨#[], 0, h, F, hs, hd⟩
theorem row_bounds (m : Mod) (s : Sto) (hm : checkM m = 0) (hs : checkV m.vars s = 0) : ∀ r ∈ s, ∀ x ∈ r, -50 ≤ x ∧ x ≤ 50 := by
  obtain ⟨h1, h2, h3⟩ := (checkV_ok _ _).1 hs
  intro r hr x hx
  obtain ⟨i, hi⟩ := List.mem_iff_getElem?.1 hr
  have hil : i < s.length := (List.getElem?_eq_some_iff.1 hi).1
  obtain ⟨v, hv⟩ : ∃ v, m.vars[i]? = some v := ⟨m.vars[i]'(by omega), by simp⟩
  have hvo := var_ok m hm i v hv
  have hin := (all_zip _ _ _).1 h2 i v r hv hi
  have := List.all_eq_true.1 hin x hx
  simp [insideB] at this
  omega
theorem met_ok (c : MCon) (s : Sto) (hb : ∀ r ∈ s, ∀ x ∈ r, -50 ≤ x ∧ x ≤ 50) (hs6 : s.length ≤ 6) (hsc : ∀ v ∈ scopeC c, 0 ≤ v ∧ v < (s.length : Int)) : ∀ q ∈ metAll c s, okPair q := by
  rintro ⟨k, z⟩ hq
  unfold metAll at hq
  rw [mem_metK] at hq
  obtain ⟨u, hu, _, hk, rfl⟩ := hq
  have h1 := hsc k hk
  obtain ⟨v, _, hv, hm⟩ := reach_in s _ _ u (fun v hv => by have := hsc v hv; simp only [zerosOf, List.length_replicate]; omega) hu k hk
  have h2 : -50 ≤ valAt u k ∧ valAt u k ≤ 50 := by
    rw [List.getD_eq_getElem?_getD] at hm
    cases hq : s[v.toNat]? with
    | none => rw [hq] at hm; cases hm
    | some r => rw [hq] at hm; exact hb r (List.mem_of_getElem? hq) _ hm
  exact ⟨by unfold okInt; simp only; omega, by unfold okInt; simp only; omega⟩
theorem zeros_bound (n : Nat) : ∀ x ∈ zerosOf n, -50 ≤ x ∧ x ≤ 50 := by
  intro x hx
  have := List.eq_of_mem_replicate hx
  omega
theorem staysT_eq (c : MCon) (s : Sto) (vals : List Int) (l : List (Int × Int)) (h : failedS s = false → l = metAll c s ∧ ((scopeC c).length = 0 → vals = zerosOf s.length)) (k : Nat) (z : Int) : staysT (failedS s) c (scopeC c) vals l k z = staysB c s k z := by
  unfold staysT staysB
  cases hf : failedS s
  · obtain ⟨h1, h2⟩ := h hf
    by_cases h0 : (scopeC c).length = 0
    · rw [h2 h0]; simp [h0]
    · rw [h1]; simp [h0]
  · rfl

theorem bel3 (w : World) (o1 o2 o3 : Obj) : Below w.heap.size w (((w.alloc o1).alloc o2).alloc o3) := ((below_alloc _ _).alloc (by simp) _).alloc (by simp; omega) _
theorem Tryz.infoInt9 : (Tryz.prog.info? 3).map (fun i => (i.zero, i.size, i.bytes)) = some (some (.int .i64 0), 1, 8) := by kernel_rfl
theorem Tryz.underInts9 : Tryz.prog.underlying 39 = some (.slice 3) := by kernel_rfl

set_option maxHeartbeats 3200000 in
set_option maxRecDepth 100000 in
theorem filter_any (m : Mod) (con : Int) (s : Sto) (vs cs v : Value) (w : World) (hm : MArg w vs cs m) (hv : RArg w v s) :
    Calls Tryz.prog 59 #[modV vs cs m, .int .i64 con, v] w fun e w' => ∃ x, e = .returned (.tuple #[x, .int .i64 (filterA m con s).2]) ∧ RArg w' x (filterA m con s).1 ∧ Below w.heap.size w w' := by
  have HMA : Hid (∀ w' : World, Below w.heap.size w w' → MArg w' vs cs m) := fun w' h => MArg.below h hm
  have HVA : Hid (∀ w' : World, Below w.heap.size w w' → RArg w' v s) := fun w' h => RArg.below h hv
  obtain ⟨⟨a1, c1, rfl, _, _⟩, ⟨a2, c2, rfl, hl2, hr2⟩⟩ := hm
  obtain ⟨a3, c3, rfl, hl3, _⟩ := hv
  have HC : Hid (∀ (i : Nat) (t : MCon), m.cons[i]? = some t → ∃ b off vv vc vr vl, a2 = some ⟨b, off, none⟩ ∧ b < w.heap.size ∧
    w.cell? ⟨b, off + i * 6, none⟩ = some (.int .i64 t.kind) ∧ w.cell? ⟨b, off + i * 6 + 1, none⟩ = some vv ∧ w.cell? ⟨b, off + i * 6 + 2, none⟩ = some vc ∧
    w.cell? ⟨b, off + i * 6 + 3, none⟩ = some (.int .i64 t.n) ∧ w.cell? ⟨b, off + i * 6 + 4, none⟩ = some vr ∧ w.cell? ⟨b, off + i * 6 + 5, none⟩ = some vl ∧ KArg w vv vc vr vl t) := hr2
  unfold maxLen at hl2 hl3
  obtain ⟨hl21, hl2⟩ := hl2
  obtain ⟨hl31, hl3⟩ := hl3
  obtain ⟨R, hR⟩ : ∃ R, filterA m con s = R := ⟨_, rfl⟩
  rw [hR]
  obtain ⟨er, her⟩ : ∃ er, checkL m [s] = er := ⟨_, rfl⟩
  obtain ⟨ec, hec⟩ : ∃ ec, conCheck m con = ec := ⟨_, rfl⟩
  have HER : Hid (checkL m [s] = er) := her
  have HEC : Hid (conCheck m con = ec) := hec
  have HE : Hid (R = if er = 0 then (if ec = 0 then (filterS (m.cons.getD con.toNat noCon) s, 0) else ([], ec)) else ([], er)) := by rw [← hR, ← her, ← hec]; rfl
  have HFA : Hid (failedA m s = if er = 0 then (failedS s, 0) else (false, er)) := by rw [← her]; rfl
  have HSA : Hid (scopeA m con = if ec = 0 then (scopeC (m.cons.getD con.toNat noCon), 0) else ([], ec)) := by rw [← hec]; rfl
  clear hR her hec hr2
  unfold modV
  go_enter Tryz.func59, Tryz.ntmps59
  go_wp2_with fail
  refine (sfailed_any m s (.slice a1 m.vars.length c1) (.slice a2 m.cons.length c2) _ _ ?_ ?_).mono ?_
  · exact HMA.out _ (below_alloc _ _)
  · exact HVA.out _ (below_alloc _ _)
  rintro e w1 ⟨rfl, hb1⟩
  have d0 : w1.cell? ⟨w.heap.size, 0, none⟩ = some (.slice a1 m.vars.length c1) := (hb1.cell (by simp)).trans (by simp)
  have d1 : w1.cell? ⟨w.heap.size, 1, none⟩ = some (.slice a2 m.cons.length c2) := (hb1.cell (by simp)).trans (by simp)
  have d2 : w1.cell? ⟨w.heap.size, 2, none⟩ = some (.int .i64 m.goal) := (hb1.cell (by simp)).trans (by simp)
  have d3 : w1.cell? ⟨w.heap.size, 3, none⟩ = some (.int .i64 m.var) := (hb1.cell (by simp)).trans (by simp)
  have HB1 : Hid (Below w.heap.size w w1) := (below_alloc _ _).trans (hb1.mono (by simp))
  have hs1 : w.heap.size < w1.heap.size := by have h := hb1.size; simp at h; omega
  clear hb1
  rw [HFA.out]
  by_cases he : er = 0
  · subst he
    rw [if_pos rfl]
    obtain ⟨o1, o2⟩ := (checkL_one m s).1 HER.out
    have HO1 : Hid (checkM m = 0) := o1
    have HO2 : Hid (checkV m.vars s = 0) := o2
    obtain ⟨F, HF⟩ : ∃ F, Hid (failedS s = F) := ⟨_, rfl⟩
    rw [HF.out]
    clear o1 o2
    go_wp2_with fail
    refine (mscope_any m con (.slice a1 m.vars.length c1) (.slice a2 m.cons.length c2) _ ?_).mono ?_
    · exact HMA.out _ (HB1.out.alloc HB1.out.size _)
    rintro e w2 ⟨sv, rfl, hsv, hb2⟩
    have dF : w2.cell? ⟨w1.heap.size, 0, none⟩ = some (.bool F) := (hb2.cell (by simp)).trans (by simp)
    have e1 : w2.cell? ⟨w.heap.size, 1, none⟩ = some (.slice a2 m.cons.length c2) := (hb2.cell (by simp; omega)).trans ((World.cell?_alloc_past _ _ _ hs1).trans d1)
    have HB2 : Hid (Below w.heap.size w w2) := (HB1.out.alloc HB1.out.size _).trans (hb2.mono (by simp; omega))
    have hs2 : w1.heap.size + 1 ≤ w2.heap.size := by simpa using hb2.size
    rw [HSA.out] at hsv ⊢
    clear hb2 d0 d1 d2 d3
    by_cases hc0 : ec = 0
    · subst hc0
      rw [if_pos rfl] at hsv ⊢
      obtain ⟨p1, p2, p3⟩ := conCheck_ok m con HEC.out
      obtain ⟨j, rfl⟩ : ∃ j : Nat, con = (j : Int) := ⟨con.toNat, by omega⟩
      have hjl : j < m.cons.length := by omega
      obtain ⟨c, hcc⟩ : ∃ c, m.cons[j]? = some c := ⟨m.cons[j], by simp [hjl]⟩
      have hgd : m.cons.getD ((j : Int)).toNat noCon = c := by rw [Int.toNat_natCast, List.getD_eq_getElem?_getD, hcc]; rfl
      rw [hgd] at hsv
      have HN : Hid (R = (filterS c s, 0)) := by show R = _; rw [HE.out]; simp only [eq_self, if_true, hgd]
      obtain ⟨b, off, vv, vc, vr, vl, ha, hb, f0, f1, f2, f3, f4, f5, hka⟩ := HC.out j c hcc
      subst ha
      have g0 := (HB2.out.cell (p := ⟨b, off + j * 6, none⟩) hb).trans f0
      have g1 := (HB2.out.cell (p := ⟨b, off + j * 6 + 1, none⟩) hb).trans f1
      have g2 := (HB2.out.cell (p := ⟨b, off + j * 6 + 2, none⟩) hb).trans f2
      have g3 := (HB2.out.cell (p := ⟨b, off + j * 6 + 3, none⟩) hb).trans f3
      have g4 := (HB2.out.cell (p := ⟨b, off + j * 6 + 4, none⟩) hb).trans f4
      have g5 := (HB2.out.cell (p := ⟨b, off + j * 6 + 5, none⟩) hb).trans f5
      have HKA : Hid (KArg w vv vc vr vl c) := hka
      have HSV : Hid (∀ w' : World, Below w2.heap.size w2 w' → IArg w' sv (scopeC c)) := fun w' h => IArg.below h hsv
      have HCE : Hid (conE m.vars.length c = 0) := con_ok m HO1.out j c hcc
      have HSI : Hid ((∀ v ∈ scopeC c, 0 ≤ v ∧ v < (m.vars.length : Int)) ∧ (c.kind = 10 → c.lits ≠ [])) := scope_in m HO1.out j c hcc
      obtain ⟨asv, csv, rfl, _, _⟩ := hsv
      obtain ⟨⟨q1, r1, rfl, _, _⟩, ⟨q2, r2, rfl, _, _⟩, ⟨q3, r3, rfl, _, _⟩, ⟨q4, r4, rfl, _, _⟩⟩ := hka
      obtain ⟨hn6, hr6⟩ := rows_short m s HO1.out HO2.out
      have HR6 : Hid (∀ r ∈ s, r.length ≤ 6) := hr6
      have HLM : Hid (s.length = m.vars.length) := ((checkV_ok _ _).1 HO2.out).1
      obtain ⟨W3, hW3⟩ : ∃ W3 : World, W3 = w2.alloc (.cells #[.slice asv (scopeC c).length csv] 39) := ⟨_, rfl⟩
      have HW3 : Hid (W3 = w2.alloc (.cells #[.slice asv (scopeC c).length csv] 39)) := hW3
      have hB3 : Below w2.heap.size w2 W3 := by rw [hW3]; exact below_alloc _ _
      have hsc3 : W3.cell? ⟨w2.heap.size, 0, none⟩ = some (.slice asv (scopeC c).length csv) := by rw [hW3]; simp
      have hs3 : w2.heap.size < W3.heap.size := by rw [hW3]; simp
      have k1 := (hB3.cell (p := ⟨w.heap.size, 1, none⟩) (by simp only; omega)).trans e1
      have k2 := (hB3.cell (p := ⟨w1.heap.size, 0, none⟩) (by simp only; omega)).trans dF
      have hb2 : b < w2.heap.size := Nat.lt_of_lt_of_le hb HB2.out.size
      have i0 := (hB3.cell (p := ⟨b, off + j * 6, none⟩) hb2).trans g0
      have i1 := (hB3.cell (p := ⟨b, off + j * 6 + 1, none⟩) hb2).trans g1
      have i2 := (hB3.cell (p := ⟨b, off + j * 6 + 2, none⟩) hb2).trans g2
      have i3 := (hB3.cell (p := ⟨b, off + j * 6 + 3, none⟩) hb2).trans g3
      have i4 := (hB3.cell (p := ⟨b, off + j * 6 + 4, none⟩) hb2).trans g4
      have i5 := (hB3.cell (p := ⟨b, off + j * 6 + 5, none⟩) hb2).trans g5
      have HB3 : Hid (Below w.heap.size w W3) := HB2.out.trans (hB3.mono (by omega))
      have l1 : w.heap.size < W3.heap.size := by omega
      have l2 : w1.heap.size < W3.heap.size := by omega
      have l3 : b < W3.heap.size := by omega
      have HSV3 : Hid (∀ w' : World, Below W3.heap.size W3 w' → IArg w' (.slice asv (scopeC c).length csv) (scopeC c)) := fun w' h => HSV.out _ (hB3.trans (h.mono hB3.size))
      have HKA3 : Hid (∀ w' : World, Below W3.heap.size W3 w' → KArg w' (.slice q1 c.vars.length r1) (.slice q2 c.consts.length r2) (.slice q3 c.rows.length r3) (.slice q4 c.lits.length r4) c) := fun w' h => KArg.below (HB3.out.trans (h.mono (by omega))) HKA.out
      have HVA3 : Hid (∀ w' : World, Below W3.heap.size W3 w' → RArg w' (.slice a3 s.length c3) s) := fun w' h => HVA.out _ (HB3.out.trans (h.mono (by omega)))
      have hmk := run_make_row' (P := Tryz.prog) 39 3 (.int .i64 0) 8 Tryz.underInts9 Tryz.infoInt9 rfl .i64 .i64 s.length (by omega) (by omega)
      have hmm := @run_makeMap Tryz.prog
      clear hW3 hcc hgd f0 f1 f2 f3 f4 f5 g0 g1 g2 g3 g4 g5 hr6 hB3 p1 p2 p3 HMA HVA HC HSV HKA HE HFA HSA hb hb2 e1 dF hs1 hs2
      go_wp2_with fail
      rw [← HW3.out]
      clear HW3
      go_cut [11] (fun p wx => ∃ B V M : Nat, p = .pointer (some ⟨B, 0, none⟩) ∧ (W3.heap.size ≤ B ∧ W3.heap.size ≤ V ∧ W3.heap.size ≤ M ∧ B ≠ V ∧ B ≠ M ∧ V ≠ M) ∧ wx.heap[B]? = some (trialObj c (.slice q1 c.vars.length r1) (.slice q2 c.consts.length r2) (.slice q3 c.rows.length r3) (.slice q4 c.lits.length r4) (.slice asv (scopeC c).length csv) (.slice a3 s.length c3) V s.length M) ∧
        wx.heap[V]? = some (.cells (madeCells #[.int .i64 0] s.length) 3) ∧ wx.heap[M]? = some (.map #[] 0) ∧ Below W3.heap.size W3 wx)
      case first =>
        go_region_held3 (fun w' => Below W3.heap.size W3 w' ∧ w'.cell? ⟨w.heap.size, 1, none⟩ = some (.slice (some ⟨b, off, none⟩) m.cons.length c2) ∧ w'.cell? ⟨w2.heap.size, 0, none⟩ = some (.slice asv (scopeC c).length csv) ∧
            w'.cell? ⟨b, off + j * 6, none⟩ = some (.int .i64 c.kind) ∧ w'.cell? ⟨b, off + j * 6 + 1, none⟩ = some (.slice q1 c.vars.length r1) ∧ w'.cell? ⟨b, off + j * 6 + 2, none⟩ = some (.slice q2 c.consts.length r2) ∧ w'.cell? ⟨b, off + j * 6 + 3, none⟩ = some (.int .i64 c.n) ∧ w'.cell? ⟨b, off + j * 6 + 4, none⟩ = some (.slice q3 c.rows.length r3) ∧ w'.cell? ⟨b, off + j * 6 + 5, none⟩ = some (.slice q4 c.lits.length r4))
          ((refine (fun (hB : Below W3.heap.size W3 _) => ⟨hB, (hB.cell (p := ⟨w.heap.size, 1, none⟩) l1).trans k1, (hB.cell (p := ⟨w2.heap.size, 0, none⟩) hs3).trans hsc3, (hB.cell (p := ⟨b, off + j * 6, none⟩) l3).trans i0, (hB.cell (p := ⟨b, off + j * 6 + 1, none⟩) l3).trans i1, (hB.cell (p := ⟨b, off + j * 6 + 2, none⟩) l3).trans i2, (hB.cell (p := ⟨b, off + j * 6 + 3, none⟩) l3).trans i3, (hB.cell (p := ⟨b, off + j * 6 + 4, none⟩) l3).trans i4, (hB.cell (p := ⟨b, off + j * 6 + 5, none⟩) l3).trans i5⟩ : Below W3.heap.size W3 _ → _) ?_; first | exact (Below.refl _ _).drew | exact (show Below W3.heap.size W3 _ ∧ _ ∧ _ ∧ _ ∧ _ ∧ _ ∧ _ ∧ _ ∧ _ by assumption).1.alloc ((show Below W3.heap.size W3 _ ∧ _ ∧ _ ∧ _ ∧ _ ∧ _ ∧ _ ∧ _ ∧ _ by assumption).1.size) _ | exact bel3 _ _ _ _ | exact (bel3 _ _ _ _).drew))
          (fail)
        all_goals (go_wp2_with fail; go_meet)
        all_goals first
          | exact ⟨_, W3.heap.size, W3.heap.size + 1, rfl, by omega, (bl3 _ _ _ _).2.2, (bl3 _ _ _ _).1, (bl3 _ _ _ _).2.1, (bel3 _ _ _ _).drew⟩
          | exact ⟨_, W3.heap.size, W3.heap.size + 1 + 1, rfl, by omega, (bl3 _ _ _ _).2.1, (bl3 _ _ _ _).1, (bl3 _ _ _ _).2.2, (bel3 _ _ _ _).drew⟩
          | exact ⟨_, W3.heap.size + 1, W3.heap.size, rfl, by omega, (bl3 _ _ _ _).2.2, (bl3 _ _ _ _).2.1, (bl3 _ _ _ _).1, (bel3 _ _ _ _).drew⟩
          | exact ⟨_, W3.heap.size + 1 + 1, W3.heap.size, rfl, by omega, (bl3 _ _ _ _).2.1, (bl3 _ _ _ _).2.2, (bl3 _ _ _ _).1, (bel3 _ _ _ _).drew⟩
          | exact ⟨_, W3.heap.size + 1, W3.heap.size + 1 + 1, rfl, by omega, (bl3 _ _ _ _).1, (bl3 _ _ _ _).2.1, (bl3 _ _ _ _).2.2, (bel3 _ _ _ _).drew⟩
          | exact ⟨_, W3.heap.size + 1 + 1, W3.heap.size + 1, rfl, by omega, (bl3 _ _ _ _).1, (bl3 _ _ _ _).2.2, (bl3 _ _ _ _).2.1, (bel3 _ _ _ _).drew⟩
      case rest =>
        obtain ⟨B, V, M, rfl, hne, hBh, hVh, hMh, hBx⟩ := hcut
        have hzl : (zerosOf s.length).length = s.length := by simp [zerosOf]
        have hT : TrialS W3.heap.size B V M c (.slice q1 c.vars.length r1) (.slice q2 c.consts.length r2) (.slice q3 c.rows.length r3) (.slice q4 c.lits.length r4) (.slice asv (scopeC c).length csv) (.slice a3 s.length c3) (scopeC c) s (zerosOf s.length) [] wc := by
          refine ⟨hne, by rw [hzl]; exact hBh, ⟨W3, Nat.le_refl _, ⟨HKA3.out _ (Below.refl _ _), HSV3.out _ (Below.refl _ _), HVA3.out _ (Below.refl _ _)⟩, hBx⟩, ?_, owns_none _ _ hMh⟩
          rw [hzl]
          refine ⟨by simp [zerosOf], Or.inr ⟨V, s.length, _, rfl, hne.2.1, hVh, Nat.le_refl _, by unfold maxLen; omega, ?_, ?_⟩⟩
          · have h := congrArg List.length (toList_madeCells_one (.int .i64 0) s.length)
            simp at h
            simpa using h
          · rw [toList_madeCells_one]
            simp [zerosOf]
        have HT : Hid (TrialS W3.heap.size B V M c (.slice q1 c.vars.length r1) (.slice q2 c.consts.length r2) (.slice q3 c.rows.length r3) (.slice q4 c.lits.length r4) (.slice asv (scopeC c).length csv) (.slice a3 s.length c3) (scopeC c) s (zerosOf s.length) [] wc) := hT
        have HBX : Hid (Below W3.heap.size W3 wc) := hBx
        have n2 := (hBx.cell (p := ⟨w1.heap.size, 0, none⟩) l2).trans k2
        have HNE : Hid (W3.heap.size ≤ wc.heap.size) := hBx.size
        have HSC : Hid (∀ v ∈ scopeC c, 0 ≤ v ∧ v < (s.length : Int)) := by rw [HLM.out]; exact HSI.out.1
        have HRB : Hid (∀ r ∈ s, ∀ x ∈ r, -50 ≤ x ∧ x ≤ 50) := row_bounds m s HO1.out HO2.out
        have HCS : Hid (conE s.length c = 0) := by rw [HLM.out]; exact HCE.out
        have HSL : Hid ((scopeC c).length ≤ 8) := by
          obtain ⟨hn4, hl4, _, _⟩ := many_not c (con_facts _ _ HCE.out).2.1
          have h1 := compI_len (sortI (scopeL c))
          rw [sortI_len] at h1
          show (compI (sortI (scopeL c))).length ≤ 8
          have h2 : (scopeL c).length = c.vars.length + c.lits.length := by simp [scopeL]
          omega
        -- the end, whatever was tried
        have HEND : Hid (∀ (vals : List Int) (l : List (Int × Int)) (w5 : World), TrialS W3.heap.size B V M c (.slice q1 c.vars.length r1) (.slice q2 c.consts.length r2) (.slice q3 c.rows.length r3) (.slice q4 c.lits.length r4) (.slice asv (scopeC c).length csv) (.slice a3 s.length c3) (scopeC c) s vals l w5 →
            vals.length = s.length → (∀ x ∈ vals, -50 ≤ x ∧ x ≤ 50) → (∀ q ∈ l, okPair q) → (failedS s = false → l = metAll c s ∧ ((scopeC c).length = 0 → vals = zerosOf s.length)) → Below W3.heap.size W3 w5 →
            Calls Tryz.prog 53 #[.slice a3 s.length c3, .func (.func 101) #[] #[.pointer (some ⟨w1.heap.size, 0, none⟩), .pointer (some ⟨w2.heap.size, 0, none⟩), .pointer (some ⟨B, 0, none⟩)]] w5 fun e w' => ∃ x, e = .returned x ∧ RArg w' x (filterS c s) ∧ Below w.heap.size w w') := by
          intro vals l w5 hT5 hvl hvb hlo hst hB5
          refine (sift_any 101 #[.pointer (some ⟨w1.heap.size, 0, none⟩), .pointer (some ⟨w2.heap.size, 0, none⟩), .pointer (some ⟨B, 0, none⟩)] s (staysB c s) _ w5 (HVA3.out _ hB5) ⟨enters_stays, ?_⟩ hn6 HR6.out).mono ?_
          · intro k r z w' hk hz hb'
            have hB' : Below W3.heap.size W3 w' := hB5.trans (hb'.mono hB5.size)
            have h := stays_any W3.heap.size B V M c _ _ _ _ _ _ (scopeC c) s vals l F w1.heap.size w2.heap.size k z w' (hT5.below hb') ((hB'.cell (p := ⟨w1.heap.size, 0, none⟩) l2).trans k2) ((hB'.cell (p := ⟨w2.heap.size, 0, none⟩) hs3).trans hsc3) (by rw [hvl]; exact HCS.out) hvb hlo
              (by have := (List.getElem?_eq_some_iff.1 hk).1; omega) (HRB.out r (List.mem_of_getElem? hk) z hz)
            rw [← HF.out, staysT_eq c s vals l hst] at h
            exact h
          · rintro e w' ⟨x, rfl, hx, hb⟩
            exact ⟨x, rfl, hx, HB3.out.trans ((hB5.trans (hb.mono hB5.size)).mono (by omega))⟩
        clear hBh hVh hMh hBx hT hmk hmm hzl k1 i0 i1 i2 i3 i4 i5 hsc3
        cases F
        · go_wp2_with fail
          have HFR := from_any W3.heap.size B V M c (.slice q1 c.vars.length r1) (.slice q2 c.consts.length r2) (.slice q3 c.rows.length r3) (.slice q4 c.lits.length r4) (.slice asv (scopeC c).length csv) (.slice a3 s.length c3) (scopeC c) s HSC.out HCS.out hn6 (fun r hr => ⟨HR6.out r hr, HRB.out r hr⟩) HSL.out (scopeC c) 0 (zerosOf s.length) [] wc rfl (Nat.zero_le _) (by simp [zerosOf]) (zeros_bound _) (by
            have h1 := HSL.out
            have h2 : 6 ^ (scopeC c).length ≤ 6 ^ 8 := Nat.pow_le_pow_right (by omega) h1
            have h3 : (scopeC c).length * 6 ^ (scopeC c).length ≤ 8 * 6 ^ 8 := Nat.mul_le_mul h1 h2
            simp only [List.length_nil, Nat.zero_add]
            omega) HT.out
          refine (show Calls Tryz.prog 100 #[.pointer (some ⟨B, 0, none⟩), .int .i64 0] wc _ from HFR).mono ?_
          rintro e w5 ⟨rfl, vals', hT5, hvl, hvb, hag, hbN⟩
          have HB5 : Hid (Below W3.heap.size W3 w5) := HBX.out.trans hbN
          rw [List.nil_append] at hT5
          have HS := HEND.out vals' (metAll c s) w5 hT5 hvl hvb (met_ok c s HRB.out hn6 HSC.out) (fun _ => ⟨rfl, fun h0 => by
            have h1 : scopeC c = [] := List.eq_nil_of_length_eq_zero h0
            rw [h1] at hag
            exact (List.ext_getElem? fun i => hag.2 i (fun v hv => by cases hv)).symm⟩) HB5.out
          have HSH : Hid (Calls Tryz.prog 53 #[.slice a3 s.length c3, .func (.func 101) #[] #[.pointer (some ⟨w1.heap.size, 0, none⟩), .pointer (some ⟨w2.heap.size, 0, none⟩), .pointer (some ⟨B, 0, none⟩)]] w5 fun e w' => ∃ x, e = .returned x ∧ RArg w' x (filterS c s) ∧ Below w.heap.size w w') := HS
          clear HS hT5 hvl hvb hag hbN HFR
          go_wp2_with fail
          refine HSH.out.mono ?_
          rintro e w6 ⟨x, rfl, hx, hb6⟩
          have HX : Hid (RArg w6 x (filterS c s)) := hx
          obtain ⟨ax, cx, rfl, _, _⟩ := hx
          go_wp2
          go_ret2
          rw [HN.out]
          exact ⟨_, rfl, HX.out, hb6⟩
        · have HSH : Hid (Calls Tryz.prog 53 #[.slice a3 s.length c3, .func (.func 101) #[] #[.pointer (some ⟨w1.heap.size, 0, none⟩), .pointer (some ⟨w2.heap.size, 0, none⟩), .pointer (some ⟨B, 0, none⟩)]] wc fun e w' => ∃ x, e = .returned x ∧ RArg w' x (filterS c s) ∧ Below w.heap.size w w') :=
            HEND.out (zerosOf s.length) [] wc HT.out (by simp [zerosOf]) (zeros_bound _) (fun q hq => by cases hq) (fun h => by rw [HF.out] at h; cases h) HBX.out
          go_wp2_with fail
          refine HSH.out.mono ?_
          rintro e w6 ⟨x, rfl, hx, hb6⟩
          have HX : Hid (RArg w6 x (filterS c s)) := hx
          obtain ⟨ax, cx, rfl, _, _⟩ := hx
          go_wp2
          go_ret2
          rw [HN.out]
          exact ⟨_, rfl, HX.out, hb6⟩
    · have HN : Hid (R = ([], ec)) := by show R = _; rw [HE.out]; simp only [eq_self, if_true, hc0, if_false]
      have he2 : (ec != 0) = true := by simpa using hc0
      rw [if_neg hc0] at hsv ⊢
      obtain ⟨asv, csv, rfl, _, _⟩ := hsv
      clear hc0
      go_wp2
      go_ret2
      rw [HN.out]
      exact ⟨_, rfl, ⟨_, _, rfl, ⟨Nat.le_refl _, Nat.zero_le _⟩, fun i r h => by simp at h⟩, HB2.out.alloc HB2.out.size _⟩
  · have HN : Hid (R = ([], er)) := by rw [HE.out, if_neg he]; rfl
    have he2 : (er != 0) = true := by simpa using he
    rw [if_neg he]
    clear he
    go_wp2
    go_ret2
    rw [HN.out]
    exact ⟨_, rfl, ⟨_, _, rfl, ⟨Nat.le_refl _, Nat.zero_le _⟩, fun i r h => by simp at h⟩, HB1.out.alloc HB1.out.size _⟩
end Go.Proofs.YtggkbhafbhhhhadGreat
