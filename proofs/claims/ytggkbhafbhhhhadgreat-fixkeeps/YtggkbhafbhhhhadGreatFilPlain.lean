/-
  PLAIN: what a constraint by itself leaves of a store; that no values are lost; that twice is once; that less leaves less.
-/
import Derived.Test.YtggkbhafbhhhhadGreatModT
import Derived.Test.YtggkbhafbhhhhadGreatSifPlain
namespace Go.Proofs.YtggkbhafbhhhhadGreat

/-- All values that are tried, from a place of the scope on. -/
def reach (s : Sto) : List Int → List Int → List (List Int)
  | [], vals => [vals]
  | v :: r, vals => (s.getD v.toNat []).flatMap fun x => reach s r (vals.set v.toNat x)
def keysOf (scope u : List Int) : List (Int × Int) := scope.map fun v => (v, valAt u v)
/-- What is met, in its order. -/
def metK (c : MCon) (scope : List Int) (us : List (List Int)) : List (Int × Int) := us.flatMap fun u => if holdsC c u then keysOf scope u else []
def zerosOf (n : Nat) : List Int := List.replicate n 0
def metAll (c : MCon) (s : Sto) : List (Int × Int) := metK c (scopeC c) (reach s (scopeC c) (zerosOf s.length))
def staysB (c : MCon) (s : Sto) (k : Nat) (z : Int) : Bool :=
  if failedS s then true
  else if (scopeC c).length = 0 then holdsC c (zerosOf s.length)
  else if hasB (scopeC c) (k : Int) then (metAll c s).contains ((k : Int), z)
  else true
def filterS (c : MCon) (s : Sto) : Sto := siftS s (staysB c s)
def filterA (m : Mod) (con : Int) (s : Sto) : Sto × Int :=
  if checkL m [s] = 0 then (if conCheck m con = 0 then (filterS (m.cons.getD con.toNat noCon) s, 0) else ([], conCheck m con)) else ([], checkL m [s])

theorem mem_comp (zs : List Int) (x : Int) : x ∈ compI zs ↔ x ∈ zs := by
  unfold compI Lib.compact Lib.compactUpTo
  constructor
  · intro h
    obtain ⟨i, hi, rfl⟩ := List.mem_map.1 h
    have hi' : i < zs.length := List.mem_range.1 (List.mem_filter.1 hi).1
    simp [getElem!_pos, hi']
  · intro h
    obtain ⟨i, hi, rfl⟩ := List.mem_iff_getElem.1 h
    have key : ∀ (j : Nat) (hj : j < zs.length), zs[j] ∈ ((List.range zs.length).filter (Lib.keeps zs.toArray)).map (zs.toArray[·]!) := by
      intro j
      induction j with
      | zero =>
        intro hj
        exact List.mem_map.2 ⟨0, List.mem_filter.2 ⟨List.mem_range.2 hj, by simp [Lib.keeps]⟩, by simp [getElem!_pos, hj]⟩
      | succ j ih =>
        intro hj
        by_cases hk : Lib.keeps zs.toArray (j + 1) = true
        · exact List.mem_map.2 ⟨j + 1, List.mem_filter.2 ⟨List.mem_range.2 hj, hk⟩, by simp [getElem!_pos, hj]⟩
        · have he : zs[j + 1] = zs[j] := by
            have h1 : ¬ (j + 1 = 0 ∨ zs.toArray[j + 1]! ≠ zs.toArray[j + 1 - 1]!) := by simpa [Lib.keeps] using hk
            have h2 : zs.toArray[j + 1]! = zs.toArray[j]! := by
              by_cases h3 : zs.toArray[j + 1]! = zs.toArray[j]!
              · exact h3
              · exact absurd (Or.inr h3) h1
            rw [getElem!_pos zs.toArray (j + 1) (by simpa using hj), getElem!_pos zs.toArray j (by simp; omega)] at h2
            simpa using h2
          rw [he]
          exact ih (by omega)
    exact key i hi
theorem mem_scope (c : MCon) (x : Int) : x ∈ scopeC c ↔ x ∈ scopeL c := by
  unfold scopeC
  rw [mem_comp]
  unfold sortI
  exact (List.mergeSort_perm _ _).mem_iff
theorem ownV_same (vars a b : List Int) (h : ∀ v ∈ vars, valAt a v = valAt b v) : ownV vars a = ownV vars b := List.map_congr_left h
theorem litB_same (a b : List Int) (l : MLit) (h : valAt a l.var = valAt b l.var) : litB a l = litB b l := by unfold litB; rw [h]
/-- A constraint speaks of its scope alone. -/
theorem holds_scope (c : MCon) (a b : List Int) (h : ∀ v ∈ scopeC c, valAt a v = valAt b v) (hl : c.kind = 10 → c.lits ≠ []) : holdsC c a = holdsC c b := by
  have h0 : ∀ v ∈ c.vars, valAt a v = valAt b v := fun v hv => h v ((mem_scope c v).2 (List.mem_append_left _ hv))
  have h1 : ∀ l ∈ c.lits, litB a l = litB b l := fun l hl => litB_same a b l (h _ ((mem_scope c _).2 (List.mem_append_right _ (List.mem_map.2 ⟨l, hl, rfl⟩))))
  have h2 := ownV_same c.vars a b h0
  have h3 : c.lits.any (litB a) = c.lits.any (litB b) := by
    rw [Bool.eq_iff_iff, List.any_eq_true, List.any_eq_true]
    exact ⟨fun ⟨l, hm, hq⟩ => ⟨l, hm, by rw [← h1 l hm]; exact hq⟩, fun ⟨l, hm, hq⟩ => ⟨l, hm, by rw [h1 l hm]; exact hq⟩⟩
  by_cases hk : c.kind = 10
  · have h4 : litB a (c.lits.getD 0 ⟨0, 0, 0⟩) = litB b (c.lits.getD 0 ⟨0, 0, 0⟩) := by
      match hc : c.lits with
      | [] => exact absurd hc (hl hk)
      | l :: r => exact h1 l (by rw [hc]; exact List.mem_cons_self ..)
    unfold holdsC
    rw [h2, h3, h4]
  · unfold holdsC
    rw [h2, h3]
    simp only [hk, if_false]

theorem valAt_set_self (vals : List Int) (v x : Int) (h : v.toNat < vals.length) : valAt (vals.set v.toNat x) v = x := by
  unfold valAt; rw [List.getD_eq_getElem?_getD, List.getElem?_set_self h]; rfl
theorem valAt_set_ne (vals : List Int) (v x u : Int) (h : v.toNat ≠ u.toNat) : valAt (vals.set v.toNat x) u = valAt vals u := by
  unfold valAt; rw [List.getD_eq_getElem?_getD, List.getD_eq_getElem?_getD, List.getElem?_set_ne h]

theorem reach_len (s : Sto) : ∀ (r vals u : List Int), u ∈ reach s r vals → u.length = vals.length
  | [], vals, u, h => by simp [reach] at h; rw [h]
  | v :: r, vals, u, h => by
    unfold reach at h
    obtain ⟨x, _, hx⟩ := List.mem_flatMap.1 h
    have := reach_len s r _ u hx
    simpa using this
theorem reach_out (s : Sto) : ∀ (r vals u : List Int), u ∈ reach s r vals → ∀ w : Int, (∀ v ∈ r, v.toNat ≠ w.toNat) → valAt u w = valAt vals w
  | [], vals, u, h, w, _ => by simp [reach] at h; rw [h]
  | v :: r, vals, u, h, w, hw => by
    unfold reach at h
    obtain ⟨x, _, hx⟩ := List.mem_flatMap.1 h
    rw [reach_out s r _ u hx w (fun v' hv => hw v' (List.mem_cons_of_mem _ hv)), valAt_set_ne _ _ _ _ (hw v (List.mem_cons_self ..))]
theorem reach_in (s : Sto) : ∀ (r vals u : List Int), (∀ v ∈ r, v.toNat < vals.length) → u ∈ reach s r vals → ∀ w ∈ r, ∃ v ∈ r, v.toNat = w.toNat ∧ valAt u w ∈ s.getD v.toNat []
  | [], vals, u, _, h, w, hw => by cases hw
  | v :: r, vals, u, hb, h, w, hw => by
    unfold reach at h
    obtain ⟨x, hx0, hx⟩ := List.mem_flatMap.1 h
    by_cases hq : ∃ v' ∈ r, v'.toNat = w.toNat
    · obtain ⟨v', hv', he⟩ := hq
      obtain ⟨v2, hv2, he2, hm⟩ := reach_in s r _ u (fun v'' hv'' => by simpa using hb v'' (List.mem_cons_of_mem _ hv'')) hx v' hv'
      refine ⟨v2, List.mem_cons_of_mem _ hv2, by omega, ?_⟩
      have : valAt u w = valAt u v' := by unfold valAt; rw [he]
      rw [this]; exact hm
    · have hne : ∀ v' ∈ r, v'.toNat ≠ w.toNat := fun v' hv' he => hq ⟨v', hv', he⟩
      have hwv : w = v := by
        rcases List.mem_cons.1 hw with h | h
        · exact h
        · exact absurd rfl (hne w h)
      subst hwv
      refine ⟨w, List.mem_cons_self .., rfl, ?_⟩
      rw [reach_out s r _ u hx w hne, valAt_set_self _ _ _ (hb w (List.mem_cons_self ..))]
      exact hx0
theorem reach_hits (s : Sto) : ∀ (r vals u : List Int), (∀ v ∈ r, v.toNat < vals.length) → u.length = vals.length → (∀ v ∈ r, valAt u v ∈ s.getD v.toNat []) →
    (∀ w : Nat, (∀ v ∈ r, v.toNat ≠ w) → u[w]? = vals[w]?) → u ∈ reach s r vals
  | [], vals, u, _, hl, _, ho => by
    simp only [reach, List.mem_singleton]
    exact List.ext_getElem? fun w => ho w (fun v hv => by cases hv)
  | v :: r, vals, u, hb, hl, hi, ho => by
    unfold reach
    refine List.mem_flatMap.2 ⟨valAt u v, hi v (List.mem_cons_self ..), ?_⟩
    refine reach_hits s r _ u (fun v' hv' => by simpa using hb v' (List.mem_cons_of_mem _ hv')) (by simpa using hl) (fun v' hv' => hi v' (List.mem_cons_of_mem _ hv')) fun w hw => ?_
    by_cases hwv : w = v.toNat
    · subst hwv
      have hlt := hb v (List.mem_cons_self ..)
      rw [List.getElem?_set_self hlt]
      unfold valAt
      rw [List.getD_eq_getElem?_getD]
      rw [List.getElem?_eq_getElem (by omega)]; rfl
    · rw [List.getElem?_set_ne (fun h => hwv h.symm)]
      refine ho w fun v' hv' => ?_
      rcases List.mem_cons.1 hv' with rfl | h
      · exact fun h => hwv h.symm
      · exact hw v' h

/-- Values that agree but for a rest of the scope reach the same. -/
def Agree (r a b : List Int) : Prop := a.length = b.length ∧ ∀ w : Nat, (∀ v ∈ r, v.toNat ≠ w) → a[w]? = b[w]?
theorem Agree.refl (r a : List Int) : Agree r a a := ⟨rfl, fun _ _ => rfl⟩
theorem Agree.trans {r a b c : List Int} (h : Agree r a b) (k : Agree r b c) : Agree r a c := ⟨h.1.trans k.1, fun w hw => (h.2 w hw).trans (k.2 w hw)⟩
theorem Agree.symm {r a b : List Int} (h : Agree r a b) : Agree r b a := ⟨h.1.symm, fun w hw => (h.2 w hw).symm⟩
theorem Agree.cons {r a b : List Int} (v : Int) (h : Agree r a b) : Agree (v :: r) a b := ⟨h.1, fun w hw => h.2 w fun v' hv' => hw v' (List.mem_cons_of_mem _ hv')⟩
theorem Agree.set {r a b : List Int} {v : Int} (x : Int) (h : Agree (v :: r) a b) : Agree r (a.set v.toNat x) (b.set v.toNat x) := by
  refine ⟨by simpa using h.1, fun w hw => ?_⟩
  by_cases hwv : w = v.toNat
  · subst hwv
    by_cases hlt : v.toNat < a.length
    · rw [List.getElem?_set_self hlt, List.getElem?_set_self (by rw [← h.1]; exact hlt)]
    · rw [List.getElem?_eq_none (by simp; omega), List.getElem?_eq_none (by have := h.1; simp; omega)]
  · rw [List.getElem?_set_ne (fun h => hwv h.symm), List.getElem?_set_ne (fun h => hwv h.symm)]
    refine h.2 w fun v' hv' => ?_
    rcases List.mem_cons.1 hv' with rfl | h'
    · exact fun h => hwv h.symm
    · exact hw v' h'
theorem Agree.of_set (r a : List Int) (v x : Int) : Agree (v :: r) a (a.set v.toNat x) := by
  refine ⟨by simp, fun w hw => ?_⟩
  rw [List.getElem?_set_ne (hw v (List.mem_cons_self ..))]
theorem reach_same (s : Sto) : ∀ (r a b : List Int), Agree r a b → reach s r a = reach s r b
  | [], a, b, h => by
    unfold reach
    rw [show a = b from List.ext_getElem? fun w => h.2 w (fun v hv => by cases hv)]
  | v :: r, a, b, h => by
    unfold reach
    congr 1
    funext x
    exact reach_same s r _ _ (h.set x)

/-- A value is part of values of which the constraint holds. -/
def Part (c : MCon) (s : Sto) (k : Nat) (z : Int) : Prop := ∃ u : List Int, u.length = s.length ∧ (∀ v ∈ scopeC c, valAt u v ∈ s.getD v.toNat []) ∧ holdsC c u = true ∧ valAt u (k : Int) = z

theorem mem_metK (c : MCon) (scope : List Int) (us : List (List Int)) (k z : Int) : (k, z) ∈ metK c scope us ↔ ∃ u ∈ us, holdsC c u = true ∧ k ∈ scope ∧ valAt u k = z := by
  unfold metK
  rw [List.mem_flatMap]
  constructor
  · rintro ⟨u, hu, h⟩
    cases hh : holdsC c u
    · rw [hh] at h; simp at h
    · rw [hh, if_pos rfl] at h
      obtain ⟨v, hv, he⟩ := List.mem_map.1 h
      cases he
      exact ⟨u, hu, hh, hv, rfl⟩
  · rintro ⟨u, hu, hh, hv, rfl⟩
    exact ⟨u, hu, by rw [hh, if_pos rfl]; exact List.mem_map.2 ⟨k, hv, rfl⟩⟩

theorem getElem_zeros (n w : Nat) (h : w < n) : (zerosOf n)[w]? = some 0 := by simp [zerosOf, h]
theorem met_iff (c : MCon) (s : Sto) (hsc : ∀ v ∈ scopeC c, 0 ≤ v ∧ v < s.length) (hl : c.kind = 10 → c.lits ≠ []) (k : Nat) (z : Int) (hk : (k : Int) ∈ scopeC c) :
    (metAll c s).contains ((k : Int), z) = true ↔ Part c s k z := by
  rw [List.contains_iff_mem]
  unfold metAll
  rw [mem_metK]
  have hb : ∀ v ∈ scopeC c, v.toNat < (zerosOf s.length).length := fun v hv => by
    have := hsc v hv
    simp only [zerosOf, List.length_replicate]
    omega
  constructor
  · rintro ⟨u, hu, hh, _, hz⟩
    refine ⟨u, by rw [reach_len s _ _ u hu]; simp [zerosOf], fun v hv => ?_, hh, hz⟩
    obtain ⟨v', _, he, hm⟩ := reach_in s _ _ u hb hu v hv
    rw [← he]; exact hm
  · rintro ⟨u, hul, hu, hh, hz⟩
    let u' : List Int := (List.range s.length).map fun (i : Nat) => if (i : Int) ∈ scopeC c then valAt u (i : Int) else 0
    have hu'l : u'.length = s.length := by simp [u']
    have hval : ∀ v ∈ scopeC c, valAt u' v = valAt u v := fun v hv => by
      obtain ⟨h0, h1⟩ := hsc v hv
      obtain ⟨i, rfl⟩ : ∃ i : Nat, v = (i : Int) := ⟨v.toNat, by omega⟩
      have hi : i < s.length := by omega
      unfold valAt
      rw [List.getD_eq_getElem?_getD]
      simp only [u', Int.toNat_natCast, List.getElem?_map, List.getElem?_range hi, Option.map_some, Option.getD_some, if_pos hv]
      rfl
    refine ⟨u', reach_hits s _ _ u' hb (by rw [hu'l]; simp [zerosOf]) (fun v hv => by rw [hval v hv]; exact hu v hv) (fun w hw => ?_), ?_, hk, by rw [hval _ hk]; exact hz⟩
    · by_cases hws : w < s.length
      · rw [getElem_zeros _ _ hws]
        simp only [u', List.getElem?_map, List.getElem?_range hws, Option.map_some]
        rw [if_neg (fun h => hw _ h (by simp))]
      · rw [List.getElem?_eq_none (by omega), List.getElem?_eq_none (by simp [zerosOf]; omega)]
    · rw [holds_scope c u' u hval hl]; exact hh

theorem stays_in (c : MCon) (s : Sto) (hf : failedS s = false) (k : Nat) (z : Int) (hk : (k : Int) ∈ scopeC c) : staysB c s k z = (metAll c s).contains ((k : Int), z) := by
  have hn : (scopeC c).length ≠ 0 := fun h => by rw [List.eq_nil_of_length_eq_zero h] at hk; cases hk
  unfold staysB
  rw [hf, if_neg (by simp), if_neg hn, if_pos ((hasB_iff _ _).2 hk)]
theorem stays_out (c : MCon) (s : Sto) (hn : (scopeC c).length ≠ 0) (k : Nat) (z : Int) (hk : (k : Int) ∉ scopeC c) : staysB c s k z = true := by
  unfold staysB
  cases failedS s
  · rw [if_neg (by simp), if_neg hn, if_neg (fun h => hk ((hasB_iff _ _).1 h))]
  · rfl
theorem stays_none (c : MCon) (s : Sto) (hf : failedS s = false) (hn : (scopeC c).length = 0) (k : Nat) (z : Int) : staysB c s k z = holdsC c (zerosOf s.length) := by
  unfold staysB
  rw [hf, if_neg (by simp), if_pos hn]
theorem stays_failed (c : MCon) (s : Sto) (hf : failedS s = true) (k : Nat) (z : Int) : staysB c s k z = true := by
  unfold staysB; rw [hf, if_pos rfl]
theorem filter_failed (c : MCon) (s : Sto) (hf : failedS s = true) : filterS c s = s := by
  unfold filterS
  refine sto_ext _ _ (siftS_len _ _) fun k r q hr hq => ?_
  obtain ⟨a, ha, rfl⟩ := siftS_back _ _ _ _ hr
  rw [hq] at ha; cases ha
  exact List.filter_eq_self.2 fun z _ => stays_failed c s hf k z
theorem getD_row (s : Sto) (k : Nat) (r : List Int) (h : s[k]? = some r) : s.getD k [] = r := by rw [List.getD_eq_getElem?_getD, h]; rfl

/-- NO VALUES ARE LOST. -/
theorem filter_keeps (c : MCon) (s : Sto) (hsc : ∀ v ∈ scopeC c, 0 ≤ v ∧ v < s.length) (hl : c.kind = 10 → c.lits ≠ []) (vals : List Int) (hv : vals.length = s.length)
    (hin : ∀ (k : Nat) r x, s[k]? = some r → vals[k]? = some x → x ∈ r) (hh : holdsC c vals = true) (k : Nat) (r : List Int) (x : Int) (hr : (filterS c s)[k]? = some r) (hx : vals[k]? = some x) : x ∈ r := by
  obtain ⟨a, ha, rfl⟩ := siftS_back _ _ _ _ hr
  refine List.mem_filter.2 ⟨hin k a x ha hx, ?_⟩
  cases hf : failedS s
  · by_cases hn : (scopeC c).length = 0
    · rw [stays_none c s hf hn, holds_scope c (zerosOf s.length) vals (fun v hv => by rw [List.eq_nil_of_length_eq_zero hn] at hv; cases hv) hl]
      exact hh
    · by_cases hk : (k : Int) ∈ scopeC c
      · rw [stays_in c s hf k x hk, met_iff c s hsc hl k x hk]
        refine ⟨vals, hv, fun v hvs => ?_, hh, valAt_get vals k x hx⟩
        obtain ⟨h0, h1⟩ := hsc v hvs
        obtain ⟨i, rfl⟩ : ∃ i : Nat, v = (i : Int) := ⟨v.toNat, by omega⟩
        have hi : i < s.length := by omega
        have e1 : s[i]? = some s[i] := by simp [hi]
        have e2 : vals[i]? = some (vals[i]'(by omega)) := by simp [show i < vals.length by omega]
        rw [Int.toNat_natCast, getD_row s i _ e1, valAt_get vals i _ e2]
        exact hin i _ _ e1 e2
      · exact stays_out c s hn k x hk
  · exact stays_failed c s hf k x

theorem failed_iff (s : Sto) : failedS s = true ↔ ∃ k : Nat, s[k]? = some [] := by
  unfold failedS
  rw [List.any_eq_true]
  constructor
  · rintro ⟨r, hr, h⟩
    obtain ⟨k, hk⟩ := List.mem_iff_getElem?.1 hr
    have : r = [] := List.eq_nil_of_length_eq_zero (by simpa using h)
    exact ⟨k, by rw [hk, this]⟩
  · rintro ⟨k, hk⟩
    exact ⟨[], List.mem_of_getElem? hk, rfl⟩

/-- FILTERED TWICE IT IS FILTERED ONCE. -/
theorem filter_twice (c : MCon) (s : Sto) (hsc : ∀ v ∈ scopeC c, 0 ≤ v ∧ v < s.length) (hl : c.kind = 10 → c.lits ≠ []) : filterS c (filterS c s) = filterS c s := by
  cases hf : failedS s
  · cases hf2 : failedS (filterS c s)
    · have hlen : (filterS c s).length = s.length := siftS_len _ _
      refine sto_ext _ _ (siftS_len _ _) fun k r q hr hq => ?_
      obtain ⟨a, ha, rfl⟩ := siftS_back _ _ _ _ hr
      rw [hq] at ha; cases ha
      refine List.filter_eq_self.2 fun z hz => ?_
      obtain ⟨b, hb, rfl⟩ := siftS_back _ _ _ _ hq
      obtain ⟨hz1, hz2⟩ := List.mem_filter.1 hz
      by_cases hn : (scopeC c).length = 0
      · rw [stays_none c _ hf2 hn, hlen]
        rw [stays_none c s hf hn] at hz2
        exact hz2
      · by_cases hk : (k : Int) ∈ scopeC c
        · rw [stays_in c s hf k z hk, met_iff c s hsc hl k z hk] at hz2
          rw [stays_in c _ hf2 k z hk, met_iff c _ (by rw [hlen]; exact hsc) hl k z hk]
          obtain ⟨u, hul, hu, hh, huz⟩ := hz2
          refine ⟨u, by rw [hlen]; exact hul, fun v hv => ?_, hh, huz⟩
          obtain ⟨h0, h1⟩ := hsc v hv
          obtain ⟨i, rfl⟩ : ∃ i : Nat, v = (i : Int) := ⟨v.toNat, by omega⟩
          have hi : i < s.length := by omega
          have e1 : s[i]? = some s[i] := by simp [hi]
          have := hu _ hv
          rw [Int.toNat_natCast] at this ⊢
          rw [getD_row s i _ e1] at this
          show _ ∈ (siftS s (staysB c s)).getD i []
          rw [getD_row _ i _ (siftS_get s (staysB c s) i _ e1)]
          refine List.mem_filter.2 ⟨this, ?_⟩
          rw [stays_in c s hf i _ hv, met_iff c s hsc hl i _ hv]
          exact ⟨u, hul, hu, hh, rfl⟩
        · exact stays_out c _ hn k z hk
    · exact filter_failed c _ hf2
  · rw [filter_failed c s hf, filter_failed c s hf]

/-- WHAT IS FILTERED OF LESS IS LESS. -/
theorem filter_less (c : MCon) (s t : Sto) (hlen : t.length = s.length) (hsc : ∀ v ∈ scopeC c, 0 ≤ v ∧ v < s.length) (hl : c.kind = 10 → c.lits ≠ []) (hft : failedS t = false) (hfs : failedS s = false)
    (hw : withinS t s = true) : withinS (filterS c t) (filterS c s) = true := by
  unfold withinS at *
  rw [all_zip] at *
  have hsub : ∀ (i : Nat) r q, t[i]? = some r → s[i]? = some q → ∀ n ∈ r, n ∈ q := fun i r q hr hq => (withinR_iff r q).1 (hw i r q hr hq)
  intro k r q hr hq
  obtain ⟨a, ha, rfl⟩ := siftS_back _ _ _ _ hr
  obtain ⟨b, hb, rfl⟩ := siftS_back _ _ _ _ hq
  refine (withinR_iff _ _).2 fun z hz => ?_
  obtain ⟨hz1, hz2⟩ := List.mem_filter.1 hz
  refine List.mem_filter.2 ⟨hsub k a b ha hb z hz1, ?_⟩
  by_cases hn : (scopeC c).length = 0
  · rw [stays_none c s hfs hn]
    rw [stays_none c t hft hn, hlen] at hz2
    exact hz2
  · by_cases hk : (k : Int) ∈ scopeC c
    · rw [stays_in c t hft k z hk, met_iff c t (by rw [hlen]; exact hsc) hl k z hk] at hz2
      rw [stays_in c s hfs k z hk, met_iff c s hsc hl k z hk]
      obtain ⟨u, hul, hu, hh, huz⟩ := hz2
      refine ⟨u, by rw [hul, hlen], fun v hv => ?_, hh, huz⟩
      obtain ⟨h0, h1⟩ := hsc v hv
      obtain ⟨i, rfl⟩ : ∃ i : Nat, v = (i : Int) := ⟨v.toNat, by omega⟩
      have hi : i < s.length := by omega
      have e1 : s[i]? = some s[i] := by simp [hi]
      have e2 : t[i]? = some (t[i]'(by omega)) := by simp [show i < t.length by omega]
      have := hu _ hv
      rw [Int.toNat_natCast] at this ⊢
      rw [getD_row s i _ e1]
      rw [getD_row t i _ e2] at this
      exact hsub i _ _ e2 e1 _ this
    · exact stays_out c s hn k z hk
/-- What a right model's constraints have. -/
theorem scope_in (m : Mod) (hm : checkM m = 0) (j : Nat) (c : MCon) (hc : m.cons[j]? = some c) : (∀ v ∈ scopeC c, 0 ≤ v ∧ v < (m.vars.length : Int)) ∧ (c.kind = 10 → c.lits ≠ []) := by
  obtain ⟨_, _, hform, hvars, _, _⟩ := con_facts _ _ (con_ok m hm j c hc)
  obtain ⟨h1, h2⟩ := vars_in c _ hvars
  refine ⟨fun v hv => ?_, fun hk => ?_⟩
  · rw [mem_scope] at hv
    unfold scopeL at hv
    rcases List.mem_append.1 hv with h | h
    · exact h1 v h
    · obtain ⟨l, hl, rfl⟩ := List.mem_map.1 h
      exact h2 l hl
  · intro h
    unfold formB at hform
    rw [hk, h] at hform
    simp at hform
end Go.Proofs.YtggkbhafbhhhhadGreat
