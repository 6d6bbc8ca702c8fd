/-
  WALKS: package store: rises; slices.Index, Contains, IndexFunc, ContainsFunc over numbers.
-/
import Derived.Test.YtggkbhafbhhhhabStoPlain
namespace Go.Proofs.Ytggkbhafbhhhhab
open Go.RowKit

theorem draws_below {w w' : World} {n : Nat} (h : w' = w.drewN n) : Below w.heap.size w w' := by rw [h]; exact below_drewN (Below.refl _ _) _
theorem rises_get (l : List Int) : risesB l = true ↔ ∀ (i : Nat) x y, l[i]? = some x → l[i + 1]? = some y → x < y := by
  induction l with
  | nil => simp [risesB]
  | cons a r ih =>
    cases r with
    | nil => simp [risesB]
    | cons b r =>
      simp only [risesB, Bool.and_eq_true, decide_eq_true_eq]
      rw [ih]
      constructor
      · rintro ⟨h0, h1⟩ i x y hx hy
        cases i with
        | zero => simp at hx hy; omega
        | succ i => exact h1 i x y (by simpa using hx) (by simpa using hy)
      · intro h
        exact ⟨h 0 a b rfl rfl, fun i x y hx hy => h (i + 1) x y (by simpa using hx) (by simpa using hy)⟩
theorem rises_take (l : List Int) (k : Nat) (x y : Int) (hx : l[k]? = some x) (hy : l[k + 1]? = some y) (h : risesB (l.take (k + 1)) = true) (hxy : x < y) : risesB (l.take (k + 1 + 1)) = true := by
  rw [rises_get] at *
  intro i u v hu hv
  rw [List.getElem?_take] at hu hv
  split at hv
  · split at hu
    · by_cases hi : i = k
      · subst hi; rw [hx] at hu; rw [hy] at hv; cases hu; cases hv; exact hxy
      · exact h i u v (by rw [List.getElem?_take, if_pos (by omega)]; exact hu) (by rw [List.getElem?_take, if_pos (by omega)]; exact hv)
    · cases hu
  · cases hv
theorem rises_hit (l : List Int) (k : Nat) (x y : Int) (hx : l[k]? = some x) (hy : l[k + 1]? = some y) (hxy : y ≤ x) : risesB l = false := by
  cases h : risesB l
  · rfl
  · have := (rises_get l).1 h k x y hx hy; omega
theorem rises_one (l : List Int) : risesB (l.take 1) = true := by
  rcases l with _ | ⟨a, r⟩ <;> simp [risesB]

set_option maxHeartbeats 800000 in
set_option maxRecDepth 100000 in
theorem rises_any (l : List Int) (v : Value) (w : World) (hv : IArg w v l) :
    Calls Try.prog 64 #[v] w fun e w' => e = .returned (.bool (risesB l)) ∧ ∃ n, w' = w.drewN n := by
  obtain ⟨a, c, rfl, hm, hr⟩ := hv
  have HV : Hid (∀ (i : Nat) (z : Int), l[i]? = some z → ∃ b off, a = some ⟨b, off, none⟩ ∧ b < w.heap.size ∧ w.cell? ⟨b, off + i, none⟩ = some (.int .i64 z)) := hr
  obtain ⟨R, hR⟩ : ∃ R, risesB l = R := ⟨_, rfl⟩
  rw [hR]
  have HR : Hid (risesB l = R) := hR
  unfold maxLen at hm
  obtain ⟨hm1, hm⟩ := hm
  clear hr hR
  go_enter Try.func64, Try.ntmps64
  go_wp2_with fail
  go_loopw [3] (fun i wr => ∃ k : Nat, (k = 0 ∨ k + 1 ≤ l.length) ∧ i = .int .i64 ((k : Int) + 1) ∧ Hid (risesB (l.take (k + 1)) = true) ∧ ∃ n, wr = w.drewN n) (fun i _ => l.length - (intOf i).toNat)
  case atStart => exact ⟨0, by omega, rfl, rises_one l, 0, rfl⟩
  case round =>
    obtain ⟨k, hk, rfl, hall, nq, rfl⟩ := hrel
    by_cases hlt : k + 1 < l.length
    · obtain ⟨y, hy⟩ : ∃ y, l[k + 1]? = some y := ⟨l[k + 1], by simp [hlt]⟩
      obtain ⟨x, hx⟩ : ∃ x, l[k]? = some x := ⟨l[k]'(by omega), by simp [show k < l.length by omega]⟩
      obtain ⟨b, off, ha, hb, hc⟩ := HV.out (k + 1) y hy
      obtain ⟨b', off', ha', hb', hd⟩ := HV.out k x hx
      have HX : Hid (l[k]? = some x) := hx
      have HY : Hid (l[k + 1]? = some y) := hy
      rw [ha] at ha'
      cases ha'
      subst ha
      clear hx hy hb'
      by_cases hq : y ≤ x
      · have HN : Hid (R = false) := by rw [← HR.out]; exact rises_hit l k x y HX.out HY.out hq
        go_wp2
        go_quiet (fail)
        go_wp2
        go_ret
        exact ⟨ret_bool HN.out.symm, _, drewN_drewN _ _ _⟩
      · have HN : Hid (risesB (l.take (k + 1 + 1)) = true) := rises_take l k x y HX.out HY.out hall.out (by omega)
        go_wp2
        go_quiet (fail)
        go_wp2
        go_roundw
        case rel => exact ⟨k + 1, by omega, by go_num, HN, _, rfl⟩
        case measure => simp [intOf]; omega
    · have HN : Hid (R = true) := by
        have := hall.out; rw [List.take_of_length_le (by omega), HR.out] at this; exact this
      go_wp2
      go_ret
      exact ⟨ret_bool HN.out.symm, _, rfl⟩

theorem any_hit {α : Type} (p : α → Bool) (l : List α) (m : Nat) (t : α) (ht : l[m]? = some t) (h : p t = true) : l.any p = true := List.any_eq_true.2 ⟨t, List.mem_of_getElem? ht, h⟩
theorem any_next {α : Type} (p : α → Bool) (l : List α) (m : Nat) (t : α) (ht : l[m]? = some t) (h0 : (l.take m).any p = false) (h : p t = false) : (l.take (m + 1)).any p = false := by
  rw [List.take_add_one, ht, List.any_append, h0]; simp [h]
theorem any_end {α : Type} (p : α → Bool) (l : List α) (m : Nat) (h : ¬ m < l.length) (h0 : (l.take m).any p = false) : l.any p = false := by
  rwa [List.take_of_length_le (by omega)] at h0

set_option maxHeartbeats 400000 in
set_option maxRecDepth 100000 in
theorem index_ints (l : List Int) (v : Value) (n : Int) (w : World) (hv : IArg w v l) :
    Calls Try.prog 52 #[v, .int .i64 n] w fun e w' => (∃ z : Int, e = .returned (.int .i64 z) ∧ decide (0 ≤ z) = hasB l n) ∧ w' = w := by
  obtain ⟨a, c, rfl, hm, hr⟩ := hv
  have HV : Hid (∀ (i : Nat) (z : Int), l[i]? = some z → ∃ b off, a = some ⟨b, off, none⟩ ∧ b < w.heap.size ∧ w.cell? ⟨b, off + i, none⟩ = some (.int .i64 z)) := hr
  obtain ⟨R, hR⟩ : ∃ R, hasB l n = R := ⟨_, rfl⟩
  rw [hR]
  have HR : Hid ((l.any fun k => n == k) = R) := hR
  unfold maxLen at hm
  obtain ⟨hm1, hm⟩ := hm
  clear hr hR
  go_enter Try.func52, Try.ntmps52
  go_wp2_with fail
  go_loop [8] (fun i => ∃ m : Nat, m ≤ l.length ∧ i = .int .i64 m ∧ Hid ((l.take m).any (fun k => n == k) = false)) (fun i => l.length - (intOf i).toNat)
  case atStart => exact ⟨0, by omega, rfl, rfl⟩
  case round =>
    obtain ⟨m, hml, rfl, hall⟩ := hrel
    by_cases hlt : m < l.length
    · obtain ⟨z, hz⟩ : ∃ z, l[m]? = some z := ⟨l[m], by simp [hlt]⟩
      obtain ⟨b, off, ha, hb, hc⟩ := HV.out m z hz
      have HZ : Hid (l[m]? = some z) := hz
      subst ha
      clear hz
      cases hq : (n == z)
      · have HN : Hid ((l.take (m + 1)).any (fun k => n == k) = false) := any_next _ l m z HZ.out hall.out hq
        go_wp2
        go_round
        case rel => exact ⟨m + 1, by omega, by go_num, HN⟩
        case measure => simp [intOf]; omega
      · have HN : Hid (R = true) := by rw [← HR.out]; exact any_hit (fun k => n == k) l m z HZ.out hq
        go_wp2
        go_ret
        exact ⟨⟨_, rfl, by rw [HN.out]; simp⟩, rfl⟩
    · have HN : Hid (R = false) := by rw [← HR.out]; exact any_end _ l m hlt hall.out
      go_wp2
      go_ret
      exact ⟨⟨_, rfl, by rw [HN.out]; rfl⟩, rfl⟩

set_option maxHeartbeats 400000 in
theorem contains_ints (l : List Int) (v : Value) (n : Int) (w : World) (hv : IArg w v l) :
    Calls Try.prog 33 #[v, .int .i64 n] w fun e w' => e = .returned (.bool (hasB l n)) ∧ w' = w := by
  go_enter Try.func33, Try.ntmps33
  go_wp2_with fail
  refine (index_ints l v n _ hv).mono ?_
  rintro e w ⟨⟨z, rfl, hz⟩, rfl⟩
  have HZ : Hid (decide (0 ≤ z) = hasB l n) := hz
  clear hz
  go_wp2
  go_ret
  exact ⟨ret_bool HZ.out, rfl⟩

/-- A closure over numbers that only reads what is old. -/
def ClosI (F : Nat) (caps : Array Value) (p : Int → Bool) (w : World) : Prop :=
  (∀ (args : Array Value) (w' : World), Sem.run Try.prog (callFunc F args) w' = .ok (.enter F args) w') ∧ ∀ (z : Int) (w' : World), Below w.heap.size w w' → Calls Try.prog F (#[.int .i64 z] ++ caps) w' fun e w'' => e = .returned (.bool (p z)) ∧ Below w'.heap.size w' w''

set_option maxHeartbeats 800000 in
set_option maxRecDepth 100000 in
theorem indexf_ints (F : Nat) (caps : Array Value) (p : Int → Bool) (l : List Int) (v : Value) (w : World) (hv : IArg w v l) (hF : ClosI F caps p w) :
    Calls Try.prog 53 #[v, .func (.func F) #[] caps] w fun e w' => (∃ z : Int, e = .returned (.int .i64 z) ∧ decide (0 ≤ z) = l.any p) ∧ Below w.heap.size w w' := by
  obtain ⟨a, c, rfl, hm, hr⟩ := hv
  have HV : Hid (∀ (i : Nat) (z : Int), l[i]? = some z → ∃ b off, a = some ⟨b, off, none⟩ ∧ b < w.heap.size ∧ w.cell? ⟨b, off + i, none⟩ = some (.int .i64 z)) := hr
  obtain ⟨R, hR⟩ : ∃ R, l.any p = R := ⟨_, rfl⟩
  rw [hR]
  have HR : Hid (l.any p = R) := hR
  have HF : Hid (ClosI F caps p w) := hF
  unfold maxLen at hm
  obtain ⟨hm1, hm⟩ := hm
  clear hr hR hF
  go_enter Try.func53, Try.ntmps53
  go_wp2_with fail
  go_loopw [8] (fun i wr => ∃ m : Nat, m ≤ l.length ∧ i = .int .i64 m ∧ Hid ((l.take m).any p = false) ∧ Below w.heap.size w wr) (fun i _ => l.length - (intOf i).toNat)
  case atStart => exact ⟨0, by omega, rfl, rfl, Below.refl _ _⟩
  case round =>
    obtain ⟨m, hml, rfl, hall, hbw⟩ := hrel
    by_cases hlt : m < l.length
    · obtain ⟨z, hz⟩ : ∃ z, l[m]? = some z := ⟨l[m], by simp [hlt]⟩
      obtain ⟨b, off, ha, hb, hc0⟩ := HV.out m z hz
      have hc := (hbw.cell (p := ⟨b, off + m, none⟩) hb).trans hc0
      have HZ : Hid (l[m]? = some z) := hz
      subst ha
      clear hz hc0
      cases hq : p z
      · have HN : Hid ((l.take (m + 1)).any p = false) := any_next _ l m z HZ.out hall.out hq
        go_wp2_with fail
        rw [HF.out.1, Oper.upon_enter]
        refine (HF.out.2 z _ hbw).mono ?_
        rintro e w1 ⟨rfl, hb1⟩
        rw [hq]
        clear hq
        go_wp2
        go_roundw
        case rel => exact ⟨m + 1, by omega, by go_num, HN, hbw.trans (hb1.mono hbw.size)⟩
        case measure => simp [intOf]; omega
      · have HN : Hid (R = true) := by rw [← HR.out]; exact any_hit p l m z HZ.out hq
        go_wp2_with fail
        rw [HF.out.1, Oper.upon_enter]
        refine (HF.out.2 z _ hbw).mono ?_
        rintro e w1 ⟨rfl, hb1⟩
        rw [hq]
        clear hq
        go_wp2
        go_ret
        exact ⟨⟨_, rfl, by rw [HN.out]; simp⟩, hbw.trans (hb1.mono hbw.size)⟩
    · have HN : Hid (R = false) := by rw [← HR.out]; exact any_end _ l m hlt hall.out
      go_wp2
      go_ret
      exact ⟨⟨_, rfl, by rw [HN.out]; rfl⟩, hbw⟩

set_option maxHeartbeats 400000 in
theorem containsf_ints (F : Nat) (caps : Array Value) (p : Int → Bool) (l : List Int) (v : Value) (w : World) (hv : IArg w v l) (hF : ClosI F caps p w) :
    Calls Try.prog 36 #[v, .func (.func F) #[] caps] w fun e w' => e = .returned (.bool (l.any p)) ∧ Below w.heap.size w w' := by
  go_enter Try.func36, Try.ntmps36
  go_wp2_with fail
  refine (indexf_ints F caps p l v _ hv hF).mono ?_
  rintro e w1 ⟨⟨z, rfl, hz⟩, hb1⟩
  have HZ : Hid (decide (0 ≤ z) = l.any p) := hz
  clear hz
  go_wp2
  go_ret
  exact ⟨ret_bool HZ.out, hb1⟩
end Go.Proofs.Ytggkbhafbhhhhab
