/-
  PART 4 of what the proof leans on (StoA, StoB, StoC, StoD, FilB, FilC, SifA, StoE, LitPlain).
-/
import Derived.Test.YtggkbhafbhhhhacGreatPartC
import Derived.Laws.OwnMore
import Derived.Deep.RegionHeld3
/-
  WALKS: package store: rises; slices.Index, Contains, IndexFunc, ContainsFunc over numbers.
-/
namespace Go.Proofs.YtggkbhafbhhhhacGreat
open Go.RowKit

theorem draws_below {w w' : World} {n : Nat} (h : w' = w.drewN n) : Below w.heap.size w w' := by rw [h]; exact below_drewN (Below.refl _ _) _
theorem rises_get (l : List Int) : risesB l = true ↔ ∀ (i : Nat) x y, l[i]? = some x → l[i + 1]? = some y → x < y := by
  induction l with
  | nil => simp [risesB]
  | cons a r ih =>
    cases r with
    | nil => simp [risesB]
    | cons b r =>
      simp only [risesB, Bool.and_eq_true, decide_eq_true_eq]
      rw [ih]
      constructor
      · rintro ⟨h0, h1⟩ i x y hx hy
        cases i with
        | zero => simp at hx hy; omega
        | succ i => exact h1 i x y (by simpa using hx) (by simpa using hy)
      · intro h
        exact ⟨h 0 a b rfl rfl, fun i x y hx hy => h (i + 1) x y (by simpa using hx) (by simpa using hy)⟩
theorem rises_take (l : List Int) (k : Nat) (x y : Int) (hx : l[k]? = some x) (hy : l[k + 1]? = some y) (h : risesB (l.take (k + 1)) = true) (hxy : x < y) : risesB (l.take (k + 1 + 1)) = true := by
  rw [rises_get] at *
  intro i u v hu hv
  rw [List.getElem?_take] at hu hv
  split at hv
  · split at hu
    · by_cases hi : i = k
      · subst hi; rw [hx] at hu; rw [hy] at hv; cases hu; cases hv; exact hxy
      · exact h i u v (by rw [List.getElem?_take, if_pos (by omega)]; exact hu) (by rw [List.getElem?_take, if_pos (by omega)]; exact hv)
    · cases hu
  · cases hv
theorem rises_hit (l : List Int) (k : Nat) (x y : Int) (hx : l[k]? = some x) (hy : l[k + 1]? = some y) (hxy : y ≤ x) : risesB l = false := by
  cases h : risesB l
  · rfl
  · have := (rises_get l).1 h k x y hx hy; omega
theorem rises_one (l : List Int) : risesB (l.take 1) = true := by
  rcases l with _ | ⟨a, r⟩ <;> simp [risesB]

set_option maxHeartbeats 800000 in
set_option maxRecDepth 100000 in
theorem rises_any (l : List Int) (v : Value) (w : World) (hv : IArg w v l) :
    Calls Tryz.prog 91 #[v] w fun e w' => e = .returned (.bool (risesB l)) ∧ ∃ n, w' = w.drewN n := by
  obtain ⟨a, c, rfl, hm, hr⟩ := hv
  have HV : Hid (∀ (i : Nat) (z : Int), l[i]? = some z → ∃ b off, a = some ⟨b, off, none⟩ ∧ b < w.heap.size ∧ w.cell? ⟨b, off + i, none⟩ = some (.int .i64 z)) := hr
  obtain ⟨R, hR⟩ : ∃ R, risesB l = R := ⟨_, rfl⟩
  rw [hR]
  have HR : Hid (risesB l = R) := hR
  unfold maxLen at hm
  obtain ⟨hm1, hm⟩ := hm
  clear hr hR
  go_enter Tryz.func91, Tryz.ntmps91
  go_wp2_with fail
  go_loopw [3] (fun i wr => ∃ k : Nat, (k = 0 ∨ k + 1 ≤ l.length) ∧ i = .int .i64 ((k : Int) + 1) ∧ Hid (risesB (l.take (k + 1)) = true) ∧ ∃ n, wr = w.drewN n) (fun i _ => l.length - (intOf i).toNat)
  case atStart => exact ⟨0, by omega, rfl, rises_one l, 0, rfl⟩
  case round =>
    obtain ⟨k, hk, rfl, hall, nq, rfl⟩ := hrel
    by_cases hlt : k + 1 < l.length
    · obtain ⟨y, hy⟩ : ∃ y, l[k + 1]? = some y := ⟨l[k + 1], by simp [hlt]⟩
      obtain ⟨x, hx⟩ : ∃ x, l[k]? = some x := ⟨l[k]'(by omega), by simp [show k < l.length by omega]⟩
      obtain ⟨b, off, ha, hb, hc⟩ := HV.out (k + 1) y hy
      obtain ⟨b', off', ha', hb', hd⟩ := HV.out k x hx
      have HX : Hid (l[k]? = some x) := hx
      have HY : Hid (l[k + 1]? = some y) := hy
      rw [ha] at ha'
      cases ha'
      subst ha
      clear hx hy hb'
      by_cases hq : y ≤ x
      · have HN : Hid (R = false) := by rw [← HR.out]; exact rises_hit l k x y HX.out HY.out hq
        go_wp2
        go_quiet (fail)
        go_wp2
        go_ret
        exact ⟨ret_bool HN.out.symm, _, drewN_drewN _ _ _⟩
      · have HN : Hid (risesB (l.take (k + 1 + 1)) = true) := rises_take l k x y HX.out HY.out hall.out (by omega)
        go_wp2
        go_quiet (fail)
        go_wp2
        go_roundw
        case rel => exact ⟨k + 1, by omega, by go_num, HN, _, rfl⟩
        case measure => simp [intOf]; omega
    · have HN : Hid (R = true) := by
        have := hall.out; rw [List.take_of_length_le (by omega), HR.out] at this; exact this
      go_wp2
      go_ret
      exact ⟨ret_bool HN.out.symm, _, rfl⟩

theorem any_hit {α : Type} (p : α → Bool) (l : List α) (m : Nat) (t : α) (ht : l[m]? = some t) (h : p t = true) : l.any p = true := List.any_eq_true.2 ⟨t, List.mem_of_getElem? ht, h⟩
theorem any_next {α : Type} (p : α → Bool) (l : List α) (m : Nat) (t : α) (ht : l[m]? = some t) (h0 : (l.take m).any p = false) (h : p t = false) : (l.take (m + 1)).any p = false := by
  rw [List.take_add_one, ht, List.any_append, h0]; simp [h]
theorem any_end {α : Type} (p : α → Bool) (l : List α) (m : Nat) (h : ¬ m < l.length) (h0 : (l.take m).any p = false) : l.any p = false := by
  rwa [List.take_of_length_le (by omega)] at h0

set_option maxHeartbeats 400000 in
set_option maxRecDepth 100000 in
theorem index_ints (l : List Int) (v : Value) (n : Int) (w : World) (hv : IArg w v l) :
    Calls Tryz.prog 58 #[v, .int .i64 n] w fun e w' => (∃ z : Int, e = .returned (.int .i64 z) ∧ decide (0 ≤ z) = hasB l n) ∧ w' = w := by
  obtain ⟨a, c, rfl, hm, hr⟩ := hv
  have HV : Hid (∀ (i : Nat) (z : Int), l[i]? = some z → ∃ b off, a = some ⟨b, off, none⟩ ∧ b < w.heap.size ∧ w.cell? ⟨b, off + i, none⟩ = some (.int .i64 z)) := hr
  obtain ⟨R, hR⟩ : ∃ R, hasB l n = R := ⟨_, rfl⟩
  rw [hR]
  have HR : Hid ((l.any fun k => n == k) = R) := hR
  unfold maxLen at hm
  obtain ⟨hm1, hm⟩ := hm
  clear hr hR
  go_enter Tryz.func58, Tryz.ntmps58
  go_wp2_with fail
  go_loop [8] (fun i => ∃ m : Nat, m ≤ l.length ∧ i = .int .i64 m ∧ Hid ((l.take m).any (fun k => n == k) = false)) (fun i => l.length - (intOf i).toNat)
  case atStart => exact ⟨0, by omega, rfl, rfl⟩
  case round =>
    obtain ⟨m, hml, rfl, hall⟩ := hrel
    by_cases hlt : m < l.length
    · obtain ⟨z, hz⟩ : ∃ z, l[m]? = some z := ⟨l[m], by simp [hlt]⟩
      obtain ⟨b, off, ha, hb, hc⟩ := HV.out m z hz
      have HZ : Hid (l[m]? = some z) := hz
      subst ha
      clear hz
      cases hq : (n == z)
      · have HN : Hid ((l.take (m + 1)).any (fun k => n == k) = false) := any_next _ l m z HZ.out hall.out hq
        go_wp2
        go_round
        case rel => exact ⟨m + 1, by omega, by go_num, HN⟩
        case measure => simp [intOf]; omega
      · have HN : Hid (R = true) := by rw [← HR.out]; exact any_hit (fun k => n == k) l m z HZ.out hq
        go_wp2
        go_ret
        exact ⟨⟨_, rfl, by rw [HN.out]; simp⟩, rfl⟩
    · have HN : Hid (R = false) := by rw [← HR.out]; exact any_end _ l m hlt hall.out
      go_wp2
      go_ret
      exact ⟨⟨_, rfl, by rw [HN.out]; rfl⟩, rfl⟩

set_option maxHeartbeats 400000 in
theorem contains_ints (l : List Int) (v : Value) (n : Int) (w : World) (hv : IArg w v l) :
    Calls Tryz.prog 20 #[v, .int .i64 n] w fun e w' => e = .returned (.bool (hasB l n)) ∧ w' = w := by
  go_enter Tryz.func20, Tryz.ntmps20
  go_wp2_with fail
  refine (index_ints l v n _ hv).mono ?_
  rintro e w ⟨⟨z, rfl, hz⟩, rfl⟩
  have HZ : Hid (decide (0 ≤ z) = hasB l n) := hz
  clear hz
  go_wp2
  go_ret
  exact ⟨ret_bool HZ.out, rfl⟩

/-- A closure over numbers that only reads what is old. -/
def ClosI (F : Nat) (caps : Array Value) (p : Int → Bool) (w : World) : Prop :=
  (∀ (args : Array Value) (w' : World), Sem.run Tryz.prog (callFunc F args) w' = .ok (.enter F args) w') ∧ ∀ (z : Int) (w' : World), Below w.heap.size w w' → Calls Tryz.prog F (#[.int .i64 z] ++ caps) w' fun e w'' => e = .returned (.bool (p z)) ∧ Below w'.heap.size w' w''

set_option maxHeartbeats 800000 in
set_option maxRecDepth 100000 in
theorem indexf_ints (F : Nat) (caps : Array Value) (p : Int → Bool) (l : List Int) (v : Value) (w : World) (hv : IArg w v l) (hF : ClosI F caps p w) :
    Calls Tryz.prog 68 #[v, .func (.func F) #[] caps] w fun e w' => (∃ z : Int, e = .returned (.int .i64 z) ∧ decide (0 ≤ z) = l.any p) ∧ Below w.heap.size w w' := by
  obtain ⟨a, c, rfl, hm, hr⟩ := hv
  have HV : Hid (∀ (i : Nat) (z : Int), l[i]? = some z → ∃ b off, a = some ⟨b, off, none⟩ ∧ b < w.heap.size ∧ w.cell? ⟨b, off + i, none⟩ = some (.int .i64 z)) := hr
  obtain ⟨R, hR⟩ : ∃ R, l.any p = R := ⟨_, rfl⟩
  rw [hR]
  have HR : Hid (l.any p = R) := hR
  have HF : Hid (ClosI F caps p w) := hF
  unfold maxLen at hm
  obtain ⟨hm1, hm⟩ := hm
  clear hr hR hF
  go_enter Tryz.func68, Tryz.ntmps68
  go_wp2_with fail
  go_loopw [8] (fun i wr => ∃ m : Nat, m ≤ l.length ∧ i = .int .i64 m ∧ Hid ((l.take m).any p = false) ∧ Below w.heap.size w wr) (fun i _ => l.length - (intOf i).toNat)
  case atStart => exact ⟨0, by omega, rfl, rfl, Below.refl _ _⟩
  case round =>
    obtain ⟨m, hml, rfl, hall, hbw⟩ := hrel
    by_cases hlt : m < l.length
    · obtain ⟨z, hz⟩ : ∃ z, l[m]? = some z := ⟨l[m], by simp [hlt]⟩
      obtain ⟨b, off, ha, hb, hc0⟩ := HV.out m z hz
      have hc := (hbw.cell (p := ⟨b, off + m, none⟩) hb).trans hc0
      have HZ : Hid (l[m]? = some z) := hz
      subst ha
      clear hz hc0
      cases hq : p z
      · have HN : Hid ((l.take (m + 1)).any p = false) := any_next _ l m z HZ.out hall.out hq
        go_wp2_with fail
        rw [HF.out.1, Oper.upon_enter]
        refine (HF.out.2 z _ hbw).mono ?_
        rintro e w1 ⟨rfl, hb1⟩
        rw [hq]
        clear hq
        go_wp2
        go_roundw
        case rel => exact ⟨m + 1, by omega, by go_num, HN, hbw.trans (hb1.mono hbw.size)⟩
        case measure => simp [intOf]; omega
      · have HN : Hid (R = true) := by rw [← HR.out]; exact any_hit p l m z HZ.out hq
        go_wp2_with fail
        rw [HF.out.1, Oper.upon_enter]
        refine (HF.out.2 z _ hbw).mono ?_
        rintro e w1 ⟨rfl, hb1⟩
        rw [hq]
        clear hq
        go_wp2
        go_ret
        exact ⟨⟨_, rfl, by rw [HN.out]; simp⟩, hbw.trans (hb1.mono hbw.size)⟩
    · have HN : Hid (R = false) := by rw [← HR.out]; exact any_end _ l m hlt hall.out
      go_wp2
      go_ret
      exact ⟨⟨_, rfl, by rw [HN.out]; rfl⟩, hbw⟩

set_option maxHeartbeats 400000 in
theorem containsf_ints (F : Nat) (caps : Array Value) (p : Int → Bool) (l : List Int) (v : Value) (w : World) (hv : IArg w v l) (hF : ClosI F caps p w) :
    Calls Tryz.prog 41 #[v, .func (.func F) #[] caps] w fun e w' => e = .returned (.bool (l.any p)) ∧ Below w.heap.size w w' := by
  go_enter Tryz.func41, Tryz.ntmps41
  go_wp2_with fail
  refine (indexf_ints F caps p l v _ hv hF).mono ?_
  rintro e w1 ⟨⟨z, rfl, hz⟩, hb1⟩
  have HZ : Hid (decide (0 ≤ z) = l.any p) := hz
  clear hz
  go_wp2
  go_ret
  exact ⟨ret_bool HZ.out, hb1⟩
end Go.Proofs.YtggkbhafbhhhhacGreat
/-
  WALKS: package store: checkValues, check.
-/
namespace Go.Proofs.YtggkbhafbhhhhacGreat
open Go.RowKit

set_option maxHeartbeats 400000 in
set_option maxRecDepth 100000 in
theorem beyond_any (vs : List MVar) (a : Value) (b1 b2 k : Nat) (t : MVar) (z : Int) (w : World) (hv : VArg w a vs) (ht : vs[k]? = some t) (h1 : w.cell? ⟨b1, 0, none⟩ = some a) (h2 : w.cell? ⟨b2, 0, none⟩ = some (.int .i64 k)) :
    Calls Tryz.prog 90 #[.int .i64 z, .pointer (some ⟨b1, 0, none⟩), .pointer (some ⟨b2, 0, none⟩)] w fun e w' => e = .returned (.bool (!insideB t z)) ∧ w' = w := by
  obtain ⟨a', c, rfl, hm, hr⟩ := hv
  have hkl : k < vs.length := (List.getElem?_eq_some_iff.1 ht).1
  obtain ⟨_, b, off, rfl, hlt, c0, c1, c2⟩ := hr k t ht
  unfold maxLen at hm
  obtain ⟨hm1, hm⟩ := hm
  clear hr ht
  unfold insideB
  by_cases q1 : z < t.lo
  · go_enter Tryz.func90, Tryz.ntmps90
    go_wp2
    go_ret
    exact ⟨ret_bool (by first | rfl | (simp; omega)), rfl⟩
  · by_cases q2 : t.hi < z
    · go_enter Tryz.func90, Tryz.ntmps90
      go_wp2
      go_ret
      exact ⟨ret_bool (by first | rfl | (simp; omega)), rfl⟩
    · go_enter Tryz.func90, Tryz.ntmps90
      go_wp2
      go_ret
      exact ⟨ret_bool (by first | rfl | (simp; omega)), rfl⟩

theorem enters_beyond (args : Array Value) (w' : World) : Sem.run Tryz.prog (callFunc 90 args) w' = .ok (.enter 90 args) w' := by
  simp [callFunc, go_sem, Tryz.func90, Tryz.f90]
theorem any_not {α : Type} (p : α → Bool) (l : List α) : (l.any fun x => !p x) = !l.all p := by
  induction l with
  | nil => rfl
  | cons a r ih => rw [List.any_cons, List.all_cons, ih]; cases p a <;> simp

set_option maxHeartbeats 1600000 in
set_option maxRecDepth 100000 in
theorem values_any (vs : List MVar) (s : Sto) (a v : Value) (w : World) (ha : VArg w a vs) (hv : RArg w v s) :
    Calls Tryz.prog 67 #[a, v] w fun e w' => e = .returned (.int .i64 (checkV vs s)) ∧ Below w.heap.size w w' := by
  have HA : Hid (∀ w' : World, Below w.heap.size w w' → VArg w' a vs) := fun w' h => VArg.below h ha
  have HVB : Hid (∀ w' : World, Below w.heap.size w w' → RArg w' v s) := fun w' h => RArg.below h hv
  obtain ⟨a1, c1, rfl, hl1, hr1⟩ := ha
  obtain ⟨a2, c2, rfl, hl2, hr2⟩ := hv
  obtain ⟨R, hR⟩ : ∃ R, checkV vs s = R := ⟨_, rfl⟩
  rw [hR]
  unfold maxLen at hl1 hl2
  obtain ⟨hl11, hl1⟩ := hl1
  obtain ⟨hl21, hl2⟩ := hl2
  clear hr1 hr2
  by_cases h0 : s.length = vs.length
  · have HE : Hid (R = if (vs.zip s).all (fun p => p.2.all (insideB p.1)) then (if s.all risesB then 0 else 4) else 3) := by
      rw [← hR]; unfold checkV rangeS; rw [if_pos h0]; rfl
    have g0 : ((s.length : Int) != (vs.length : Int)) = false := by simp [h0]
    have H0 : Hid (s.length = vs.length) := h0
    clear hR h0
    go_enter Tryz.func67, Tryz.ntmps67
    go_wp2_with fail
    obtain ⟨w0, hw0⟩ : ∃ w0 : World, w0 = w.alloc (.cells #[.slice a1 vs.length c1] 22) := ⟨_, rfl⟩
    rw [← hw0]
    have HB0 : Hid (Below w.heap.size w w0) := by rw [hw0]; exact below_alloc _ _
    have HZ0 : Hid (w0.heap.size = w.heap.size + 1) := by show _ = _; show _ = _; rw [hw0]; simp
    have HD : Hid (w0.cell? ⟨w.heap.size, 0, none⟩ = some (.slice a1 vs.length c1)) := by show _ = _; rw [hw0]; simp
    clear hw0
    go_loopw [17] (fun i wr => ∃ k : Nat, k ≤ s.length ∧ i = .int .i64 k ∧ Hid (((vs.zip s).take k).all (fun p => p.2.all (insideB p.1)) = true) ∧ Below w0.heap.size w0 wr) (fun i _ => s.length - (intOf i).toNat)
    case atStart => exact ⟨0, by omega, rfl, rfl, Below.refl _ _⟩
    case round =>
      obtain ⟨k, hk, rfl, hall, hbw⟩ := hrel
      have hlt0 : w.heap.size < w0.heap.size := by rw [HZ0.out]; omega
      have HBW : Hid (Below w.heap.size w wr) := HB0.out.trans (hbw.mono (by omega))
      by_cases hlt : k < s.length
      · obtain ⟨t, ht⟩ : ∃ t, vs[k]? = some t := ⟨vs[k]'(by rw [← H0.out]; exact hlt), by simp⟩
        obtain ⟨r, hrr⟩ : ∃ r, s[k]? = some r := ⟨s[k], by simp [hlt]⟩
        have HG : Hid ((vs.zip s)[k]? = some (t, r)) := by show _ = _; rw [List.getElem?_zip_eq_some]; exact ⟨ht, hrr⟩
        obtain ⟨a2', c2', hva, _, hrc⟩ := HVB.out _ HBW.out
        obtain ⟨b, off, x, hax, hb, hc, hix⟩ := hrc k r hrr
        have ha2 : a2 = some ⟨b, off, none⟩ := by cases hva; exact hax
        subst ha2
        have HIX : Hid (IArg wr x r) := hix
        have HT : Hid (vs[k]? = some t) := ht
        obtain ⟨a3, c3, rfl, _, _⟩ := hix
        have hsz := hbw.size
        clear ht hrr hva hrc hax
        go_wp2_with fail
        have hwk : (wr.alloc (.cells #[.int .i64 (k : Int)] 3)).cell? ⟨wr.heap.size, 0, none⟩ = some (.int .i64 k) := by simp
        have hbx : Below w.heap.size w (wr.alloc (.cells #[.int .i64 (k : Int)] 3)) := HBW.out.trans ((below_alloc _ _).mono HBW.out.size)
        have hbx0 : Below w0.heap.size w0 (wr.alloc (.cells #[.int .i64 (k : Int)] 3)) := hbw.alloc hsz _
        have hsx : (wr.alloc (.cells #[.int .i64 (k : Int)] 3)).heap.size = wr.heap.size + 1 := by simp
        obtain ⟨wx, hwx⟩ : ∃ wx : World, wx = wr.alloc (.cells #[.int .i64 (k : Int)] 3) := ⟨_, rfl⟩
        rw [← hwx] at hwk hbx hbx0 hsx ⊢
        have HIX2 : Hid (IArg wx (.slice a3 r.length c3) r) := by rw [hwx]; exact IArg.below (below_alloc _ _) HIX.out
        clear hwx
        refine (containsf_ints 90 _ (fun z => !insideB t z) r _ _ HIX2.out ⟨enters_beyond, ?_⟩).mono ?_
        · intro z w2 hb2
          have g1 := (hb2.cell (p := ⟨w.heap.size, 0, none⟩) (by simp only; omega)).trans ((hbx0.cell (p := ⟨w.heap.size, 0, none⟩) hlt0).trans HD.out)
          have g2 := (hb2.cell (p := ⟨wr.heap.size, 0, none⟩) (by simp only; omega)).trans hwk
          refine (beyond_any vs _ _ _ k t z w2 (HA.out _ (hbx.trans (hb2.mono (by omega)))) HT.out g1 g2).mono ?_
          rintro e w3 ⟨rfl, rfl⟩
          exact ⟨rfl, Below.refl _ _⟩
        rintro e w2 ⟨rfl, hb2⟩
        rw [any_not]
        have hbt : Below w0.heap.size w0 w2 := hbx0.trans (hb2.mono (by omega))
        cases hq : r.all (insideB t)
        · have HN : Hid (R = 3) := by
            have := all_hit (fun p : MVar × List Int => p.2.all (insideB p.1)) (vs.zip s) k (t, r) HG.out hq
            rw [HE.out, this]; rfl
          clear hq
          go_wp2
          go_ret
          exact ⟨ret_int HN.out.symm, HB0.out.trans (hbt.mono (by omega))⟩
        · have HN : Hid (((vs.zip s).take (k + 1)).all (fun p => p.2.all (insideB p.1)) = true) := all_next _ (vs.zip s) k (t, r) HG.out hall.out hq
          clear hq
          go_wp2
          go_roundw
          case rel => exact ⟨k + 1, by omega, by go_num, HN, hbt⟩
          case measure => simp [intOf]; omega
      · have HV : Hid ((vs.zip s).all (fun p => p.2.all (insideB p.1)) = true) := all_end _ _ k (by rw [List.length_zip, ← H0.out]; omega) hall.out
        have HE2 : Hid (R = if s.all risesB then 0 else 4) := by rw [HE.out, HV.out]; rfl
        have HBO : Hid (Below w.heap.size w wr) := HBW.out
        obtain ⟨wo, rfl⟩ : ∃ wo : World, wo = wr := ⟨_, rfl⟩
        go_wp2
        clear hk hall hbw hlt
        go_loopw [29] (fun i wr => ∃ k : Nat, k ≤ s.length ∧ i = .int .i64 k ∧ Hid ((s.take k).all risesB = true) ∧ Below w.heap.size w wr) (fun i _ => s.length - (intOf i).toNat)
        case atStart => exact ⟨0, by omega, rfl, rfl, HBO.out⟩
        case round =>
          obtain ⟨k, hk, rfl, hall, hbw⟩ := hrel
          by_cases hlt : k < s.length
          · obtain ⟨r, hrr⟩ : ∃ r, s[k]? = some r := ⟨s[k], by simp [hlt]⟩
            obtain ⟨a2', c2', hva, _, hrc⟩ := HVB.out _ hbw
            obtain ⟨b, off, x, hax, hb, hc, hix⟩ := hrc k r hrr
            have ha2 : a2 = some ⟨b, off, none⟩ := by cases hva; exact hax
            subst ha2
            have HIX : Hid (IArg wr x r) := hix
            have HRR : Hid (s[k]? = some r) := hrr
            obtain ⟨a3, c3, rfl, _, _⟩ := hix
            clear hrr hva hrc hax
            cases hq : risesB r
            · have HN : Hid (R = 4) := by rw [HE2.out, all_hit risesB s k r HRR.out hq]; rfl
              go_wp2_with fail
              refine (rises_any r _ _ HIX.out).mono ?_
              rintro e w2 ⟨rfl, n, hw2⟩
              rw [hq]
              have hb2 := hbw.trans ((draws_below hw2).mono hbw.size)
              clear hq hw2
              go_wp2
              go_ret
              exact ⟨ret_int HN.out.symm, hb2⟩
            · have HN : Hid ((s.take (k + 1)).all risesB = true) := all_next _ s k r HRR.out hall.out hq
              go_wp2_with fail
              refine (rises_any r _ _ HIX.out).mono ?_
              rintro e w2 ⟨rfl, n, hw2⟩
              rw [hq]
              have hb2 := hbw.trans ((draws_below hw2).mono hbw.size)
              clear hq hw2
              go_wp2
              go_roundw
              case rel => exact ⟨k + 1, by omega, by go_num, HN, hb2⟩
              case measure => simp [intOf]; omega
          · have HN : Hid (R = 0) := by rw [HE2.out, all_end _ s k hlt hall.out]; rfl
            go_wp2
            go_ret
            exact ⟨ret_int HN.out.symm, hbw⟩
  · have HE : Hid (R = 1) := by rw [← hR]; unfold checkV; rw [if_neg h0]; rfl
    have g0 : ((s.length : Int) != (vs.length : Int)) = true := by simp; omega
    clear hR h0
    go_enter Tryz.func67, Tryz.ntmps67
    go_wp2
    go_ret
    exact ⟨ret_int HE.out.symm, below_alloc _ _⟩

/-- Stores, one after the other, as a variadic call has them. -/
def GArg (w : World) (v : Value) (l : List Sto) : Prop :=
  ∃ a c, v = .slice a l.length c ∧ (l.length ≤ c ∧ c ≤ maxLen) ∧ ∀ (i : Nat) (r : Sto), l[i]? = some r → ∃ b off x, a = some ⟨b, off, none⟩ ∧ b < w.heap.size ∧ w.cell? ⟨b, off + i, none⟩ = some x ∧ RArg w x r
theorem GArg.below {w w' : World} {v : Value} {l : List Sto} (hb : Below w.heap.size w w') (h : GArg w v l) : GArg w' v l := by
  obtain ⟨a, c, hv, hm, hr⟩ := h
  refine ⟨a, c, hv, hm, fun i z hz => ?_⟩
  obtain ⟨b, off, x, ha, hlt, hc, hx⟩ := hr i z hz
  exact ⟨b, off, x, ha, Nat.lt_of_lt_of_le hlt hb.size, (hb.cell (p := ⟨b, off + i, none⟩) hlt).trans hc, RArg.below hb hx⟩

set_option maxHeartbeats 1600000 in
set_option maxRecDepth 100000 in
theorem check_any2 (m : Mod) (l : List Sto) (vs cs v : Value) (w : World) (hm : MArg w vs cs m) (hv : GArg w v l) :
    Calls Tryz.prog 39 #[modV vs cs m, v] w fun e w' => e = .returned (.int .i64 (checkL m l)) ∧ Below w.heap.size w w' := by
  have HMA : Hid (∀ w' : World, Below w.heap.size w w' → MArg w' vs cs m) := fun w' h => MArg.below h hm
  have HGA : Hid (∀ w' : World, Below w.heap.size w w' → GArg w' v l) := fun w' h => GArg.below h hv
  obtain ⟨⟨a1, c1, rfl, _, _⟩, ⟨a2, c2, rfl, _, _⟩⟩ := hm
  obtain ⟨a3, c3, rfl, hl3, _⟩ := hv
  unfold maxLen at hl3
  obtain ⟨hl31, hl3⟩ := hl3
  obtain ⟨R, hR⟩ : ∃ R, checkL m l = R := ⟨_, rfl⟩
  rw [hR]
  obtain ⟨er, her⟩ : ∃ er, checkM m = er := ⟨_, rfl⟩
  have HER : Hid (checkM m = er) := her
  have HE : Hid (R = if er = 0 then firstE (l.map (checkV m.vars)) else er) := by rw [← hR, ← her]; rfl
  clear hR her
  unfold modV
  go_enter Tryz.func39, Tryz.ntmps39
  go_wp2_with fail
  refine (check_model m _ _ _ (HMA.out _ (below_alloc _ _))).mono ?_
  rintro e w1 ⟨rfl, hb1⟩
  rw [HER.out]
  have d0 : w1.cell? ⟨w.heap.size, 0, none⟩ = some (.slice a1 m.vars.length c1) := (hb1.cell (by simp)).trans (by simp)
  have HB1 : Hid (Below w.heap.size w w1) := (below_alloc _ _).trans (hb1.mono (by simp))
  have hs1 : w.heap.size + 1 ≤ w1.heap.size := by simpa using hb1.size
  clear hb1
  by_cases he : er = 0
  · subst he
    have HE2 : Hid (R = firstE (l.map (checkV m.vars))) := by rw [HE.out, if_pos rfl]; rfl
    go_wp2_with fail
    go_loopw [16] (fun i wr => ∃ k : Nat, k ≤ l.length ∧ i = .int .i64 k ∧ Hid (firstE ((l.map (checkV m.vars)).take k) = 0) ∧ Below w1.heap.size w1 wr) (fun i _ => l.length - (intOf i).toNat)
    case atStart => exact ⟨0, by omega, rfl, rfl, Below.refl _ _⟩
    case round =>
      obtain ⟨k, hk, rfl, hno, hbw⟩ := hrel
      have HBW : Hid (Below w.heap.size w wr) := HB1.out.trans (hbw.mono (by omega))
      have e0 := (hbw.cell (p := ⟨w.heap.size, 0, none⟩) (by simp only; omega)).trans d0
      by_cases hlt : k < l.length
      · obtain ⟨s, hs⟩ : ∃ s, l[k]? = some s := ⟨l[k], by simp [hlt]⟩
        have HG : Hid ((l.map (checkV m.vars))[k]? = some (checkV m.vars s)) := by show _ = _; rw [List.getElem?_map, hs]; rfl
        obtain ⟨a2', c2', hva, _, hrc⟩ := HGA.out _ HBW.out
        obtain ⟨b, off, x, hax, hb, hc, hix⟩ := hrc k s hs
        have ha2 : a3 = some ⟨b, off, none⟩ := by cases hva; exact hax
        subst ha2
        have HIX : Hid (RArg wr x s) := hix
        obtain ⟨a4, c4, rfl, _, _⟩ := hix
        clear hs hva hrc hax
        go_wp2_with fail
        refine (values_any m.vars s _ _ _ (HMA.out _ HBW.out).1 HIX.out).mono ?_
        rintro e w2 ⟨rfl, hb2⟩
        obtain ⟨eq, heq⟩ : ∃ eq, checkV m.vars s = eq := ⟨_, rfl⟩
        have HG2 : Hid ((l.map (checkV m.vars))[k]? = some eq) := by rw [← heq]; exact HG.out
        rw [heq]
        clear heq
        have hbt : Below w1.heap.size w1 w2 := hbw.trans (hb2.mono hbw.size)
        by_cases hz : eq = 0
        · subst hz
          have HN : Hid (firstE ((l.map (checkV m.vars)).take (k + 1)) = 0) := firstE_step _ k hno.out HG2.out
          clear hb2
          go_wp2
          go_roundw
          case rel => exact ⟨k + 1, by omega, by go_num, HN, hbt⟩
          case measure => simp [intOf]; omega
        · have HN : Hid (R = eq) := by rw [HE2.out]; exact firstE_hit _ k eq hno.out HG2.out hz
          have he2 : (eq != 0) = true := by simpa using hz
          clear hb2 hz
          go_wp2
          go_ret
          exact ⟨ret_int HN.out.symm, HB1.out.trans (hbt.mono (by omega))⟩
      · have HN : Hid (R = 0) := by
          have := hno.out; rw [List.take_of_length_le (by simp; omega)] at this; rw [HE2.out]; exact this
        go_wp2
        go_ret
        exact ⟨ret_int HN.out.symm, HBW.out⟩
  · have HN : Hid (R = er) := by rw [HE.out, if_neg he]; rfl
    have he2 : (er != 0) = true := by simpa using he
    clear he
    go_wp2
    go_ret
    exact ⟨ret_int HN.out.symm, HB1.out⟩
end Go.Proofs.YtggkbhafbhhhhacGreat
/-
  WALKS: package store: Check, Within, Failed.
-/
namespace Go.Proofs.YtggkbhafbhhhhacGreat
open Go.RowKit

/-- One store, or two, in a row of their own. -/
theorem garg_one {w : World} {v : Value} {s : Sto} {B : Nat} (hB : B = w.heap.size) (h : RArg w v s) : GArg (w.alloc (.cells #[v] 27)) (.slice (some ⟨B, 0, none⟩) 1 1) [s] := by
  subst hB
  refine ⟨_, 1, rfl, ⟨by simp, by unfold maxLen; omega⟩, fun i r hr => ?_⟩
  match i, hr with
  | 0, hr => cases hr; exact ⟨_, _, v, rfl, by simp, by simp, RArg.below (below_alloc _ _) h⟩
theorem garg_two {w : World} {v u : Value} {s t : Sto} {B : Nat} (hB : B = w.heap.size) (h : RArg w v s) (k : RArg w u t) : GArg (w.alloc (.cells #[v, u] 27)) (.slice (some ⟨B, 0, none⟩) 2 2) [s, t] := by
  subst hB
  refine ⟨_, 2, rfl, ⟨by simp, by unfold maxLen; omega⟩, fun i r hr => ?_⟩
  match i, hr with
  | 0, hr => cases hr; exact ⟨_, _, v, rfl, by simp, by simp, RArg.below (below_alloc _ _) h⟩
  | 1, hr => cases hr; exact ⟨_, _, u, rfl, by simp, by simp, RArg.below (below_alloc _ _) k⟩

set_option maxHeartbeats 800000 in
set_option maxRecDepth 100000 in
theorem scheck_any (m : Mod) (s : Sto) (vs cs v : Value) (w : World) (hm : MArg w vs cs m) (hv : RArg w v s) :
    Calls Tryz.prog 38 #[modV vs cs m, v] w fun e w' => e = .returned (.int .i64 (checkL m [s])) ∧ Below w.heap.size w w' := by
  have HMA : Hid (∀ w' : World, Below w.heap.size w w' → MArg w' vs cs m) := fun w' h => MArg.below h hm
  have HVA : Hid (∀ w' : World, Below w.heap.size w w' → RArg w' v s) := fun w' h => RArg.below h hv
  obtain ⟨⟨a1, c1, rfl, _, _⟩, ⟨a2, c2, rfl, _, _⟩⟩ := hm
  obtain ⟨a3, c3, rfl, _, _⟩ := hv
  obtain ⟨R, HR⟩ : ∃ R, Hid (checkL m [s] = R) := ⟨_, rfl⟩
  rw [HR.out]
  unfold modV
  go_enter Tryz.func38, Tryz.ntmps38
  go_wp2_with fail
  refine (check_any2 m [s] (.slice a1 m.vars.length c1) (.slice a2 m.cons.length c2) _ _ ?_ ?_).mono ?_
  · exact HMA.out _ ((below_alloc _ _).alloc (by simp) _)
  · exact garg_one (by simp) (HVA.out _ (below_alloc _ _))
  rintro e w1 ⟨rfl, hb1⟩
  rw [HR.out]
  have hb : Below w.heap.size w w1 := (((below_alloc _ _).alloc (by simp) _)).trans (hb1.mono (by simp; omega))
  clear hb1
  go_wp2
  go_ret
  exact ⟨rfl, hb⟩

set_option maxHeartbeats 400000 in
set_option maxRecDepth 100000 in
theorem lacks_any (t : Sto) (v : Value) (b1 b2 k : Nat) (r : List Int) (z : Int) (w : World) (hv : RArg w v t) (ht : t[k]? = some r) (h1 : w.cell? ⟨b1, 0, none⟩ = some v) (h2 : w.cell? ⟨b2, 0, none⟩ = some (.int .i64 k)) :
    Calls Tryz.prog 40 #[.int .i64 z, .pointer (some ⟨b1, 0, none⟩), .pointer (some ⟨b2, 0, none⟩)] w fun e w' => e = .returned (.bool (!hasB r z)) ∧ w' = w := by
  obtain ⟨a', c, rfl, hm, hr⟩ := hv
  have hkl : k < t.length := (List.getElem?_eq_some_iff.1 ht).1
  obtain ⟨b, off, x, rfl, hlt, hc, hx⟩ := hr k r ht
  have HX : Hid (IArg w x r) := hx
  obtain ⟨a3, c3, rfl, _, _⟩ := hx
  unfold maxLen at hm
  obtain ⟨hm1, hm⟩ := hm
  clear hr ht
  go_enter Tryz.func40, Tryz.ntmps40
  go_wp2_with fail
  refine (contains_ints r _ z _ HX.out).mono ?_
  rintro e w ⟨rfl, rfl⟩
  go_wp2
  go_ret
  exact ⟨rfl, rfl⟩
theorem enters_lacks (args : Array Value) (w' : World) : Sem.run Tryz.prog (callFunc 40 args) w' = .ok (.enter 40 args) w' := by
  simp [callFunc, go_sem, Tryz.func40, Tryz.f40]

def withinA (m : Mod) (s t : Sto) : Bool × Int := if checkL m [s, t] = 0 then (withinS s t, 0) else (false, checkL m [s, t])
theorem checkL_two (m : Mod) (s t : Sto) : checkL m [s, t] = 0 ↔ checkM m = 0 ∧ checkV m.vars s = 0 ∧ checkV m.vars t = 0 := by
  unfold checkL
  by_cases h : checkM m = 0
  · rw [if_pos h]
    simp only [List.map, firstE]
    by_cases h1 : checkV m.vars s = 0
    · rw [if_pos h1]
      by_cases h2 : checkV m.vars t = 0
      · simp [h, h1, h2]
      · simp [h2]
    · simp [h1]
  · rw [if_neg h]; simp [h]

set_option maxHeartbeats 1600000 in
set_option maxRecDepth 100000 in
theorem swithin_any (m : Mod) (s t : Sto) (vs cs v u : Value) (w : World) (hm : MArg w vs cs m) (hv : RArg w v s) (hu : RArg w u t) :
    Calls Tryz.prog 12 #[modV vs cs m, v, u] w fun e w' => e = .returned (.tuple #[.bool (withinA m s t).1, .int .i64 (withinA m s t).2]) ∧ Below w.heap.size w w' := by
  have HMA : Hid (∀ w' : World, Below w.heap.size w w' → MArg w' vs cs m) := fun w' h => MArg.below h hm
  have HVA : Hid (∀ w' : World, Below w.heap.size w w' → RArg w' v s) := fun w' h => RArg.below h hv
  have HUA : Hid (∀ w' : World, Below w.heap.size w w' → RArg w' u t) := fun w' h => RArg.below h hu
  obtain ⟨⟨a1, c1, rfl, _, _⟩, ⟨a2, c2, rfl, _, _⟩⟩ := hm
  obtain ⟨a3, c3, rfl, hl3, _⟩ := hv
  obtain ⟨a4, c4, rfl, hl4, _⟩ := hu
  unfold maxLen at hl3 hl4
  obtain ⟨hl31, hl3⟩ := hl3
  obtain ⟨hl41, hl4⟩ := hl4
  obtain ⟨R, hR⟩ : ∃ R, withinA m s t = R := ⟨_, rfl⟩
  rw [hR]
  obtain ⟨er, her⟩ : ∃ er, checkL m [s, t] = er := ⟨_, rfl⟩
  have HER : Hid (checkL m [s, t] = er) := her
  have HE : Hid (R = if er = 0 then (withinS s t, 0) else (false, er)) := by rw [← hR, ← her]; rfl
  have HL : Hid (er = 0 → s.length = t.length) := by
    intro h0
    rw [← her, checkL_two] at h0
    have h1 := ((checkV_ok _ _).1 h0.2.1).1
    have h2 := ((checkV_ok _ _).1 h0.2.2).1
    omega
  clear hR her
  unfold modV
  go_enter Tryz.func12, Tryz.ntmps12
  go_wp2_with fail
  refine (check_any2 m [s, t] (.slice a1 m.vars.length c1) (.slice a2 m.cons.length c2) _ _ ?_ ?_).mono ?_
  · exact HMA.out _ (((below_alloc _ _).alloc (by simp) _).alloc (by simp; omega) _)
  · exact garg_two (by simp) (HVA.out _ ((below_alloc _ _).alloc (by simp) _)) (HUA.out _ ((below_alloc _ _).alloc (by simp) _))
  rintro e w1 ⟨rfl, hb1⟩
  rw [HER.out]
  have d1 : w1.cell? ⟨w.heap.size + 1, 0, none⟩ = some (.slice a4 t.length c4) := by
    refine (hb1.cell (by simp)).trans ((World.cell?_alloc_past _ _ _ (by simp)).trans ?_)
    exact World.cell?_alloc_at _ _ _ 0 (by simp)
  have HB1 : Hid (Below w.heap.size w w1) := (((below_alloc _ _).alloc (by simp) _).alloc (by simp; omega) _).trans (hb1.mono (by simp; omega))
  have hs1 : w.heap.size + 3 ≤ w1.heap.size := by simpa using hb1.size
  clear hb1
  by_cases he : er = 0
  · subst he
    have HL2 : Hid (s.length = t.length) := HL.out rfl
    have HE2 : Hid (R = ((s.zip t).all (fun p => withinR p.1 p.2), 0)) := by rw [HE.out, if_pos rfl]; rfl
    go_wp2_with fail
    go_loopw [22] (fun i wr => ∃ k : Nat, k ≤ s.length ∧ i = .int .i64 k ∧ Hid (((s.zip t).take k).all (fun p => withinR p.1 p.2) = true) ∧ Below w1.heap.size w1 wr) (fun i _ => s.length - (intOf i).toNat)
    case atStart => exact ⟨0, by omega, rfl, rfl, Below.refl _ _⟩
    case round =>
      obtain ⟨k, hk, rfl, hall, hbw⟩ := hrel
      have HBW : Hid (Below w.heap.size w wr) := HB1.out.trans (hbw.mono (by omega))
      have hsz := hbw.size
      by_cases hlt : k < s.length
      · obtain ⟨r, hr⟩ : ∃ r, s[k]? = some r := ⟨s[k], by simp [hlt]⟩
        obtain ⟨q, hq0⟩ : ∃ q, t[k]? = some q := ⟨t[k]'(by rw [← HL2.out]; exact hlt), by simp⟩
        have HG : Hid ((s.zip t)[k]? = some (r, q)) := by show _ = _; rw [List.getElem?_zip_eq_some]; exact ⟨hr, hq0⟩
        have HQ : Hid (t[k]? = some q) := hq0
        obtain ⟨a2', c2', hva, _, hrc⟩ := HVA.out _ HBW.out
        obtain ⟨b, off, x, hax, hb, hc, hix⟩ := hrc k r hr
        have ha2 : a3 = some ⟨b, off, none⟩ := by cases hva; exact hax
        subst ha2
        have HIX : Hid (IArg wr x r) := hix
        obtain ⟨a5, c5, rfl, _, _⟩ := hix
        clear hr hq0 hva hrc hax
        go_wp2_with fail
        have hwk : (wr.alloc (.cells #[.int .i64 (k : Int)] 3)).cell? ⟨wr.heap.size, 0, none⟩ = some (.int .i64 k) := by simp
        have hbx : Below w.heap.size w (wr.alloc (.cells #[.int .i64 (k : Int)] 3)) := HBW.out.trans ((below_alloc _ _).mono HBW.out.size)
        have hbx0 : Below w1.heap.size w1 (wr.alloc (.cells #[.int .i64 (k : Int)] 3)) := hbw.alloc hsz _
        have hsx : (wr.alloc (.cells #[.int .i64 (k : Int)] 3)).heap.size = wr.heap.size + 1 := by simp
        obtain ⟨wx, hwx⟩ : ∃ wx : World, wx = wr.alloc (.cells #[.int .i64 (k : Int)] 3) := ⟨_, rfl⟩
        rw [← hwx] at hwk hbx hbx0 hsx ⊢
        have HIX2 : Hid (IArg wx (.slice a5 r.length c5) r) := by rw [hwx]; exact IArg.below (below_alloc _ _) HIX.out
        clear hwx
        refine (containsf_ints 40 _ (fun z => !hasB q z) r _ _ HIX2.out ⟨enters_lacks, ?_⟩).mono ?_
        · intro z w2 hb2
          have g1 := (hb2.cell (p := ⟨w.heap.size + 1, 0, none⟩) (by simp only; omega)).trans ((hbx0.cell (p := ⟨w.heap.size + 1, 0, none⟩) (by simp only; omega)).trans d1)
          have g2 := (hb2.cell (p := ⟨wr.heap.size, 0, none⟩) (by simp only; omega)).trans hwk
          refine (lacks_any t _ _ _ k q z w2 (HUA.out _ (hbx.trans (hb2.mono (by omega)))) HQ.out g1 g2).mono ?_
          rintro e w3 ⟨rfl, rfl⟩
          exact ⟨rfl, Below.refl _ _⟩
        rintro e w2 ⟨rfl, hb2⟩
        rw [any_not]
        have hbt : Below w1.heap.size w1 w2 := hbx0.trans (hb2.mono (by omega))
        cases hq : r.all (hasB q)
        · have HN : Hid (R = (false, 0)) := by
            have := all_hit (fun p : List Int × List Int => withinR p.1 p.2) (s.zip t) k (r, q) HG.out hq
            rw [HE2.out, this]; rfl
          clear hq
          go_wp2
          go_ret2
          exact ⟨by rw [HN.out]; rfl, HB1.out.trans (hbt.mono (by omega))⟩
        · have HN : Hid (((s.zip t).take (k + 1)).all (fun p => withinR p.1 p.2) = true) := all_next _ (s.zip t) k (r, q) HG.out hall.out hq
          clear hq
          go_wp2
          go_roundw
          case rel => exact ⟨k + 1, by omega, by go_num, HN, hbt⟩
          case measure => simp [intOf]; omega
      · have HN : Hid (R = (true, 0)) := by rw [HE2.out, all_end _ _ k (by rw [List.length_zip, ← HL2.out]; omega) hall.out]; rfl
        go_wp2
        go_ret2
        exact ⟨by rw [HN.out]; rfl, HBW.out⟩
  · have HN : Hid (R = (false, er)) := by rw [HE.out, if_neg he]; rfl
    have he2 : (er != 0) = true := by simpa using he
    clear he
    go_wp2
    go_ret2
    exact ⟨by rw [HN.out]; rfl, HB1.out⟩

set_option maxHeartbeats 400000 in
theorem empty_any (r : List Int) (v : Value) (w : World) (hv : IArg w v r) :
    Calls Tryz.prog 70 #[v] w fun e w' => e = .returned (.bool (decide (r.length = 0))) ∧ w' = w := by
  obtain ⟨a, c, rfl, _, _⟩ := hv
  by_cases h : r.length = 0
  · have g : ((r.length : Int) == 0) = true := by simp [h]
    have h1 : decide (r.length = 0) = true := decide_eq_true h
    rw [h1]; clear h h1
    go_enter Tryz.func70, Tryz.ntmps70
    go_wp2
    go_ret
    exact ⟨rfl, rfl⟩
  · have g : ((r.length : Int) == 0) = false := by simpa using h
    have h1 : decide (r.length = 0) = false := decide_eq_false h
    rw [h1]; clear h h1
    go_enter Tryz.func70, Tryz.ntmps70
    go_wp2
    go_ret
    exact ⟨rfl, rfl⟩

set_option maxHeartbeats 800000 in
set_option maxRecDepth 100000 in
theorem indexf_empty (s : Sto) (v : Value) (w : World) (hv : RArg w v s) :
    Calls Tryz.prog 92 #[v, .func (.func 70) #[] #[]] w fun e w' => (∃ z : Int, e = .returned (.int .i64 z) ∧ decide (0 ≤ z) = failedS s) ∧ w' = w := by
  obtain ⟨a, c, rfl, hm, hr⟩ := hv
  have HV : Hid (∀ (i : Nat) (r : List Int), s[i]? = some r → ∃ b off x, a = some ⟨b, off, none⟩ ∧ b < w.heap.size ∧ w.cell? ⟨b, off + i, none⟩ = some x ∧ IArg w x r) := hr
  obtain ⟨R, hR⟩ : ∃ R, failedS s = R := ⟨_, rfl⟩
  rw [hR]
  have HR : Hid ((s.any fun r => decide (r.length = 0)) = R) := hR
  unfold maxLen at hm
  obtain ⟨hm1, hm⟩ := hm
  clear hr hR
  go_enter Tryz.func92, Tryz.ntmps92
  go_wp2_with fail
  go_loop [8] (fun i => ∃ m : Nat, m ≤ s.length ∧ i = .int .i64 m ∧ Hid ((s.take m).any (fun r => decide (r.length = 0)) = false)) (fun i => s.length - (intOf i).toNat)
  case atStart => exact ⟨0, by omega, rfl, rfl⟩
  case round =>
    obtain ⟨m, hml, rfl, hall⟩ := hrel
    by_cases hlt : m < s.length
    · obtain ⟨r, hz⟩ : ∃ r, s[m]? = some r := ⟨s[m], by simp [hlt]⟩
      obtain ⟨b, off, x, ha, hb, hc, hx⟩ := HV.out m r hz
      have HX : Hid (IArg w x r) := hx
      obtain ⟨a5, c5, rfl, _, _⟩ := hx
      have HZ : Hid (s[m]? = some r) := hz
      subst ha
      clear hz
      cases hq : decide (r.length = 0)
      · have HN : Hid ((s.take (m + 1)).any (fun r => decide (r.length = 0)) = false) := any_next (fun r : List Int => decide (r.length = 0)) s m r HZ.out hall.out hq
        have HQ : Hid (decide (r.length = 0) = false) := hq
        clear hq
        go_wp2_with fail
        refine (empty_any r _ _ HX.out).mono ?_
        rintro e w ⟨rfl, rfl⟩
        rw [HQ.out]
        go_wp2
        go_round
        case rel => exact ⟨m + 1, by omega, by go_num, HN⟩
        case measure => simp [intOf]; omega
      · have HN : Hid (R = true) := by rw [← HR.out]; exact any_hit (fun r : List Int => decide (r.length = 0)) s m r HZ.out hq
        have HQ : Hid (decide (r.length = 0) = true) := hq
        clear hq
        go_wp2_with fail
        refine (empty_any r _ _ HX.out).mono ?_
        rintro e w ⟨rfl, rfl⟩
        rw [HQ.out]
        go_wp2
        go_ret
        exact ⟨⟨_, rfl, by rw [HN.out]; simp⟩, rfl⟩
    · have HN : Hid (R = false) := by rw [← HR.out]; exact any_end _ s m hlt hall.out
      go_wp2
      go_ret
      exact ⟨⟨_, rfl, by rw [HN.out]; rfl⟩, rfl⟩

set_option maxHeartbeats 400000 in
theorem containsf_empty (s : Sto) (v : Value) (w : World) (hv : RArg w v s) :
    Calls Tryz.prog 69 #[v, .func (.func 70) #[] #[]] w fun e w' => e = .returned (.bool (failedS s)) ∧ w' = w := by
  go_enter Tryz.func69, Tryz.ntmps69
  go_wp2_with fail
  refine (indexf_empty s v _ hv).mono ?_
  rintro e w ⟨⟨z, rfl, hz⟩, rfl⟩
  have HZ : Hid (decide (0 ≤ z) = failedS s) := hz
  clear hz
  go_wp2
  go_ret
  exact ⟨ret_bool HZ.out, rfl⟩

set_option maxHeartbeats 400000 in
theorem sift_failed (s : Sto) (v : Value) (w : World) (hv : RArg w v s) :
    Calls Tryz.prog 44 #[v] w fun e w' => e = .returned (.bool (failedS s)) ∧ w' = w := by
  go_enter Tryz.func44, Tryz.ntmps44
  go_wp2_with fail
  refine (containsf_empty s v _ hv).mono ?_
  rintro e w ⟨rfl, rfl⟩
  go_wp2
  go_ret
  exact ⟨rfl, rfl⟩

def failedA (m : Mod) (s : Sto) : Bool × Int := if checkL m [s] = 0 then (failedS s, 0) else (false, checkL m [s])
set_option maxHeartbeats 800000 in
set_option maxRecDepth 100000 in
theorem sfailed_any (m : Mod) (s : Sto) (vs cs v : Value) (w : World) (hm : MArg w vs cs m) (hv : RArg w v s) :
    Calls Tryz.prog 15 #[modV vs cs m, v] w fun e w' => e = .returned (.tuple #[.bool (failedA m s).1, .int .i64 (failedA m s).2]) ∧ Below w.heap.size w w' := by
  have HMA : Hid (∀ w' : World, Below w.heap.size w w' → MArg w' vs cs m) := fun w' h => MArg.below h hm
  have HVA : Hid (∀ w' : World, Below w.heap.size w w' → RArg w' v s) := fun w' h => RArg.below h hv
  obtain ⟨⟨a1, c1, rfl, _, _⟩, ⟨a2, c2, rfl, _, _⟩⟩ := hm
  obtain ⟨a3, c3, rfl, _, _⟩ := hv
  obtain ⟨R, hR⟩ : ∃ R, failedA m s = R := ⟨_, rfl⟩
  rw [hR]
  obtain ⟨er, her⟩ : ∃ er, checkL m [s] = er := ⟨_, rfl⟩
  have HER : Hid (checkL m [s] = er) := her
  have HE : Hid (R = if er = 0 then (failedS s, 0) else (false, er)) := by rw [← hR, ← her]; rfl
  clear hR her
  unfold modV
  go_enter Tryz.func15, Tryz.ntmps15
  go_wp2_with fail
  refine (check_any2 m [s] (.slice a1 m.vars.length c1) (.slice a2 m.cons.length c2) _ _ ?_ ?_).mono ?_
  · exact HMA.out _ ((below_alloc _ _).alloc (by simp) _)
  · exact garg_one (by simp) (HVA.out _ (below_alloc _ _))
  rintro e w1 ⟨rfl, hb1⟩
  rw [HER.out]
  have HB1 : Hid (Below w.heap.size w w1) := (((below_alloc _ _).alloc (by simp) _)).trans (hb1.mono (by simp; omega))
  clear hb1
  by_cases he : er = 0
  · subst he
    have HE2 : Hid (R = (failedS s, 0)) := by rw [HE.out, if_pos rfl]; rfl
    go_wp2_with fail
    refine (sift_failed s _ _ (HVA.out _ HB1.out)).mono ?_
    rintro e w1 ⟨rfl, rfl⟩
    go_wp2
    go_ret2
    exact ⟨by rw [HE2.out]; rfl, HB1.out⟩
  · have HN : Hid (R = (false, er)) := by rw [HE.out, if_neg he]; rfl
    have he2 : (er != 0) = true := by simpa using he
    clear he
    go_wp2
    go_ret2
    exact ⟨by rw [HN.out]; rfl, HB1.out⟩
end Go.Proofs.YtggkbhafbhhhhacGreat
/-
  PLAIN: how long the rows of a right store are. MEMORY: a store that is being built, row by row.
-/
namespace Go.Proofs.YtggkbhafbhhhhacGreat
open Go.RowKit

theorem rises_len (l : List Int) : ∀ (lo hi : Int), l.Pairwise (· < ·) → (∀ n ∈ l, lo ≤ n ∧ n ≤ hi) → (l.length : Int) ≤ max 0 (hi - lo + 1) := by
  induction l with
  | nil => intro lo hi _ _; simp; omega
  | cons a r ih =>
    intro lo hi hp hb
    have h1 := ih (a + 1) hi (List.pairwise_cons.1 hp).2 (fun n hn => by
      have := (List.pairwise_cons.1 hp).1 n hn
      have := hb n (List.mem_cons_of_mem _ hn)
      omega)
    have h2 := hb a (List.mem_cons_self ..)
    rw [List.length_cons]
    push_cast
    omega
theorem row_short (m : Mod) (s : Sto) (hm : checkM m = 0) (hs : checkV m.vars s = 0) (i : Nat) (r : List Int) (hr : s[i]? = some r) : r.length ≤ 6 := by
  obtain ⟨h1, h2, h3⟩ := (checkV_ok _ _).1 hs
  have hi : i < s.length := (List.getElem?_eq_some_iff.1 hr).1
  obtain ⟨v, hv⟩ : ∃ v, m.vars[i]? = some v := ⟨m.vars[i]'(by omega), by simp⟩
  have hvo := var_ok m hm i v hv
  have hin := (all_zip _ _ _).1 h2 i v r hv hr
  have hri := List.all_eq_true.1 h3 r (List.mem_of_getElem? hr)
  have := rises_len r v.lo v.hi ((rises_pair r).1 hri) (fun n hn => by
    have := List.all_eq_true.1 hin n hn
    simpa [insideB] using this)
  omega

/-- Numbers of one's own, as a list. -/
theorem own_ilist {w : World} {base : Nat} {v : Value} {r : List Int} (h : w.ownsRow base 3 1 v r.length (r.map (Value.int .i64))) : IArg w v r := by
  rcases h.2 with ⟨rfl, hn⟩ | ⟨g, cap, cur, rfl, hg, hh, hc1, hc2, _, _⟩
  · have : r = [] := List.eq_nil_of_length_eq_zero hn
    subst this
    exact ⟨none, 0, rfl, ⟨Nat.le_refl _, Nat.zero_le _⟩, fun i z hz => by simp at hz⟩
  · refine ⟨_, cap, rfl, ⟨hc1, hc2⟩, fun i z hz => ⟨g, 0, rfl, (Array.getElem?_eq_some_iff.1 hh).1, ?_⟩⟩
    have hi : i < r.length := (List.getElem?_eq_some_iff.1 hz).1
    rw [Nat.zero_add, h.cellAt i (by omega), List.getElem?_map, hz]; rfl

theorem own_mono {w : World} {base base' : Nat} {e : TypeId} {size : Nat} {v : Value} {n : Nat} {xs : List Value} (h : w.ownsRow base e size v n xs) (hb : base' ≤ base) : w.ownsRow base' e size v n xs := by
  refine ⟨h.1, ?_⟩
  rcases h.2 with hn | ⟨g, cap, cur, hv, hg, r⟩
  · exact .inl hn
  · exact .inr ⟨g, cap, cur, hv, Nat.le_trans hb hg, r⟩
/-- What is owned stays so where its block does. -/
theorem own_at {w w' : World} {base : Nat} {e : TypeId} {size : Nat} {v : Value} {n : Nat} {xs : List Value} (h : w.ownsRow base e size v n xs) (hk : ∀ g, v.ownBlock = some g → w'.heap[g]? = w.heap[g]?) : w'.ownsRow base e size v n xs := by
  refine ⟨h.1, ?_⟩
  rcases h.2 with hn | ⟨g, cap, cur, hv, hg, hh, r⟩
  · exact .inl hn
  · exact .inr ⟨g, cap, cur, hv, hg, by rw [hk g (by rw [hv]; rfl)]; exact hh, r⟩

/-- A store that is being built: its first k rows are made. -/
def SRows (w : World) (base B n : Nat) (cells : List Value) (M : Sto) (k : Nat) : Prop :=
  w.ownsRow base 36 1 (.slice (some ⟨B, 0, none⟩) n n) n cells ∧
  (∀ i r, i < k → M[i]? = some r → ∃ x, cells[i]? = some x ∧ w.ownsRow (B + 1) 3 1 x r.length (r.map (Value.int .i64))) ∧
  (∀ i, k ≤ i → i < n → cells[i]? = some (.slice none 0 0))
/-- .. and of row k so much as acc is made, above block K. -/
def SRowsIn (w : World) (base B n : Nat) (cells : List Value) (M : Sto) (k K : Nat) (acc : List Int) : Prop :=
  w.ownsRow base 36 1 (.slice (some ⟨B, 0, none⟩) n n) n cells ∧
  (∀ i r, i < k → M[i]? = some r → ∃ x, cells[i]? = some x ∧ w.ownsRow (B + 1) 3 1 x r.length (r.map (Value.int .i64)) ∧ ∀ g, x.ownBlock = some g → g < K) ∧
  (∃ x, cells[k]? = some x ∧ w.ownsRow K 3 1 x acc.length (acc.map (Value.int .i64))) ∧
  (∀ i, k < i → i < n → cells[i]? = some (.slice none 0 0)) ∧ B < K ∧ K ≤ w.heap.size ∧ k < n

theorem SRows.into {w : World} {base B n : Nat} {cells : List Value} {M : Sto} {k : Nat} (h : SRows w base B n cells M k) (hk : k < n) : SRowsIn w base B n cells M k w.heap.size [] := by
  obtain ⟨h1, h2, h3⟩ := h
  refine ⟨h1, fun i r hi hr => ?_, ⟨_, h3 k (Nat.le_refl _) hk, World.ownsRow_nil _ _ _ _⟩, fun i hi hn => h3 i (by omega) hn, (h1.lt B rfl).2, Nat.le_refl _, hk⟩
  obtain ⟨x, hx, ho⟩ := h2 i r hi hr
  exact ⟨x, hx, ho, fun g hg => (ho.lt g hg).2⟩
theorem SRowsIn.done {w : World} {base B n : Nat} {cells : List Value} {M : Sto} {k K : Nat} {acc : List Int} (h : SRowsIn w base B n cells M k K acc) (hM : M[k]? = some acc) : SRows w base B n cells M (k + 1) := by
  obtain ⟨h1, h2, ⟨x, hx, ho⟩, h4, h5, _, _⟩ := h
  refine ⟨h1, fun i r hi hr => ?_, fun i hi hn => h4 i (by omega) hn⟩
  by_cases hik : i < k
  · obtain ⟨y, hy, hoy, _⟩ := h2 i r hik hr
    exact ⟨y, hy, hoy⟩
  · obtain rfl : i = k := by omega
    rw [hM] at hr; cases hr
    exact ⟨x, hx, own_mono ho (by omega)⟩
theorem SRowsIn.kept {w w' : World} {base B n : Nat} {cells : List Value} {M : Sto} {k K : Nat} {acc : List Int} (h : SRowsIn w base B n cells M k K acc) (hb : Below w.heap.size w w') : SRowsIn w' base B n cells M k K acc := by
  obtain ⟨h1, h2, ⟨x, hx, ho⟩, h4, h5, h6, h7⟩ := h
  refine ⟨own_below h1 hb, fun i r hi hr => ?_, ⟨x, hx, own_below ho hb⟩, h4, h5, Nat.le_trans h6 hb.size, h7⟩
  obtain ⟨y, hy, hoy, hg⟩ := h2 i r hi hr
  exact ⟨y, hy, own_below hoy hb, hg⟩
theorem SRows.kept {w w' : World} {base B n : Nat} {cells : List Value} {M : Sto} {k : Nat} (h : SRows w base B n cells M k) (hb : Below w.heap.size w w') : SRows w' base B n cells M k := by
  obtain ⟨h1, h2, h3⟩ := h
  refine ⟨own_below h1 hb, fun i r hi hr => ?_, h3⟩
  obtain ⟨y, hy, hoy⟩ := h2 i r hi hr
  exact ⟨y, hy, own_below hoy hb⟩
/-- One more number: 'w' is the world ahead of append, 'w3' the one behind it. -/
theorem SRowsIn.push {w w3 : World} {base B n : Nat} {cells : List Value} {M : Sto} {k K : Nat} {acc : List Int} {x v3 : Value} {z : Int} (h : SRowsIn w base B n cells M k K acc) (hx : cells[k]? = some x)
    (ho : w3.ownsRow K 3 1 v3 (acc ++ [z]).length ((acc ++ [z]).map (Value.int .i64))) (hg : w.grownBy w3 x.ownBlock) :
    SRowsIn (w3.setCell ⟨B, k, none⟩ v3) base B n (cells.set k v3) M k K (acc ++ [z]) := by
  obtain ⟨h1, h2, ⟨y, hy, hoy⟩, h4, h5, h6, h7⟩ := h
  rw [hx] at hy; cases hy
  have hxK : ∀ g, x.ownBlock = some g → K ≤ g := fun g hg => (hoy.lt g hg).1
  have hB : B < w.heap.size := (h1.lt B rfl).2
  have hne : some B ≠ x.ownBlock := fun h => by have := hxK B h.symm; omega
  have h13 : w3.ownsRow base 36 1 (.slice (some ⟨B, 0, none⟩) n n) n cells := h1.kept hg (Or.inr hne)
  have hlen : cells.length = n := by have := h1.1; omega
  refine ⟨(h13.stored k v3).1, fun i r hi hr => ?_, ⟨v3, by rw [List.getElem?_set_self (by omega)], ?_⟩, fun i hi hn => by rw [List.getElem?_set_ne (by omega)]; exact h4 i hi hn, h5, ?_, h7⟩
  · obtain ⟨y, hy, hoy2, hgy⟩ := h2 i r hi hr
    refine ⟨y, by rw [List.getElem?_set_ne (by omega)]; exact hy, ?_, hgy⟩
    have h23 : w3.ownsRow (B + 1) 3 1 y r.length (r.map (Value.int .i64)) := by
      refine hoy2.kept hg ?_
      cases hyb : y.ownBlock with
      | none => exact Or.inl rfl
      | some g =>
        refine Or.inr fun he => ?_
        have := hxK g he.symm
        have := hgy g hyb
        omega
    refine own_at h23 fun g hg2 => Below.heap_setCell _ _ _ _ ?_
    have := (hoy2.lt g hg2).1
    simp only; omega
  · refine own_at ho fun g hg2 => Below.heap_setCell _ _ _ _ ?_
    have := (ho.lt g hg2).1
    simp only; omega
  · have := hg.size; simp; omega
theorem SRows.rarg {w : World} {base B n : Nat} {cells : List Value} {M : Sto} (h : SRows w base B n cells M n) (hM : M.length = n) : RArg w (.slice (some ⟨B, 0, none⟩) n n) M := by
  obtain ⟨h1, h2, _⟩ := h
  have hB : B < w.heap.size := (h1.lt B rfl).2
  have hmx : n ≤ maxLen := by
    rcases h1.2 with ⟨h', _⟩ | ⟨g, cap, cur, h', _, _, hc1, hc2, _⟩
    · cases h'
    · exact Nat.le_trans hc1 hc2
  refine ⟨_, n, by rw [hM], ⟨by omega, hmx⟩, fun i r hr => ?_⟩
  have hi : i < n := by rw [← hM]; exact (List.getElem?_eq_some_iff.1 hr).1
  obtain ⟨x, hx, ho⟩ := h2 i r hi hr
  exact ⟨B, 0, x, rfl, hB, by rw [Nat.zero_add, h1.cellAt i (by omega)]; exact hx, own_ilist ho⟩
end Go.Proofs.YtggkbhafbhhhhacGreat
/-
  A trial of values: how it lies in memory. WALK: package filter: meet.
-/
namespace Go.Proofs.YtggkbhafbhhhhacGreat
open Go.RowKit Go.Maps

theorem Tryz.underPairs : Tryz.prog.underlying 48 = some (.map 56 54) := by kernel_rfl
/-- What was so in an old world, and is so still. -/
def Old (N : Nat) (w : World) (P : World → Prop) : Prop := ∃ w0 : World, w0.heap.size ≤ N ∧ P w0 ∧ Below w0.heap.size w0 w
theorem Old.below {N : Nat} {w w' : World} {P : World → Prop} (h : Old N w P) (hb : Below N w w') : Old N w' P := by
  obtain ⟨w0, h1, h2, h3⟩ := h
  exact ⟨w0, h1, h2, h3.trans (hb.mono h1)⟩
theorem bk_cell {w : World} {b : Nat} {cs : Array Value} {t : TypeId} (h : w.heap[b]? = some (.cells cs t)) (i : Nat) (v : Value) (hv : cs[i]? = some v) : w.cell? ⟨b, i, none⟩ = some v := by
  rw [Lib.cell_of_heap h]; exact hv

def trialObj (c : MCon) (vv vc vr vl sv stv : Value) (V n M : Nat) : Obj :=
  .cells #[.int .i64 c.kind, vv, vc, .int .i64 c.n, vr, vl, sv, stv, .slice (some ⟨V, 0, none⟩) n n, .map (some M)] 50
def TrialS (N B V M : Nat) (c : MCon) (vv vc vr vl sv stv : Value) (scope : List Int) (s : Sto) (vals : List Int) (l : List (Int × Int)) (w : World) : Prop :=
  (N ≤ B ∧ N ≤ V ∧ N ≤ M ∧ B ≠ V ∧ B ≠ M ∧ V ≠ M) ∧
  w.heap[B]? = some (trialObj c vv vc vr vl sv stv V vals.length M) ∧
  Old N w (fun u => KArg u vv vc vr vl c ∧ IArg u sv scope ∧ RArg u stv s) ∧
  w.ownsRow N 3 1 (.slice (some ⟨V, 0, none⟩) vals.length vals.length) vals.length (vals.map (Value.int .i64)) ∧
  w.ownsMap Tryz.prog 56 unitElem M l.length (setP (H := Unit) l)

section
variable {N B V M : Nat} {c : MCon} {vv vc vr vl sv stv : Value} {scope : List Int} {s : Sto} {vals : List Int} {l : List (Int × Int)} {w w' : World}
theorem TrialS.lts (h : TrialS N B V M c vv vc vr vl sv stv scope s vals l w) : B < w.heap.size ∧ V < w.heap.size ∧ M < w.heap.size ∧ N ≤ w.heap.size := by
  obtain ⟨⟨h1, _⟩, h2, _, h4, ⟨es, cl, h5, _⟩⟩ := h
  have hb := (Array.getElem?_eq_some_iff.1 h2).1
  have hm := (Array.getElem?_eq_some_iff.1 h5).1
  exact ⟨hb, (h4.lt V rfl).2, hm, by omega⟩
theorem TrialS.below (h : TrialS N B V M c vv vc vr vl sv stv scope s vals l w) (hb : Below w.heap.size w w') : TrialS N B V M c vv vc vr vl sv stv scope s vals l w' := by
  obtain ⟨l1, l2, l3, l4⟩ := h.lts
  obtain ⟨h1, h2, h3, h4, ⟨es, cl, h5, r⟩⟩ := h
  exact ⟨h1, (hb.block B l1).trans h2, h3.below (hb.mono l4), own_below h4 hb, ⟨es, cl, (hb.block M l3).trans h5, r⟩⟩
theorem TrialS.drew (h : TrialS N B V M c vv vc vr vl sv stv scope s vals l w) : TrialS N B V M c vv vc vr vl sv stv scope s vals l w.drew := h.below (Below.refl _ _).drew
theorem TrialS.parts (h : TrialS N B V M c vv vc vr vl sv stv scope s vals l w) : KArg w vv vc vr vl c ∧ IArg w sv scope ∧ RArg w stv s := by
  obtain ⟨_, _, ⟨w0, h1, ⟨k1, k2, k3⟩, h3⟩, _, _⟩ := h
  exact ⟨KArg.below h3 k1, IArg.below h3 k2, RArg.below h3 k3⟩
theorem TrialS.vals_arg (h : TrialS N B V M c vv vc vr vl sv stv scope s vals l w) : IArg w (.slice (some ⟨V, 0, none⟩) vals.length vals.length) vals := own_ints h.2.2.2.1
/-- One more key. -/
theorem TrialS.put (h : TrialS N B V M c vv vc vr vl sv stv scope s vals l w) (p : Int × Int) (hm : w'.ownsMap Tryz.prog 56 unitElem M (l.length + 1) (setP (H := Unit) (l ++ [p]))) (hg : w.grownBy w' (some M)) :
    TrialS N B V M c vv vc vr vl sv stv scope s vals (l ++ [p]) w' ∧ Below N w w' := by
  obtain ⟨l1, l2, l3, l4⟩ := h.lts
  obtain ⟨⟨n1, n2, n3, n4, n5, n6⟩, h2, h3, h4, _⟩ := h
  have hb : Below N w w' := (Below.refl _ _).grown hg l4 (fun k hk => by cases hk; exact n3)
  refine ⟨⟨⟨n1, n2, n3, n4, n5, n6⟩, (hg.block B l1 (fun h => n5 (Option.some.inj h))).trans h2, h3.below hb, h4.kept hg (Or.inr fun h => n6 (Option.some.inj h)), by rw [List.length_append]; exact hm⟩, hb⟩
/-- One value set. -/
theorem TrialS.set (h : TrialS N B V M c vv vc vr vl sv stv scope s vals l w) (k : Nat) (x : Int) :
    TrialS N B V M c vv vc vr vl sv stv scope s (vals.set k x) l (w.setCell ⟨V, k, none⟩ (.int .i64 x)) ∧ Below N w (w.setCell ⟨V, k, none⟩ (.int .i64 x)) := by
  obtain ⟨l1, l2, l3, l4⟩ := h.lts
  obtain ⟨⟨n1, n2, n3, n4, n5, n6⟩, h2, h3, h4, ⟨es, cl, h5, r⟩⟩ := h
  have hb : Below N w (w.setCell ⟨V, k, none⟩ (.int .i64 x)) := (Below.refl _ _).setCell n2 _
  refine ⟨⟨⟨n1, n2, n3, n4, n5, n6⟩, ?_, h3.below hb, ?_, ⟨es, cl, (Below.heap_setCell _ _ _ _ (fun h => n6 h.symm)).trans h5, r⟩⟩, hb⟩
  · rw [List.length_set]; exact (Below.heap_setCell _ _ _ _ n4).trans h2
  · have := (h4.stored k (.int .i64 x)).1
    rw [List.length_set, List.map_set]
    exact this
end

theorem keys_next (scope vals : List Int) (k : Nat) (v : Int) (h : scope[k]? = some v) : keysOf (scope.take (k + 1)) vals = keysOf (scope.take k) vals ++ [(v, valAt vals v)] := by
  unfold keysOf; rw [List.take_add_one, h, List.map_append]; rfl

set_option maxHeartbeats 1600000 in
set_option maxRecDepth 100000 in
theorem meet_any (N B V M : Nat) (c : MCon) (vv vc vr vl sv stv : Value) (scope : List Int) (s : Sto) (vals : List Int) (l : List (Int × Int)) (w : World)
    (hT : TrialS N B V M c vv vc vr vl sv stv scope s vals l w) (hsc : ∀ v ∈ scope, 0 ≤ v ∧ v < vals.length) (hvb : ∀ x ∈ vals, -50 ≤ x ∧ x ≤ 50) (hn : scope.length ≤ 8) (hv6 : vals.length ≤ 6) (hbud : l.length + scope.length ≤ 1000000000) :
    Calls Tryz.prog 47 #[.pointer (some ⟨B, 0, none⟩)] w fun e w' => e = .returned (.tuple #[]) ∧ TrialS N B V M c vv vc vr vl sv stv scope s vals (l ++ keysOf scope vals) w' ∧ Below N w w' := by
  obtain ⟨asv, csv, hsv, hms, _⟩ := hT.parts.2.1
  subst hsv
  unfold maxLen at hms
  obtain ⟨hms1, hms⟩ := hms
  have b6 := bk_cell hT.2.1 6 _ rfl
  have HT : Hid (TrialS N B V M c vv vc vr vl (.slice asv scope.length csv) stv scope s vals l w) := hT
  have HSC : Hid (∀ v ∈ scope, 0 ≤ v ∧ v < (vals.length : Int)) := hsc
  have HVB : Hid (∀ x ∈ vals, -50 ≤ x ∧ x ≤ 50) := hvb
  clear hT hsc hvb
  go_enter Tryz.func47, Tryz.ntmps47
  go_wp2_with fail
  clear b6
  go_loopw [9] (fun i wr => ∃ k : Nat, k ≤ scope.length ∧ i = .int .i64 k ∧ TrialS N B V M c vv vc vr vl (.slice asv scope.length csv) stv scope s vals (l ++ keysOf (scope.take k) vals) wr ∧ Below N w wr) (fun i _ => scope.length - (intOf i).toNat)
  case atStart => exact ⟨0, by omega, rfl, by simpa [keysOf] using HT.out, Below.refl _ _⟩
  case round =>
    obtain ⟨k, hk, rfl, hTr, hbw⟩ := hrel
    have HTR : Hid (TrialS N B V M c vv vc vr vl (.slice asv scope.length csv) stv scope s vals (l ++ keysOf (scope.take k) vals) wr) := hTr
    have HBW : Hid (Below N w wr) := hbw
    clear hTr hbw
    by_cases hlt : k < scope.length
    · obtain ⟨z, hz⟩ : ∃ z, scope[k]? = some z := ⟨scope[k], by simp [hlt]⟩
      obtain ⟨hz0, hz1⟩ := HSC.out z (List.mem_of_getElem? hz)
      obtain ⟨j, rfl⟩ : ∃ j : Nat, z = (j : Int) := ⟨z.toNat, by omega⟩
      have hjl : j < vals.length := by omega
      obtain ⟨y, hy⟩ : ∃ y, vals[j]? = some y := ⟨vals[j], by simp [hjl]⟩
      have hyb := HVB.out y (List.mem_of_getElem? hy)
      obtain ⟨a', c', hva, _, hrc⟩ := HTR.out.parts.2.1
      obtain ⟨bs, os, hax, hbs, e0⟩ := hrc k _ hz
      have has : asv = some ⟨bs, os, none⟩ := by injection hva with e1; exact e1.trans hax
      subst has
      have c9 := bk_cell HTR.out.2.1 9 _ rfl
      have c8 := bk_cell HTR.out.2.1 8 _ rfl
      have HOW := HTR.out.2.2.2.1
      have cv : wr.cell? ⟨V, j, none⟩ = some (.int .i64 y) := by rw [HOW.cellAt j (by omega), List.getElem?_map, hy]; rfl
      obtain ⟨l1, l2, l3, l4⟩ := HTR.out.lts
      have hkey : keyOf Tryz.prog 56 (.agg #[.int .i64 (j : Int), .int .i64 y]) = some (pairK (j : Int) y) := keyOf_pair _ _ (by unfold okInt; omega) (by unfold okInt; omega)
      have hlen : (l ++ keysOf (scope.take k) vals).length < maxLen := by
        have : (keysOf (scope.take k) vals).length ≤ scope.length := by unfold keysOf; simp; omega
        rw [List.length_append]; unfold maxLen; omega
      obtain ⟨w1, hrun, hown1, hturn⟩ := World.ownsMap.store (w := wr.drew) HTR.out.drew.2.2.2.2 Tryz.pairKeyed Tryz.underPairs hlen hkey unitElem_mk
      have hgr := hturn.grown
      have hne : (B ≠ M ∧ V ≠ M) := ⟨HTR.out.1.2.2.2.2.1, HTR.out.1.2.2.2.2.2⟩
      have f9 : w1.cell? ⟨B, 9, none⟩ = some (.map (some M)) := hgr.cell (a := ⟨B, 9, none⟩) c9 (fun h => hne.1 (Option.some.inj h))
      have f8 : w1.cell? ⟨B, 8, none⟩ = some (.slice (some ⟨V, 0, none⟩) vals.length vals.length) := hgr.cell (a := ⟨B, 8, none⟩) c8 (fun h => hne.1 (Option.some.inj h))
      have fv : w1.cell? ⟨V, j, none⟩ = some (.int .i64 y) := hgr.cell (a := ⟨V, j, none⟩) cv (fun h => hne.2 (Option.some.inj h))
      have HPUT : Hid (TrialS N B V M c vv vc vr vl (.slice (some ⟨bs, os, none⟩) scope.length csv) stv scope s vals ((l ++ keysOf (scope.take k) vals) ++ [((j : Int), y)]) w1 ∧ Below N wr.drew w1) := HTR.out.drew.put ((j : Int), y) (by rw [setP_next]; exact hown1) hgr
      have HNX : Hid (keysOf (scope.take (k + 1)) vals = keysOf (scope.take k) vals ++ [((j : Int), y)]) := by
        show _ = _; rw [keys_next scope vals k _ hz, valAt_get vals j y hy]
      clear hz hy hva hrc hax HOW hkey hlen hown1 hturn hgr hne hz0 hz1
      go_wp2_with fail
      go_region_held3 (fun w' => w'.cell? ⟨B, 9, none⟩ = some (.map (some M)) ∧ w'.cell? ⟨B, 8, none⟩ = some (.slice (some ⟨V, 0, none⟩) vals.length vals.length) ∧ w'.cell? ⟨V, j, none⟩ = some (.int .i64 y)) (first | exact ⟨c9, c8, cv⟩ | exact ⟨f9, f8, fv⟩) (fail)
      go_wp2
      go_roundw
      case rel => exact ⟨k + 1, by omega, by go_num, by rw [HNX.out, ← List.append_assoc]; exact HPUT.out.1, HBW.out.trans ⟨HPUT.out.2.os, HPUT.out.2.tape, HPUT.out.2.output, HPUT.out.2.size, HPUT.out.2.block⟩⟩
      case measure => simp [intOf]; omega
    · have HF : Hid (TrialS N B V M c vv vc vr vl (.slice asv scope.length csv) stv scope s vals (l ++ keysOf scope vals) wr) := by
        have h := HTR.out
        rwa [List.take_of_length_le (by omega)] at h
      go_wp2
      go_end0
      exact ⟨rfl, HF.out, HBW.out⟩
end Go.Proofs.YtggkbhafbhhhhacGreat
/-
  WALK: package filter: from.
-/
namespace Go.Proofs.YtggkbhafbhhhhacGreat
open Go.RowKit Go.Maps

theorem reach_count (s : Sto) (h6 : ∀ r ∈ s, r.length ≤ 6) : ∀ (r vals : List Int), (reach s r vals).length ≤ 6 ^ r.length
  | [], vals => by simp [reach]
  | v :: r, vals => by
    unfold reach
    have hrow : (s.getD v.toNat []).length ≤ 6 := by
      rw [List.getD_eq_getElem?_getD]
      cases hq : s[v.toNat]? with
      | none => simp
      | some q => exact h6 q (List.mem_of_getElem? hq)
    have key : ∀ q : List Int, (q.flatMap fun x => reach s r (vals.set v.toNat x)).length ≤ q.length * 6 ^ r.length := by
      intro q
      induction q with
      | nil => simp
      | cons a q ih =>
        rw [List.flatMap_cons, List.length_append, List.length_cons]
        have := reach_count s h6 r (vals.set v.toNat a)
        rw [Nat.add_mul]
        omega
    have h1 := key (s.getD v.toNat [])
    have h2 : (s.getD v.toNat []).length * 6 ^ r.length ≤ 6 * 6 ^ r.length := Nat.mul_le_mul_right _ hrow
    rw [List.length_cons, Nat.pow_succ]
    omega
theorem metK_count (c : MCon) (scope : List Int) (us : List (List Int)) : (metK c scope us).length ≤ scope.length * us.length := by
  unfold metK
  induction us with
  | nil => simp
  | cons u us ih =>
    rw [List.flatMap_cons, List.length_append, List.length_cons, Nat.mul_add]
    have : (if holdsC c u then keysOf scope u else []).length ≤ scope.length := by
      split
      · simp [keysOf]
      · simp
    omega
theorem metK_append (c : MCon) (scope : List Int) (a b : List (List Int)) : metK c scope (a ++ b) = metK c scope a ++ metK c scope b := by
  unfold metK; rw [List.flatMap_append]
/-- What has been reached when so many values of a row are through. -/
def reachN (s : Sto) (v : Int) (r vals row : List Int) (j : Nat) : List (List Int) := (row.take j).flatMap fun x => reach s r (vals.set v.toNat x)
theorem reachN_next (s : Sto) (v : Int) (r vals row : List Int) (j : Nat) (x : Int) (h : row[j]? = some x) : reachN s v r vals row (j + 1) = reachN s v r vals row j ++ reach s r (vals.set v.toNat x) := by
  unfold reachN; rw [List.take_add_one, h, List.flatMap_append]; simp
theorem bounds_set (vals : List Int) (k : Nat) (x : Int) (h : ∀ y ∈ vals, -50 ≤ y ∧ y ≤ 50) (hx : -50 ≤ x ∧ x ≤ 50) : ∀ y ∈ vals.set k x, -50 ≤ y ∧ y ≤ 50 := by
  intro y hy
  rcases List.mem_or_eq_of_mem_set hy with h1 | h1
  · exact h y h1
  · rw [h1]; exact hx

set_option maxHeartbeats 3200000 in
set_option maxRecDepth 100000 in
theorem from_any (N B V M : Nat) (c : MCon) (vv vc vr vl sv stv : Value) (scope : List Int) (s : Sto)
    (hsc : ∀ v ∈ scope, 0 ≤ v ∧ v < s.length) (hce : conE s.length c = 0) (hs6 : s.length ≤ 6) (hrow : ∀ r ∈ s, r.length ≤ 6 ∧ ∀ x ∈ r, -50 ≤ x ∧ x ≤ 50) (hn8 : scope.length ≤ 8) :
    ∀ (rest : List Int) (k : Nat) (vals : List Int) (l : List (Int × Int)) (w : World), scope.drop k = rest → k ≤ scope.length → vals.length = s.length → (∀ x ∈ vals, -50 ≤ x ∧ x ≤ 50) → l.length + scope.length * 6 ^ rest.length ≤ 1000000000 →
      TrialS N B V M c vv vc vr vl sv stv scope s vals l w →
      Calls Tryz.prog 17 #[.pointer (some ⟨B, 0, none⟩), .int .i64 k] w fun e w' => e = .returned (.tuple #[]) ∧
        ∃ vals', TrialS N B V M c vv vc vr vl sv stv scope s vals' (l ++ metK c scope (reach s rest vals)) w' ∧ vals'.length = s.length ∧ (∀ x ∈ vals', -50 ≤ x ∧ x ≤ 50) ∧ Agree rest vals vals' ∧ Below N w w' := by
  have HSC : Hid (∀ v ∈ scope, 0 ≤ v ∧ v < (s.length : Int)) := hsc
  have HCE : Hid (conE s.length c = 0) := hce
  have HROW : Hid (∀ r ∈ s, r.length ≤ 6 ∧ ∀ x ∈ r, -50 ≤ x ∧ x ≤ 50) := hrow
  clear hsc hce hrow
  intro rest
  induction rest with
  | nil =>
    intro k vals l w hdr hk hvl hvb hbud hT
    have hks : k = scope.length := by
      have := congrArg List.length hdr
      simp at this
      omega
    subst hks
    obtain ⟨asv, csv, hsv, _, _⟩ := hT.parts.2.1
    subst hsv
    have HK : Hid (∀ w' : World, Below w.heap.size w w' → KArg w' vv vc vr vl c) := fun w' h => KArg.below h hT.parts.1
    have HVA : Hid (∀ w' : World, Below w.heap.size w w' → IArg w' (.slice (some ⟨V, 0, none⟩) vals.length vals.length) vals) := fun w' h => IArg.below h hT.vals_arg
    obtain ⟨⟨q1, r1, h1, _, _⟩, ⟨q2, r2, h2, _, _⟩, ⟨q3, r3, h3, _, _⟩, ⟨q4, r4, h4, _, _⟩⟩ := hT.parts.1
    subst h1; subst h2; subst h3; subst h4
    have b0 := bk_cell hT.2.1 0 _ rfl
    have b1 := bk_cell hT.2.1 1 _ rfl
    have b2 := bk_cell hT.2.1 2 _ rfl
    have b3 := bk_cell hT.2.1 3 _ rfl
    have b4 := bk_cell hT.2.1 4 _ rfl
    have b5 := bk_cell hT.2.1 5 _ rfl
    have b6 := bk_cell hT.2.1 6 _ rfl
    have b8 := bk_cell hT.2.1 8 _ rfl
    have hBl := hT.lts.1
    have HT : Hid (TrialS N B V M c (.slice q1 c.vars.length r1) (.slice q2 c.consts.length r2) (.slice q3 c.rows.length r3) (.slice q4 c.lits.length r4) (.slice asv scope.length csv) stv scope s vals l w) := hT
    have HVB : Hid (∀ x ∈ vals, -50 ≤ x ∧ x ≤ 50) := hvb
    have HVL : Hid (vals.length = s.length) := hvl
    have HNL : Hid (N ≤ w.heap.size) := hT.lts.2.2.2
    have HME : Hid (metK c scope (reach s [] vals) = if holdsC c vals then keysOf scope vals else []) := by show _ = _; simp [metK, reach]
    have hbud2 : l.length + scope.length ≤ 1000000000 := by simpa using hbud
    have hv6 : vals.length ≤ 6 := by omega
    clear hT hvb hdr hvl hbud
    go_enter Tryz.func17, Tryz.ntmps17
    go_wp2_with fail
    go_region_held3 (fun w' => Below w.heap.size w w' ∧ w'.cell? ⟨B, 0, none⟩ = some (.int .i64 c.kind) ∧ w'.cell? ⟨B, 1, none⟩ = some (.slice q1 c.vars.length r1) ∧ w'.cell? ⟨B, 2, none⟩ = some (.slice q2 c.consts.length r2) ∧ w'.cell? ⟨B, 3, none⟩ = some (.int .i64 c.n) ∧ w'.cell? ⟨B, 4, none⟩ = some (.slice q3 c.rows.length r3) ∧ w'.cell? ⟨B, 5, none⟩ = some (.slice q4 c.lits.length r4) ∧ w'.cell? ⟨B, 8, none⟩ = some (.slice (some ⟨V, 0, none⟩) vals.length vals.length))
      ((refine (fun (hB : Below w.heap.size w _) => ⟨hB, (hB.cell (p := ⟨B, 0, none⟩) hBl).trans b0, (hB.cell (p := ⟨B, 1, none⟩) hBl).trans b1, (hB.cell (p := ⟨B, 2, none⟩) hBl).trans b2, (hB.cell (p := ⟨B, 3, none⟩) hBl).trans b3, (hB.cell (p := ⟨B, 4, none⟩) hBl).trans b4, (hB.cell (p := ⟨B, 5, none⟩) hBl).trans b5, (hB.cell (p := ⟨B, 8, none⟩) hBl).trans b8⟩ : Below w.heap.size w _ → _) ?_; first | exact (Below.refl _ _).drew | exact hbq))
      (first
        | (go_at_call 19; refine (holds_any c vals _ _ _ _ _ _ (HK.out _ (Below.refl _ _).drew) (HVA.out _ (Below.refl _ _).drew) (by rw [HVL.out]; exact HCE.out) HVB.out).mono ?_; rintro e w1 ⟨rfl, hbr⟩; have hbq : Below w.heap.size w w1 := ⟨hbr.os, hbr.tape, hbr.output, hbr.size, hbr.block⟩))
    have HT1 : Hid (TrialS N B V M c (.slice q1 c.vars.length r1) (.slice q2 c.consts.length r2) (.slice q3 c.rows.length r3) (.slice q4 c.lits.length r4) (.slice asv scope.length csv) stv scope s vals l w1) := HT.out.below hbq
    have hbN : Below N w w1 := hbq.mono HNL.out
    clear hbr hbq b0 b1 b2 b3 b4 b5 b6 b8 hBl
    cases hq : holdsC c vals
    · rw [hq] at HME
      go_wp2
      (try simp only [Exit.inBlock, Exit.then])
      refine bodyPost_ret (results_none rfl _ _ _) rfl ?_
      refine ⟨rfl, vals, ?_, HVL.out, HVB.out, Agree.refl _ _, hbN⟩
      rw [HME.out]
      simpa using HT1.out
    · rw [hq] at HME
      go_wp2_with fail
      refine (meet_any N B V M c _ _ _ _ _ stv scope s vals l w1 HT1.out (by rw [HVL.out]; exact HSC.out) HVB.out hn8 hv6 hbud2).mono ?_
      rintro e w2 ⟨rfl, hT2, hb2⟩
      have HT2 : Hid (TrialS N B V M c (.slice q1 c.vars.length r1) (.slice q2 c.consts.length r2) (.slice q3 c.rows.length r3) (.slice q4 c.lits.length r4) (.slice asv scope.length csv) stv scope s vals (l ++ keysOf scope vals) w2) := hT2
      clear hT2
      go_wp2
      (try simp only [Exit.inBlock, Exit.then])
      refine bodyPost_ret (results_none rfl _ _ _) rfl ?_
      refine ⟨rfl, vals, ?_, HVL.out, HVB.out, Agree.refl _ _, hbN.trans hb2⟩
      rw [HME.out]
      exact HT2.out
  | cons v rest ih =>
    intro k vals l w hdr hk hvl hvb hbud hT
    have hkl : k < scope.length := by
      have := congrArg List.length hdr
      simp at this
      omega
    have hkv : scope[k]? = some v := by
      have h := congrArg (fun q : List Int => q[0]?) hdr
      simpa using h
    have hdr2 : scope.drop (k + 1) = rest := by
      have h := congrArg List.tail hdr
      simpa using h
    obtain ⟨hv0, hv1⟩ := HSC.out v (List.mem_of_getElem? hkv)
    obtain ⟨j, rfl⟩ : ∃ j : Nat, v = (j : Int) := ⟨v.toNat, by omega⟩
    have hjs : j < s.length := by omega
    obtain ⟨row, hrw⟩ : ∃ row, s[j]? = some row := ⟨s[j], by simp [hjs]⟩
    obtain ⟨hr6, hrb⟩ := HROW.out row (List.mem_of_getElem? hrw)
    obtain ⟨⟨_, _⟩, ⟨asv, csv, hsv, hms, hscell⟩, ⟨ast, cst, hst, hmt, hstcell⟩⟩ := hT.parts
    subst hsv; subst hst
    obtain ⟨bs, os, has, hbs, e0⟩ := hscell k _ hkv
    subst has
    obtain ⟨bt, ot, xt, hat, hbt, e1, hxt⟩ := hstcell j _ hrw
    subst hat
    have HXT : Hid (IArg w xt row) := hxt
    obtain ⟨ar, cr, rfl, hmr, hrc⟩ := hxt
    unfold maxLen at hms hmt hmr
    obtain ⟨hms1, hms⟩ := hms
    obtain ⟨hmt1, hmt⟩ := hmt
    obtain ⟨hmr1, hmr⟩ := hmr
    have b6 := bk_cell hT.2.1 6 _ rfl
    have b7 := bk_cell hT.2.1 7 _ rfl
    have HT : Hid (TrialS N B V M c vv vc vr vl (.slice (some ⟨bs, os, none⟩) scope.length csv) (.slice (some ⟨bt, ot, none⟩) s.length cst) scope s vals l w) := hT
    have HVB : Hid (∀ x ∈ vals, -50 ≤ x ∧ x ≤ 50) := hvb
    have HVL : Hid (vals.length = s.length) := hvl
    have HRB : Hid (∀ x ∈ row, -50 ≤ x ∧ x ≤ 50) := hrb
    have HRW : Hid (s[j]? = some row) := hrw
    have HOR : Hid (∀ w' : World, Below N w w' → IArg w' (.slice ar row.length cr) row) := by
      obtain ⟨_, _, ⟨w0, g1, ⟨_, _, g2⟩, g3⟩, _, _⟩ := hT
      obtain ⟨ast', cst', hst', _, hstc'⟩ := g2
      obtain ⟨bt', ot', xt', hat', hbt', e1', hxt'⟩ := hstc' j _ hrw
      injection hst' with hq
      rw [← hq] at hat'
      cases hat'
      have e2 := (g3.cell (p := ⟨bt, ot + j, none⟩) hbt').trans e1'
      rw [e1] at e2
      cases e2
      intro w' h
      exact IArg.below (g3.trans (h.mono g1)) hxt'
    obtain ⟨X, hX⟩ : ∃ X, scope.length * 6 ^ rest.length = X := ⟨_, rfl⟩
    have hbud2 : l.length + 6 * X ≤ 1000000000 := by
      rw [List.length_cons, Nat.pow_succ] at hbud
      rw [← hX]
      have : scope.length * (6 ^ rest.length * 6) = 6 * (scope.length * 6 ^ rest.length) := by rw [Nat.mul_comm (6 ^ rest.length) 6, ← Nat.mul_assoc, Nat.mul_comm scope.length 6, Nat.mul_assoc]
      omega
    have HRN : Hid (∀ jj, jj ≤ row.length → (metK c scope (reachN s (j : Int) rest vals row jj)).length ≤ jj * X) := by
      intro jj hjj
      refine Nat.le_trans (metK_count c scope _) ?_
      have h1 : (reachN s (j : Int) rest vals row jj).length ≤ jj * 6 ^ rest.length := by
        have key : ∀ q : List Int, (q.flatMap fun x => reach s rest (vals.set ((j : Int)).toNat x)).length ≤ q.length * 6 ^ rest.length := by
          intro q
          induction q with
          | nil => simp
          | cons a q ih2 =>
            rw [List.flatMap_cons, List.length_append, List.length_cons]
            have := reach_count s (fun r hr => (HROW.out r hr).1) rest (vals.set ((j : Int)).toNat a)
            rw [Nat.add_mul]
            omega
        unfold reachN
        have h2 := key (row.take jj)
        rw [List.length_take, Nat.min_eq_left hjj] at h2
        exact h2
      rw [← hX]
      calc scope.length * (reachN s (j : Int) rest vals row jj).length ≤ scope.length * (jj * 6 ^ rest.length) := Nat.mul_le_mul_left _ h1
        _ = jj * (scope.length * 6 ^ rest.length) := by rw [← Nat.mul_assoc, Nat.mul_comm scope.length jj, Nat.mul_assoc]
    have HEND : Hid (reachN s (j : Int) rest vals row row.length = reach s ((j : Int) :: rest) vals) := by
      show _ = _
      unfold reachN
      rw [List.take_length]
      conv => rhs; unfold reach
      rw [Int.toNat_natCast, List.getD_eq_getElem?_getD, hrw]; rfl
    have HIH : Hid (∀ (vals : List Int) (l : List (Int × Int)) (w : World), vals.length = s.length → (∀ x ∈ vals, -50 ≤ x ∧ x ≤ 50) → l.length + X ≤ 1000000000 →
      TrialS N B V M c vv vc vr vl (.slice (some ⟨bs, os, none⟩) scope.length csv) (.slice (some ⟨bt, ot, none⟩) s.length cst) scope s vals l w →
      Calls Tryz.prog 17 #[.pointer (some ⟨B, 0, none⟩), .int .i64 ((k : Int) + 1)] w fun e w' => e = .returned (.tuple #[]) ∧
        ∃ vals', TrialS N B V M c vv vc vr vl (.slice (some ⟨bs, os, none⟩) scope.length csv) (.slice (some ⟨bt, ot, none⟩) s.length cst) scope s vals' (l ++ metK c scope (reach s rest vals)) w' ∧ vals'.length = s.length ∧ (∀ x ∈ vals', -50 ≤ x ∧ x ≤ 50) ∧ Agree rest vals vals' ∧ Below N w w') := by
      intro vals1 l1 w1 a1 a2 a3 a4
      exact ih (k + 1) vals1 l1 w1 hdr2 (by omega) a1 a2 (by rw [hX]; exact a3) a4
    have g0 : ((k : Int) == (scope.length : Int)) = false := by simp; omega
    have hlt8 : k < 8 := by omega
    clear hT hvb hdr hvl hbud hrb hrw hrc hscell hstcell ih hX hdr2 hkv hv0 hv1 HXT
    go_enter Tryz.func17, Tryz.ntmps17
    go_wp2_with fail
    clear b6 b7 e0 e1
    go_loopw [40] (fun i wr => ∃ (jj : Nat) (vals' : List Int), jj ≤ row.length ∧ i = .int .i64 jj ∧ TrialS N B V M c vv vc vr vl (.slice (some ⟨bs, os, none⟩) scope.length csv) (.slice (some ⟨bt, ot, none⟩) s.length cst) scope s vals' (l ++ metK c scope (reachN s (j : Int) rest vals row jj)) wr ∧ Hid (vals'.length = s.length ∧ (∀ x ∈ vals', -50 ≤ x ∧ x ≤ 50) ∧ Agree ((j : Int) :: rest) vals vals') ∧ Below N w wr) (fun i _ => row.length - (intOf i).toNat)
    case atStart => exact ⟨0, vals, by omega, rfl, by simpa [reachN, metK] using HT.out, ⟨HVL.out, HVB.out, Agree.refl _ _⟩, Below.refl _ _⟩
    case round =>
      obtain ⟨jj, vals', hjj, rfl, hTr, hH, hbw⟩ := hrel
      have HTR : Hid (TrialS N B V M c vv vc vr vl (.slice (some ⟨bs, os, none⟩) scope.length csv) (.slice (some ⟨bt, ot, none⟩) s.length cst) scope s vals' (l ++ metK c scope (reachN s (j : Int) rest vals row jj)) wr) := hTr
      have HBW : Hid (Below N w wr) := hbw
      clear hTr hbw
      by_cases hlt : jj < row.length
      · obtain ⟨x, hx⟩ : ∃ x, row[jj]? = some x := ⟨row[jj], by simp [hlt]⟩
        have hxb := HRB.out x (List.mem_of_getElem? hx)
        obtain ⟨a', c', hva, _, hrc⟩ := HOR.out _ HBW.out
        obtain ⟨b2, o2, hax, hb2, e2⟩ := hrc jj _ hx
        have har : ar = some ⟨b2, o2, none⟩ := by injection hva with e1; exact e1.trans hax
        subst har
        have c8 := bk_cell HTR.out.2.1 8 _ rfl
        have HOW := HTR.out.2.2.2.1
        have hjv : j < vals'.length := by rw [hH.out.1]; exact hjs
        obtain ⟨y, hy⟩ : ∃ y, vals'[j]? = some y := ⟨vals'[j], by simp [hjv]⟩
        have cv : wr.cell? ⟨V, j, none⟩ = some (.int .i64 y) := by rw [HOW.cellAt j (by omega), List.getElem?_map, hy]; rfl
        have zv := HOW.frozenAt j
        have HSET := HTR.out.set j x
        have HST : Hid (TrialS N B V M c vv vc vr vl (.slice (some ⟨bs, os, none⟩) scope.length csv) (.slice (some ⟨bt, ot, none⟩) s.length cst) scope s (vals'.set j x) (l ++ metK c scope (reachN s (j : Int) rest vals row jj)) (wr.setCell ⟨V, j, none⟩ (.int .i64 x))) := HSET.1
        have HSB : Hid (Below N w (wr.setCell ⟨V, j, none⟩ (.int .i64 x))) := HBW.out.trans HSET.2
        have HV1 : Hid ((vals'.set j x).length = s.length) := by show _ = _; rw [List.length_set]; exact hH.out.1
        have HV2 : Hid (∀ y ∈ vals'.set j x, -50 ≤ y ∧ y ≤ 50) := bounds_set _ _ _ hH.out.2.1 hxb
        have hbud3 : (l ++ metK c scope (reachN s (j : Int) rest vals row jj)).length + X ≤ 1000000000 := by
          have h1 := HRN.out jj hjj
          have h2 : jj * X ≤ 5 * X := Nat.mul_le_mul_right _ (by omega)
          rw [List.length_append]
          omega
        have HRS : Hid (reach s rest (vals'.set j x) = reach s rest (vals.set ((j : Int)).toNat x)) := by
          have h := (hH.out.2.2).set x
          exact (reach_same s rest _ _ h).symm
        have HNX : Hid (metK c scope (reachN s (j : Int) rest vals row (jj + 1)) = metK c scope (reachN s (j : Int) rest vals row jj) ++ metK c scope (reach s rest (vals'.set j x))) := by
          show _ = _
          rw [reachN_next s _ rest vals row jj x hx, metK_append, HRS.out]
        have HAG : Hid (Agree ((j : Int) :: rest) vals (vals'.set j x)) := (hH.out.2.2).trans (Agree.of_set rest vals' (j : Int) x)
        clear hx hy hva hrc hax HOW HSET hH hxb
        go_wp2_with fail
        refine (HIH.out _ _ _ HV1.out HV2.out hbud3 HST.out).mono ?_
        rintro e w2 ⟨rfl, v2, hT2, hl2, hb2', hag2, hbN2⟩
        have HT2 : Hid (TrialS N B V M c vv vc vr vl (.slice (some ⟨bs, os, none⟩) scope.length csv) (.slice (some ⟨bt, ot, none⟩) s.length cst) scope s v2 (l ++ metK c scope (reachN s (j : Int) rest vals row (jj + 1))) w2) := by
          rw [HNX.out, ← List.append_assoc]; exact hT2
        have HH2 : Hid (v2.length = s.length ∧ (∀ x ∈ v2, -50 ≤ x ∧ x ≤ 50) ∧ Agree ((j : Int) :: rest) vals v2) := ⟨hl2, hb2', HAG.out.trans (Agree.cons _ hag2)⟩
        have HB2 : Hid (Below N w w2) := HSB.out.trans hbN2
        clear hT2 hl2 hb2' hag2 hbN2 hbud3
        go_wp2
        go_roundw
        case rel => exact ⟨jj + 1, v2, by omega, by go_num, HT2.out, HH2, HB2.out⟩
        case measure => simp [intOf]; omega
      · have hje : jj = row.length := by omega
        have HF : Hid (TrialS N B V M c vv vc vr vl (.slice (some ⟨bs, os, none⟩) scope.length csv) (.slice (some ⟨bt, ot, none⟩) s.length cst) scope s vals' (l ++ metK c scope (reach s ((j : Int) :: rest) vals)) wr) := by
          have h := HTR.out
          rw [hje, HEND.out] at h
          exact h
        clear hje
        go_wp2
        go_end0
        exact ⟨rfl, vals', HF.out, hH.out.1, hH.out.2.1, hH.out.2.2, HBW.out⟩
end Go.Proofs.YtggkbhafbhhhhacGreat
/-
  WALK: package sift: Those, with whatever closure.
-/
namespace Go.Proofs.YtggkbhafbhhhhacGreat
open Go.RowKit

theorem Tryz.infoInts : (Tryz.prog.info? 36).map (fun i => (i.zero, i.size, i.bytes)) = some (some (.slice none 0 0), 1, 24) := by kernel_rfl
theorem Tryz.infoInt : (Tryz.prog.info? 3).map (fun i => (i.zero, i.size, i.bytes)) = some (some (.int .i64 0), 1, 8) := by kernel_rfl
theorem Tryz.underStore : Tryz.prog.underlying 27 = some (.slice 36) := by kernel_rfl

/-- A store is made: all of its rows are nil. -/
theorem make_store (n : Nat) (hn : n ≤ 6) (w : World) : ∃ w', Sem.run Tryz.prog (Instr.makeSlice 27 (.int .i64 (n : Int)) (.int .i64 (n : Int))) w = .ok (.slice (some ⟨w.heap.size, 0, none⟩) n n) w' ∧
    (∀ M, SRows w' w.heap.size w.heap.size n (List.replicate n (.slice none 0 0)) M 0) ∧ Below w.heap.size w w' := by
  obtain ⟨i0, hi, hz0, hz1, hz2⟩ := info_parts Tryz.infoInts
  obtain ⟨w', hrun, hown, hg⟩ := run_makeSlice_full w w.heap.size 27 36 i0 (.slice none 0 0) 1 Tryz.underStore hi hz0 hz1 .i64 .i64 n (by omega) (by rw [hz2]; omega) (by unfold maxLen; omega) (Nat.le_refl _)
  refine ⟨w', hrun, fun M => ⟨?_, fun i r hi => absurd hi (Nat.not_lt_zero _), fun i _ hn => by simp [hn]⟩, (Below.refl _ _).grown hg (Nat.le_refl _) (fun k h => by cases h)⟩
  have : (Value.slice none 0 0).cells = #[.slice none 0 0] := rfl
  rw [this, Nat.mul_one, toList_madeCells_one] at hown
  exact hown

theorem one_laid (w : World) (z : Int) : ∀ (j : Nat) (u : Value), [Value.int .i64 z][j]? = some u → (w.alloc (.cells #[.int .i64 z] 3)).cell? ((⟨w.heap.size, 0, none⟩ : Addr).add j) = some u := by
  intro j u hj
  match j, hj with
  | 0, hj => simp at hj; subst hj; simp [Addr.add]

/-- A closure over a variable and a value that only reads what is old. -/
def ClosS (F : Nat) (caps : Array Value) (s : Sto) (p : Nat → Int → Bool) (w : World) : Prop :=
  (∀ (args : Array Value) (w' : World), Sem.run Tryz.prog (callFunc F args) w' = .ok (.enter F args) w') ∧
  ∀ (k : Nat) (r : List Int) (z : Int) (w' : World), s[k]? = some r → z ∈ r → Below w.heap.size w w' → Calls Tryz.prog F (#[.int .i64 k, .int .i64 z] ++ caps) w' fun e w'' => e = .returned (.bool (p k z)) ∧ Below w'.heap.size w' w''
theorem filt_hit (q : Int → Bool) (r : List Int) (j : Nat) (z : Int) (hz : r[j]? = some z) (h : q z = true) : (r.take (j + 1)).filter q = (r.take j).filter q ++ [z] := by
  rw [List.take_add_one, hz, List.filter_append]; simp [h]
theorem filt_miss (q : Int → Bool) (r : List Int) (j : Nat) (z : Int) (hz : r[j]? = some z) (h : q z = false) : (r.take (j + 1)).filter q = (r.take j).filter q := by
  rw [List.take_add_one, hz, List.filter_append]; simp [h]
theorem filt_short (q : Int → Bool) (r : List Int) (j : Nat) : ((r.take j).filter q).length ≤ r.length :=
  Nat.le_trans (List.length_filter_le _ _) (by rw [List.length_take]; omega)

set_option maxHeartbeats 1600000 in
set_option maxRecDepth 100000 in
theorem sift_any (F : Nat) (caps : Array Value) (s : Sto) (p : Nat → Int → Bool) (v : Value) (w : World) (hv : RArg w v s) (hF : ClosS F caps s p w) (hn : s.length ≤ 6) (hr6 : ∀ r ∈ s, r.length ≤ 6) :
    Calls Tryz.prog 21 #[v, .func (.func F) #[] caps] w fun e w' => ∃ x, e = .returned x ∧ RArg w' x (siftS s p) ∧ Below w.heap.size w w' := by
  obtain ⟨a3, c3, rfl, hl3, hr3⟩ := hv
  have HV3 : Hid (∀ (i : Nat) (r : List Int), s[i]? = some r → ∃ b off x, a3 = some ⟨b, off, none⟩ ∧ b < w.heap.size ∧ w.cell? ⟨b, off + i, none⟩ = some x ∧ IArg w x r) := hr3
  have HF : Hid (ClosS F caps s p w) := hF
  have HR6 : Hid (∀ r ∈ s, r.length ≤ 6) := hr6
  unfold maxLen at hl3
  obtain ⟨hl31, hl3⟩ := hl3
  obtain ⟨wm, hrun, hrows, hbm⟩ := make_store s.length hn w
  have HROWS : Hid (∀ M, SRows wm w.heap.size w.heap.size s.length (List.replicate s.length (.slice none 0 0)) M 0) := hrows
  have HBM : Hid (Below w.heap.size w wm) := hbm
  obtain ⟨B, hB⟩ : ∃ B, B = w.heap.size := ⟨_, rfl⟩
  rw [← hB] at hrun HROWS
  have hBw : w.heap.size ≤ B := by omega
  obtain ⟨i0, hi, hz0, hz1, hz2⟩ := info_parts Tryz.infoInt
  clear hr3 hF hr6 hrows hbm hB
  go_enter Tryz.func21, Tryz.ntmps21
  go_wp2_with fail
  clear hrun
  go_loopw [15] (fun i wr => ∃ (k : Nat) (cells : List Value), k ≤ s.length ∧ i = .int .i64 k ∧ SRows wr B B s.length cells (siftS s p) k ∧ Below w.heap.size w wr) (fun i _ => s.length - (intOf i).toNat)
  case atStart => exact ⟨0, _, by omega, rfl, HROWS.out _, HBM.out⟩
  case round =>
    obtain ⟨k, cells, hk, rfl, hrow, hbw⟩ := hrel
    have HROW : Hid (SRows wr B B s.length cells (siftS s p) k) := hrow
    have HBW : Hid (Below w.heap.size w wr) := hbw
    clear hrow hbw
    by_cases hlt : k < s.length
    · obtain ⟨r, hr⟩ : ∃ r, s[k]? = some r := ⟨s[k], by simp [hlt]⟩
      have HM : Hid ((siftS s p)[k]? = some (r.filter (p k))) := siftS_get s p k r hr
      have hr6 : r.length ≤ 6 := HR6.out r (List.mem_of_getElem? hr)
      have HR : Hid (s[k]? = some r) := hr
      obtain ⟨b, off, x, hax, hb, hc0, hix⟩ := HV3.out k r hr
      subst hax
      have hc := (HBW.out.cell (p := ⟨b, off + k, none⟩) hb).trans hc0
      obtain ⟨a5, c5, rfl, hm5, hr5⟩ := hix
      have HR5 : Hid (∀ (i : Nat) (z : Int), r[i]? = some z → ∃ b off, a5 = some ⟨b, off, none⟩ ∧ b < w.heap.size ∧ w.cell? ⟨b, off + i, none⟩ = some (.int .i64 z)) := hr5
      unfold maxLen at hm5
      obtain ⟨hm51, hm5⟩ := hm5
      obtain ⟨K, HIN⟩ : ∃ K, Hid (SRowsIn wr B B s.length cells (siftS s p) k K []) := ⟨_, HROW.out.into hlt⟩
      clear hr hc0 hr5 hb
      obtain ⟨wo, rfl⟩ : ∃ wo : World, wo = wr := ⟨_, rfl⟩
      go_wp2_with fail
      clear hc
      go_loopw [22] (fun i wr => ∃ (j : Nat) (cells : List Value), j ≤ r.length ∧ i = .int .i64 j ∧ SRowsIn wr B B s.length cells (siftS s p) k K ((r.take j).filter (p k)) ∧ Below w.heap.size w wr) (fun i _ => r.length - (intOf i).toNat)
      case atStart => exact ⟨0, cells, by omega, rfl, HIN.out, HBW.out⟩
      case round =>
        obtain ⟨j, cells, hj, rfl, hin, hbw⟩ := hrel
        have HIN2 : Hid (SRowsIn wr B B s.length cells (siftS s p) k K ((r.take j).filter (p k))) := hin
        have HBW2 : Hid (Below w.heap.size w wr) := hbw
        clear hin hbw
        by_cases hlj : j < r.length
        · obtain ⟨z, hz⟩ : ∃ z, r[j]? = some z := ⟨r[j], by simp [hlj]⟩
          obtain ⟨b5, off5, ha5, hb5, hc5⟩ := HR5.out j z hz
          have HZ : Hid (r[j]? = some z) := hz
          subst ha5
          have hc := (HBW2.out.cell (p := ⟨b5, off5 + j, none⟩) hb5).trans hc5
          clear hz hc5 hb5
          cases hq : p k z
          · have HN : Hid ((r.take (j + 1)).filter (p k) = (r.take j).filter (p k)) := filt_miss (p k) r j z HZ.out hq
            go_wp2_with fail
            rw [HF.out.1, Oper.upon_enter]
            refine (HF.out.2 k r z _ HR.out (List.mem_of_getElem? HZ.out) HBW2.out).mono ?_
            rintro e w1 ⟨rfl, hb1⟩
            rw [hq]
            have HIN3 := HIN2.out.kept hb1
            have HB3 : Hid (Below w.heap.size w w1) := HBW2.out.trans (hb1.mono HBW2.out.size)
            clear hq hb1
            go_wp2
            go_roundw
            case rel => exact ⟨j + 1, cells, by omega, by go_num, by rw [HN.out]; exact HIN3, HB3.out⟩
            case measure => simp [intOf]; omega
          · have HN : Hid ((r.take (j + 1)).filter (p k) = (r.take j).filter (p k) ++ [z]) := filt_hit (p k) r j z HZ.out hq
            obtain ⟨acc, hacc⟩ : ∃ acc, (r.take j).filter (p k) = acc := ⟨_, rfl⟩
            have hal : acc.length ≤ 6 := by rw [← hacc]; exact Nat.le_trans (filt_short (p k) r j) hr6
            rw [hacc] at HN HIN2
            clear hacc
            go_wp2_with fail
            rw [HF.out.1, Oper.upon_enter]
            refine (HF.out.2 k r z _ HR.out (List.mem_of_getElem? HZ.out) HBW2.out).mono ?_
            rintro e w1 ⟨rfl, hb1⟩
            rw [hq]
            have HIN3 : Hid (SRowsIn w1 B B s.length cells (siftS s p) k K acc) := HIN2.out.kept hb1
            have HB3 : Hid (Below w.heap.size w w1) := HBW2.out.trans (hb1.mono HBW2.out.size)
            clear hq hb1 hc HIN2 HBW2
            obtain ⟨htop, _, ⟨x, hx, hox⟩, _, hBK, hKw, _⟩ := HIN3.out
            obtain ⟨ax, cx, rfl⟩ := own_form hox
            have HX : Hid (cells[k]? = some (.slice ax acc.length cx)) := hx
            have hcx : w1.cell? ⟨B, k, none⟩ = some (.slice ax acc.length cx) := by rw [htop.cellAt k (by omega)]; exact hx
            have hlB : B < w1.heap.size := by omega
            clear hx
            go_wp2_with (at_builtin; refine wpList_append_own _ rfl _ _ 36 rfl K 3 i0 (.int .i64 0) 1 8 Tryz.underlying36 hi hz0 hz1 hz2 rfl (by decide) _ _ _ rfl (hox.alloc _) ⟨w1.heap.size, 0, none⟩ 1 1 [.int .i64 z] rfl rfl ?c1 ?c2 ?c3 ?c4 ?c5 ?_)
            case c1 => exact one_laid w1 z
            case c2 => intro u hu; rcases List.mem_singleton.1 hu with rfl; rfl
            case c3 => unfold maxLen; omega
            case c4 => omega
            case c5 => simp; omega
            intro v3 w3 hown3 hgrow _
            have hown4 : w3.ownsRow K 3 1 v3 (acc ++ [z]).length ((acc ++ [z]).map (Value.int .i64)) := by
              rw [List.length_append, List.map_append]; exact hown3
            have HPUSH : Hid (SRowsIn (w3.setCell ⟨B, k, none⟩ v3) B B s.length (cells.set k v3) (siftS s p) k K (acc ++ [z])) := (HIN3.out.kept (below_alloc _ _)).push HX.out hown4 hgrow
            have HB4 : Hid (Below w.heap.size w (w3.setCell ⟨B, k, none⟩ v3)) :=
              ((HB3.out.alloc HB3.out.size _).grown hgrow (by have := HB3.out.size; simp; omega) (fun g h => by have := (hox.lt g h).1; omega)).setCell (by simp only; omega) _
            have ht3 : w3.ownsRow B 36 1 (.slice (some ⟨B, 0, none⟩) s.length s.length) s.length cells := (htop.alloc _).kept hgrow (Or.inr (fun h => by have := (hox.lt B h.symm).1; omega))
            have hcB : w3.cell? ⟨B, k, none⟩ = some (.slice ax acc.length cx) := by rw [ht3.cellAt k (by omega)]; exact HX.out
            have hfB : w3.frozen? ⟨B, k, none⟩ = false := ht3.frozenAt k
            obtain ⟨av, cv, rfl⟩ := own_form hown4
            rw [show (acc ++ [z]).length = acc.length + 1 by simp] at HPUSH HB4
            clear hown3 hgrow hown4 hox hcx htop ht3
            go_wp2
            go_roundw
            case rel => exact ⟨j + 1, _, by omega, by go_num, by rw [HN.out]; exact HPUSH.out, HB4.out⟩
            case measure => simp [intOf]; omega
        · have HN : Hid ((r.take j).filter (p k) = r.filter (p k)) := by show _ = _; rw [List.take_of_length_le (by omega)]
          have HD : Hid (SRows wr B B s.length cells (siftS s p) (k + 1)) := HIN2.out.done (by rw [HN.out]; exact HM.out)
          go_wp2
          go_roundw
          case rel => exact ⟨k + 1, cells, by omega, by go_num, HD.out, HBW2.out⟩
          case measure => simp [intOf]; omega
    · have hks : k = s.length := by omega
      have HFN : Hid (RArg wr (.slice (some ⟨B, 0, none⟩) s.length s.length) (siftS s p)) := by
        have h := HROW.out
        rw [hks] at h
        exact h.rarg (siftS_len s p)
      clear hks
      go_wp2
      go_ret
      exact ⟨_, rfl, HFN.out, HBW.out⟩
end Go.Proofs.YtggkbhafbhhhhacGreat
/-
  WALKS: package store: Meet.
-/
namespace Go.Proofs.YtggkbhafbhhhhacGreat
open Go.RowKit

def meetA (m : Mod) (s t : Sto) : Sto × Int := if checkL m [s, t] = 0 then (meetS s t, 0) else ([], checkL m [s, t])
theorem rows_short (m : Mod) (s : Sto) (hm : checkM m = 0) (hs : checkV m.vars s = 0) : s.length ≤ 6 ∧ ∀ r ∈ s, r.length ≤ 6 := by
  have h1 := (checkM_vars m hm).2.1
  have h2 := ((checkV_ok _ _).1 hs).1
  refine ⟨by omega, fun r hr => ?_⟩
  obtain ⟨i, hi⟩ := List.mem_iff_getElem?.1 hr
  exact row_short m s hm hs i r hi

set_option maxHeartbeats 400000 in
set_option maxRecDepth 100000 in
theorem shared_any (t : Sto) (v : Value) (b1 k : Nat) (r : List Int) (z : Int) (w : World) (hv : RArg w v t) (ht : t[k]? = some r) (h1 : w.cell? ⟨b1, 0, none⟩ = some v) :
    Calls Tryz.prog 66 #[.int .i64 k, .int .i64 z, .pointer (some ⟨b1, 0, none⟩)] w fun e w' => e = .returned (.bool (hasB r z)) ∧ Below w.heap.size w w' := by
  obtain ⟨a', c, rfl, hm, hr⟩ := hv
  have hkl : k < t.length := (List.getElem?_eq_some_iff.1 ht).1
  obtain ⟨b, off, x, rfl, hlt, hc, hx⟩ := hr k r ht
  have HX : Hid (IArg w x r) := hx
  obtain ⟨a3, c3, rfl, _, _⟩ := hx
  unfold maxLen at hm
  obtain ⟨hm1, hm⟩ := hm
  clear hr ht
  go_enter Tryz.func66, Tryz.ntmps66
  go_wp2_with fail
  refine (contains_ints r _ z _ HX.out).mono ?_
  rintro e w ⟨rfl, rfl⟩
  go_wp2
  go_ret
  exact ⟨rfl, Below.refl _ _⟩
theorem enters_shared (args : Array Value) (w' : World) : Sem.run Tryz.prog (callFunc 66 args) w' = .ok (.enter 66 args) w' := by
  simp [callFunc, go_sem, Tryz.func66, Tryz.f66]

set_option maxHeartbeats 1600000 in
set_option maxRecDepth 100000 in
theorem smeet_any (m : Mod) (s t : Sto) (vs cs v u : Value) (w : World) (hm : MArg w vs cs m) (hv : RArg w v s) (hu : RArg w u t) :
    Calls Tryz.prog 37 #[modV vs cs m, v, u] w fun e w' => ∃ x, e = .returned (.tuple #[x, .int .i64 (meetA m s t).2]) ∧ RArg w' x (meetA m s t).1 ∧ Below w.heap.size w w' := by
  have HMA : Hid (∀ w' : World, Below w.heap.size w w' → MArg w' vs cs m) := fun w' h => MArg.below h hm
  have HVA : Hid (∀ w' : World, Below w.heap.size w w' → RArg w' v s) := fun w' h => RArg.below h hv
  have HUA : Hid (∀ w' : World, Below w.heap.size w w' → RArg w' u t) := fun w' h => RArg.below h hu
  obtain ⟨⟨a1, c1, rfl, _, _⟩, ⟨a2, c2, rfl, _, _⟩⟩ := hm
  obtain ⟨a3, c3, rfl, _, _⟩ := hv
  obtain ⟨a4, c4, rfl, _, _⟩ := hu
  obtain ⟨R, hR⟩ : ∃ R, meetA m s t = R := ⟨_, rfl⟩
  rw [hR]
  obtain ⟨er, her⟩ : ∃ er, checkL m [s, t] = er := ⟨_, rfl⟩
  have HER : Hid (checkL m [s, t] = er) := her
  have HE : Hid (R = if er = 0 then (meetS s t, 0) else ([], er)) := by rw [← hR, ← her]; rfl
  have HOK : Hid (er = 0 → checkM m = 0 ∧ checkV m.vars s = 0 ∧ checkV m.vars t = 0) := by
    intro h0
    rwa [← her, checkL_two] at h0
  clear hR her
  unfold modV
  go_enter Tryz.func37, Tryz.ntmps37
  go_wp2_with fail
  refine (check_any2 m [s, t] (.slice a1 m.vars.length c1) (.slice a2 m.cons.length c2) _ _ ?_ ?_).mono ?_
  · exact HMA.out _ (((below_alloc _ _).alloc (by simp) _).alloc (by simp; omega) _)
  · exact garg_two (by simp) (HVA.out _ ((below_alloc _ _).alloc (by simp) _)) (HUA.out _ ((below_alloc _ _).alloc (by simp) _))
  rintro e w1 ⟨rfl, hb1⟩
  rw [HER.out]
  have d1 : w1.cell? ⟨w.heap.size + 1, 0, none⟩ = some (.slice a4 t.length c4) := by
    refine (hb1.cell (by simp)).trans ((World.cell?_alloc_past _ _ _ (by simp)).trans ?_)
    exact World.cell?_alloc_at _ _ _ 0 (by simp)
  have HB1 : Hid (Below w.heap.size w w1) := (((below_alloc _ _).alloc (by simp) _).alloc (by simp; omega) _).trans (hb1.mono (by simp; omega))
  have hs1 : w.heap.size + 3 ≤ w1.heap.size := by simpa using hb1.size
  clear hb1
  by_cases he : er = 0
  · subst he
    have HOK2 : Hid (checkM m = 0 ∧ checkV m.vars s = 0 ∧ checkV m.vars t = 0) := HOK.out rfl
    have HL2 : Hid (t.length = s.length) := by
      have h2 := ((checkV_ok _ _).1 HOK2.out.2.1).1
      have h3 := ((checkV_ok _ _).1 HOK2.out.2.2).1
      exact h3.trans h2.symm
    obtain ⟨hn6, hr6⟩ := rows_short m s HOK2.out.1 HOK2.out.2.1
    have HR6 : Hid (∀ r ∈ s, r.length ≤ 6) := hr6
    have HE2 : Hid (R = (siftS s (fun k z => hasB (t.getD k []) z), 0)) := by rw [HE.out, if_pos rfl, meetS_sift s t HL2.out]; rfl
    clear hr6
    go_wp2_with fail
    refine (sift_any 66 #[.pointer (some ⟨w.heap.size + 1, 0, none⟩)] s (fun k z => hasB (t.getD k []) z) _ _ (HVA.out _ HB1.out) ⟨enters_shared, ?_⟩ hn6 HR6.out).mono ?_
    · intro k r z w' hk _ hb'
      have hkl : k < t.length := by rw [HL2.out]; exact (List.getElem?_eq_some_iff.1 hk).1
      have hq : t[k]? = some t[k] := by simp [hkl]
      have := shared_any t _ (w.heap.size + 1) k _ z w' (HUA.out _ (HB1.out.trans (hb'.mono HB1.out.size))) hq ((hb'.cell (by simp only; omega)).trans d1)
      have e1 : t.getD k [] = t[k] := by rw [List.getD_eq_getElem?_getD, hq]; rfl
      show Calls Tryz.prog _ _ w' fun e w'' => e = .returned (.bool (hasB (t.getD k []) z)) ∧ _
      rw [e1]
      exact this
    rintro e w2 ⟨x, rfl, hx, hb2⟩
    have HX : Hid (RArg w2 x (siftS s (fun k z => hasB (t.getD k []) z))) := hx
    have hb3 : Below w.heap.size w w2 := HB1.out.trans (hb2.mono (by omega))
    obtain ⟨ax, cx, rfl, _, _⟩ := hx
    clear hb2
    go_wp2
    go_ret2
    rw [HE2.out]
    exact ⟨_, rfl, HX.out, hb3⟩
  · have HN : Hid (R = ([], er)) := by rw [HE.out, if_neg he]; rfl
    have he2 : (er != 0) = true := by simpa using he
    clear he
    go_wp2
    go_ret2
    rw [HN.out]
    exact ⟨_, rfl, ⟨_, _, rfl, ⟨Nat.le_refl _, Nat.zero_le _⟩, fun i r h => by simp at h⟩, HB1.out⟩
end Go.Proofs.YtggkbhafbhhhhacGreat
/-
  PLAIN: literals, and what the program's calls say of them; that a literal and its opposite part the values.
-/
namespace Go.Proofs.YtggkbhafbhhhhacGreat

def litE (vs : List MVar) (l : MLit) : Int :=
  if l.var < 0 ∨ (vs.length : Int) ≤ l.var then 5 else if l.op < 1 ∨ 4 < l.op then 7 else if l.n < -1000 ∨ 1000 < l.n then 3 else 0
def lcheckA (m : Mod) (l : MLit) : Int := if checkM m = 0 then litE m.vars l else checkM m
def lholdsA (m : Mod) (l : MLit) (x : Int) : Bool × Int := if lcheckA m l = 0 then (litV x l, 0) else (false, lcheckA m l)
def oppL (l : MLit) : MLit := if l.op = 1 then ⟨l.var, 2, l.n + 1⟩ else if l.op = 2 then ⟨l.var, 1, l.n - 1⟩ else if l.op = 3 then ⟨l.var, 4, l.n⟩ else ⟨l.var, 3, l.n⟩
def noLit : MLit := ⟨0, 0, 0⟩
def lnotA (m : Mod) (l : MLit) : MLit × Int :=
  if lcheckA m l = 0 then (if litE m.vars (oppL l) = 0 then (oppL l, 0) else (noLit, litE m.vars (oppL l))) else (noLit, lcheckA m l)
def linE (m : Mod) (s : Sto) (l : MLit) : Int := if checkL m [s] = 0 then litE m.vars l else checkL m [s]
def heldN (r : List Int) (l : MLit) : Nat := (r.filter fun x => litV x l).length
def toldR (r : List Int) (l : MLit) : Int := if heldN r l = 0 then -1 else if heldN r l = r.length then 1 else 0
def rowOf (s : Sto) (l : MLit) : List Int := s.getD l.var.toNat []
def ltoldA (m : Mod) (s : Sto) (l : MLit) : Int × Int := if linE m s l = 0 then (toldR (rowOf s l) l, 0) else (0, linE m s l)
def putB (l : MLit) (k : Nat) (z : Int) : Bool := decide ((k : Int) ≠ l.var) || litV z l
def putS (s : Sto) (l : MLit) : Sto := siftS s (putB l)
def lputA (m : Mod) (s : Sto) (l : MLit) : Sto × Int := if linE m s l = 0 then (putS s l, 0) else ([], linE m s l)

theorem litE_ok (vs : List MVar) (l : MLit) : litE vs l = 0 ↔ (0 ≤ l.var ∧ l.var < vs.length) ∧ (1 ≤ l.op ∧ l.op ≤ 4) ∧ (-1000 ≤ l.n ∧ l.n ≤ 1000) := by
  unfold litE
  split
  · constructor
    · intro h; cases h
    · intro h; omega
  · split
    · constructor
      · intro h; cases h
      · intro h; omega
    · split
      · constructor
        · intro h; cases h
        · intro h; omega
      · constructor
        · intro _; omega
        · intro _; rfl
theorem oppL_var (l : MLit) : (oppL l).var = l.var := by
  unfold oppL
  split
  · rfl
  · split
    · rfl
    · split <;> rfl
theorem oppL_op (l : MLit) : 1 ≤ (oppL l).op ∧ (oppL l).op ≤ 4 := by
  unfold oppL
  split
  · simp
  · split
    · simp
    · split <;> simp
theorem litV_opp (x : Int) (l : MLit) (h : 1 ≤ l.op ∧ l.op ≤ 4) : litV x (oppL l) = !litV x l := by
  rcases (show l.op = 1 ∨ l.op = 2 ∨ l.op = 3 ∨ l.op = 4 by omega) with h | h | h | h
  · simp only [oppL, litV, h]
    simp
    by_cases q : x ≤ l.n
    · rw [decide_eq_true q, decide_eq_false (by omega)]; rfl
    · rw [decide_eq_false q, decide_eq_true (by omega)]; rfl
  · simp only [oppL, litV, h]
    simp
    by_cases q : l.n ≤ x
    · rw [decide_eq_true q, decide_eq_false (by omega)]; rfl
    · rw [decide_eq_false q, decide_eq_true (by omega)]; rfl
  · simp only [oppL, litV, h]
    simp [bne]
  · simp only [oppL, litV, h]
    simp [bne]
theorem linE_ok (m : Mod) (s : Sto) (l : MLit) (h : linE m s l = 0) : checkL m [s] = 0 ∧ litE m.vars l = 0 := by
  unfold linE at h
  split at h
  · rename_i h0; exact ⟨h0, h⟩
  · contradiction
theorem checkL_one (m : Mod) (s : Sto) : checkL m [s] = 0 ↔ checkM m = 0 ∧ checkV m.vars s = 0 := by
  unfold checkL
  by_cases h : checkM m = 0
  · rw [if_pos h]
    simp only [List.map, firstE]
    by_cases h1 : checkV m.vars s = 0
    · simp [h, h1]
    · simp [h1]
  · rw [if_neg h]; simp [h]
theorem put_row (s : Sto) (l : MLit) (i : Nat) (hi : l.var = (i : Int)) (r : List Int) (hr : s[i]? = some r) : (putS s l)[i]? = some (r.filter fun z => litV z l) := by
  unfold putS
  rw [siftS_get s _ i r hr]
  congr 1
  refine List.filter_congr fun z _ => ?_
  unfold putB
  rw [hi]; simp
theorem held_parts (r : List Int) (l : MLit) (h : 1 ≤ l.op ∧ l.op ≤ 4) : heldN r l + heldN r (oppL l) = r.length := by
  unfold heldN
  induction r with
  | nil => rfl
  | cons a r ih =>
    rw [List.filter_cons, List.filter_cons, litV_opp a l h]
    cases litV a l <;> simp <;> omega
theorem lcheck_ok (m : Mod) (l : MLit) (h : lcheckA m l = 0) : checkM m = 0 ∧ litE m.vars l = 0 := by
  unfold lcheckA at h
  split at h
  · rename_i h0; exact ⟨h0, h⟩
  · contradiction
end Go.Proofs.YtggkbhafbhhhhacGreat
