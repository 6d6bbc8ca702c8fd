/-
  WALK: the reference's SameStore.
-/
import Derived.Test.YtggkbhafbhhhhabStoD
import Derived.Test.YtggkbhafbhhhhabRefI
namespace Go.Proofs.Ytggkbhafbhhhhab
open Go.RowKit

set_option maxHeartbeats 800000 in
set_option maxRecDepth 100000 in
theorem samestore_any (s t : Sto) (v u : Value) (w : World) (hv : RArg w v s) (hu : RArg w u t) :
    Calls Try.prog 42 #[v, u] w fun e w' => e = .returned (.bool (decide (s = t))) ∧ ∃ n, w' = w.drewN n := by
  obtain ⟨a, c, rfl, hm, hr⟩ := hv
  obtain ⟨a', c', rfl, hm', hr'⟩ := hu
  have HV : Hid (∀ (i : Nat) (r : List Int), s[i]? = some r → ∃ b off x, a = some ⟨b, off, none⟩ ∧ b < w.heap.size ∧ w.cell? ⟨b, off + i, none⟩ = some x ∧ IArg w x r) := hr
  have HV' : Hid (∀ (i : Nat) (r : List Int), t[i]? = some r → ∃ b off x, a' = some ⟨b, off, none⟩ ∧ b < w.heap.size ∧ w.cell? ⟨b, off + i, none⟩ = some x ∧ IArg w x r) := hr'
  obtain ⟨R, hR⟩ : ∃ R, decide (s = t) = R := ⟨_, rfl⟩
  rw [hR]
  have HR : Hid (decide (s = t) = R) := hR
  unfold maxLen at hm hm'
  obtain ⟨hm1, hm⟩ := hm
  obtain ⟨hm1', hm'⟩ := hm'
  clear hr hr' hR
  by_cases hl : s.length = t.length
  · have HL : Hid (s.length = t.length) := hl
    have g0 : ((s.length : Int) != (t.length : Int)) = false := by simp [hl]
    clear hl
    go_enter Try.func42, Try.ntmps42
    go_wp2_with fail
    go_loopw [5] (fun i wr => ∃ m : Nat, m ≤ s.length ∧ i = .int .i64 m ∧ Hid (s.take m = t.take m) ∧ ∃ n, wr = w.drewN n) (fun i _ => s.length - (intOf i).toNat)
    case atStart => exact ⟨0, by omega, rfl, rfl, 0, rfl⟩
    case round =>
      obtain ⟨m, hml, rfl, hall, nq, rfl⟩ := hrel
      by_cases hlt : m < s.length
      · have hlt' : m < t.length := by rw [← HL.out]; exact hlt
        obtain ⟨x, hx⟩ : ∃ x, s[m]? = some x := ⟨s[m], by simp [hlt]⟩
        obtain ⟨y, hy⟩ : ∃ y, t[m]? = some y := ⟨t[m], by simp [hlt']⟩
        obtain ⟨b, off, vx, ha, hb, hc, hix⟩ := HV.out m x hx
        obtain ⟨b', off', vy, ha', hb', hd, hiy⟩ := HV'.out m y hy
        have HX : Hid (s[m]? = some x) := hx
        have HY : Hid (t[m]? = some y) := hy
        have HIX : Hid (IArg w vx x) := hix
        have HIY : Hid (IArg w vy y) := hiy
        obtain ⟨a5, c5, rfl, _, _⟩ := hix
        obtain ⟨a6, c6, rfl, _, _⟩ := hiy
        subst ha; subst ha'
        clear hx hy
        have HS : Hid (∀ p q, Calls Try.prog 59 #[.slice a5 x.length c5, .slice a6 y.length c6] (w.drewN (p + q)) fun e w' => e = .returned (.bool (decide (x = y))) ∧ ∃ n, w' = w.drewN (p + n)) := by
          intro p q
          refine (sameints_any x y _ _ (w.drewN (p + q)) HIX.out HIY.out).mono ?_
          rintro e w' ⟨rfl, n, rfl⟩
          exact ⟨rfl, q + n, by rw [drewN_drewN, Nat.add_assoc]⟩
        by_cases hq : x = y
        · have hq2 : decide (x = y) = true := decide_eq_true hq
          have HN : Hid (s.take (m + 1) = t.take (m + 1)) := take_same s t m x hall.out HX.out (by rw [hq]; exact HY.out)
          rw [hq2] at HS
          clear hq hq2
          go_wp2
          go_quiet ((go_at_call 59; exact HS.out _ _))
          go_wp2
          go_roundw
          case rel => exact ⟨m + 1, by omega, by go_num, HN, _, rfl⟩
          case measure => simp [intOf]; omega
        · have hq2 : decide (x = y) = false := decide_eq_false hq
          have HN : Hid (R = false) := by rw [← HR.out]; exact decide_eq_false (not_same s t m x y HX.out HY.out hq)
          rw [hq2] at HS
          clear hq hq2
          go_wp2
          go_quiet ((go_at_call 59; exact HS.out _ _))
          go_wp2
          go_ret
          exact ⟨ret_bool HN.out.symm, _, drewN_drewN _ _ _⟩
      · have HN : Hid (R = true) := by rw [← HR.out]; exact decide_eq_true (same_end s t m hall.out hlt HL.out)
        go_wp2
        go_ret
        exact ⟨ret_bool HN.out.symm, _, rfl⟩
  · have HN : Hid (R = false) := by rw [← HR.out]; exact decide_eq_false (fun h => hl (by rw [h]))
    have g0 : ((s.length : Int) != (t.length : Int)) = true := by simp; omega
    clear hl
    go_enter Try.func42, Try.ntmps42
    go_wp2
    go_ret
    exact ⟨ret_bool HN.out.symm, 0, rfl⟩
end Go.Proofs.Ytggkbhafbhhhhab
