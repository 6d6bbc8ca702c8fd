/-
  WALKS: the reference's HasInt, HasFailed; the statements' has.
-/
import Derived.Test.YtggkbhafbhhhhadGreatStoD
import Derived.Test.YtggkbhafbhhhhadGreatSifPlain
namespace Go.Proofs.YtggkbhafbhhhhadGreat
open Go.RowKit

theorem hasB_flip (l : List Int) (n : Int) : hasB l n = l.any fun k => k == n := by
  unfold hasB
  congr 1
  funext k
  exact Bool.beq_comm
set_option maxHeartbeats 400000 in
set_option maxRecDepth 100000 in
theorem hasint_any (l : List Int) (v : Value) (n : Int) (w : World) (hv : IArg w v l) :
    Calls Tryz.prog 45 #[v, .int .i64 n] w fun e w' => e = .returned (.bool (hasB l n)) ∧ w' = w := by
  obtain ⟨a, c, rfl, hm, hr⟩ := hv
  have HV : Hid (∀ (i : Nat) (z : Int), l[i]? = some z → ∃ b off, a = some ⟨b, off, none⟩ ∧ b < w.heap.size ∧ w.cell? ⟨b, off + i, none⟩ = some (.int .i64 z)) := hr
  obtain ⟨R, hR⟩ : ∃ R, hasB l n = R := ⟨_, rfl⟩
  rw [hR]
  have HR : Hid ((l.any fun k => k == n) = R) := by show _ = _; rw [← hR, hasB_flip]
  unfold maxLen at hm
  obtain ⟨hm1, hm⟩ := hm
  clear hr hR
  go_enter Tryz.func45, Tryz.ntmps45
  go_wp2_with fail
  go_loop [5] (fun i => ∃ m : Nat, m ≤ l.length ∧ i = .int .i64 m ∧ Hid ((l.take m).any (fun k => k == n) = false)) (fun i => l.length - (intOf i).toNat)
  case atStart => exact ⟨0, by omega, rfl, rfl⟩
  case round =>
    obtain ⟨m, hml, rfl, hall⟩ := hrel
    by_cases hlt : m < l.length
    · obtain ⟨z, hz⟩ : ∃ z, l[m]? = some z := ⟨l[m], by simp [hlt]⟩
      obtain ⟨b, off, ha, hb, hc⟩ := HV.out m z hz
      have HZ : Hid (l[m]? = some z) := hz
      subst ha
      clear hz
      cases hq : (z == n)
      · have HN : Hid ((l.take (m + 1)).any (fun k => k == n) = false) := any_next (fun k => k == n) l m z HZ.out hall.out hq
        go_wp2
        go_round
        case rel => exact ⟨m + 1, by omega, by go_num, HN⟩
        case measure => simp [intOf]; omega
      · have HN : Hid (R = true) := by rw [← HR.out]; exact any_hit (fun k => k == n) l m z HZ.out hq
        go_wp2
        go_ret
        exact ⟨ret_bool HN.out.symm, rfl⟩
    · have HN : Hid (R = false) := by rw [← HR.out]; exact any_end _ l m hlt hall.out
      go_wp2
      go_ret
      exact ⟨ret_bool HN.out.symm, rfl⟩

set_option maxHeartbeats 400000 in
set_option maxRecDepth 100000 in
theorem hasfailed_any (s : Sto) (v : Value) (w : World) (hv : RArg w v s) :
    Calls Tryz.prog 31 #[v] w fun e w' => e = .returned (.bool (failedS s)) ∧ w' = w := by
  obtain ⟨a, c, rfl, hm, hr⟩ := hv
  have HV : Hid (∀ (i : Nat) (r : List Int), s[i]? = some r → ∃ b off x, a = some ⟨b, off, none⟩ ∧ b < w.heap.size ∧ w.cell? ⟨b, off + i, none⟩ = some x ∧ IArg w x r) := hr
  obtain ⟨R, hR⟩ : ∃ R, failedS s = R := ⟨_, rfl⟩
  rw [hR]
  have HR : Hid ((s.any fun r => decide (r.length = 0)) = R) := hR
  unfold maxLen at hm
  obtain ⟨hm1, hm⟩ := hm
  clear hr hR
  go_enter Tryz.func31, Tryz.ntmps31
  go_wp2_with fail
  go_loop [3] (fun i => ∃ m : Nat, m ≤ s.length ∧ i = .int .i64 m ∧ Hid ((s.take m).any (fun r => decide (r.length = 0)) = false)) (fun i => s.length - (intOf i).toNat)
  case atStart => exact ⟨0, by omega, rfl, rfl⟩
  case round =>
    obtain ⟨m, hml, rfl, hall⟩ := hrel
    by_cases hlt : m < s.length
    · obtain ⟨r, hz⟩ : ∃ r, s[m]? = some r := ⟨s[m], by simp [hlt]⟩
      obtain ⟨b, off, x, ha, hb, hc, hx⟩ := HV.out m r hz
      obtain ⟨a5, c5, rfl, _, _⟩ := hx
      have HZ : Hid (s[m]? = some r) := hz
      subst ha
      clear hz
      by_cases h0 : r.length = 0
      · have HN : Hid (R = true) := by rw [← HR.out]; exact any_hit (fun r : List Int => decide (r.length = 0)) s m r HZ.out (decide_eq_true h0)
        have g0 : ((r.length : Int) == 0) = true := by simp [h0]
        clear h0
        go_wp2
        go_ret
        exact ⟨ret_bool HN.out.symm, rfl⟩
      · have HN : Hid ((s.take (m + 1)).any (fun r => decide (r.length = 0)) = false) := any_next (fun r : List Int => decide (r.length = 0)) s m r HZ.out hall.out (decide_eq_false h0)
        have g0 : ((r.length : Int) == 0) = false := by simpa using h0
        clear h0
        go_wp2
        go_round
        case rel => exact ⟨m + 1, by omega, by go_num, HN⟩
        case measure => simp [intOf]; omega
    · have HN : Hid (R = false) := by rw [← HR.out]; exact any_end _ s m hlt hall.out
      go_wp2
      go_ret
      exact ⟨ret_bool HN.out.symm, rfl⟩

set_option maxHeartbeats 800000 in
set_option maxRecDepth 100000 in
theorem has_any (s : Sto) (vals : List Int) (v u : Value) (w : World) (hv : RArg w v s) (hu : IArg w u vals) :
    Calls Tryz.prog 17 #[v, u] w fun e w' => e = .returned (.bool (hasS s vals)) ∧ ∃ n, w' = w.drewN n := by
  obtain ⟨a, c, rfl, hm, hr⟩ := hv
  obtain ⟨a', c', rfl, hm', hr'⟩ := hu
  have HV : Hid (∀ (i : Nat) (r : List Int), s[i]? = some r → ∃ b off x, a = some ⟨b, off, none⟩ ∧ b < w.heap.size ∧ w.cell? ⟨b, off + i, none⟩ = some x ∧ IArg w x r) := hr
  have HV' : Hid (∀ (i : Nat) (z : Int), vals[i]? = some z → ∃ b off, a' = some ⟨b, off, none⟩ ∧ b < w.heap.size ∧ w.cell? ⟨b, off + i, none⟩ = some (.int .i64 z)) := hr'
  obtain ⟨R, hR⟩ : ∃ R, hasS s vals = R := ⟨_, rfl⟩
  rw [hR]
  have HR : Hid (hasS s vals = R) := hR
  unfold maxLen at hm hm'
  obtain ⟨hm1, hm⟩ := hm
  obtain ⟨hm1', hm'⟩ := hm'
  clear hr hr' hR
  by_cases hl : s.length = vals.length
  · have HL : Hid (s.length = vals.length) := hl
    have HE : Hid (R = (s.zip vals).all fun p => hasB p.1 p.2) := by show _ = _; rw [← HR.out]; unfold hasS; rw [decide_eq_true hl]; rfl
    have g0 : ((s.length : Int) != (vals.length : Int)) = false := by simp [hl]
    clear hl
    go_enter Tryz.func17, Tryz.ntmps17
    go_wp2_with fail
    go_loopw [5] (fun i wr => ∃ m : Nat, m ≤ s.length ∧ i = .int .i64 m ∧ Hid (((s.zip vals).take m).all (fun p => hasB p.1 p.2) = true) ∧ ∃ n, wr = w.drewN n) (fun i _ => s.length - (intOf i).toNat)
    case atStart => exact ⟨0, by omega, rfl, rfl, 0, rfl⟩
    case round =>
      obtain ⟨m, hml, rfl, hall, nq, rfl⟩ := hrel
      by_cases hlt : m < s.length
      · have hlt' : m < vals.length := by rw [← HL.out]; exact hlt
        obtain ⟨x, hx⟩ : ∃ x, s[m]? = some x := ⟨s[m], by simp [hlt]⟩
        obtain ⟨y, hy⟩ : ∃ y, vals[m]? = some y := ⟨vals[m], by simp [hlt']⟩
        have HG : Hid ((s.zip vals)[m]? = some (x, y)) := by show _ = _; rw [List.getElem?_zip_eq_some]; exact ⟨hx, hy⟩
        obtain ⟨b, off, vx, ha, hb, hc, hix⟩ := HV.out m x hx
        obtain ⟨b', off', ha', hb', hd⟩ := HV'.out m y hy
        have HIX : Hid (IArg w vx x) := hix
        obtain ⟨a5, c5, rfl, _, _⟩ := hix
        subst ha; subst ha'
        clear hx hy
        have HS : Hid (∀ p q, Calls Tryz.prog 45 #[.slice a5 x.length c5, .int .i64 y] (w.drewN (p + q)) fun e w' => e = .returned (.bool (hasB x y)) ∧ ∃ n, w' = w.drewN (p + n)) := by
          intro p q
          refine (hasint_any x _ y (w.drewN (p + q)) HIX.out).mono ?_
          rintro e w' ⟨rfl, rfl⟩
          exact ⟨rfl, q, rfl⟩
        cases hq : hasB x y
        · have HN : Hid (R = false) := by
            rw [HE.out]
            exact all_hit (fun p : List Int × Int => hasB p.1 p.2) (s.zip vals) m (x, y) HG.out hq
          rw [hq] at HS
          clear hq
          go_wp2
          go_quiet ((go_at_call 45; exact HS.out _ _))
          go_wp2
          go_ret
          exact ⟨ret_bool HN.out.symm, _, drewN_drewN _ _ _⟩
        · have HN : Hid (((s.zip vals).take (m + 1)).all (fun p => hasB p.1 p.2) = true) := all_next (fun p : List Int × Int => hasB p.1 p.2) (s.zip vals) m (x, y) HG.out hall.out hq
          rw [hq] at HS
          clear hq
          go_wp2
          go_quiet ((go_at_call 45; exact HS.out _ _))
          go_wp2
          go_roundw
          case rel => exact ⟨m + 1, by omega, by go_num, HN, _, rfl⟩
          case measure => simp [intOf]; omega
      · have HN : Hid (R = true) := by
          rw [HE.out]
          exact all_end _ (s.zip vals) m (by rw [List.length_zip, ← HL.out]; omega) hall.out
        go_wp2
        go_ret
        exact ⟨ret_bool HN.out.symm, _, rfl⟩
  · have HN : Hid (R = false) := by show _ = _; rw [← HR.out]; unfold hasS; rw [decide_eq_false hl]; rfl
    have g0 : ((s.length : Int) != (vals.length : Int)) = true := by simp; omega
    clear hl
    go_enter Tryz.func17, Tryz.ntmps17
    go_wp2
    go_ret
    exact ⟨ret_bool HN.out.symm, 0, rfl⟩
end Go.Proofs.YtggkbhafbhhhhadGreat
