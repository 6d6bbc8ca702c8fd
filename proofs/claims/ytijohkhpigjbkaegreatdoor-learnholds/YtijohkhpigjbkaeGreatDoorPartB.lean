/-
  PART 2 of what the proof leans on (ModD, ModE, ModF, TruA, ModJ, ModK, ModL, ModN).
-/
import Derived.Test.YtijohkhpigjbkaeGreatDoorPartA
import Derived.Laws.OwnMore
import Derived.Maps.OwnSet
import Derived.Maps.AppendAt
import Derived.WalkKit
import Derived.BigQuiet
/-
  WALKS: package model: hasConsts, hasForm, checkCon, checkGoal, Check.
-/
namespace Go.Proofs.YtijohkhpigjbkaeGreatDoor
open Go.RowKit

set_option maxHeartbeats 800000 in
set_option maxRecDepth 100000 in
theorem hasconsts_any (c : MCon) (vv vc vr vl : Value) (w : World) (hk : KArg w vv vc vr vl c) :
    Calls Tryz.prog 165 #[conV vv vc vr vl c] w fun e w' => e = .returned (.bool (constsB c)) ∧ Below w.heap.size w w' := by
  obtain ⟨_, hc2, ⟨a3, c3, rfl, hm3, hr3⟩, _⟩ := hk
  have HC2 : Hid (∀ o : Obj, IArg (w.alloc o) vc c.consts) := fun o => IArg.below (below_alloc _ _) hc2
  have HV : Hid (∀ (i : Nat) (r : List Int), c.rows[i]? = some r → ∃ b off x, a3 = some ⟨b, off, none⟩ ∧ b < w.heap.size ∧ w.cell? ⟨b, off + i, none⟩ = some x ∧ IArg w x r) := hr3
  obtain ⟨R, hR⟩ : ∃ R, constsB c = R := ⟨_, rfl⟩
  rw [hR]
  have hE : R = (c.consts.all isConstB && (isConstB c.n && c.rows.all fun r => r.all isConstB)) := by rw [← hR]; rfl
  unfold maxLen at hm3
  obtain ⟨hm31, hm3⟩ := hm3
  clear hr3 hR hc2
  unfold conV
  cases h1 : c.consts.all isConstB
  · have HN : Hid (R = false) := by rw [hE, h1]; rfl
    have H1 : Hid (c.consts.all isConstB = false) := h1
    clear h1 hE
    go_enter Tryz.func165, Tryz.ntmps165
    go_wp2_with fail
    refine (consts_any c.consts _ _ (HC2.out _)).mono ?_
    rintro e w2 ⟨rfl, hw2⟩
    rw [H1.out, hw2]
    clear hw2
    go_wp2
    go_ret
    exact ⟨ret_bool HN.out.symm, below_alloc _ _⟩
  · have H1 : Hid (c.consts.all isConstB = true) := h1
    cases h2 : isConstB c.n
    · have HN : Hid (R = false) := by rw [hE, h1, h2]; rfl
      have H2 : Hid (isConstB c.n = false) := h2
      clear h1 h2 hE
      go_enter Tryz.func165, Tryz.ntmps165
      go_wp2_with fail
      refine (consts_any c.consts _ _ (HC2.out _)).mono ?_
      rintro e w2 ⟨rfl, hw2⟩
      rw [H1.out, hw2]
      clear hw2
      go_wp2_with fail
      refine (isconst_any _ _).mono ?_
      rintro e w2 ⟨rfl, hw2⟩
      rw [H2.out, hw2]
      clear hw2
      go_wp2
      go_ret
      exact ⟨ret_bool HN.out.symm, below_alloc _ _⟩
    · have HE : Hid (R = c.rows.all fun r => r.all isConstB) := by rw [hE, h1, h2]; rfl
      have H2 : Hid (isConstB c.n = true) := h2
      clear h1 h2 hE
      go_enter Tryz.func165, Tryz.ntmps165
      go_wp2_with fail
      refine (consts_any c.consts _ _ (HC2.out _)).mono ?_
      rintro e w2 ⟨rfl, hw2⟩
      rw [H1.out, hw2]
      clear hw2
      go_wp2_with fail
      refine (isconst_any _ _).mono ?_
      rintro e w2 ⟨rfl, hw2⟩
      rw [H2.out, hw2]
      clear hw2
      go_wp2
      obtain ⟨w0, hw0⟩ : ∃ w0 : World, w0 = w.alloc (.cells #[.int .i64 c.kind, vv, vc, .int .i64 c.n, .slice a3 c.rows.length c3, vl] 88) := ⟨_, rfl⟩
      rw [← hw0]
      have hb0 : Below w.heap.size w w0 := by rw [hw0]; exact below_alloc _ _
      clear hw0
      go_loopw [18] (fun i wr => ∃ m : Nat, m ≤ c.rows.length ∧ i = .int .i64 m ∧ Hid ((c.rows.take m).all (fun r => r.all isConstB) = true) ∧ wr = w0) (fun i _ => c.rows.length - (intOf i).toNat)
      case atStart => exact ⟨0, by omega, rfl, rfl, rfl⟩
      case round =>
        obtain ⟨m, hml, rfl, hall, rfl⟩ := hrel
        by_cases hlt : m < c.rows.length
        · obtain ⟨z, hz⟩ : ∃ z, c.rows[m]? = some z := ⟨c.rows[m], by simp [hlt]⟩
          obtain ⟨b, off, x, ha, hb, hc, hx⟩ := HV.out m z hz
          have hcr := (hb0.cell (p := ⟨b, off + m, none⟩) hb).trans hc
          have HX : Hid (IArg wr x z) := IArg.below hb0 hx
          have HZ : Hid (c.rows[m]? = some z) := hz
          subst ha
          clear hz hc hx
          cases hq : z.all isConstB
          · have HN : Hid (R = false) := by rw [HE.out]; exact all_hit (fun r : List Int => r.all isConstB) c.rows m z HZ.out hq
            have HQ : Hid (z.all isConstB = false) := hq
            clear hq
            go_wp2_with fail
            refine (consts_any z _ _ HX.out).mono ?_
            rintro e w2 ⟨rfl, hw2⟩
            rw [HQ.out, hw2]
            clear hw2
            go_wp2
            go_ret
            exact ⟨ret_bool HN.out.symm, hb0⟩
          · have HN : Hid ((c.rows.take (m + 1)).all (fun r => r.all isConstB) = true) := all_next _ c.rows m z HZ.out hall.out hq
            have HQ : Hid (z.all isConstB = true) := hq
            clear hq
            go_wp2_with fail
            refine (consts_any z _ _ HX.out).mono ?_
            rintro e w2 ⟨rfl, hw2⟩
            rw [HQ.out, hw2]
            clear hw2
            go_wp2
            go_roundw
            case rel => exact ⟨m + 1, by omega, by go_num, HN, by first | rfl | trivial⟩
            case measure => simp [intOf]; omega
        · have HN : Hid (R = true) := by rw [HE.out]; exact all_end _ c.rows m hlt hall.out
          go_wp2
          go_ret
          exact ⟨ret_bool HN.out.symm, hb0⟩

set_option maxHeartbeats 1600000 in
set_option maxRecDepth 100000 in
theorem form_any (c : MCon) (vv vc vr vl : Value) (w : World) (hk : KArg w vv vc vr vl c) (l1 : c.vars.length ≤ 4) (l2 : c.consts.length ≤ 8) (l3 : c.rows.length ≤ 20) (l4 : c.lits.length ≤ 4) :
    Calls Tryz.prog 163 #[conV vv vc vr vl c] w fun e w' => e = .returned (.bool (formB c)) ∧ Below w.heap.size w w' := by
  obtain ⟨⟨a1, c1, rfl, _, _⟩, ⟨a2, c2, rfl, _, _⟩, hr, ⟨a4, c4, rfl, _, _⟩⟩ := hk
  have HRR : Hid (∀ w' : World, Below w.heap.size w w' → RArg w' vr c.rows) := fun w' h => RArg.below h hr
  obtain ⟨a3, c3, rfl, _, _⟩ := hr
  obtain ⟨R, hR⟩ : ∃ R, formB c = R := ⟨_, rfl⟩
  rw [hR]
  unfold formB at hR
  unfold conV
  by_cases h1 : c.kind = 1
  · have hk1 : R = (decide (1 ≤ c.vars.length) && (decide (c.consts.length = c.vars.length) && decide (c.rows.length + c.lits.length = 0))) := by rw [← hR, if_pos (by omega)]
    have HR : Hid (R = _) := hk1
    have hkk : (c.kind == 1) = true := by simpa using h1
    clear hR hk1 h1
    go_enter Tryz.func163, Tryz.ntmps163
    go_wp2
    go_quiet (fail)
    go_wp2
    all_goals
      go_ret
      refine ⟨ret_bool ?_, below_drewN (below_alloc _ _) _⟩
      rw [HR.out]
      clear HR HRR
      first
        | rfl
        | (try simp only [beq_iff_eq] at *
           rw [Bool.eq_iff_iff]
           simp only [Bool.and_eq_true, decide_eq_true_eq, beq_iff_eq, Bool.false_eq_true, false_iff]
           omega)
  · skip
    by_cases h2 : c.kind = 2
    · have hk2 : R = (decide (1 ≤ c.vars.length) && (decide (c.consts.length = c.vars.length) && decide (c.rows.length + c.lits.length = 0))) := by rw [← hR, if_pos (by omega)]
      have HR : Hid (R = _) := hk2
      have hkk : (c.kind == 2) = true := by simpa using h2
      have hf1 : (c.kind == 1) = false := by simpa using h1
      clear hR hk2 h1 h2
      go_enter Tryz.func163, Tryz.ntmps163
      go_wp2
      go_quiet (fail)
      go_wp2
      all_goals
        go_ret
        refine ⟨ret_bool ?_, below_drewN (below_alloc _ _) _⟩
        rw [HR.out]
        clear HR HRR
        first
          | rfl
          | (try simp only [beq_eq_false_iff_ne, beq_iff_eq, ne_eq] at *
             rw [Bool.eq_iff_iff]
             simp only [Bool.and_eq_true, decide_eq_true_eq, beq_iff_eq, Bool.false_eq_true, false_iff]
             omega)
    · skip
      by_cases h3 : c.kind = 3
      · have hk3 : R = (decide (1 ≤ c.vars.length) && (decide (c.consts.length = c.vars.length) && decide (c.rows.length + c.lits.length = 0))) := by rw [← hR, if_pos (by omega)]
        have HR : Hid (R = _) := hk3
        have hkk : (c.kind == 3) = true := by simpa using h3
        have hf1 : (c.kind == 1) = false := by simpa using h1
        have hf2 : (c.kind == 2) = false := by simpa using h2
        clear hR hk3 h1 h2 h3
        go_enter Tryz.func163, Tryz.ntmps163
        go_wp2
        go_quiet (fail)
        go_wp2
        all_goals
          go_ret
          refine ⟨ret_bool ?_, below_drewN (below_alloc _ _) _⟩
          rw [HR.out]
          clear HR HRR
          first
            | rfl
            | (try simp only [beq_eq_false_iff_ne, beq_iff_eq, ne_eq] at *
               rw [Bool.eq_iff_iff]
               simp only [Bool.and_eq_true, decide_eq_true_eq, beq_iff_eq, Bool.false_eq_true, false_iff]
               omega)
      · skip
        have h123 : ¬ (c.kind = 1 ∨ c.kind = 2 ∨ c.kind = 3) := by omega
        rw [if_neg h123] at hR
        by_cases hn : c.n = 0
        · skip
          rw [if_neg (by omega)] at hR
          have hn0 : (c.n != 0) = false := by simpa using hn
          by_cases h4 : c.kind = 4
          · rw [if_pos h4] at hR
            have HR : Hid (R = (decide (1 ≤ c.vars.length) && decide (c.consts.length + c.rows.length + c.lits.length = 0))) := hR.symm
            have hkk : (c.kind == 4) = true := by simpa using h4
            have hf1 : (c.kind == 1) = false := by simpa using h1
            have hf2 : (c.kind == 2) = false := by simpa using h2
            have hf3 : (c.kind == 3) = false := by simpa using h3
            clear hR hn h1 h2 h3 h4 h123
            go_enter Tryz.func163, Tryz.ntmps163
            go_wp2
            go_quiet (fail)
            go_wp2
            all_goals
              go_ret
              refine ⟨ret_bool ?_, below_drewN (below_alloc _ _) _⟩
              rw [HR.out]
              clear HR HRR
              first
                | rfl
                | (try simp only [beq_eq_false_iff_ne, beq_iff_eq, ne_eq] at *
                   rw [Bool.eq_iff_iff]
                   simp only [Bool.and_eq_true, decide_eq_true_eq, beq_iff_eq, Bool.false_eq_true, false_iff]
                   omega)
          · skip
            rw [if_neg h4] at hR
            by_cases h5 : c.kind = 5
            · rw [if_pos h5] at hR
              have HR : Hid (R = (decide (c.vars.length = 2) && (decide (1 ≤ c.consts.length) && decide (c.rows.length + c.lits.length = 0)))) := hR.symm
              have hkk : (c.kind == 5) = true := by simpa using h5
              have hf1 : (c.kind == 1) = false := by simpa using h1
              have hf2 : (c.kind == 2) = false := by simpa using h2
              have hf3 : (c.kind == 3) = false := by simpa using h3
              have hf4 : (c.kind == 4) = false := by simpa using h4
              clear hR hn h1 h2 h3 h4 h5 h123
              go_enter Tryz.func163, Tryz.ntmps163
              go_wp2
              go_quiet (fail)
              go_wp2
              all_goals
                go_ret
                refine ⟨ret_bool ?_, below_drewN (below_alloc _ _) _⟩
                rw [HR.out]
                clear HR HRR
                first
                  | rfl
                  | (try simp only [beq_eq_false_iff_ne, beq_iff_eq, ne_eq] at *
                     rw [Bool.eq_iff_iff]
                     simp only [Bool.and_eq_true, decide_eq_true_eq, beq_iff_eq, Bool.false_eq_true, false_iff]
                     omega)
            · skip
              rw [if_neg h5] at hR
              by_cases h6 : c.kind = 6
              · rw [if_pos h6] at hR
                have hkk : (c.kind == 6) = true := by simpa using h6
                have hf1 : (c.kind == 1) = false := by simpa using h1
                have hf2 : (c.kind == 2) = false := by simpa using h2
                have hf3 : (c.kind == 3) = false := by simpa using h3
                have hf4 : (c.kind == 4) = false := by simpa using h4
                have hf5 : (c.kind == 5) = false := by simpa using h5
                clear hn h123 h1 h2 h3 h4 h5 h6
                by_cases g1 : 1 ≤ c.vars.length
                · by_cases g2 : c.consts.length + c.lits.length = 0
                  · have HR : Hid (R = c.rows.all fun r => decide (r.length = c.vars.length)) := by rw [← hR, decide_eq_true g1, decide_eq_true g2]; rfl
                    clear hR
                    go_enter Tryz.func163, Tryz.ntmps163
                    go_wp2
                    go_quiet (fail)
                    go_wp2_with fail
                    refine (long_any c.rows _ c.vars.length _ (HRR.out _ (below_drewN (below_alloc _ _) _))).mono ?_
                    rintro e w2 ⟨rfl, hw2⟩
                    rw [hw2]
                    clear hw2
                    go_wp2
                    go_ret
                    exact ⟨ret_bool HR.out.symm, below_drewN (below_alloc _ _) _⟩
                  · have HR : Hid (R = false) := by rw [← hR, decide_eq_true g1, decide_eq_false g2]; rfl
                    have g3 : ¬ (c.consts.length : Int) + (c.lits.length : Int) = 0 := by omega
                    clear hR
                    go_enter Tryz.func163, Tryz.ntmps163
                    go_wp2
                    go_quiet (fail)
                    go_wp2
                    all_goals (go_ret; exact ⟨ret_bool (by rw [HR.out]), below_drewN (below_alloc _ _) _⟩)
                · have HR : Hid (R = false) := by rw [← hR, decide_eq_false g1]; rfl
                  clear hR
                  go_enter Tryz.func163, Tryz.ntmps163
                  go_wp2
                  go_quiet (fail)
                  go_wp2
                  all_goals (go_ret; exact ⟨ret_bool (by rw [HR.out]), below_drewN (below_alloc _ _) _⟩)
              · skip
                rw [if_neg h6] at hR
                by_cases h7 : c.kind = 7
                · rw [if_pos h7] at hR
                  have HR : Hid (R = (decide (c.vars.length = 3) && decide (c.consts.length + c.rows.length + c.lits.length = 0))) := hR.symm
                  have hkk : (c.kind == 7) = true := by simpa using h7
                  have hf1 : (c.kind == 1) = false := by simpa using h1
                  have hf2 : (c.kind == 2) = false := by simpa using h2
                  have hf3 : (c.kind == 3) = false := by simpa using h3
                  have hf4 : (c.kind == 4) = false := by simpa using h4
                  have hf5 : (c.kind == 5) = false := by simpa using h5
                  have hf6 : (c.kind == 6) = false := by simpa using h6
                  clear hR hn h1 h2 h3 h4 h5 h6 h7 h123
                  go_enter Tryz.func163, Tryz.ntmps163
                  go_wp2
                  go_quiet (fail)
                  go_wp2
                  all_goals
                    go_ret
                    refine ⟨ret_bool ?_, below_drewN (below_alloc _ _) _⟩
                    rw [HR.out]
                    clear HR HRR
                    first
                      | rfl
                      | (try simp only [beq_eq_false_iff_ne, beq_iff_eq, ne_eq] at *
                         rw [Bool.eq_iff_iff]
                         simp only [Bool.and_eq_true, decide_eq_true_eq, beq_iff_eq, Bool.false_eq_true, false_iff]
                         omega)
                · skip
                  rw [if_neg h7] at hR
                  by_cases h8 : c.kind = 8
                  · rw [if_pos h8] at hR
                    have HR : Hid (R = (decide (2 ≤ c.vars.length) && decide (c.consts.length + c.rows.length + c.lits.length = 0))) := hR.symm
                    have hkk : (c.kind == 8) = true := by simpa using h8
                    have hf1 : (c.kind == 1) = false := by simpa using h1
                    have hf2 : (c.kind == 2) = false := by simpa using h2
                    have hf3 : (c.kind == 3) = false := by simpa using h3
                    have hf4 : (c.kind == 4) = false := by simpa using h4
                    have hf5 : (c.kind == 5) = false := by simpa using h5
                    have hf6 : (c.kind == 6) = false := by simpa using h6
                    have hf7 : (c.kind == 7) = false := by simpa using h7
                    clear hR hn h1 h2 h3 h4 h5 h6 h7 h8 h123
                    go_enter Tryz.func163, Tryz.ntmps163
                    go_wp2
                    go_quiet (fail)
                    go_wp2
                    all_goals
                      go_ret
                      refine ⟨ret_bool ?_, below_drewN (below_alloc _ _) _⟩
                      rw [HR.out]
                      clear HR HRR
                      first
                        | rfl
                        | (try simp only [beq_eq_false_iff_ne, beq_iff_eq, ne_eq] at *
                           rw [Bool.eq_iff_iff]
                           simp only [Bool.and_eq_true, decide_eq_true_eq, beq_iff_eq, Bool.false_eq_true, false_iff]
                           omega)
                  · skip
                    rw [if_neg h8] at hR
                    by_cases h9 : c.kind = 9
                    · rw [if_pos h9] at hR
                      have HR : Hid (R = (decide (c.vars.length + c.consts.length + c.rows.length = 0))) := hR.symm
                      have hkk : (c.kind == 9) = true := by simpa using h9
                      have hf1 : (c.kind == 1) = false := by simpa using h1
                      have hf2 : (c.kind == 2) = false := by simpa using h2
                      have hf3 : (c.kind == 3) = false := by simpa using h3
                      have hf4 : (c.kind == 4) = false := by simpa using h4
                      have hf5 : (c.kind == 5) = false := by simpa using h5
                      have hf6 : (c.kind == 6) = false := by simpa using h6
                      have hf7 : (c.kind == 7) = false := by simpa using h7
                      have hf8 : (c.kind == 8) = false := by simpa using h8
                      clear hR hn h1 h2 h3 h4 h5 h6 h7 h8 h9 h123
                      go_enter Tryz.func163, Tryz.ntmps163
                      go_wp2
                      go_quiet (fail)
                      go_wp2
                      all_goals
                        go_ret
                        refine ⟨ret_bool ?_, below_drewN (below_alloc _ _) _⟩
                        rw [HR.out]
                        clear HR HRR
                        first
                          | rfl
                          | (try simp only [beq_eq_false_iff_ne, beq_iff_eq, ne_eq] at *
                             rw [Bool.eq_iff_iff]
                             simp only [decide_eq_true_eq, beq_iff_eq]
                             omega)
                    · skip
                      rw [if_neg h9] at hR
                      by_cases h10 : c.kind = 10
                      · rw [if_pos h10] at hR
                        have HR : Hid (R = (decide (c.vars.length = 1) && (decide (c.lits.length = 1) && decide (c.consts.length + c.rows.length = 0)))) := hR.symm
                        have hkk : (c.kind == 10) = true := by simpa using h10
                        have hf1 : (c.kind == 1) = false := by simpa using h1
                        have hf2 : (c.kind == 2) = false := by simpa using h2
                        have hf3 : (c.kind == 3) = false := by simpa using h3
                        have hf4 : (c.kind == 4) = false := by simpa using h4
                        have hf5 : (c.kind == 5) = false := by simpa using h5
                        have hf6 : (c.kind == 6) = false := by simpa using h6
                        have hf7 : (c.kind == 7) = false := by simpa using h7
                        have hf8 : (c.kind == 8) = false := by simpa using h8
                        have hf9 : (c.kind == 9) = false := by simpa using h9
                        clear hR hn h1 h2 h3 h4 h5 h6 h7 h8 h9 h10 h123
                        go_enter Tryz.func163, Tryz.ntmps163
                        go_wp2
                        go_quiet (fail)
                        go_wp2
                        all_goals
                          go_ret
                          refine ⟨ret_bool ?_, below_drewN (below_alloc _ _) _⟩
                          rw [HR.out]
                          clear HR HRR
                          first
                            | rfl
                            | (try simp only [beq_eq_false_iff_ne, beq_iff_eq, ne_eq] at *
                               rw [Bool.eq_iff_iff]
                               simp only [Bool.and_eq_true, decide_eq_true_eq, beq_iff_eq, Bool.false_eq_true, false_iff]
                               omega)
                      · skip
                        rw [if_neg h10] at hR
                        have HR : Hid (R = false) := hR.symm
                        have hf1 : (c.kind == 1) = false := by simpa using h1
                        have hf2 : (c.kind == 2) = false := by simpa using h2
                        have hf3 : (c.kind == 3) = false := by simpa using h3
                        have hf4 : (c.kind == 4) = false := by simpa using h4
                        have hf5 : (c.kind == 5) = false := by simpa using h5
                        have hf6 : (c.kind == 6) = false := by simpa using h6
                        have hf7 : (c.kind == 7) = false := by simpa using h7
                        have hf8 : (c.kind == 8) = false := by simpa using h8
                        have hf9 : (c.kind == 9) = false := by simpa using h9
                        have hf10 : (c.kind == 10) = false := by simpa using h10
                        clear hR hn h1 h2 h3 h4 h5 h6 h7 h8 h9 h10 h123
                        go_enter Tryz.func163, Tryz.ntmps163
                        go_wp2
                        go_quiet (fail)
                        go_wp2
                        all_goals (go_ret; exact ⟨ret_bool HR.out.symm, below_drewN (below_alloc _ _) _⟩)
        · rw [if_pos hn] at hR
          have HR : Hid (R = false) := hR.symm
          have hn0 : (c.n != 0) = true := by simpa using hn
          have hf1 : (c.kind == 1) = false := by simpa using h1
          have hf2 : (c.kind == 2) = false := by simpa using h2
          have hf3 : (c.kind == 3) = false := by simpa using h3
          clear hR hn h1 h2 h3 h123
          go_enter Tryz.func163, Tryz.ntmps163
          go_wp2
          go_quiet (fail)
          go_wp2
          all_goals (go_ret; exact ⟨ret_bool HR.out.symm, below_drewN (below_alloc _ _) _⟩)
end Go.Proofs.YtijohkhpigjbkaeGreatDoor
/-
  WALKS: package model: checkCon, checkGoal, Check.
-/
namespace Go.Proofs.YtijohkhpigjbkaeGreatDoor
open Go.RowKit

set_option maxHeartbeats 1600000 in
set_option maxRecDepth 100000 in
theorem con_any (c : MCon) (n : Int) (vv vc vr vl : Value) (w : World) (hk : KArg w vv vc vr vl c) :
    Calls Tryz.prog 113 #[conV vv vc vr vl c, .int .i64 n] w fun e w' => e = .returned (.int .i64 (conE n c)) ∧ Below w.heap.size w w' := by
  have HK : Hid (∀ w' : World, Below w.heap.size w w' → KArg w' vv vc vr vl c) := fun w' h => KArg.below h hk
  obtain ⟨⟨a1, c1, rfl, _, _⟩, ⟨a2, c2, rfl, _, _⟩, ⟨a3, c3, rfl, _, _⟩, ⟨a4, c4, rfl, _, _⟩⟩ := hk
  obtain ⟨R, hR⟩ : ∃ R, conE n c = R := ⟨_, rfl⟩
  rw [hR]
  unfold conE at hR
  unfold conV
  by_cases hlo : 1 ≤ c.kind
  · by_cases hhi : c.kind ≤ 10
    · rw [if_pos ⟨hlo, hhi⟩] at hR
      cases hm : manyB c
      · rw [hm] at hR
        simp only [Bool.false_eq_true, if_false] at hR
        have HM : Hid (manyB c = false) := hm
        have HL : Hid (c.vars.length ≤ 4 ∧ c.consts.length ≤ 8 ∧ c.rows.length ≤ 20 ∧ c.lits.length ≤ 4) := by
          simp only [manyB, Bool.or_eq_false_iff, decide_eq_false_iff_not] at hm
          exact ⟨by omega, by omega, by omega, by omega⟩
        clear hm
        cases hf : formB c
        · rw [hf] at hR
          have HE : Hid (R = 1) := hR.symm
          have HF : Hid (formB c = false) := hf
          clear hf hR
          go_enter Tryz.func113, Tryz.ntmps113
          go_wp2_with fail
          refine (many_any c _ _ _ _ _ (HK.out _ (below_alloc _ _))).mono ?_
          rintro e w1 ⟨rfl, hb⟩
          rw [HM.out]
          have HB1 : Hid (Below w.heap.size w w1) := (below_alloc _ _).trans (hb.mono (by simp))
          have HS1 : Hid (w.heap.size + 1 ≤ w1.heap.size) := show w.heap.size + 1 ≤ w1.heap.size by simpa using hb.size
          have d10 : w1.cell? ⟨w.heap.size, 0, none⟩ = some (.int .i64 c.kind) := (hb.cell (by simp)).trans (by simp)
          have d11 : w1.cell? ⟨w.heap.size, 1, none⟩ = some (.slice a1 c.vars.length c1) := (hb.cell (by simp)).trans (by simp)
          have d12 : w1.cell? ⟨w.heap.size, 2, none⟩ = some (.slice a2 c.consts.length c2) := (hb.cell (by simp)).trans (by simp)
          have d13 : w1.cell? ⟨w.heap.size, 3, none⟩ = some (.int .i64 c.n) := (hb.cell (by simp)).trans (by simp)
          have d14 : w1.cell? ⟨w.heap.size, 4, none⟩ = some (.slice a3 c.rows.length c3) := (hb.cell (by simp)).trans (by simp)
          have d15 : w1.cell? ⟨w.heap.size, 5, none⟩ = some (.slice a4 c.lits.length c4) := (hb.cell (by simp)).trans (by simp)
          clear hb
          go_wp2_with fail
          refine (form_any c _ _ _ _ _ (HK.out _ HB1.out) HL.out.1 HL.out.2.1 HL.out.2.2.1 HL.out.2.2.2).mono ?_
          rintro e w2 ⟨rfl, hb⟩
          rw [HF.out]
          have HB2 : Hid (Below w.heap.size w w2) := HB1.out.trans (hb.mono HB1.out.size)
          have HS2 : Hid (w.heap.size + 1 ≤ w2.heap.size) := Nat.le_trans HS1.out hb.size
          have d20 := (hb.cell (p := ⟨w.heap.size, 0, none⟩) (by have := HS1.out; simp only; omega)).trans d10
          have d21 := (hb.cell (p := ⟨w.heap.size, 1, none⟩) (by have := HS1.out; simp only; omega)).trans d11
          have d22 := (hb.cell (p := ⟨w.heap.size, 2, none⟩) (by have := HS1.out; simp only; omega)).trans d12
          have d23 := (hb.cell (p := ⟨w.heap.size, 3, none⟩) (by have := HS1.out; simp only; omega)).trans d13
          have d24 := (hb.cell (p := ⟨w.heap.size, 4, none⟩) (by have := HS1.out; simp only; omega)).trans d14
          have d25 := (hb.cell (p := ⟨w.heap.size, 5, none⟩) (by have := HS1.out; simp only; omega)).trans d15
          clear hb d10 d11 d12 d13 d14 d15
          go_wp2
          go_ret
          exact ⟨ret_int HE.out.symm, HB2.out⟩
        · rw [hf] at hR
          simp only [if_true] at hR
          have HF : Hid (formB c = true) := hf
          clear hf
          cases hv : varsB c n
          · rw [hv] at hR
            have HE : Hid (R = 5) := hR.symm
            have HV : Hid (varsB c n = false) := hv
            clear hv hR
            go_enter Tryz.func113, Tryz.ntmps113
            go_wp2_with fail
            refine (many_any c _ _ _ _ _ (HK.out _ (below_alloc _ _))).mono ?_
            rintro e w1 ⟨rfl, hb⟩
            rw [HM.out]
            have HB1 : Hid (Below w.heap.size w w1) := (below_alloc _ _).trans (hb.mono (by simp))
            have HS1 : Hid (w.heap.size + 1 ≤ w1.heap.size) := show w.heap.size + 1 ≤ w1.heap.size by simpa using hb.size
            have d10 : w1.cell? ⟨w.heap.size, 0, none⟩ = some (.int .i64 c.kind) := (hb.cell (by simp)).trans (by simp)
            have d11 : w1.cell? ⟨w.heap.size, 1, none⟩ = some (.slice a1 c.vars.length c1) := (hb.cell (by simp)).trans (by simp)
            have d12 : w1.cell? ⟨w.heap.size, 2, none⟩ = some (.slice a2 c.consts.length c2) := (hb.cell (by simp)).trans (by simp)
            have d13 : w1.cell? ⟨w.heap.size, 3, none⟩ = some (.int .i64 c.n) := (hb.cell (by simp)).trans (by simp)
            have d14 : w1.cell? ⟨w.heap.size, 4, none⟩ = some (.slice a3 c.rows.length c3) := (hb.cell (by simp)).trans (by simp)
            have d15 : w1.cell? ⟨w.heap.size, 5, none⟩ = some (.slice a4 c.lits.length c4) := (hb.cell (by simp)).trans (by simp)
            clear hb
            go_wp2_with fail
            refine (form_any c _ _ _ _ _ (HK.out _ HB1.out) HL.out.1 HL.out.2.1 HL.out.2.2.1 HL.out.2.2.2).mono ?_
            rintro e w2 ⟨rfl, hb⟩
            rw [HF.out]
            have HB2 : Hid (Below w.heap.size w w2) := HB1.out.trans (hb.mono HB1.out.size)
            have HS2 : Hid (w.heap.size + 1 ≤ w2.heap.size) := Nat.le_trans HS1.out hb.size
            have d20 := (hb.cell (p := ⟨w.heap.size, 0, none⟩) (by have := HS1.out; simp only; omega)).trans d10
            have d21 := (hb.cell (p := ⟨w.heap.size, 1, none⟩) (by have := HS1.out; simp only; omega)).trans d11
            have d22 := (hb.cell (p := ⟨w.heap.size, 2, none⟩) (by have := HS1.out; simp only; omega)).trans d12
            have d23 := (hb.cell (p := ⟨w.heap.size, 3, none⟩) (by have := HS1.out; simp only; omega)).trans d13
            have d24 := (hb.cell (p := ⟨w.heap.size, 4, none⟩) (by have := HS1.out; simp only; omega)).trans d14
            have d25 := (hb.cell (p := ⟨w.heap.size, 5, none⟩) (by have := HS1.out; simp only; omega)).trans d15
            clear hb d10 d11 d12 d13 d14 d15
            go_wp2_with fail
            refine (vars_any c n _ _ _ _ _ (HK.out _ HB2.out)).mono ?_
            rintro e w3 ⟨rfl, hb⟩
            rw [HV.out]
            have HB3 : Hid (Below w.heap.size w w3) := HB2.out.trans (hb.mono HB2.out.size)
            have HS3 : Hid (w.heap.size + 1 ≤ w3.heap.size) := Nat.le_trans HS2.out hb.size
            have d30 := (hb.cell (p := ⟨w.heap.size, 0, none⟩) (by have := HS2.out; simp only; omega)).trans d20
            have d31 := (hb.cell (p := ⟨w.heap.size, 1, none⟩) (by have := HS2.out; simp only; omega)).trans d21
            have d32 := (hb.cell (p := ⟨w.heap.size, 2, none⟩) (by have := HS2.out; simp only; omega)).trans d22
            have d33 := (hb.cell (p := ⟨w.heap.size, 3, none⟩) (by have := HS2.out; simp only; omega)).trans d23
            have d34 := (hb.cell (p := ⟨w.heap.size, 4, none⟩) (by have := HS2.out; simp only; omega)).trans d24
            have d35 := (hb.cell (p := ⟨w.heap.size, 5, none⟩) (by have := HS2.out; simp only; omega)).trans d25
            clear hb d20 d21 d22 d23 d24 d25
            go_wp2
            go_ret
            exact ⟨ret_int HE.out.symm, HB3.out⟩
          · rw [hv] at hR
            simp only [if_true] at hR
            have HV : Hid (varsB c n = true) := hv
            clear hv
            cases hc : constsB c
            · rw [hc] at hR
              have HE : Hid (R = 3) := hR.symm
              have HC : Hid (constsB c = false) := hc
              clear hc hR
              go_enter Tryz.func113, Tryz.ntmps113
              go_wp2_with fail
              refine (many_any c _ _ _ _ _ (HK.out _ (below_alloc _ _))).mono ?_
              rintro e w1 ⟨rfl, hb⟩
              rw [HM.out]
              have HB1 : Hid (Below w.heap.size w w1) := (below_alloc _ _).trans (hb.mono (by simp))
              have HS1 : Hid (w.heap.size + 1 ≤ w1.heap.size) := show w.heap.size + 1 ≤ w1.heap.size by simpa using hb.size
              have d10 : w1.cell? ⟨w.heap.size, 0, none⟩ = some (.int .i64 c.kind) := (hb.cell (by simp)).trans (by simp)
              have d11 : w1.cell? ⟨w.heap.size, 1, none⟩ = some (.slice a1 c.vars.length c1) := (hb.cell (by simp)).trans (by simp)
              have d12 : w1.cell? ⟨w.heap.size, 2, none⟩ = some (.slice a2 c.consts.length c2) := (hb.cell (by simp)).trans (by simp)
              have d13 : w1.cell? ⟨w.heap.size, 3, none⟩ = some (.int .i64 c.n) := (hb.cell (by simp)).trans (by simp)
              have d14 : w1.cell? ⟨w.heap.size, 4, none⟩ = some (.slice a3 c.rows.length c3) := (hb.cell (by simp)).trans (by simp)
              have d15 : w1.cell? ⟨w.heap.size, 5, none⟩ = some (.slice a4 c.lits.length c4) := (hb.cell (by simp)).trans (by simp)
              clear hb
              go_wp2_with fail
              refine (form_any c _ _ _ _ _ (HK.out _ HB1.out) HL.out.1 HL.out.2.1 HL.out.2.2.1 HL.out.2.2.2).mono ?_
              rintro e w2 ⟨rfl, hb⟩
              rw [HF.out]
              have HB2 : Hid (Below w.heap.size w w2) := HB1.out.trans (hb.mono HB1.out.size)
              have HS2 : Hid (w.heap.size + 1 ≤ w2.heap.size) := Nat.le_trans HS1.out hb.size
              have d20 := (hb.cell (p := ⟨w.heap.size, 0, none⟩) (by have := HS1.out; simp only; omega)).trans d10
              have d21 := (hb.cell (p := ⟨w.heap.size, 1, none⟩) (by have := HS1.out; simp only; omega)).trans d11
              have d22 := (hb.cell (p := ⟨w.heap.size, 2, none⟩) (by have := HS1.out; simp only; omega)).trans d12
              have d23 := (hb.cell (p := ⟨w.heap.size, 3, none⟩) (by have := HS1.out; simp only; omega)).trans d13
              have d24 := (hb.cell (p := ⟨w.heap.size, 4, none⟩) (by have := HS1.out; simp only; omega)).trans d14
              have d25 := (hb.cell (p := ⟨w.heap.size, 5, none⟩) (by have := HS1.out; simp only; omega)).trans d15
              clear hb d10 d11 d12 d13 d14 d15
              go_wp2_with fail
              refine (vars_any c n _ _ _ _ _ (HK.out _ HB2.out)).mono ?_
              rintro e w3 ⟨rfl, hb⟩
              rw [HV.out]
              have HB3 : Hid (Below w.heap.size w w3) := HB2.out.trans (hb.mono HB2.out.size)
              have HS3 : Hid (w.heap.size + 1 ≤ w3.heap.size) := Nat.le_trans HS2.out hb.size
              have d30 := (hb.cell (p := ⟨w.heap.size, 0, none⟩) (by have := HS2.out; simp only; omega)).trans d20
              have d31 := (hb.cell (p := ⟨w.heap.size, 1, none⟩) (by have := HS2.out; simp only; omega)).trans d21
              have d32 := (hb.cell (p := ⟨w.heap.size, 2, none⟩) (by have := HS2.out; simp only; omega)).trans d22
              have d33 := (hb.cell (p := ⟨w.heap.size, 3, none⟩) (by have := HS2.out; simp only; omega)).trans d23
              have d34 := (hb.cell (p := ⟨w.heap.size, 4, none⟩) (by have := HS2.out; simp only; omega)).trans d24
              have d35 := (hb.cell (p := ⟨w.heap.size, 5, none⟩) (by have := HS2.out; simp only; omega)).trans d25
              clear hb d20 d21 d22 d23 d24 d25
              go_wp2_with fail
              refine (hasconsts_any c _ _ _ _ _ (HK.out _ HB3.out)).mono ?_
              rintro e w4 ⟨rfl, hb⟩
              rw [HC.out]
              have HB4 : Hid (Below w.heap.size w w4) := HB3.out.trans (hb.mono HB3.out.size)
              have HS4 : Hid (w.heap.size + 1 ≤ w4.heap.size) := Nat.le_trans HS3.out hb.size
              have d40 := (hb.cell (p := ⟨w.heap.size, 0, none⟩) (by have := HS3.out; simp only; omega)).trans d30
              have d41 := (hb.cell (p := ⟨w.heap.size, 1, none⟩) (by have := HS3.out; simp only; omega)).trans d31
              have d42 := (hb.cell (p := ⟨w.heap.size, 2, none⟩) (by have := HS3.out; simp only; omega)).trans d32
              have d43 := (hb.cell (p := ⟨w.heap.size, 3, none⟩) (by have := HS3.out; simp only; omega)).trans d33
              have d44 := (hb.cell (p := ⟨w.heap.size, 4, none⟩) (by have := HS3.out; simp only; omega)).trans d34
              have d45 := (hb.cell (p := ⟨w.heap.size, 5, none⟩) (by have := HS3.out; simp only; omega)).trans d35
              clear hb d30 d31 d32 d33 d34 d35
              go_wp2
              go_ret
              exact ⟨ret_int HE.out.symm, HB4.out⟩
            · rw [hc] at hR
              simp only [if_true] at hR
              have HE : Hid (R = litsE c.lits) := hR.symm
              have HC : Hid (constsB c = true) := hc
              clear hc hR
              go_enter Tryz.func113, Tryz.ntmps113
              go_wp2_with fail
              refine (many_any c _ _ _ _ _ (HK.out _ (below_alloc _ _))).mono ?_
              rintro e w1 ⟨rfl, hb⟩
              rw [HM.out]
              have HB1 : Hid (Below w.heap.size w w1) := (below_alloc _ _).trans (hb.mono (by simp))
              have HS1 : Hid (w.heap.size + 1 ≤ w1.heap.size) := show w.heap.size + 1 ≤ w1.heap.size by simpa using hb.size
              have d10 : w1.cell? ⟨w.heap.size, 0, none⟩ = some (.int .i64 c.kind) := (hb.cell (by simp)).trans (by simp)
              have d11 : w1.cell? ⟨w.heap.size, 1, none⟩ = some (.slice a1 c.vars.length c1) := (hb.cell (by simp)).trans (by simp)
              have d12 : w1.cell? ⟨w.heap.size, 2, none⟩ = some (.slice a2 c.consts.length c2) := (hb.cell (by simp)).trans (by simp)
              have d13 : w1.cell? ⟨w.heap.size, 3, none⟩ = some (.int .i64 c.n) := (hb.cell (by simp)).trans (by simp)
              have d14 : w1.cell? ⟨w.heap.size, 4, none⟩ = some (.slice a3 c.rows.length c3) := (hb.cell (by simp)).trans (by simp)
              have d15 : w1.cell? ⟨w.heap.size, 5, none⟩ = some (.slice a4 c.lits.length c4) := (hb.cell (by simp)).trans (by simp)
              clear hb
              go_wp2_with fail
              refine (form_any c _ _ _ _ _ (HK.out _ HB1.out) HL.out.1 HL.out.2.1 HL.out.2.2.1 HL.out.2.2.2).mono ?_
              rintro e w2 ⟨rfl, hb⟩
              rw [HF.out]
              have HB2 : Hid (Below w.heap.size w w2) := HB1.out.trans (hb.mono HB1.out.size)
              have HS2 : Hid (w.heap.size + 1 ≤ w2.heap.size) := Nat.le_trans HS1.out hb.size
              have d20 := (hb.cell (p := ⟨w.heap.size, 0, none⟩) (by have := HS1.out; simp only; omega)).trans d10
              have d21 := (hb.cell (p := ⟨w.heap.size, 1, none⟩) (by have := HS1.out; simp only; omega)).trans d11
              have d22 := (hb.cell (p := ⟨w.heap.size, 2, none⟩) (by have := HS1.out; simp only; omega)).trans d12
              have d23 := (hb.cell (p := ⟨w.heap.size, 3, none⟩) (by have := HS1.out; simp only; omega)).trans d13
              have d24 := (hb.cell (p := ⟨w.heap.size, 4, none⟩) (by have := HS1.out; simp only; omega)).trans d14
              have d25 := (hb.cell (p := ⟨w.heap.size, 5, none⟩) (by have := HS1.out; simp only; omega)).trans d15
              clear hb d10 d11 d12 d13 d14 d15
              go_wp2_with fail
              refine (vars_any c n _ _ _ _ _ (HK.out _ HB2.out)).mono ?_
              rintro e w3 ⟨rfl, hb⟩
              rw [HV.out]
              have HB3 : Hid (Below w.heap.size w w3) := HB2.out.trans (hb.mono HB2.out.size)
              have HS3 : Hid (w.heap.size + 1 ≤ w3.heap.size) := Nat.le_trans HS2.out hb.size
              have d30 := (hb.cell (p := ⟨w.heap.size, 0, none⟩) (by have := HS2.out; simp only; omega)).trans d20
              have d31 := (hb.cell (p := ⟨w.heap.size, 1, none⟩) (by have := HS2.out; simp only; omega)).trans d21
              have d32 := (hb.cell (p := ⟨w.heap.size, 2, none⟩) (by have := HS2.out; simp only; omega)).trans d22
              have d33 := (hb.cell (p := ⟨w.heap.size, 3, none⟩) (by have := HS2.out; simp only; omega)).trans d23
              have d34 := (hb.cell (p := ⟨w.heap.size, 4, none⟩) (by have := HS2.out; simp only; omega)).trans d24
              have d35 := (hb.cell (p := ⟨w.heap.size, 5, none⟩) (by have := HS2.out; simp only; omega)).trans d25
              clear hb d20 d21 d22 d23 d24 d25
              go_wp2_with fail
              refine (hasconsts_any c _ _ _ _ _ (HK.out _ HB3.out)).mono ?_
              rintro e w4 ⟨rfl, hb⟩
              rw [HC.out]
              have HB4 : Hid (Below w.heap.size w w4) := HB3.out.trans (hb.mono HB3.out.size)
              have HS4 : Hid (w.heap.size + 1 ≤ w4.heap.size) := Nat.le_trans HS3.out hb.size
              have d40 := (hb.cell (p := ⟨w.heap.size, 0, none⟩) (by have := HS3.out; simp only; omega)).trans d30
              have d41 := (hb.cell (p := ⟨w.heap.size, 1, none⟩) (by have := HS3.out; simp only; omega)).trans d31
              have d42 := (hb.cell (p := ⟨w.heap.size, 2, none⟩) (by have := HS3.out; simp only; omega)).trans d32
              have d43 := (hb.cell (p := ⟨w.heap.size, 3, none⟩) (by have := HS3.out; simp only; omega)).trans d33
              have d44 := (hb.cell (p := ⟨w.heap.size, 4, none⟩) (by have := HS3.out; simp only; omega)).trans d34
              have d45 := (hb.cell (p := ⟨w.heap.size, 5, none⟩) (by have := HS3.out; simp only; omega)).trans d35
              clear hb d30 d31 d32 d33 d34 d35
              go_wp2_with fail
              refine (lits_any c.lits _ _ (HK.out _ HB4.out).2.2.2).mono ?_
              rintro e w5 ⟨rfl, hb⟩
              have HB5 : Hid (Below w.heap.size w w5) := HB4.out.trans (hb.mono HB4.out.size)
              go_wp2
              go_ret
              exact ⟨ret_int HE.out.symm, HB5.out⟩
      · rw [hm] at hR
        have HE : Hid (R = 2) := hR.symm
        have HM : Hid (manyB c = true) := hm
        clear hm hR
        go_enter Tryz.func113, Tryz.ntmps113
        go_wp2_with fail
        refine (many_any c _ _ _ _ _ (HK.out _ (below_alloc _ _))).mono ?_
        rintro e w1 ⟨rfl, hb⟩
        rw [HM.out]
        have HB1 : Hid (Below w.heap.size w w1) := (below_alloc _ _).trans (hb.mono (by simp))
        have HS1 : Hid (w.heap.size + 1 ≤ w1.heap.size) := show w.heap.size + 1 ≤ w1.heap.size by simpa using hb.size
        have d10 : w1.cell? ⟨w.heap.size, 0, none⟩ = some (.int .i64 c.kind) := (hb.cell (by simp)).trans (by simp)
        have d11 : w1.cell? ⟨w.heap.size, 1, none⟩ = some (.slice a1 c.vars.length c1) := (hb.cell (by simp)).trans (by simp)
        have d12 : w1.cell? ⟨w.heap.size, 2, none⟩ = some (.slice a2 c.consts.length c2) := (hb.cell (by simp)).trans (by simp)
        have d13 : w1.cell? ⟨w.heap.size, 3, none⟩ = some (.int .i64 c.n) := (hb.cell (by simp)).trans (by simp)
        have d14 : w1.cell? ⟨w.heap.size, 4, none⟩ = some (.slice a3 c.rows.length c3) := (hb.cell (by simp)).trans (by simp)
        have d15 : w1.cell? ⟨w.heap.size, 5, none⟩ = some (.slice a4 c.lits.length c4) := (hb.cell (by simp)).trans (by simp)
        clear hb
        go_wp2
        go_ret
        exact ⟨ret_int HE.out.symm, HB1.out⟩
    · rw [if_neg (fun h => hhi h.2)] at hR
      have HE : Hid (R = 7) := hR.symm
      clear hR
      go_enter Tryz.func113, Tryz.ntmps113
      go_wp2
      go_ret
      exact ⟨ret_int HE.out.symm, below_alloc _ _⟩
  · rw [if_neg (fun h => hlo h.1)] at hR
    have HE : Hid (R = 7) := hR.symm
    clear hR
    go_enter Tryz.func113, Tryz.ntmps113
    go_wp2
    go_ret
    exact ⟨ret_int HE.out.symm, below_alloc _ _⟩

set_option maxHeartbeats 800000 in
set_option maxRecDepth 100000 in
theorem goal_any (m : Mod) (vs cs : Value) (w : World) (hm : MArg w vs cs m) :
    Calls Tryz.prog 114 #[modV vs cs m] w fun e w' => e = .returned (.int .i64 (goalE m)) ∧ Below w.heap.size w w' := by
  obtain ⟨⟨a1, c1, rfl, _, _⟩, ⟨a2, c2, rfl, _, _⟩⟩ := hm
  obtain ⟨R, hR⟩ : ∃ R, goalE m = R := ⟨_, rfl⟩
  rw [hR]
  unfold goalE at hR
  unfold modV
  by_cases h0 : m.goal = 0
  · rw [if_pos h0] at hR
    have g0 : (m.goal == 0) = true := by simpa using h0
    by_cases hv : m.var = 0
    · rw [if_pos hv] at hR
      have HE : Hid (R = 0) := hR.symm
      have v0 : (m.var != 0) = false := by simpa using hv
      clear hR h0 hv
      go_enter Tryz.func114, Tryz.ntmps114
      go_wp2
      go_ret
      exact ⟨ret_int HE.out.symm, below_alloc _ _⟩
    · rw [if_neg hv] at hR
      have HE : Hid (R = 1) := hR.symm
      have v0 : (m.var != 0) = true := by simpa using hv
      clear hR h0 hv
      go_enter Tryz.func114, Tryz.ntmps114
      go_wp2
      go_ret
      exact ⟨ret_int HE.out.symm, below_alloc _ _⟩
  · rw [if_neg h0] at hR
    have g0 : (m.goal == 0) = false := by simpa using h0
    by_cases h12 : m.goal = 1 ∨ m.goal = 2
    · rw [if_pos h12] at hR
      cases hv : isVarB m.var m.vars.length
      · rw [hv] at hR
        have HE : Hid (R = 5) := hR.symm
        have HV : Hid (isVarB m.var m.vars.length = false) := hv
        clear hR h0 hv
        rcases h12 with h | h
        · have g1 : (m.goal == 1) = true := by simpa using h
          clear h
          go_enter Tryz.func114, Tryz.ntmps114
          go_wp2_with fail
          refine (isvar_any _ _ _).mono ?_
          rintro e w2 ⟨rfl, hw2⟩
          rw [HV.out, hw2]
          clear hw2
          go_wp2
          go_ret
          exact ⟨ret_int HE.out.symm, below_alloc _ _⟩
        · have g1 : (m.goal == 1) = false := by simp [h]
          have g2 : (m.goal == 2) = true := by simpa using h
          clear h
          go_enter Tryz.func114, Tryz.ntmps114
          go_wp2_with fail
          refine (isvar_any _ _ _).mono ?_
          rintro e w2 ⟨rfl, hw2⟩
          rw [HV.out, hw2]
          clear hw2
          go_wp2
          go_ret
          exact ⟨ret_int HE.out.symm, below_alloc _ _⟩
      · rw [hv] at hR
        have HE : Hid (R = 0) := hR.symm
        have HV : Hid (isVarB m.var m.vars.length = true) := hv
        clear hR h0 hv
        rcases h12 with h | h
        · have g1 : (m.goal == 1) = true := by simpa using h
          clear h
          go_enter Tryz.func114, Tryz.ntmps114
          go_wp2_with fail
          refine (isvar_any _ _ _).mono ?_
          rintro e w2 ⟨rfl, hw2⟩
          rw [HV.out, hw2]
          clear hw2
          go_wp2
          go_ret
          exact ⟨ret_int HE.out.symm, below_alloc _ _⟩
        · have g1 : (m.goal == 1) = false := by simp [h]
          have g2 : (m.goal == 2) = true := by simpa using h
          clear h
          go_enter Tryz.func114, Tryz.ntmps114
          go_wp2_with fail
          refine (isvar_any _ _ _).mono ?_
          rintro e w2 ⟨rfl, hw2⟩
          rw [HV.out, hw2]
          clear hw2
          go_wp2
          go_ret
          exact ⟨ret_int HE.out.symm, below_alloc _ _⟩
    · rw [if_neg h12] at hR
      have HE : Hid (R = 7) := hR.symm
      have g1 : (m.goal == 1) = false := by simpa using (fun h => h12 (Or.inl h))
      have g2 : (m.goal == 2) = false := by simpa using (fun h => h12 (Or.inr h))
      clear hR h0 h12
      go_enter Tryz.func114, Tryz.ntmps114
      go_wp2
      go_ret
      exact ⟨ret_int HE.out.symm, below_alloc _ _⟩
end Go.Proofs.YtijohkhpigjbkaeGreatDoor
/-
  WALK: model.Check: it answers what 'checkM' says.
-/
namespace Go.Proofs.YtijohkhpigjbkaeGreatDoor
open Go.RowKit

def varL (m : Mod) : List Int := (List.range m.vars.length).map fun i => varE (m.vars.take i) (m.vars.getD i ⟨ByteArray.empty, 0, 0⟩)
theorem varL_get (m : Mod) (k : Nat) (t : MVar) (h : m.vars[k]? = some t) : (varL m)[k]? = some (varE (m.vars.take k) t) := by
  have hk : k < m.vars.length := (List.getElem?_eq_some_iff.1 h).1
  unfold varL
  rw [List.getElem?_map, List.getElem?_range hk]
  simp [List.getD, h]
theorem varL_len (m : Mod) : (varL m).length = m.vars.length := by simp [varL]
def conL (m : Mod) : List Int := m.cons.map (conE m.vars.length)
theorem conL_get (m : Mod) (k : Nat) (t : MCon) (h : m.cons[k]? = some t) : (conL m)[k]? = some (conE m.vars.length t) := by simp [conL, h]

set_option maxHeartbeats 1600000 in
set_option maxRecDepth 100000 in
theorem check_model (m : Mod) (vs cs : Value) (w : World) (hm : MArg w vs cs m) :
    Calls Tryz.prog 60 #[modV vs cs m] w fun e w' => e = .returned (.int .i64 (checkM m)) ∧ Below w.heap.size w w' := by
  have HMA : Hid (∀ w' : World, Below w.heap.size w w' → MArg w' vs cs m) := fun w' h => MArg.below h hm
  obtain ⟨⟨a1, c1, rfl, hl1, hr1⟩, ⟨a2, c2, rfl, hl2, hr2⟩⟩ := hm
  obtain ⟨R, hR⟩ : ∃ R, checkM m = R := ⟨_, rfl⟩
  rw [hR]
  unfold maxLen at hl1 hl2
  obtain ⟨hl11, hl1⟩ := hl1
  obtain ⟨hl21, hl2⟩ := hl2
  clear hr1 hr2
  unfold modV
  by_cases h0 : m.vars.length = 0
  · have HE : Hid (R = 1) := by rw [← hR]; unfold checkM; rw [if_pos h0]; rfl
    have g0 : ((m.vars.length : Int) == 0) = true := by simp [h0]
    clear hR h0
    go_enter Tryz.func60, Tryz.ntmps60
    go_wp2
    go_ret
    exact ⟨ret_int HE.out.symm, below_alloc _ _⟩
  · have g0 : ((m.vars.length : Int) == 0) = false := by simpa using h0
    by_cases h6 : 6 < m.vars.length
    · have HE : Hid (R = 2) := by rw [← hR]; unfold checkM; rw [if_neg h0, if_pos (Or.inl h6)]; rfl
      clear hR h0
      go_enter Tryz.func60, Tryz.ntmps60
      go_wp2
      go_ret
      exact ⟨ret_int HE.out.symm, below_alloc _ _⟩
    · by_cases h8 : 8 < m.cons.length
      · have HE : Hid (R = 2) := by rw [← hR]; unfold checkM; rw [if_neg h0, if_pos (Or.inr h8)]; rfl
        clear hR h0
        go_enter Tryz.func60, Tryz.ntmps60
        go_wp2
        go_ret
        exact ⟨ret_int HE.out.symm, below_alloc _ _⟩
      · have HE : Hid (R = if firstE (varL m) = 0 then (if firstE (conL m) = 0 then goalE m else firstE (conL m)) else firstE (varL m)) := by
          rw [← hR]; unfold checkM; rw [if_neg h0, if_neg (by omega)]; rfl
        clear hR h0
        go_enter Tryz.func60, Tryz.ntmps60
        go_wp2
        obtain ⟨w0, hw0⟩ : ∃ w0 : World, w0 = w.alloc (.cells #[.slice a1 m.vars.length c1, .slice a2 m.cons.length c2, .int .i64 m.goal, .int .i64 m.var] 25) := ⟨_, rfl⟩
        rw [← hw0]
        have HB0 : Hid (Below w.heap.size w w0) := by rw [hw0]; exact below_alloc _ _
        have HZ0 : Hid (w0.heap.size = w.heap.size + 1) := by show _ = _; rw [hw0]; simp
        have HD : Hid (w0.cell? ⟨w.heap.size, 0, none⟩ = some (.slice a1 m.vars.length c1) ∧ w0.cell? ⟨w.heap.size, 1, none⟩ = some (.slice a2 m.cons.length c2) ∧ w0.cell? ⟨w.heap.size, 2, none⟩ = some (.int .i64 m.goal) ∧ w0.cell? ⟨w.heap.size, 3, none⟩ = some (.int .i64 m.var)) := by
          rw [hw0]; exact ⟨by simp, by simp, by simp, by simp⟩
        clear hw0
        go_loopw [25] (fun i wr => ∃ k : Nat, k ≤ m.vars.length ∧ i = .int .i64 k ∧ Hid (firstE ((varL m).take k) = 0) ∧ Below w0.heap.size w0 wr) (fun i _ => m.vars.length - (intOf i).toNat)
        case atStart => exact ⟨0, by omega, rfl, rfl, Below.refl _ _⟩
        case round =>
          obtain ⟨k, hk, rfl, hno, hbw⟩ := hrel
          have hlt0 : w.heap.size < w0.heap.size := by rw [HZ0.out]; omega
          have d0 := (hbw.cell (p := ⟨w.heap.size, 0, none⟩) hlt0).trans HD.out.1
          have d1 := (hbw.cell (p := ⟨w.heap.size, 1, none⟩) hlt0).trans HD.out.2.1
          have d2 := (hbw.cell (p := ⟨w.heap.size, 2, none⟩) hlt0).trans HD.out.2.2.1
          have d3 := (hbw.cell (p := ⟨w.heap.size, 3, none⟩) hlt0).trans HD.out.2.2.2
          have HBW : Hid (Below w.heap.size w wr) := HB0.out.trans (hbw.mono (by omega))
          by_cases hlt : k < m.vars.length
          · obtain ⟨t, ht⟩ : ∃ t, m.vars[k]? = some t := ⟨m.vars[k], by simp [hlt]⟩
            have HG : Hid ((varL m)[k]? = some (varE (m.vars.take k) t)) := varL_get m k t ht
            have HT : Hid (m.vars[k]? = some t) := ht
            clear ht
            go_wp2_with fail
            refine (var_check m.vars _ k t _ (HMA.out _ HBW.out).1 HT.out).mono ?_
            rintro e w1 ⟨rfl, hb1⟩
            obtain ⟨er, her⟩ : ∃ er, varE (m.vars.take k) t = er := ⟨_, rfl⟩
            have HG2 : Hid ((varL m)[k]? = some er) := by rw [← her]; exact HG.out
            rw [her]
            clear her
            have hbt : Below w0.heap.size w0 w1 := hbw.trans (hb1.mono hbw.size)
            by_cases he : er = 0
            · subst he
              have HN : Hid (firstE ((varL m).take (k + 1)) = 0) := firstE_step _ k hno.out HG2.out
              clear hb1
              go_wp2
              go_roundw
              case rel => exact ⟨k + 1, by omega, by go_num, HN, hbt⟩
              case measure => simp [intOf]; omega
            · have HN : Hid (R = er) := by
                have hf := firstE_hit (varL m) k er hno.out HG2.out he
                rw [HE.out, hf, if_neg he]; rfl
              have he2 : (er != 0) = true := by simpa using he
              clear hb1 he
              go_wp2
              go_ret
              exact ⟨ret_int HN.out.symm, HB0.out.trans (hbt.mono (by omega))⟩
          · have HV : Hid (firstE (varL m) = 0) := by
              have := hno.out; rw [List.take_of_length_le (by rw [varL_len]; omega)] at this; exact this
            have HBO : Hid (Below w0.heap.size w0 wr) := hbw
            obtain ⟨wo, rfl⟩ : ∃ wo : World, wo = wr := ⟨_, rfl⟩
            go_wp2
            clear hk hno hbw hlt d0 d1 d2 d3
            go_loopw [39] (fun i wr => ∃ k : Nat, k ≤ m.cons.length ∧ i = .int .i64 k ∧ Hid (firstE ((conL m).take k) = 0) ∧ Below w0.heap.size w0 wr) (fun i _ => m.cons.length - (intOf i).toNat)
            case atStart => exact ⟨0, by omega, rfl, rfl, HBO.out⟩
            case round =>
              obtain ⟨k, hk, rfl, hno, hbw⟩ := hrel
              have d0 := (hbw.cell (p := ⟨w.heap.size, 0, none⟩) hlt0).trans HD.out.1
              have d1 := (hbw.cell (p := ⟨w.heap.size, 1, none⟩) hlt0).trans HD.out.2.1
              have d2 := (hbw.cell (p := ⟨w.heap.size, 2, none⟩) hlt0).trans HD.out.2.2.1
              have d3 := (hbw.cell (p := ⟨w.heap.size, 3, none⟩) hlt0).trans HD.out.2.2.2
              have HB2 : Hid (Below w.heap.size w wr) := HB0.out.trans (hbw.mono (by omega))
              by_cases hlt : k < m.cons.length
              · obtain ⟨t, ht⟩ : ∃ t, m.cons[k]? = some t := ⟨m.cons[k], by simp [hlt]⟩
                have HG : Hid ((conL m)[k]? = some (conE m.vars.length t)) := conL_get m k t ht
                obtain ⟨a2', c2', hva, _, hrc⟩ := (HMA.out _ HB2.out).2
                obtain ⟨b, off, vv, vc, vr, vl, ha, hb, e0, e1, e2, e3, e4, e5, hka⟩ := hrc k t ht
                have ha2 : a2 = some ⟨b, off, none⟩ := by cases hva; exact ha
                subst ha2
                have HKA : Hid (KArg wr vv vc vr vl t) := hka
                obtain ⟨⟨q1, r1, rfl, _, _⟩, ⟨q2, r2, rfl, _, _⟩, ⟨q3, r3, rfl, _, _⟩, ⟨q4, r4, rfl, _, _⟩⟩ := hka
                have hsz := hbw.size
                have hlw : w.heap.size < wr.heap.size := by omega
                clear ht hva hrc ha
                go_wp2_with fail
                refine (con_any t _ _ _ _ _ _ (KArg.below (below_alloc _ _) HKA.out)).mono ?_
                rintro e w1 ⟨rfl, hb1⟩
                obtain ⟨er, her⟩ : ∃ er, conE m.vars.length t = er := ⟨_, rfl⟩
                have HG2 : Hid ((conL m)[k]? = some er) := by rw [← her]; exact HG.out
                rw [her]
                clear her
                have hbt : Below w0.heap.size w0 w1 := (hbw.alloc hsz _).trans (hb1.mono (by simp; omega))
                by_cases he : er = 0
                · subst he
                  have HN : Hid (firstE ((conL m).take (k + 1)) = 0) := firstE_step _ k hno.out HG2.out
                  clear hb1
                  go_wp2
                  go_roundw
                  case rel => exact ⟨k + 1, by omega, by go_num, HN, hbt⟩
                  case measure => simp [intOf]; omega
                · have HN : Hid (R = er) := by
                    have hf := firstE_hit (conL m) k er hno.out HG2.out he
                    rw [HE.out, HV.out, if_pos rfl, hf, if_neg he]; rfl
                  have he2 : (er != 0) = true := by simpa using he
                  clear hb1 he
                  go_wp2
                  go_ret
                  exact ⟨ret_int HN.out.symm, HB0.out.trans (hbt.mono (by omega))⟩
              · have HN : Hid (R = goalE m) := by
                  have hc0 : firstE (conL m) = 0 := by have := hno.out; rw [List.take_of_length_le (by simp [conL]; omega)] at this; exact this
                  rw [HE.out, HV.out, if_pos rfl, hc0, if_pos rfl]; rfl
                go_wp2_with fail
                refine (goal_any m _ _ _ (HMA.out _ HB2.out)).mono ?_
                rintro e w3 ⟨rfl, hb3⟩
                go_wp2
                go_ret
                exact ⟨ret_int HN.out.symm, HB2.out.trans (hb3.mono HB2.out.size)⟩
end Go.Proofs.YtijohkhpigjbkaeGreatDoor
/-
  WALK: package truth: Lit.
-/
namespace Go.Proofs.YtijohkhpigjbkaeGreatDoor
open Go.RowKit

def litAgg (l : MLit) : Value := .agg #[.int .i64 l.var, .int .i64 l.op, .int .i64 l.n]
set_option maxHeartbeats 800000 in
set_option maxRecDepth 100000 in
theorem lit_true (l : MLit) (x : Int) (w : World) :
    Calls Tryz.prog 93 #[.agg #[.int .i64 l.var, .int .i64 l.op, .int .i64 l.n], .int .i64 x] w fun e w' => e = .returned (.bool (litV x l)) ∧ Below w.heap.size w w' := by
  obtain ⟨R, hR⟩ : ∃ R, litV x l = R := ⟨_, rfl⟩
  rw [hR]
  have hE : R = if l.op = 1 then decide (x ≤ l.n) else if l.op = 2 then decide (l.n ≤ x) else if l.op = 3 then x == l.n else if l.op = 4 then x != l.n else false := by
    rw [← hR]; rfl
  clear hR
  by_cases q1 : l.op = 1
  · have HE : Hid (R = decide (x ≤ l.n)) := by rw [hE, if_pos q1]; rfl
    rw [q1]; clear hE q1
    go_enter Tryz.func93, Tryz.ntmps93
    go_wp2
    go_ret
    exact ⟨ret_bool HE.out.symm, below_alloc _ _⟩
  · by_cases q2 : l.op = 2
    · have HE : Hid (R = decide (l.n ≤ x)) := by rw [hE, if_neg q1, if_pos q2]; rfl
      rw [q2]; clear hE q1 q2
      go_enter Tryz.func93, Tryz.ntmps93
      go_wp2
      go_ret
      exact ⟨ret_bool HE.out.symm, below_alloc _ _⟩
    · by_cases q3 : l.op = 3
      · have HE : Hid (R = (x == l.n)) := by rw [hE, if_neg q1, if_neg q2, if_pos q3]; rfl
        rw [q3]; clear hE q1 q2 q3
        go_enter Tryz.func93, Tryz.ntmps93
        go_wp2
        go_ret
        exact ⟨ret_bool HE.out.symm, below_alloc _ _⟩
      · by_cases q4 : l.op = 4
        · have HE : Hid (R = (x != l.n)) := by rw [hE, if_neg q1, if_neg q2, if_neg q3, if_pos q4]; rfl
          rw [q4]; clear hE q1 q2 q3 q4
          go_enter Tryz.func93, Tryz.ntmps93
          go_wp2
          go_ret
          exact ⟨ret_bool HE.out.symm, below_alloc _ _⟩
        · have HE : Hid (R = false) := by rw [hE, if_neg q1, if_neg q2, if_neg q3, if_neg q4]; rfl
          have g1 : (l.op == 1) = false := by simpa using q1
          have g2 : (l.op == 2) = false := by simpa using q2
          have g3 : (l.op == 3) = false := by simpa using q3
          have g4 : (l.op == 4) = false := by simpa using q4
          clear hE q1 q2 q3 q4
          go_enter Tryz.func93, Tryz.ntmps93
          go_wp2
          go_ret
          exact ⟨ret_bool HE.out.symm, below_alloc _ _⟩
end Go.Proofs.YtijohkhpigjbkaeGreatDoor
/-
  PLAIN: what a constraint's 'holds' says. WALKS: package truth: oneIf, valuesOf.
-/
namespace Go.Proofs.YtijohkhpigjbkaeGreatDoor
open Go.RowKit

def valAt (vals : List Int) (v : Int) : Int := vals.getD v.toNat 0
def ownV (vars vals : List Int) : List Int := vars.map (valAt vals)
def sumV (consts own : List Int) : Int := (List.zipWith (· * ·) consts own).sum
def litB (vals : List Int) (l : MLit) : Bool := litV (valAt vals l.var) l
def maxV : List Int → Int
  | [] => 0
  | a :: r => r.foldl max a
def holdsC (c : MCon) (vals : List Int) : Bool :=
  if c.kind = 1 then decide (sumV c.consts (ownV c.vars vals) ≤ c.n)
  else if c.kind = 2 then sumV c.consts (ownV c.vars vals) == c.n
  else if c.kind = 3 then sumV c.consts (ownV c.vars vals) != c.n
  else if c.kind = 4 then decide (ownV c.vars vals).Nodup
  else if c.kind = 5 then decide (0 ≤ (ownV c.vars vals).getD 0 0) && (decide ((ownV c.vars vals).getD 0 0 < c.consts.length) && (c.consts.getD ((ownV c.vars vals).getD 0 0).toNat 0 == (ownV c.vars vals).getD 1 0))
  else if c.kind = 6 then c.rows.any fun r => decide (r = ownV c.vars vals)
  else if c.kind = 7 then (ownV c.vars vals).getD 0 0 * (ownV c.vars vals).getD 1 0 == (ownV c.vars vals).getD 2 0
  else if c.kind = 8 then (ownV c.vars vals).getD 0 0 == maxV ((ownV c.vars vals).drop 1)
  else if c.kind = 9 then c.lits.any (litB vals)
  else if c.kind = 10 then (ownV c.vars vals).getD 0 0 == (if litB vals (c.lits.getD 0 ⟨0, 0, 0⟩) then 1 else 0)
  else false

theorem valAt_get (vals : List Int) (k : Nat) (x : Int) (h : vals[k]? = some x) : valAt vals (k : Int) = x := by
  unfold valAt; rw [Int.toNat_natCast, List.getD_eq_getElem?_getD, h]; rfl

set_option maxHeartbeats 400000 in
theorem oneif_any (b : Bool) (w : World) : Calls Tryz.prog 109 #[.bool b] w fun e w' => e = .returned (.int .i64 (if b then 1 else 0)) ∧ w' = w := by
  cases b
  · go_enter Tryz.func109, Tryz.ntmps109
    go_wp2
    go_ret
    exact ⟨rfl, rfl⟩
  · go_enter Tryz.func109, Tryz.ntmps109
    go_wp2
    go_ret
    exact ⟨rfl, rfl⟩

theorem Tryz.infoInt0 : (Tryz.prog.info? 3).map (fun i => (i.zero, i.size, i.bytes)) = some (some (.int .i64 0), 1, 8) := by kernel_rfl
theorem Tryz.underInts0 : Tryz.prog.underlying 39 = some (.slice 3) := by kernel_rfl
/-- Numbers are made: all nought. -/
theorem make_ints (n : Nat) (hn : n ≤ 1000) (w : World) : ∃ w', Sem.run Tryz.prog (Instr.makeSlice 39 (.int .i64 (n : Int)) (.int .i64 (n : Int))) w = .ok (.slice (some ⟨w.heap.size, 0, none⟩) n n) w' ∧
    w'.ownsRow w.heap.size 3 1 (.slice (some ⟨w.heap.size, 0, none⟩) n n) n (List.replicate n (.int .i64 0)) ∧ Below w.heap.size w w' := by
  obtain ⟨i0, hi, hz0, hz1, hz2⟩ := info_parts Tryz.infoInt0
  obtain ⟨w', hrun, hown, hg⟩ := run_makeSlice_full w w.heap.size 39 3 i0 (.int .i64 0) 1 Tryz.underInts0 hi hz0 hz1 .i64 .i64 n (by omega) (by rw [hz2]; omega) (by unfold maxLen; omega) (Nat.le_refl _)
  refine ⟨w', hrun, ?_, (Below.refl _ _).grown hg (Nat.le_refl _) (fun k h => by cases h)⟩
  have : (Value.int .i64 0).cells = #[.int .i64 0] := rfl
  rw [this, Nat.mul_one, toList_madeCells_one] at hown
  exact hown

/-- Numbers of one's own, as a list. -/
theorem own_ints {w : World} {base : Nat} {v : Value} {r : List Int} (h : w.ownsRow base 3 1 v r.length (r.map (Value.int .i64))) : IArg w v r := by
  rcases h.2 with ⟨rfl, hn⟩ | ⟨g, cap, cur, rfl, hg, hh, hc1, hc2, _, _⟩
  · have : r = [] := List.eq_nil_of_length_eq_zero hn
    subst this
    exact ⟨none, 0, rfl, ⟨Nat.le_refl _, Nat.zero_le _⟩, fun i z hz => by simp at hz⟩
  · refine ⟨_, cap, rfl, ⟨hc1, hc2⟩, fun i z hz => ⟨g, 0, rfl, (Array.getElem?_eq_some_iff.1 hh).1, ?_⟩⟩
    have hi : i < r.length := (List.getElem?_eq_some_iff.1 hz).1
    rw [Nat.zero_add, h.cellAt i (by omega), List.getElem?_map, hz]; rfl

set_option maxHeartbeats 800000 in
set_option maxRecDepth 100000 in
theorem values_of (vars vals : List Int) (u v : Value) (w : World) (hu : IArg w u vars) (hv : IArg w v vals) (hn : vars.length ≤ 4) (hr : ∀ x ∈ vars, 0 ≤ x ∧ x < vals.length) :
    Calls Tryz.prog 102 #[u, v] w fun e w' => ∃ x, e = .returned x ∧ IArg w' x (ownV vars vals) ∧ Below w.heap.size w w' := by
  obtain ⟨a, c, rfl, hm, h1⟩ := hu
  obtain ⟨a', c', rfl, hm', h2⟩ := hv
  have HU : Hid (∀ (i : Nat) (z : Int), vars[i]? = some z → ∃ b off, a = some ⟨b, off, none⟩ ∧ b < w.heap.size ∧ w.cell? ⟨b, off + i, none⟩ = some (.int .i64 z)) := h1
  have HV : Hid (∀ (i : Nat) (z : Int), vals[i]? = some z → ∃ b off, a' = some ⟨b, off, none⟩ ∧ b < w.heap.size ∧ w.cell? ⟨b, off + i, none⟩ = some (.int .i64 z)) := h2
  have HR : Hid (∀ x ∈ vars, 0 ≤ x ∧ x < vals.length) := hr
  unfold maxLen at hm hm'
  obtain ⟨hm1, hm⟩ := hm
  obtain ⟨hm1', hm'⟩ := hm'
  obtain ⟨wm, hrun, hown, hbm⟩ := make_ints vars.length (by omega) w
  have HOWN : Hid (wm.ownsRow w.heap.size 3 1 (.slice (some ⟨w.heap.size, 0, none⟩) vars.length vars.length) vars.length (List.replicate vars.length (.int .i64 0))) := hown
  have HBM : Hid (Below w.heap.size w wm) := hbm
  clear h1 h2 hr hown hbm
  go_enter Tryz.func102, Tryz.ntmps102
  go_wp2_with fail
  clear hrun
  go_loopw [13] (fun i wr => ∃ (k : Nat) (cells : List Value), k ≤ vars.length ∧ i = .int .i64 k ∧ wr.ownsRow w.heap.size 3 1 (.slice (some ⟨w.heap.size, 0, none⟩) vars.length vars.length) vars.length cells ∧ Hid (cells.take k = ((ownV vars vals).take k).map (Value.int .i64)) ∧ Below w.heap.size w wr) (fun i _ => vars.length - (intOf i).toNat)
  case atStart => exact ⟨0, _, by omega, rfl, HOWN.out, rfl, HBM.out⟩
  case round =>
    obtain ⟨k, cells, hk, rfl, hown, htk, hbw⟩ := hrel
    by_cases hlt : k < vars.length
    · obtain ⟨z, hz⟩ : ∃ z, vars[k]? = some z := ⟨vars[k], by simp [hlt]⟩
      obtain ⟨hz0, hz1⟩ := HR.out z (List.mem_of_getElem? hz)
      obtain ⟨j, rfl⟩ : ∃ j : Nat, z = (j : Int) := ⟨z.toNat, by omega⟩
      have hjl : j < vals.length := by omega
      obtain ⟨x, hx⟩ : ∃ x, vals[j]? = some x := ⟨vals[j], by simp [hjl]⟩
      have HO : Hid ((ownV vars vals)[k]? = some x) := by show _ = _; unfold ownV; rw [List.getElem?_map, hz]; show some _ = _; rw [valAt_get vals j x hx]
      obtain ⟨b, off, rfl, hb, hc⟩ := HU.out k _ hz
      obtain ⟨b', off', rfl, hb', hd⟩ := HV.out j x hx
      have e1 := (hbw.cell (p := ⟨b, off + k, none⟩) hb).trans hc
      have e2 := (hbw.cell (p := ⟨b', off' + j, none⟩) hb').trans hd
      have hlen : cells.length = vars.length := by have := hown.1; omega
      obtain ⟨y, hy⟩ : ∃ y, cells[k]? = some y := ⟨cells[k]'(by omega), by simp⟩
      have e3 : wr.cell? ⟨w.heap.size, k, none⟩ = some y := by rw [hown.cellAt k (by omega)]; exact hy
      have e4 := hown.frozenAt k
      have HST : Hid ((wr.setCell ⟨w.heap.size, k, none⟩ (.int .i64 x)).ownsRow w.heap.size 3 1 (.slice (some ⟨w.heap.size, 0, none⟩) vars.length vars.length) vars.length (cells.set k (.int .i64 x))) := (hown.stored k _).1
      have HTK : Hid ((cells.set k (.int .i64 x)).take (k + 1) = ((ownV vars vals).take (k + 1)).map (Value.int .i64)) := by
        show _ = _
        rw [List.take_add_one, List.take_add_one, HO.out, List.map_append, List.getElem?_set_self (by omega), List.take_set_of_le (Nat.le_refl _), htk.out]; rfl
      have HBW : Hid (Below w.heap.size w (wr.setCell ⟨w.heap.size, k, none⟩ (.int .i64 x))) := hbw.setCell (Nat.le_refl _) _
      clear hz hx hc hd hb hb' hown htk hbw hz0 hz1 hlen hy
      go_wp2
      go_roundw
      case rel => exact ⟨k + 1, _, by omega, by go_num, HST.out, HTK, HBW.out⟩
      case measure => simp [intOf]; omega
    · have hks : k = vars.length := by omega
      have hlen : cells.length = vars.length := by have := hown.1; omega
      have HC : Hid (cells = (ownV vars vals).map (Value.int .i64)) := by
        have h := htk.out
        rwa [List.take_of_length_le (by omega), List.take_of_length_le (by unfold ownV; simp; omega)] at h
      have HF : Hid (IArg wr (.slice (some ⟨w.heap.size, 0, none⟩) vars.length vars.length) (ownV vars vals)) := by
        rw [HC.out] at hown
        have : vars.length = (ownV vars vals).length := by simp [ownV]
        rw [this] at hown ⊢
        exact own_ints hown
      clear hks hlen hown htk
      go_wp2
      go_ret
      exact ⟨_, rfl, HF.out, hbw⟩
end Go.Proofs.YtijohkhpigjbkaeGreatDoor
/-
  WALKS: package model: sum, slices.Equal, Max over numbers.
-/
namespace Go.Proofs.YtijohkhpigjbkaeGreatDoor
open Go.RowKit

theorem mul_bound (x y : Int) (h1 : -1000 ≤ x) (h2 : x ≤ 1000) (h3 : -50 ≤ y) (h4 : y ≤ 50) : -50000 ≤ x * y ∧ x * y ≤ 50000 := by
  have key : (x * y).natAbs ≤ 50000 := by
    rw [Int.natAbs_mul]
    have := Nat.mul_le_mul (show x.natAbs ≤ 1000 by omega) (show y.natAbs ≤ 50 by omega)
    omega
  omega
def sumK (consts own : List Int) (k : Nat) : Int := ((List.zipWith (· * ·) consts own).take k).sum
theorem sumK_next (consts own : List Int) (k : Nat) (x y : Int) (hx : consts[k]? = some x) (hy : own[k]? = some y) : sumK consts own (k + 1) = sumK consts own k + x * y := by
  unfold sumK
  rw [List.take_add_one, List.getElem?_zipWith, hx, hy]
  simp [List.sum_append]

set_option maxHeartbeats 800000 in
set_option maxRecDepth 100000 in
theorem sum_any (consts own : List Int) (u v : Value) (w : World) (hu : IArg w u consts) (hv : IArg w v own) (hl : consts.length = own.length) (hn : consts.length ≤ 8)
    (hc : ∀ x ∈ consts, -1000 ≤ x ∧ x ≤ 1000) (ho : ∀ x ∈ own, -50 ≤ x ∧ x ≤ 50) :
    Calls Tryz.prog 103 #[u, v] w fun e w' => e = .returned (.int .i64 (sumV consts own)) ∧ w' = w := by
  obtain ⟨a, c, rfl, hm, h1⟩ := hu
  obtain ⟨a', c', rfl, hm', h2⟩ := hv
  have HU : Hid (∀ (i : Nat) (z : Int), consts[i]? = some z → ∃ b off, a = some ⟨b, off, none⟩ ∧ b < w.heap.size ∧ w.cell? ⟨b, off + i, none⟩ = some (.int .i64 z)) := h1
  have HV : Hid (∀ (i : Nat) (z : Int), own[i]? = some z → ∃ b off, a' = some ⟨b, off, none⟩ ∧ b < w.heap.size ∧ w.cell? ⟨b, off + i, none⟩ = some (.int .i64 z)) := h2
  have HL : Hid (consts.length = own.length) := hl
  have HC : Hid (∀ x ∈ consts, -1000 ≤ x ∧ x ≤ 1000) := hc
  have HO : Hid (∀ x ∈ own, -50 ≤ x ∧ x ≤ 50) := ho
  obtain ⟨R, hR⟩ : ∃ R, sumV consts own = R := ⟨_, rfl⟩
  rw [hR]
  have HR : Hid (sumV consts own = R) := hR
  unfold maxLen at hm hm'
  obtain ⟨hm1, hm⟩ := hm
  obtain ⟨hm1', hm'⟩ := hm'
  clear h1 h2 hl hc ho hR
  go_enter Tryz.func103, Tryz.ntmps103
  go_wp2_with fail
  go_loop [5, 10] (fun t i => ∃ (k : Nat) (s : Int), k ≤ consts.length ∧ i = .int .i64 k ∧ t = .int .i64 s ∧ Hid (sumK consts own k = s) ∧ (-50000 * (k : Int) ≤ s ∧ s ≤ 50000 * (k : Int))) (fun _ i => consts.length - (intOf i).toNat)
  case atStart => exact ⟨0, 0, by omega, rfl, rfl, rfl, by omega⟩
  case round =>
    obtain ⟨k, s, hk, rfl, rfl, hs, hb1, hb2⟩ := hrel
    by_cases hlt : k < consts.length
    · have hlt' : k < own.length := by rw [← HL.out]; exact hlt
      obtain ⟨x, hx⟩ : ∃ x, consts[k]? = some x := ⟨consts[k], by simp [hlt]⟩
      obtain ⟨y, hy⟩ : ∃ y, own[k]? = some y := ⟨own[k], by simp [hlt']⟩
      have HX : Hid (sumK consts own (k + 1) = s + x * y) := by show _ = _; rw [sumK_next consts own k x y hx hy, hs.out]
      obtain ⟨b, off, rfl, hb, hc⟩ := HU.out k x hx
      obtain ⟨b', off', rfl, hb', hd⟩ := HV.out k y hy
      have hxb := HC.out x (List.mem_of_getElem? hx)
      have hyb := HO.out y (List.mem_of_getElem? hy)
      obtain ⟨hp1, hp2⟩ := mul_bound x y hxb.1 hxb.2 hyb.1 hyb.2
      clear hx hy hb hb' hxb hyb
      go_wp2
      go_round
      case rel => exact ⟨k + 1, s + x * y, by omega, by go_num, by go_num, HX, by omega, by omega⟩
      case measure => simp [intOf]; omega
    · have HN : Hid (s = R) := by
        show _ = _
        rw [← hs.out, ← HR.out]; unfold sumK sumV
        rw [List.take_of_length_le (by rw [List.length_zipWith]; omega)]
      go_wp2
      go_ret
      exact ⟨ret_int HN.out, rfl⟩

theorem take_same0 {α : Type} (a b : List α) (m : Nat) (x : α) (h : a.take m = b.take m) (ha : a[m]? = some x) (hb : b[m]? = some x) : a.take (m + 1) = b.take (m + 1) := by
  rw [List.take_add_one, List.take_add_one, h, ha, hb]
theorem same_end0 {α : Type} (a b : List α) (m : Nat) (h : a.take m = b.take m) (ha : ¬ m < a.length) (hl : a.length = b.length) : a = b := by
  rwa [List.take_of_length_le (by omega), List.take_of_length_le (by omega)] at h
theorem not_same0 {α : Type} (a b : List α) (m : Nat) (x y : α) (ha : a[m]? = some x) (hb : b[m]? = some y) (h : x ≠ y) : a ≠ b := by
  intro e; subst e; rw [ha] at hb; cases hb; exact h rfl
set_option maxHeartbeats 800000 in
set_option maxRecDepth 100000 in
theorem equal_any (l k : List Int) (v u : Value) (w : World) (hv : IArg w v l) (hu : IArg w u k) :
    Calls Tryz.prog 107 #[v, u] w fun e w' => e = .returned (.bool (decide (l = k))) ∧ ∃ n, w' = w.drewN n := by
  obtain ⟨a, c, rfl, hm, hr⟩ := hv
  obtain ⟨a', c', rfl, hm', hr'⟩ := hu
  have HV : Hid (∀ (i : Nat) (z : Int), l[i]? = some z → ∃ b off, a = some ⟨b, off, none⟩ ∧ b < w.heap.size ∧ w.cell? ⟨b, off + i, none⟩ = some (.int .i64 z)) := hr
  have HV' : Hid (∀ (i : Nat) (z : Int), k[i]? = some z → ∃ b off, a' = some ⟨b, off, none⟩ ∧ b < w.heap.size ∧ w.cell? ⟨b, off + i, none⟩ = some (.int .i64 z)) := hr'
  obtain ⟨R, hR⟩ : ∃ R, decide (l = k) = R := ⟨_, rfl⟩
  rw [hR]
  have HR : Hid (decide (l = k) = R) := hR
  unfold maxLen at hm hm'
  obtain ⟨hm1, hm⟩ := hm
  obtain ⟨hm1', hm'⟩ := hm'
  clear hr hr' hR
  by_cases hl : l.length = k.length
  · have HL : Hid (l.length = k.length) := hl
    have g0 : ((l.length : Int) != (k.length : Int)) = false := by simp [hl]
    clear hl
    go_enter Tryz.func107, Tryz.ntmps107
    go_wp2_with fail
    go_loopw [13] (fun i wr => ∃ m : Nat, m ≤ l.length ∧ i = .int .i64 m ∧ Hid (l.take m = k.take m) ∧ ∃ n, wr = w.drewN n) (fun i _ => l.length - (intOf i).toNat)
    case atStart => exact ⟨0, by omega, rfl, rfl, 0, rfl⟩
    case round =>
      obtain ⟨m, hml, rfl, hall, nq, rfl⟩ := hrel
      by_cases hlt : m < l.length
      · have hlt' : m < k.length := by rw [← HL.out]; exact hlt
        obtain ⟨x, hx⟩ : ∃ x, l[m]? = some x := ⟨l[m], by simp [hlt]⟩
        obtain ⟨y, hy⟩ : ∃ y, k[m]? = some y := ⟨k[m], by simp [hlt']⟩
        obtain ⟨b, off, ha, hb, hc⟩ := HV.out m x hx
        obtain ⟨b', off', ha', hb', hd⟩ := HV'.out m y hy
        have HX : Hid (l[m]? = some x) := hx
        have HY : Hid (k[m]? = some y) := hy
        subst ha; subst ha'
        clear hx hy
        by_cases hq : x = y
        · subst hq
          have HN : Hid (l.take (m + 1) = k.take (m + 1)) := take_same0 l k m x hall.out HX.out HY.out
          go_wp2
          go_quiet (fail)
          go_wp2
          go_roundw
          case rel => exact ⟨m + 1, by omega, by go_num, HN, _, rfl⟩
          case measure => simp [intOf]; omega
        · have HN : Hid (R = false) := by rw [← HR.out]; exact decide_eq_false (not_same0 l k m x y HX.out HY.out hq)
          have hq2 : (x != y) = true := by simpa using hq
          clear hq
          go_wp2
          go_quiet (fail)
          go_wp2
          go_ret
          exact ⟨ret_bool HN.out.symm, _, drewN_drewN _ _ _⟩
      · have HN : Hid (R = true) := by rw [← HR.out]; exact decide_eq_true (same_end0 l k m hall.out hlt HL.out)
        go_wp2
        go_ret
        exact ⟨ret_bool HN.out.symm, _, rfl⟩
  · have HN : Hid (R = false) := by rw [← HR.out]; exact decide_eq_false (fun h => hl (by rw [h]))
    have g0 : ((l.length : Int) != (k.length : Int)) = true := by simp; omega
    clear hl
    go_enter Tryz.func107, Tryz.ntmps107
    go_wp2
    go_ret
    exact ⟨ret_bool HN.out.symm, 0, rfl⟩

theorem max_next (a : Int) (r : List Int) (k : Nat) (x : Int) (hx : r[k]? = some x) : (r.take (k + 1)).foldl max a = max ((r.take k).foldl max a) x := by
  rw [List.take_add_one, hx, List.foldl_append]; rfl
set_option maxHeartbeats 800000 in
set_option maxRecDepth 100000 in
theorem max_any (p : Int) (r : List Int) (v : Value) (w : World) (hv : IArg w v (p :: r)) :
    Calls Tryz.prog 108 #[v] w fun e w' => e = .returned (.int .i64 (r.foldl max p)) ∧ w' = w := by
  obtain ⟨a, c, rfl, hm, h1⟩ := hv
  have HU : Hid (∀ (i : Nat) (z : Int), (p :: r)[i]? = some z → ∃ b off, a = some ⟨b, off, none⟩ ∧ b < w.heap.size ∧ w.cell? ⟨b, off + i, none⟩ = some (.int .i64 z)) := h1
  obtain ⟨b, off, rfl, hb, hc⟩ := h1 0 p rfl
  rw [Nat.add_zero] at hc
  obtain ⟨R, hR⟩ : ∃ R, r.foldl max p = R := ⟨_, rfl⟩
  rw [hR]
  have HR : Hid (r.foldl max p = R) := hR
  unfold maxLen at hm
  obtain ⟨hm1, hm⟩ := hm
  obtain ⟨n, hn⟩ : ∃ n, (p :: r).length = n := ⟨_, rfl⟩
  rw [hn] at hm1 ⊢
  have HN : Hid (n = r.length + 1) := by rw [← hn]; rfl
  have hn1 : 1 ≤ n := by rw [← hn]; simp
  clear h1 hR hn
  go_enter Tryz.func108, Tryz.ntmps108
  go_wp2_with fail
  go_loop [3, 4] (fun t i => ∃ (k : Nat) (s : Int), k + 1 ≤ n ∧ i = .int .i64 ((k : Int) + 1) ∧ t = .int .i64 s ∧ Hid ((r.take k).foldl max p = s)) (fun _ i => n - (intOf i).toNat)
  case atStart => exact ⟨0, p, by omega, rfl, rfl, rfl⟩
  case round =>
    obtain ⟨k, s, hk, rfl, rfl, hs⟩ := hrel
    by_cases hlt : k + 1 < n
    · have hlr : k < r.length := by have := HN.out; omega
      obtain ⟨x, hx⟩ : ∃ x, r[k]? = some x := ⟨r[k], by simp [hlr]⟩
      have HX : Hid ((r.take (k + 1)).foldl max p = if s < x then x else s) := by show _ = _; rw [max_next p r k x hx, hs.out]; split <;> omega
      obtain ⟨b2, off2, hab, hb2, hd⟩ := HU.out (k + 1) x (by simpa using hx)
      cases hab
      clear hx hlr
      go_wp2
      go_round
      case rel => exact ⟨k + 1, _, by omega, by go_num, rfl, HX⟩
      case measure => simp [intOf]; omega
    · have HF : Hid (s = R) := by
        show _ = _
        rw [← hs.out, ← HR.out, List.take_of_length_le (by have := HN.out; omega)]
      go_wp2
      go_ret
      exact ⟨ret_int HF.out, rfl⟩
end Go.Proofs.YtijohkhpigjbkaeGreatDoor
/-
  WALKS: package truth: differ.
-/
namespace Go.Proofs.YtijohkhpigjbkaeGreatDoor
open Go.RowKit Go.Maps

theorem Tryz.intKey : Keyed Tryz.prog 3 := int_keyed Tryz.underlying3
theorem Tryz.zeroUnit (w : World) : (zeroValue 94).run Tryz.prog w = .ok (.agg #[]) w := by kernel_rfl
def setD {H : Type} (l : List Int) : DataW H := setOf (.agg []) (l.map (Lit.int .i64))
theorem any_lit (x : Int) : ∀ l : List Int, l.any ((fun y : Lit => y.sameKey (.int .i64 x)) ∘ Lit.int .i64) = l.contains x
  | [] => rfl
  | a :: r => by
    rw [List.any_cons, List.contains_cons, any_lit x r]
    congr 1
    show decide (IntKind.i64 = IntKind.i64 ∧ a = x) = (x == a)
    by_cases e : a = x
    · subst e
      simp
    · have e' : ¬ x = a := fun h => e h.symm
      simp [e, e']
theorem has_setD {H : Type} (l : List Int) (x : Int) : Maps.has (setD (H := H) l) (.int .i64 x) = l.contains x := by
  unfold setD
  rw [has_setOf _ _ _ (fun y hy => by obtain ⟨_, _, rfl⟩ := List.mem_map.1 hy; trivial), List.any_map]
  exact any_lit x _
theorem setD_next {H : Type} (l : List Int) (x : Int) : setD (H := H) (l ++ [x]) = (setD l).put (.int .i64 x) (.agg []) := by
  unfold setD; rw [List.map_append]; exact setOf_snoc _ _ _
theorem nodup_next (l : List Int) (k : Nat) (x : Int) (hx : l[k]? = some x) (h : (l.take k).Nodup) (hc : (l.take k).contains x = false) : (l.take (k + 1)).Nodup := by
  rw [List.take_add_one, hx]
  rw [List.nodup_append]
  refine ⟨h, by simp, fun a ha b hb => ?_⟩
  simp at hb
  subst hb
  intro e
  subst e
  have : (l.take k).contains a = true := by simpa using ha
  rw [hc] at this; cases this
theorem nodup_hit (l : List Int) (k : Nat) (x : Int) (hx : l[k]? = some x) (hc : (l.take k).contains x = true) : ¬ l.Nodup := by
  intro hn
  have hk : k < l.length := (List.getElem?_eq_some_iff.1 hx).1
  have h1 : x ∈ l.take k := by simpa using hc
  have h2 : x ∈ l.drop k := by rw [List.drop_eq_getElem_cons hk]; have : l[k] = x := by simpa [hk] using hx
                               rw [this]; exact List.mem_cons_self ..
  have h3 := hn
  rw [← List.take_append_drop k l, List.nodup_append] at h3
  exact h3.2.2 x h1 x h2 rfl

set_option maxHeartbeats 1600000 in
set_option maxRecDepth 100000 in
theorem differ_any (l : List Int) (v : Value) (w : World) (hv : IArg w v l) (hn : l.length ≤ 4) (hb0 : ∀ x ∈ l, -50 ≤ x ∧ x ≤ 50) :
    Calls Tryz.prog 104 #[v] w fun e w' => e = .returned (.bool (decide l.Nodup)) ∧ Below w.heap.size w w' := by
  obtain ⟨a, c, rfl, hm, hr⟩ := hv
  have HV : Hid (∀ (i : Nat) (z : Int), l[i]? = some z → ∃ b off, a = some ⟨b, off, none⟩ ∧ b < w.heap.size ∧ w.cell? ⟨b, off + i, none⟩ = some (.int .i64 z)) := hr
  have HB : Hid (∀ x ∈ l, -50 ≤ x ∧ x ≤ 50) := hb0
  obtain ⟨R, hR⟩ : ∃ R, decide l.Nodup = R := ⟨_, rfl⟩
  rw [hR]
  have HR : Hid (decide l.Nodup = R) := hR
  unfold maxLen at hm
  obtain ⟨hm1, hm⟩ := hm
  clear hr hR hb0
  have hmm := @run_makeMap Tryz.prog
  go_enter Tryz.func104, Tryz.ntmps104
  go_wp2_with fail
  clear hmm
  go_loopw [11] (fun i wr => ∃ k : Nat, k ≤ l.length ∧ i = .int .i64 k ∧ wr.ownsMap Tryz.prog 3 unitElem w.heap.size k (setD (H := Unit) (l.take k)) ∧ Hid ((l.take k).Nodup) ∧ Below w.heap.size w wr ∧ w.heap.size + 1 ≤ wr.heap.size) (fun i _ => l.length - (intOf i).toNat)
  case atStart => exact ⟨0, by omega, rfl, World.ownsMap_made _ _ _ _, by show List.Nodup _; simp, (Below.refl _ _).alloc (Nat.le_refl _) _, by simp⟩
  case round =>
    obtain ⟨k, hk, rfl, hown, hnd, hbw, hws⟩ := hrel
    by_cases hlt : k < l.length
    · obtain ⟨x, hx⟩ : ∃ x, l[k]? = some x := ⟨l[k], by simp [hlt]⟩
      obtain ⟨b, off, rfl, hb, hc⟩ := HV.out k x hx
      have e1 := (hbw.cell (p := ⟨b, off + k, none⟩) hb).trans hc
      have hxb := HB.out x (List.mem_of_getElem? hx)
      have hkey : keyOf Tryz.prog 3 (.int .i64 x) = some (.int .i64 x) := keyOf_int_mk Tryz.underlying3 (WalkArith.wf_i64 (by omega))
      have HX : Hid (l[k]? = some x) := hx
      clear hx hc hb
      cases hq : (l.take k).contains x
      · have HN : Hid ((l.take (k + 1)).Nodup) := nodup_next l k x HX.out hnd.out hq
        have HD : Hid (setD (H := Unit) (l.take (k + 1)) = (setD (l.take k)).put (.int .i64 x) (.agg [])) := by
          show _ = _; rw [List.take_add_one, HX.out]; exact setD_next _ _
        have hh : Maps.has (setD (H := Unit) (l.take k)) (.int .i64 x) = false := by rw [has_setD]; exact hq
        clear hq
        go_wp2_with (first
          | (at_lookup; refine wpList_lookup_own_unit _ rfl _ _ 191 rfl 3 94 Tryz.intKey Tryz.underlying191 (Tryz.zeroUnit _) w.heap.size k _ rfl hown _ _ rfl hkey ?_)
          | (at_mapUpdate; refine wpList_mapUpdate_own _ rfl _ _ _ 191 rfl 3 94 Tryz.intKey Tryz.underlying191 (unitElem (H := Unit)) w.heap.size k _ rfl (hown.alloc _) (by unfold maxLen; omega) _ _ _ rfl rfl hkey _ [] unitElem_mk ?_; intro w1 hown1 hgrow1)
          | go_in)
        have s1 := hgrow1.size
        simp at s1
        go_roundw
        case rel => exact ⟨k + 1, by omega, by go_num, by rw [HD.out]; exact hown1, HN, (hbw.alloc hbw.size _).grown hgrow1 (by simp; omega) (fun j hj => by cases hj; exact Nat.le_refl _), by omega⟩
        case measure => simp [intOf]; omega
      · have HN : Hid (R = false) := by rw [← HR.out]; exact decide_eq_false (nodup_hit l k x HX.out hq)
        have hh : Maps.has (setD (H := Unit) (l.take k)) (.int .i64 x) = true := by rw [has_setD]; exact hq
        clear hq
        go_wp2_with (first
          | (at_lookup; refine wpList_lookup_own_unit _ rfl _ _ 191 rfl 3 94 Tryz.intKey Tryz.underlying191 (Tryz.zeroUnit _) w.heap.size k _ rfl hown _ _ rfl hkey ?_)
          | go_in)
        go_ret
        exact ⟨ret_bool HN.out.symm, hbw.alloc hbw.size _⟩
    · have HN : Hid (R = true) := by
        have := hnd.out; rw [List.take_of_length_le (by omega)] at this; rw [← HR.out]; exact decide_eq_true this
      go_wp2
      go_ret
      exact ⟨ret_bool HN.out.symm, hbw⟩
end Go.Proofs.YtijohkhpigjbkaeGreatDoor
/-
  WALKS: package truth: slices.ContainsFunc over rows and over literals, with whatever closure of one capture.
-/
namespace Go.Proofs.YtijohkhpigjbkaeGreatDoor
open Go.RowKit

/-- A region that draws its order, whose operations read and whose callees make memory of their own: one walk, in whatever world that is as W was below. -/
theorem region_below {P : Program} {id : Nat} {Q : Exit → Act → World → Prop} {a : Act} {W : World} {l : List Oper} (hm : P.follows .mixedOrders = true) (hB : Region.lexB .any l.toArray = true)
    (h : wpQuiet P l.toArray (fun w' => Below W.heap.size W w') (fun a' => ∀ w', Below W.heap.size W w' → Q .normal a' w') l a) : (Code.region id l.toArray true).wp P Q a W :=
  wp_region_quiet (C := fun w' => Below W.heap.size W w') hm hB ⟨rfl, rfl, rfl, Nat.le_refl _, fun _ _ => rfl⟩ (by simpa using h)

theorem draws0 {w w' : World} {n : Nat} (h : w' = w.drewN n) : Below w.heap.size w w' := by rw [h]; exact below_drewN (Below.refl _ _) _
def ClosR (F : Nat) (c1 : Value) (p : List Int → Bool) (w : World) : Prop :=
  (∀ (args : Array Value) (w' : World), Sem.run Tryz.prog (callFunc F args) w' = .ok (.enter F args) w') ∧
  ∀ (r : List Int) (x : Value) (w' : World), Below w.heap.size w w' → IArg w' x r → Calls Tryz.prog F #[x, c1] w' fun e w'' => e = .returned (.bool (p r)) ∧ Below w'.heap.size w' w''
def ClosL (F : Nat) (caps : Array Value) (ls : List MLit) (p : MLit → Bool) (w : World) : Prop :=
  (∀ (args : Array Value) (w' : World), Sem.run Tryz.prog (callFunc F args) w' = .ok (.enter F args) w') ∧
  ∀ (l : MLit) (w' : World), l ∈ ls → Below w.heap.size w w' → Calls Tryz.prog F (#[.agg #[.int .i64 l.var, .int .i64 l.op, .int .i64 l.n]] ++ caps) w' fun e w'' => e = .returned (.bool (p l)) ∧ Below w'.heap.size w' w''
theorem any_hit0 {α : Type} (p : α → Bool) (l : List α) (m : Nat) (t : α) (ht : l[m]? = some t) (h : p t = true) : l.any p = true := List.any_eq_true.2 ⟨t, List.mem_of_getElem? ht, h⟩
theorem any_next0 {α : Type} (p : α → Bool) (l : List α) (m : Nat) (t : α) (ht : l[m]? = some t) (h0 : (l.take m).any p = false) (h : p t = false) : (l.take (m + 1)).any p = false := by
  rw [List.take_add_one, ht, List.any_append, h0]; simp [h]
theorem any_end0 {α : Type} (p : α → Bool) (l : List α) (m : Nat) (h : ¬ m < l.length) (h0 : (l.take m).any p = false) : l.any p = false := by
  rwa [List.take_of_length_le (by omega)] at h0

set_option maxHeartbeats 800000 in
set_option maxRecDepth 100000 in
theorem indexf_rows (F : Nat) (c1 : Value) (p : List Int → Bool) (l : List (List Int)) (v : Value) (w : World) (hv : RArg w v l) (hF : ClosR F c1 p w) :
    Calls Tryz.prog 157 #[v, .func (.func F) #[] #[c1]] w fun e w' => (∃ z : Int, e = .returned (.int .i64 z) ∧ decide (0 ≤ z) = l.any p) ∧ Below w.heap.size w w' := by
  obtain ⟨a, c, rfl, hm, hr⟩ := hv
  have HV : Hid (∀ (i : Nat) (r : List Int), l[i]? = some r → ∃ b off x, a = some ⟨b, off, none⟩ ∧ b < w.heap.size ∧ w.cell? ⟨b, off + i, none⟩ = some x ∧ IArg w x r) := hr
  obtain ⟨R, hR⟩ : ∃ R, l.any p = R := ⟨_, rfl⟩
  rw [hR]
  have HR : Hid (l.any p = R) := hR
  have HF : Hid (ClosR F c1 p w) := hF
  unfold maxLen at hm
  obtain ⟨hm1, hm⟩ := hm
  clear hr hR hF
  go_enter Tryz.func157, Tryz.ntmps157
  go_wp2_with fail
  go_loopw [8] (fun i wr => ∃ m : Nat, m ≤ l.length ∧ i = .int .i64 m ∧ Hid ((l.take m).any p = false) ∧ Below w.heap.size w wr) (fun i _ => l.length - (intOf i).toNat)
  case atStart => exact ⟨0, by omega, rfl, rfl, Below.refl _ _⟩
  case round =>
    obtain ⟨m, hml, rfl, hall, hbw⟩ := hrel
    by_cases hlt : m < l.length
    · obtain ⟨z, hz⟩ : ∃ z, l[m]? = some z := ⟨l[m], by simp [hlt]⟩
      obtain ⟨b, off, x, ha, hb, hc0, hx⟩ := HV.out m z hz
      have hc := (hbw.cell (p := ⟨b, off + m, none⟩) hb).trans hc0
      have HZ : Hid (l[m]? = some z) := hz
      have HX : Hid (IArg wr x z) := IArg.below hbw hx
      obtain ⟨a5, c5, rfl, _, _⟩ := hx
      subst ha
      clear hz hc0
      cases hq : p z
      · have HN : Hid ((l.take (m + 1)).any p = false) := any_next0 _ l m z HZ.out hall.out hq
        go_wp2_with fail
        rw [HF.out.1, Oper.upon_enter]
        refine (HF.out.2 z _ _ hbw HX.out).mono ?_
        rintro e w1 ⟨rfl, hb1⟩
        rw [hq]
        clear hq
        go_wp2
        go_roundw
        case rel => exact ⟨m + 1, by omega, by go_num, HN, hbw.trans (hb1.mono hbw.size)⟩
        case measure => simp [intOf]; omega
      · have HN : Hid (R = true) := by rw [← HR.out]; exact any_hit0 p l m z HZ.out hq
        go_wp2_with fail
        rw [HF.out.1, Oper.upon_enter]
        refine (HF.out.2 z _ _ hbw HX.out).mono ?_
        rintro e w1 ⟨rfl, hb1⟩
        rw [hq]
        clear hq
        go_wp2
        go_ret
        exact ⟨⟨_, rfl, by rw [HN.out]; simp⟩, hbw.trans (hb1.mono hbw.size)⟩
    · have HN : Hid (R = false) := by rw [← HR.out]; exact any_end0 _ l m hlt hall.out
      go_wp2
      go_ret
      exact ⟨⟨_, rfl, by rw [HN.out]; rfl⟩, hbw⟩

set_option maxHeartbeats 400000 in
theorem containsf_rows (F : Nat) (c1 : Value) (p : List Int → Bool) (l : List (List Int)) (v : Value) (w : World) (hv : RArg w v l) (hF : ClosR F c1 p w) :
    Calls Tryz.prog 105 #[v, .func (.func F) #[] #[c1]] w fun e w' => e = .returned (.bool (l.any p)) ∧ Below w.heap.size w w' := by
  go_enter Tryz.func105, Tryz.ntmps105
  go_wp2_with fail
  refine (indexf_rows F c1 p l v _ hv hF).mono ?_
  rintro e w1 ⟨⟨z, rfl, hz⟩, hb1⟩
  have HZ : Hid (decide (0 ≤ z) = l.any p) := hz
  clear hz
  go_wp2
  go_ret
  exact ⟨ret_bool HZ.out, hb1⟩

/-- What IndexFunc answers: one that is such, or that there is none. -/
def Found (p : MLit → Bool) (l : List MLit) (z : Int) : Prop := (z = -1 ∧ l.any p = false) ∨ ∃ (k : Nat) (t : MLit), z = (k : Int) ∧ l[k]? = some t ∧ p t = true
theorem Found.sign {p : MLit → Bool} {l : List MLit} {z : Int} (h : Found p l z) : decide (0 ≤ z) = l.any p := by
  rcases h with ⟨rfl, h⟩ | ⟨k, t, rfl, ht, hp⟩
  · rw [h]; rfl
  · rw [any_hit0 p l k t ht hp]; simp

set_option maxHeartbeats 800000 in
set_option maxRecDepth 100000 in
theorem indexf_lits (F : Nat) (caps : Array Value) (p : MLit → Bool) (l : List MLit) (v : Value) (w : World) (hv : LArg w v l) (hF : ClosL F caps l p w) :
    Calls Tryz.prog 172 #[v, .func (.func F) #[] caps] w fun e w' => (∃ z : Int, e = .returned (.int .i64 z) ∧ Found p l z) ∧ Below w.heap.size w w' := by
  obtain ⟨a, c, rfl, hm, hr⟩ := hv
  have HV : Hid (∀ (i : Nat) (t : MLit), l[i]? = some t → ∃ b off, a = some ⟨b, off, none⟩ ∧ b < w.heap.size ∧
    w.cell? ⟨b, off + i * 3, none⟩ = some (.int .i64 t.var) ∧ w.cell? ⟨b, off + i * 3 + 1, none⟩ = some (.int .i64 t.op) ∧ w.cell? ⟨b, off + i * 3 + 2, none⟩ = some (.int .i64 t.n)) := hr
  have HF : Hid (ClosL F caps l p w) := hF
  unfold maxLen at hm
  obtain ⟨hm1, hm⟩ := hm
  clear hr hF
  go_enter Tryz.func172, Tryz.ntmps172
  go_wp2_with fail
  go_loopw [8] (fun i wr => ∃ m : Nat, m ≤ l.length ∧ i = .int .i64 m ∧ Hid ((l.take m).any p = false) ∧ Below w.heap.size w wr) (fun i _ => l.length - (intOf i).toNat)
  case atStart => exact ⟨0, by omega, rfl, rfl, Below.refl _ _⟩
  case round =>
    obtain ⟨m, hml, rfl, hall, hbw⟩ := hrel
    by_cases hlt : m < l.length
    · obtain ⟨z, hz⟩ : ∃ z, l[m]? = some z := ⟨l[m], by simp [hlt]⟩
      obtain ⟨b, off, ha, hb, d0, d1, d2⟩ := HV.out m z hz
      have e0 := (hbw.cell (p := ⟨b, off + m * 3, none⟩) hb).trans d0
      have e1 := (hbw.cell (p := ⟨b, off + m * 3 + 1, none⟩) hb).trans d1
      have e2 := (hbw.cell (p := ⟨b, off + m * 3 + 2, none⟩) hb).trans d2
      have HZ : Hid (l[m]? = some z) := hz
      subst ha
      clear hz d0 d1 d2
      cases hq : p z
      · have HN : Hid ((l.take (m + 1)).any p = false) := any_next0 _ l m z HZ.out hall.out hq
        go_wp2_with fail
        rw [HF.out.1, Oper.upon_enter]
        refine (HF.out.2 z _ (List.mem_of_getElem? HZ.out) hbw).mono ?_
        rintro e w1 ⟨rfl, hb1⟩
        rw [hq]
        clear hq
        go_wp2
        go_roundw
        case rel => exact ⟨m + 1, by omega, by go_num, HN, hbw.trans (hb1.mono hbw.size)⟩
        case measure => simp [intOf]; omega
      · have HP : Hid (p z = true) := hq
        go_wp2_with fail
        rw [HF.out.1, Oper.upon_enter]
        refine (HF.out.2 z _ (List.mem_of_getElem? HZ.out) hbw).mono ?_
        rintro e w1 ⟨rfl, hb1⟩
        rw [hq]
        clear hq
        go_wp2
        go_ret
        exact ⟨⟨_, rfl, Or.inr ⟨m, z, rfl, HZ.out, HP.out⟩⟩, hbw.trans (hb1.mono hbw.size)⟩
    · have HN : Hid (l.any p = false) := any_end0 _ l m hlt hall.out
      go_wp2
      go_ret
      exact ⟨⟨_, rfl, Or.inl ⟨rfl, HN.out⟩⟩, hbw⟩

set_option maxHeartbeats 400000 in
theorem containsf_lits (F : Nat) (caps : Array Value) (p : MLit → Bool) (l : List MLit) (v : Value) (w : World) (hv : LArg w v l) (hF : ClosL F caps l p w) :
    Calls Tryz.prog 120 #[v, .func (.func F) #[] caps] w fun e w' => e = .returned (.bool (l.any p)) ∧ Below w.heap.size w w' := by
  go_enter Tryz.func120, Tryz.ntmps120
  go_wp2_with fail
  refine (indexf_lits F caps p l v _ hv hF).mono ?_
  rintro e w1 ⟨⟨z, rfl, hz⟩, hb1⟩
  have HZ : Hid (decide (0 ≤ z) = l.any p) := hz.sign
  clear hz
  go_wp2
  go_ret
  exact ⟨ret_bool HZ.out, hb1⟩

theorem enters_row (args : Array Value) (w' : World) : Sem.run Tryz.prog (callFunc 106 args) w' = .ok (.enter 106 args) w' := by
  simp [callFunc, go_sem, Tryz.func106, Tryz.f106]
theorem enters_litc (args : Array Value) (w' : World) : Sem.run Tryz.prog (callFunc 121 args) w' = .ok (.enter 121 args) w' := by
  simp [callFunc, go_sem, Tryz.func121, Tryz.f121]

set_option maxHeartbeats 400000 in
set_option maxRecDepth 100000 in
theorem row_same (own r : List Int) (v x : Value) (b : Nat) (w : World) (hv : IArg w v own) (hx : IArg w x r) (hb : w.cell? ⟨b, 0, none⟩ = some v) :
    Calls Tryz.prog 106 #[x, .pointer (some ⟨b, 0, none⟩)] w fun e w' => e = .returned (.bool (decide (r = own))) ∧ Below w.heap.size w w' := by
  have HV : Hid (IArg w v own) := hv
  have HX : Hid (IArg w x r) := hx
  obtain ⟨a, c, rfl, _, _⟩ := hv
  obtain ⟨a', c', rfl, _, _⟩ := hx
  go_enter Tryz.func106, Tryz.ntmps106
  go_wp2_with fail
  refine (equal_any r own _ _ _ HX.out HV.out).mono ?_
  rintro e w1 ⟨rfl, n, h1⟩
  have hb1 := draws0 h1
  clear h1
  go_wp2
  go_ret
  exact ⟨rfl, hb1⟩

set_option maxHeartbeats 800000 in
set_option maxRecDepth 100000 in
theorem lit_closed (vals : List Int) (l : MLit) (v : Value) (b : Nat) (w : World) (hv : IArg w v vals) (h0 : 0 ≤ l.var) (h1 : l.var < vals.length) (hb : w.cell? ⟨b, 0, none⟩ = some v) :
    Calls Tryz.prog 121 #[.agg #[.int .i64 l.var, .int .i64 l.op, .int .i64 l.n], .pointer (some ⟨b, 0, none⟩)] w fun e w' => e = .returned (.bool (litB vals l)) ∧ Below w.heap.size w w' := by
  obtain ⟨a, c, rfl, hm, hr⟩ := hv
  have hbl : b < w.heap.size := World.block_lt_of_cell? w _ hb
  obtain ⟨j, hj⟩ : ∃ j : Nat, l.var = (j : Int) := ⟨l.var.toNat, by omega⟩
  have hjl : j < vals.length := by omega
  obtain ⟨y, hy⟩ : ∃ y, vals[j]? = some y := ⟨vals[j], by simp [hjl]⟩
  obtain ⟨b7, off7, rfl, hb7, g7⟩ := hr j y hy
  unfold maxLen at hm
  obtain ⟨hm1, hm⟩ := hm
  have HBV : Hid (litB vals l = litV y l) := by show _ = _; unfold litB; rw [hj, valAt_get vals j y hy]
  rw [HBV.out]
  obtain ⟨B, HB⟩ : ∃ B : Bool, Hid (litV y l = B) := ⟨_, rfl⟩
  rw [HB.out, hj]
  obtain ⟨W, hW⟩ : ∃ W : World, W = w.alloc (.cells #[.int .i64 (j : Int), .int .i64 l.op, .int .i64 l.n] 42) := ⟨_, rfl⟩
  have HW : Hid (W = w.alloc (.cells #[.int .i64 (j : Int), .int .i64 l.op, .int .i64 l.n] 42)) := hW
  have HBW : Hid (Below w.heap.size w W) := by rw [hW]; exact below_alloc _ _
  have HSW : Hid (W.heap.size = w.heap.size + 1) := by show _ = _; rw [hW]; simp
  have k0 : W.cell? ⟨w.heap.size, 0, none⟩ = some (.int .i64 (j : Int)) := by rw [hW]; simp
  have k1 : W.cell? ⟨w.heap.size, 1, none⟩ = some (.int .i64 l.op) := by rw [hW]; simp
  have k2 : W.cell? ⟨w.heap.size, 2, none⟩ = some (.int .i64 l.n) := by rw [hW]; simp
  have k3 : W.cell? ⟨b, 0, none⟩ = some (.slice (some ⟨b7, off7, none⟩) vals.length c) := by rw [hW]; exact (World.cell?_alloc_past _ _ _ hbl).trans hb
  have k4 : W.cell? ⟨b7, off7 + j, none⟩ = some (.int .i64 y) := by rw [hW]; exact (World.cell?_alloc_past _ _ _ hb7).trans g7
  have HCL : Hid (∀ wq : World, Below W.heap.size W wq → Calls Tryz.prog 93 #[.agg #[.int .i64 (j : Int), .int .i64 l.op, .int .i64 l.n], .int .i64 y] wq fun e w' => e = .returned (.bool B) ∧ Below W.heap.size W w') := by
    intro wq hq
    rw [← hj]
    refine (lit_true l y wq).mono ?_
    rintro e w' ⟨rfl, hb⟩
    exact ⟨by rw [HB.out], hq.trans (hb.mono hq.size)⟩
  clear hW hr hy hj g7 hb HBV HB h0 h1
  go_enter Tryz.func121, Tryz.ntmps121
  go_wp2
  rw [← HW.out]
  refine region_below (by kernel_rfl) (by kernel_rfl) ?_
  go_big_quiet_want
  refine ⟨.agg #[.int .i64 (j : Int), .int .i64 l.op, .int .i64 l.n], fun wq hq => ?_, ?_⟩
  · have h0 := (hq.cell (p := ⟨w.heap.size, 0, none⟩) (by have := HSW.out; simp only; omega)).trans k0
    have h1 := (hq.cell (p := ⟨w.heap.size, 1, none⟩) (by have := HSW.out; simp only; omega)).trans k1
    have h2 := (hq.cell (p := ⟨w.heap.size, 2, none⟩) (by have := HSW.out; simp only; omega)).trans k2
    simp [Oper.quietAt, go_sem, h0, h1, h2]
  go_simp
  go_big_quiet_on
  go_big_quiet_want
  refine ⟨.slice (some ⟨b7, off7, none⟩) vals.length c, fun wq hq => ?_, ?_⟩
  · have h0 := (hq.cell (p := ⟨b, 0, none⟩) (by have := HSW.out; simp only; omega)).trans k3
    simp [Oper.quietAt, go_sem, h0]
  go_simp
  go_big_quiet_on
  go_big_quiet_want
  go_big_quiet_op
  first | go_big_quiet_on | (refine ⟨_, fun _ _ => rfl, ?_⟩; go_big_quiet_on)
  go_big_quiet_want
  refine ⟨.int .i64 (j : Int), fun wq hq => ?_, ?_⟩
  · have h0 := (hq.cell (p := ⟨w.heap.size, 0, none⟩) (by have := HSW.out; simp only; omega)).trans k0
    simp [Oper.quietAt, go_sem, h0]
  go_simp
  go_big_quiet_on
  go_big_quiet_want
  go_big_quiet_op
  first | go_big_quiet_on | (refine ⟨_, fun _ _ => rfl, ?_⟩; go_big_quiet_on)
  go_big_quiet_want
  refine ⟨.int .i64 y, fun wq hq => ?_, ?_⟩
  · have h0 := (hq.cell (p := ⟨b7, off7 + j, none⟩) (by have := HSW.out; simp only; omega)).trans k4
    simp [Oper.quietAt, go_sem, h0]
  go_simp
  go_big_quiet_on
  go_big_quiet_want
  refine ⟨.bool B, fun wq hq => ?_, ?_⟩
  · simp [Oper.quietAt, go_sem]
    exact HCL.out wq hq
  go_simp
  go_big_quiet_on
  go_big_quiet_want
  go_big_quiet_op
  first | go_big_quiet_on | (refine ⟨_, fun _ _ => rfl, ?_⟩; go_big_quiet_on)
  refine wpQuiet_nil ?_
  intro w' hw'
  have hb4 : Below w.heap.size w w' := HBW.out.trans (hw'.mono HBW.out.size)
  clear hw'
  go_wp2
  go_ret
  exact ⟨rfl, hb4⟩

set_option maxHeartbeats 400000 in
set_option maxRecDepth 100000 in
theorem clause_true (c : List MLit) (vals : List Int) (u v : Value) (w : World) (hu : LArg w u c) (hv : IArg w v vals) (hc : ∀ l ∈ c, 0 ≤ l.var ∧ l.var < (vals.length : Int)) :
    Calls Tryz.prog 67 #[u, v] w fun e w' => e = .returned (.bool (c.any (litB vals))) ∧ Below w.heap.size w w' := by
  have HUA : Hid (∀ w' : World, Below w.heap.size w w' → LArg w' u c) := fun w' h => LArg.below h hu
  have HVA : Hid (∀ w' : World, Below w.heap.size w w' → IArg w' v vals) := fun w' h => IArg.below h hv
  have HC : Hid (∀ l ∈ c, 0 ≤ l.var ∧ l.var < (vals.length : Int)) := hc
  obtain ⟨a1, c1, rfl, _, _⟩ := hu
  obtain ⟨a2, c2, rfl, _, _⟩ := hv
  clear hc
  go_enter Tryz.func67, Tryz.ntmps67
  go_wp2_with fail
  refine (containsf_lits 121 _ (litB vals) c _ _ (HUA.out _ (below_alloc _ _)) ⟨enters_litc, ?_⟩).mono ?_
  · intro l w' hl hb'
    exact lit_closed vals l _ w.heap.size w' (HVA.out _ ((below_alloc _ _).trans (hb'.mono (by simp)))) (HC.out l hl).1 (HC.out l hl).2 ((hb'.cell (by simp)).trans (by simp))
  rintro e w3 ⟨rfl, hb3⟩
  have hb4 : Below w.heap.size w w3 := (below_alloc _ _).trans (hb3.mono (by simp))
  clear hb3
  go_wp2
  go_ret
  exact ⟨rfl, hb4⟩
end Go.Proofs.YtijohkhpigjbkaeGreatDoor
