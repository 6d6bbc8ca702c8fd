/-
  PART 2 of what the proof leans on (ModD, ModE, ModF, ModG, ModH, StoPlain, SifPlain, LitPlain, ClaPlain).
-/
import Derived.Test.YtdjbejlbmaiocagGreatDoorPartA
import Derived.ProofKit
import Derived.OpenShut
import Derived.ShutString
import Derived.ChangeOld
import Derived.Below
import Derived.SizedLaws
import Derived.Deep.Slices
import Derived.Deep.Strs
import Derived.Lib.SmallJoins
/-
  WALKS: package model: hasConsts, hasForm, checkCon, checkGoal, Check.
-/
namespace Go.Proofs.YtdjbejlbmaiocagGreatDoor
open Go.RowKit

set_option maxHeartbeats 800000 in
set_option maxRecDepth 100000 in
theorem hasconsts_any (c : MCon) (vv vc vr vl : Value) (w : World) (hk : KArg w vv vc vr vl c) :
    Calls Tryz.prog 150 #[conV vv vc vr vl c] w fun e w' => e = .returned (.bool (constsB c)) ∧ Below w.heap.size w w' := by
  obtain ⟨_, hc2, ⟨a3, c3, rfl, hm3, hr3⟩, _⟩ := hk
  have HC2 : Hid (∀ o : Obj, IArg (w.alloc o) vc c.consts) := fun o => IArg.below (below_alloc _ _) hc2
  have HV : Hid (∀ (i : Nat) (r : List Int), c.rows[i]? = some r → ∃ b off x, a3 = some ⟨b, off, none⟩ ∧ b < w.heap.size ∧ w.cell? ⟨b, off + i, none⟩ = some x ∧ IArg w x r) := hr3
  obtain ⟨R, hR⟩ : ∃ R, constsB c = R := ⟨_, rfl⟩
  rw [hR]
  have hE : R = (c.consts.all isConstB && (isConstB c.n && c.rows.all fun r => r.all isConstB)) := by rw [← hR]; rfl
  unfold maxLen at hm3
  obtain ⟨hm31, hm3⟩ := hm3
  clear hr3 hR hc2
  unfold conV
  cases h1 : c.consts.all isConstB
  · have HN : Hid (R = false) := by rw [hE, h1]; rfl
    have H1 : Hid (c.consts.all isConstB = false) := h1
    clear h1 hE
    go_enter Tryz.func150, Tryz.ntmps150
    go_wp2_with fail
    refine (consts_any c.consts _ _ (HC2.out _)).mono ?_
    rintro e w2 ⟨rfl, hw2⟩
    rw [H1.out, hw2]
    clear hw2
    go_wp2
    go_ret
    exact ⟨ret_bool HN.out.symm, below_alloc _ _⟩
  · have H1 : Hid (c.consts.all isConstB = true) := h1
    cases h2 : isConstB c.n
    · have HN : Hid (R = false) := by rw [hE, h1, h2]; rfl
      have H2 : Hid (isConstB c.n = false) := h2
      clear h1 h2 hE
      go_enter Tryz.func150, Tryz.ntmps150
      go_wp2_with fail
      refine (consts_any c.consts _ _ (HC2.out _)).mono ?_
      rintro e w2 ⟨rfl, hw2⟩
      rw [H1.out, hw2]
      clear hw2
      go_wp2_with fail
      refine (isconst_any _ _).mono ?_
      rintro e w2 ⟨rfl, hw2⟩
      rw [H2.out, hw2]
      clear hw2
      go_wp2
      go_ret
      exact ⟨ret_bool HN.out.symm, below_alloc _ _⟩
    · have HE : Hid (R = c.rows.all fun r => r.all isConstB) := by rw [hE, h1, h2]; rfl
      have H2 : Hid (isConstB c.n = true) := h2
      clear h1 h2 hE
      go_enter Tryz.func150, Tryz.ntmps150
      go_wp2_with fail
      refine (consts_any c.consts _ _ (HC2.out _)).mono ?_
      rintro e w2 ⟨rfl, hw2⟩
      rw [H1.out, hw2]
      clear hw2
      go_wp2_with fail
      refine (isconst_any _ _).mono ?_
      rintro e w2 ⟨rfl, hw2⟩
      rw [H2.out, hw2]
      clear hw2
      go_wp2
      obtain ⟨w0, hw0⟩ : ∃ w0 : World, w0 = w.alloc (.cells #[.int .i64 c.kind, vv, vc, .int .i64 c.n, .slice a3 c.rows.length c3, vl] 73) := ⟨_, rfl⟩
      rw [← hw0]
      have hb0 : Below w.heap.size w w0 := by rw [hw0]; exact below_alloc _ _
      clear hw0
      go_loopw [18] (fun i wr => ∃ m : Nat, m ≤ c.rows.length ∧ i = .int .i64 m ∧ Hid ((c.rows.take m).all (fun r => r.all isConstB) = true) ∧ wr = w0) (fun i _ => c.rows.length - (intOf i).toNat)
      case atStart => exact ⟨0, by omega, rfl, rfl, rfl⟩
      case round =>
        obtain ⟨m, hml, rfl, hall, rfl⟩ := hrel
        by_cases hlt : m < c.rows.length
        · obtain ⟨z, hz⟩ : ∃ z, c.rows[m]? = some z := ⟨c.rows[m], by simp [hlt]⟩
          obtain ⟨b, off, x, ha, hb, hc, hx⟩ := HV.out m z hz
          have hcr := (hb0.cell (p := ⟨b, off + m, none⟩) hb).trans hc
          have HX : Hid (IArg wr x z) := IArg.below hb0 hx
          have HZ : Hid (c.rows[m]? = some z) := hz
          subst ha
          clear hz hc hx
          cases hq : z.all isConstB
          · have HN : Hid (R = false) := by rw [HE.out]; exact all_hit (fun r : List Int => r.all isConstB) c.rows m z HZ.out hq
            have HQ : Hid (z.all isConstB = false) := hq
            clear hq
            go_wp2_with fail
            refine (consts_any z _ _ HX.out).mono ?_
            rintro e w2 ⟨rfl, hw2⟩
            rw [HQ.out, hw2]
            clear hw2
            go_wp2
            go_ret
            exact ⟨ret_bool HN.out.symm, hb0⟩
          · have HN : Hid ((c.rows.take (m + 1)).all (fun r => r.all isConstB) = true) := all_next _ c.rows m z HZ.out hall.out hq
            have HQ : Hid (z.all isConstB = true) := hq
            clear hq
            go_wp2_with fail
            refine (consts_any z _ _ HX.out).mono ?_
            rintro e w2 ⟨rfl, hw2⟩
            rw [HQ.out, hw2]
            clear hw2
            go_wp2
            go_roundw
            case rel => exact ⟨m + 1, by omega, by go_num, HN, by first | rfl | trivial⟩
            case measure => simp [intOf]; omega
        · have HN : Hid (R = true) := by rw [HE.out]; exact all_end _ c.rows m hlt hall.out
          go_wp2
          go_ret
          exact ⟨ret_bool HN.out.symm, hb0⟩

set_option maxHeartbeats 1600000 in
set_option maxRecDepth 100000 in
theorem form_any (c : MCon) (vv vc vr vl : Value) (w : World) (hk : KArg w vv vc vr vl c) (l1 : c.vars.length ≤ 4) (l2 : c.consts.length ≤ 8) (l3 : c.rows.length ≤ 20) (l4 : c.lits.length ≤ 4) :
    Calls Tryz.prog 148 #[conV vv vc vr vl c] w fun e w' => e = .returned (.bool (formB c)) ∧ Below w.heap.size w w' := by
  obtain ⟨⟨a1, c1, rfl, _, _⟩, ⟨a2, c2, rfl, _, _⟩, hr, ⟨a4, c4, rfl, _, _⟩⟩ := hk
  have HRR : Hid (∀ w' : World, Below w.heap.size w w' → RArg w' vr c.rows) := fun w' h => RArg.below h hr
  obtain ⟨a3, c3, rfl, _, _⟩ := hr
  obtain ⟨R, hR⟩ : ∃ R, formB c = R := ⟨_, rfl⟩
  rw [hR]
  unfold formB at hR
  unfold conV
  by_cases h1 : c.kind = 1
  · have hk1 : R = (decide (1 ≤ c.vars.length) && (decide (c.consts.length = c.vars.length) && decide (c.rows.length + c.lits.length = 0))) := by rw [← hR, if_pos (by omega)]
    have HR : Hid (R = _) := hk1
    have hkk : (c.kind == 1) = true := by simpa using h1
    clear hR hk1 h1
    go_enter Tryz.func148, Tryz.ntmps148
    go_wp2
    go_quiet (fail)
    go_wp2
    all_goals
      go_ret
      refine ⟨ret_bool ?_, below_drewN (below_alloc _ _) _⟩
      rw [HR.out]
      clear HR HRR
      first
        | rfl
        | (try simp only [beq_iff_eq] at *
           rw [Bool.eq_iff_iff]
           simp only [Bool.and_eq_true, decide_eq_true_eq, beq_iff_eq, Bool.false_eq_true, false_iff]
           omega)
  · skip
    by_cases h2 : c.kind = 2
    · have hk2 : R = (decide (1 ≤ c.vars.length) && (decide (c.consts.length = c.vars.length) && decide (c.rows.length + c.lits.length = 0))) := by rw [← hR, if_pos (by omega)]
      have HR : Hid (R = _) := hk2
      have hkk : (c.kind == 2) = true := by simpa using h2
      have hf1 : (c.kind == 1) = false := by simpa using h1
      clear hR hk2 h1 h2
      go_enter Tryz.func148, Tryz.ntmps148
      go_wp2
      go_quiet (fail)
      go_wp2
      all_goals
        go_ret
        refine ⟨ret_bool ?_, below_drewN (below_alloc _ _) _⟩
        rw [HR.out]
        clear HR HRR
        first
          | rfl
          | (try simp only [beq_eq_false_iff_ne, beq_iff_eq, ne_eq] at *
             rw [Bool.eq_iff_iff]
             simp only [Bool.and_eq_true, decide_eq_true_eq, beq_iff_eq, Bool.false_eq_true, false_iff]
             omega)
    · skip
      by_cases h3 : c.kind = 3
      · have hk3 : R = (decide (1 ≤ c.vars.length) && (decide (c.consts.length = c.vars.length) && decide (c.rows.length + c.lits.length = 0))) := by rw [← hR, if_pos (by omega)]
        have HR : Hid (R = _) := hk3
        have hkk : (c.kind == 3) = true := by simpa using h3
        have hf1 : (c.kind == 1) = false := by simpa using h1
        have hf2 : (c.kind == 2) = false := by simpa using h2
        clear hR hk3 h1 h2 h3
        go_enter Tryz.func148, Tryz.ntmps148
        go_wp2
        go_quiet (fail)
        go_wp2
        all_goals
          go_ret
          refine ⟨ret_bool ?_, below_drewN (below_alloc _ _) _⟩
          rw [HR.out]
          clear HR HRR
          first
            | rfl
            | (try simp only [beq_eq_false_iff_ne, beq_iff_eq, ne_eq] at *
               rw [Bool.eq_iff_iff]
               simp only [Bool.and_eq_true, decide_eq_true_eq, beq_iff_eq, Bool.false_eq_true, false_iff]
               omega)
      · skip
        have h123 : ¬ (c.kind = 1 ∨ c.kind = 2 ∨ c.kind = 3) := by omega
        rw [if_neg h123] at hR
        by_cases hn : c.n = 0
        · skip
          rw [if_neg (by omega)] at hR
          have hn0 : (c.n != 0) = false := by simpa using hn
          by_cases h4 : c.kind = 4
          · rw [if_pos h4] at hR
            have HR : Hid (R = (decide (1 ≤ c.vars.length) && decide (c.consts.length + c.rows.length + c.lits.length = 0))) := hR.symm
            have hkk : (c.kind == 4) = true := by simpa using h4
            have hf1 : (c.kind == 1) = false := by simpa using h1
            have hf2 : (c.kind == 2) = false := by simpa using h2
            have hf3 : (c.kind == 3) = false := by simpa using h3
            clear hR hn h1 h2 h3 h4 h123
            go_enter Tryz.func148, Tryz.ntmps148
            go_wp2
            go_quiet (fail)
            go_wp2
            all_goals
              go_ret
              refine ⟨ret_bool ?_, below_drewN (below_alloc _ _) _⟩
              rw [HR.out]
              clear HR HRR
              first
                | rfl
                | (try simp only [beq_eq_false_iff_ne, beq_iff_eq, ne_eq] at *
                   rw [Bool.eq_iff_iff]
                   simp only [Bool.and_eq_true, decide_eq_true_eq, beq_iff_eq, Bool.false_eq_true, false_iff]
                   omega)
          · skip
            rw [if_neg h4] at hR
            by_cases h5 : c.kind = 5
            · rw [if_pos h5] at hR
              have HR : Hid (R = (decide (c.vars.length = 2) && (decide (1 ≤ c.consts.length) && decide (c.rows.length + c.lits.length = 0)))) := hR.symm
              have hkk : (c.kind == 5) = true := by simpa using h5
              have hf1 : (c.kind == 1) = false := by simpa using h1
              have hf2 : (c.kind == 2) = false := by simpa using h2
              have hf3 : (c.kind == 3) = false := by simpa using h3
              have hf4 : (c.kind == 4) = false := by simpa using h4
              clear hR hn h1 h2 h3 h4 h5 h123
              go_enter Tryz.func148, Tryz.ntmps148
              go_wp2
              go_quiet (fail)
              go_wp2
              all_goals
                go_ret
                refine ⟨ret_bool ?_, below_drewN (below_alloc _ _) _⟩
                rw [HR.out]
                clear HR HRR
                first
                  | rfl
                  | (try simp only [beq_eq_false_iff_ne, beq_iff_eq, ne_eq] at *
                     rw [Bool.eq_iff_iff]
                     simp only [Bool.and_eq_true, decide_eq_true_eq, beq_iff_eq, Bool.false_eq_true, false_iff]
                     omega)
            · skip
              rw [if_neg h5] at hR
              by_cases h6 : c.kind = 6
              · rw [if_pos h6] at hR
                have hkk : (c.kind == 6) = true := by simpa using h6
                have hf1 : (c.kind == 1) = false := by simpa using h1
                have hf2 : (c.kind == 2) = false := by simpa using h2
                have hf3 : (c.kind == 3) = false := by simpa using h3
                have hf4 : (c.kind == 4) = false := by simpa using h4
                have hf5 : (c.kind == 5) = false := by simpa using h5
                clear hn h123 h1 h2 h3 h4 h5 h6
                by_cases g1 : 1 ≤ c.vars.length
                · by_cases g2 : c.consts.length + c.lits.length = 0
                  · have HR : Hid (R = c.rows.all fun r => decide (r.length = c.vars.length)) := by rw [← hR, decide_eq_true g1, decide_eq_true g2]; rfl
                    clear hR
                    go_enter Tryz.func148, Tryz.ntmps148
                    go_wp2
                    go_quiet (fail)
                    go_wp2_with fail
                    refine (long_any c.rows _ c.vars.length _ (HRR.out _ (below_drewN (below_alloc _ _) _))).mono ?_
                    rintro e w2 ⟨rfl, hw2⟩
                    rw [hw2]
                    clear hw2
                    go_wp2
                    go_ret
                    exact ⟨ret_bool HR.out.symm, below_drewN (below_alloc _ _) _⟩
                  · have HR : Hid (R = false) := by rw [← hR, decide_eq_true g1, decide_eq_false g2]; rfl
                    have g3 : ¬ (c.consts.length : Int) + (c.lits.length : Int) = 0 := by omega
                    clear hR
                    go_enter Tryz.func148, Tryz.ntmps148
                    go_wp2
                    go_quiet (fail)
                    go_wp2
                    all_goals (go_ret; exact ⟨ret_bool (by rw [HR.out]), below_drewN (below_alloc _ _) _⟩)
                · have HR : Hid (R = false) := by rw [← hR, decide_eq_false g1]; rfl
                  clear hR
                  go_enter Tryz.func148, Tryz.ntmps148
                  go_wp2
                  go_quiet (fail)
                  go_wp2
                  all_goals (go_ret; exact ⟨ret_bool (by rw [HR.out]), below_drewN (below_alloc _ _) _⟩)
              · skip
                rw [if_neg h6] at hR
                by_cases h7 : c.kind = 7
                · rw [if_pos h7] at hR
                  have HR : Hid (R = (decide (c.vars.length = 3) && decide (c.consts.length + c.rows.length + c.lits.length = 0))) := hR.symm
                  have hkk : (c.kind == 7) = true := by simpa using h7
                  have hf1 : (c.kind == 1) = false := by simpa using h1
                  have hf2 : (c.kind == 2) = false := by simpa using h2
                  have hf3 : (c.kind == 3) = false := by simpa using h3
                  have hf4 : (c.kind == 4) = false := by simpa using h4
                  have hf5 : (c.kind == 5) = false := by simpa using h5
                  have hf6 : (c.kind == 6) = false := by simpa using h6
                  clear hR hn h1 h2 h3 h4 h5 h6 h7 h123
                  go_enter Tryz.func148, Tryz.ntmps148
                  go_wp2
                  go_quiet (fail)
                  go_wp2
                  all_goals
                    go_ret
                    refine ⟨ret_bool ?_, below_drewN (below_alloc _ _) _⟩
                    rw [HR.out]
                    clear HR HRR
                    first
                      | rfl
                      | (try simp only [beq_eq_false_iff_ne, beq_iff_eq, ne_eq] at *
                         rw [Bool.eq_iff_iff]
                         simp only [Bool.and_eq_true, decide_eq_true_eq, beq_iff_eq, Bool.false_eq_true, false_iff]
                         omega)
                · skip
                  rw [if_neg h7] at hR
                  by_cases h8 : c.kind = 8
                  · rw [if_pos h8] at hR
                    have HR : Hid (R = (decide (2 ≤ c.vars.length) && decide (c.consts.length + c.rows.length + c.lits.length = 0))) := hR.symm
                    have hkk : (c.kind == 8) = true := by simpa using h8
                    have hf1 : (c.kind == 1) = false := by simpa using h1
                    have hf2 : (c.kind == 2) = false := by simpa using h2
                    have hf3 : (c.kind == 3) = false := by simpa using h3
                    have hf4 : (c.kind == 4) = false := by simpa using h4
                    have hf5 : (c.kind == 5) = false := by simpa using h5
                    have hf6 : (c.kind == 6) = false := by simpa using h6
                    have hf7 : (c.kind == 7) = false := by simpa using h7
                    clear hR hn h1 h2 h3 h4 h5 h6 h7 h8 h123
                    go_enter Tryz.func148, Tryz.ntmps148
                    go_wp2
                    go_quiet (fail)
                    go_wp2
                    all_goals
                      go_ret
                      refine ⟨ret_bool ?_, below_drewN (below_alloc _ _) _⟩
                      rw [HR.out]
                      clear HR HRR
                      first
                        | rfl
                        | (try simp only [beq_eq_false_iff_ne, beq_iff_eq, ne_eq] at *
                           rw [Bool.eq_iff_iff]
                           simp only [Bool.and_eq_true, decide_eq_true_eq, beq_iff_eq, Bool.false_eq_true, false_iff]
                           omega)
                  · skip
                    rw [if_neg h8] at hR
                    by_cases h9 : c.kind = 9
                    · rw [if_pos h9] at hR
                      have HR : Hid (R = (decide (c.vars.length + c.consts.length + c.rows.length = 0))) := hR.symm
                      have hkk : (c.kind == 9) = true := by simpa using h9
                      have hf1 : (c.kind == 1) = false := by simpa using h1
                      have hf2 : (c.kind == 2) = false := by simpa using h2
                      have hf3 : (c.kind == 3) = false := by simpa using h3
                      have hf4 : (c.kind == 4) = false := by simpa using h4
                      have hf5 : (c.kind == 5) = false := by simpa using h5
                      have hf6 : (c.kind == 6) = false := by simpa using h6
                      have hf7 : (c.kind == 7) = false := by simpa using h7
                      have hf8 : (c.kind == 8) = false := by simpa using h8
                      clear hR hn h1 h2 h3 h4 h5 h6 h7 h8 h9 h123
                      go_enter Tryz.func148, Tryz.ntmps148
                      go_wp2
                      go_quiet (fail)
                      go_wp2
                      all_goals
                        go_ret
                        refine ⟨ret_bool ?_, below_drewN (below_alloc _ _) _⟩
                        rw [HR.out]
                        clear HR HRR
                        first
                          | rfl
                          | (try simp only [beq_eq_false_iff_ne, beq_iff_eq, ne_eq] at *
                             rw [Bool.eq_iff_iff]
                             simp only [decide_eq_true_eq, beq_iff_eq]
                             omega)
                    · skip
                      rw [if_neg h9] at hR
                      by_cases h10 : c.kind = 10
                      · rw [if_pos h10] at hR
                        have HR : Hid (R = (decide (c.vars.length = 1) && (decide (c.lits.length = 1) && decide (c.consts.length + c.rows.length = 0)))) := hR.symm
                        have hkk : (c.kind == 10) = true := by simpa using h10
                        have hf1 : (c.kind == 1) = false := by simpa using h1
                        have hf2 : (c.kind == 2) = false := by simpa using h2
                        have hf3 : (c.kind == 3) = false := by simpa using h3
                        have hf4 : (c.kind == 4) = false := by simpa using h4
                        have hf5 : (c.kind == 5) = false := by simpa using h5
                        have hf6 : (c.kind == 6) = false := by simpa using h6
                        have hf7 : (c.kind == 7) = false := by simpa using h7
                        have hf8 : (c.kind == 8) = false := by simpa using h8
                        have hf9 : (c.kind == 9) = false := by simpa using h9
                        clear hR hn h1 h2 h3 h4 h5 h6 h7 h8 h9 h10 h123
                        go_enter Tryz.func148, Tryz.ntmps148
                        go_wp2
                        go_quiet (fail)
                        go_wp2
                        all_goals
                          go_ret
                          refine ⟨ret_bool ?_, below_drewN (below_alloc _ _) _⟩
                          rw [HR.out]
                          clear HR HRR
                          first
                            | rfl
                            | (try simp only [beq_eq_false_iff_ne, beq_iff_eq, ne_eq] at *
                               rw [Bool.eq_iff_iff]
                               simp only [Bool.and_eq_true, decide_eq_true_eq, beq_iff_eq, Bool.false_eq_true, false_iff]
                               omega)
                      · skip
                        rw [if_neg h10] at hR
                        have HR : Hid (R = false) := hR.symm
                        have hf1 : (c.kind == 1) = false := by simpa using h1
                        have hf2 : (c.kind == 2) = false := by simpa using h2
                        have hf3 : (c.kind == 3) = false := by simpa using h3
                        have hf4 : (c.kind == 4) = false := by simpa using h4
                        have hf5 : (c.kind == 5) = false := by simpa using h5
                        have hf6 : (c.kind == 6) = false := by simpa using h6
                        have hf7 : (c.kind == 7) = false := by simpa using h7
                        have hf8 : (c.kind == 8) = false := by simpa using h8
                        have hf9 : (c.kind == 9) = false := by simpa using h9
                        have hf10 : (c.kind == 10) = false := by simpa using h10
                        clear hR hn h1 h2 h3 h4 h5 h6 h7 h8 h9 h10 h123
                        go_enter Tryz.func148, Tryz.ntmps148
                        go_wp2
                        go_quiet (fail)
                        go_wp2
                        all_goals (go_ret; exact ⟨ret_bool HR.out.symm, below_drewN (below_alloc _ _) _⟩)
        · rw [if_pos hn] at hR
          have HR : Hid (R = false) := hR.symm
          have hn0 : (c.n != 0) = true := by simpa using hn
          have hf1 : (c.kind == 1) = false := by simpa using h1
          have hf2 : (c.kind == 2) = false := by simpa using h2
          have hf3 : (c.kind == 3) = false := by simpa using h3
          clear hR hn h1 h2 h3 h123
          go_enter Tryz.func148, Tryz.ntmps148
          go_wp2
          go_quiet (fail)
          go_wp2
          all_goals (go_ret; exact ⟨ret_bool HR.out.symm, below_drewN (below_alloc _ _) _⟩)
end Go.Proofs.YtdjbejlbmaiocagGreatDoor
/-
  WALKS: package model: checkCon, checkGoal, Check.
-/
namespace Go.Proofs.YtdjbejlbmaiocagGreatDoor
open Go.RowKit

set_option maxHeartbeats 1600000 in
set_option maxRecDepth 100000 in
theorem con_any (c : MCon) (n : Int) (vv vc vr vl : Value) (w : World) (hk : KArg w vv vc vr vl c) :
    Calls Tryz.prog 85 #[conV vv vc vr vl c, .int .i64 n] w fun e w' => e = .returned (.int .i64 (conE n c)) ∧ Below w.heap.size w w' := by
  have HK : Hid (∀ w' : World, Below w.heap.size w w' → KArg w' vv vc vr vl c) := fun w' h => KArg.below h hk
  obtain ⟨⟨a1, c1, rfl, _, _⟩, ⟨a2, c2, rfl, _, _⟩, ⟨a3, c3, rfl, _, _⟩, ⟨a4, c4, rfl, _, _⟩⟩ := hk
  obtain ⟨R, hR⟩ : ∃ R, conE n c = R := ⟨_, rfl⟩
  rw [hR]
  unfold conE at hR
  unfold conV
  by_cases hlo : 1 ≤ c.kind
  · by_cases hhi : c.kind ≤ 10
    · rw [if_pos ⟨hlo, hhi⟩] at hR
      cases hm : manyB c
      · rw [hm] at hR
        simp only [Bool.false_eq_true, if_false] at hR
        have HM : Hid (manyB c = false) := hm
        have HL : Hid (c.vars.length ≤ 4 ∧ c.consts.length ≤ 8 ∧ c.rows.length ≤ 20 ∧ c.lits.length ≤ 4) := by
          simp only [manyB, Bool.or_eq_false_iff, decide_eq_false_iff_not] at hm
          exact ⟨by omega, by omega, by omega, by omega⟩
        clear hm
        cases hf : formB c
        · rw [hf] at hR
          have HE : Hid (R = 1) := hR.symm
          have HF : Hid (formB c = false) := hf
          clear hf hR
          go_enter Tryz.func85, Tryz.ntmps85
          go_wp2_with fail
          refine (many_any c _ _ _ _ _ (HK.out _ (below_alloc _ _))).mono ?_
          rintro e w1 ⟨rfl, hb⟩
          rw [HM.out]
          have HB1 : Hid (Below w.heap.size w w1) := (below_alloc _ _).trans (hb.mono (by simp))
          have HS1 : Hid (w.heap.size + 1 ≤ w1.heap.size) := show w.heap.size + 1 ≤ w1.heap.size by simpa using hb.size
          have d10 : w1.cell? ⟨w.heap.size, 0, none⟩ = some (.int .i64 c.kind) := (hb.cell (by simp)).trans (by simp)
          have d11 : w1.cell? ⟨w.heap.size, 1, none⟩ = some (.slice a1 c.vars.length c1) := (hb.cell (by simp)).trans (by simp)
          have d12 : w1.cell? ⟨w.heap.size, 2, none⟩ = some (.slice a2 c.consts.length c2) := (hb.cell (by simp)).trans (by simp)
          have d13 : w1.cell? ⟨w.heap.size, 3, none⟩ = some (.int .i64 c.n) := (hb.cell (by simp)).trans (by simp)
          have d14 : w1.cell? ⟨w.heap.size, 4, none⟩ = some (.slice a3 c.rows.length c3) := (hb.cell (by simp)).trans (by simp)
          have d15 : w1.cell? ⟨w.heap.size, 5, none⟩ = some (.slice a4 c.lits.length c4) := (hb.cell (by simp)).trans (by simp)
          clear hb
          go_wp2_with fail
          refine (form_any c _ _ _ _ _ (HK.out _ HB1.out) HL.out.1 HL.out.2.1 HL.out.2.2.1 HL.out.2.2.2).mono ?_
          rintro e w2 ⟨rfl, hb⟩
          rw [HF.out]
          have HB2 : Hid (Below w.heap.size w w2) := HB1.out.trans (hb.mono HB1.out.size)
          have HS2 : Hid (w.heap.size + 1 ≤ w2.heap.size) := Nat.le_trans HS1.out hb.size
          have d20 := (hb.cell (p := ⟨w.heap.size, 0, none⟩) (by have := HS1.out; simp only; omega)).trans d10
          have d21 := (hb.cell (p := ⟨w.heap.size, 1, none⟩) (by have := HS1.out; simp only; omega)).trans d11
          have d22 := (hb.cell (p := ⟨w.heap.size, 2, none⟩) (by have := HS1.out; simp only; omega)).trans d12
          have d23 := (hb.cell (p := ⟨w.heap.size, 3, none⟩) (by have := HS1.out; simp only; omega)).trans d13
          have d24 := (hb.cell (p := ⟨w.heap.size, 4, none⟩) (by have := HS1.out; simp only; omega)).trans d14
          have d25 := (hb.cell (p := ⟨w.heap.size, 5, none⟩) (by have := HS1.out; simp only; omega)).trans d15
          clear hb d10 d11 d12 d13 d14 d15
          go_wp2
          go_ret
          exact ⟨ret_int HE.out.symm, HB2.out⟩
        · rw [hf] at hR
          simp only [if_true] at hR
          have HF : Hid (formB c = true) := hf
          clear hf
          cases hv : varsB c n
          · rw [hv] at hR
            have HE : Hid (R = 5) := hR.symm
            have HV : Hid (varsB c n = false) := hv
            clear hv hR
            go_enter Tryz.func85, Tryz.ntmps85
            go_wp2_with fail
            refine (many_any c _ _ _ _ _ (HK.out _ (below_alloc _ _))).mono ?_
            rintro e w1 ⟨rfl, hb⟩
            rw [HM.out]
            have HB1 : Hid (Below w.heap.size w w1) := (below_alloc _ _).trans (hb.mono (by simp))
            have HS1 : Hid (w.heap.size + 1 ≤ w1.heap.size) := show w.heap.size + 1 ≤ w1.heap.size by simpa using hb.size
            have d10 : w1.cell? ⟨w.heap.size, 0, none⟩ = some (.int .i64 c.kind) := (hb.cell (by simp)).trans (by simp)
            have d11 : w1.cell? ⟨w.heap.size, 1, none⟩ = some (.slice a1 c.vars.length c1) := (hb.cell (by simp)).trans (by simp)
            have d12 : w1.cell? ⟨w.heap.size, 2, none⟩ = some (.slice a2 c.consts.length c2) := (hb.cell (by simp)).trans (by simp)
            have d13 : w1.cell? ⟨w.heap.size, 3, none⟩ = some (.int .i64 c.n) := (hb.cell (by simp)).trans (by simp)
            have d14 : w1.cell? ⟨w.heap.size, 4, none⟩ = some (.slice a3 c.rows.length c3) := (hb.cell (by simp)).trans (by simp)
            have d15 : w1.cell? ⟨w.heap.size, 5, none⟩ = some (.slice a4 c.lits.length c4) := (hb.cell (by simp)).trans (by simp)
            clear hb
            go_wp2_with fail
            refine (form_any c _ _ _ _ _ (HK.out _ HB1.out) HL.out.1 HL.out.2.1 HL.out.2.2.1 HL.out.2.2.2).mono ?_
            rintro e w2 ⟨rfl, hb⟩
            rw [HF.out]
            have HB2 : Hid (Below w.heap.size w w2) := HB1.out.trans (hb.mono HB1.out.size)
            have HS2 : Hid (w.heap.size + 1 ≤ w2.heap.size) := Nat.le_trans HS1.out hb.size
            have d20 := (hb.cell (p := ⟨w.heap.size, 0, none⟩) (by have := HS1.out; simp only; omega)).trans d10
            have d21 := (hb.cell (p := ⟨w.heap.size, 1, none⟩) (by have := HS1.out; simp only; omega)).trans d11
            have d22 := (hb.cell (p := ⟨w.heap.size, 2, none⟩) (by have := HS1.out; simp only; omega)).trans d12
            have d23 := (hb.cell (p := ⟨w.heap.size, 3, none⟩) (by have := HS1.out; simp only; omega)).trans d13
            have d24 := (hb.cell (p := ⟨w.heap.size, 4, none⟩) (by have := HS1.out; simp only; omega)).trans d14
            have d25 := (hb.cell (p := ⟨w.heap.size, 5, none⟩) (by have := HS1.out; simp only; omega)).trans d15
            clear hb d10 d11 d12 d13 d14 d15
            go_wp2_with fail
            refine (vars_any c n _ _ _ _ _ (HK.out _ HB2.out)).mono ?_
            rintro e w3 ⟨rfl, hb⟩
            rw [HV.out]
            have HB3 : Hid (Below w.heap.size w w3) := HB2.out.trans (hb.mono HB2.out.size)
            have HS3 : Hid (w.heap.size + 1 ≤ w3.heap.size) := Nat.le_trans HS2.out hb.size
            have d30 := (hb.cell (p := ⟨w.heap.size, 0, none⟩) (by have := HS2.out; simp only; omega)).trans d20
            have d31 := (hb.cell (p := ⟨w.heap.size, 1, none⟩) (by have := HS2.out; simp only; omega)).trans d21
            have d32 := (hb.cell (p := ⟨w.heap.size, 2, none⟩) (by have := HS2.out; simp only; omega)).trans d22
            have d33 := (hb.cell (p := ⟨w.heap.size, 3, none⟩) (by have := HS2.out; simp only; omega)).trans d23
            have d34 := (hb.cell (p := ⟨w.heap.size, 4, none⟩) (by have := HS2.out; simp only; omega)).trans d24
            have d35 := (hb.cell (p := ⟨w.heap.size, 5, none⟩) (by have := HS2.out; simp only; omega)).trans d25
            clear hb d20 d21 d22 d23 d24 d25
            go_wp2
            go_ret
            exact ⟨ret_int HE.out.symm, HB3.out⟩
          · rw [hv] at hR
            simp only [if_true] at hR
            have HV : Hid (varsB c n = true) := hv
            clear hv
            cases hc : constsB c
            · rw [hc] at hR
              have HE : Hid (R = 3) := hR.symm
              have HC : Hid (constsB c = false) := hc
              clear hc hR
              go_enter Tryz.func85, Tryz.ntmps85
              go_wp2_with fail
              refine (many_any c _ _ _ _ _ (HK.out _ (below_alloc _ _))).mono ?_
              rintro e w1 ⟨rfl, hb⟩
              rw [HM.out]
              have HB1 : Hid (Below w.heap.size w w1) := (below_alloc _ _).trans (hb.mono (by simp))
              have HS1 : Hid (w.heap.size + 1 ≤ w1.heap.size) := show w.heap.size + 1 ≤ w1.heap.size by simpa using hb.size
              have d10 : w1.cell? ⟨w.heap.size, 0, none⟩ = some (.int .i64 c.kind) := (hb.cell (by simp)).trans (by simp)
              have d11 : w1.cell? ⟨w.heap.size, 1, none⟩ = some (.slice a1 c.vars.length c1) := (hb.cell (by simp)).trans (by simp)
              have d12 : w1.cell? ⟨w.heap.size, 2, none⟩ = some (.slice a2 c.consts.length c2) := (hb.cell (by simp)).trans (by simp)
              have d13 : w1.cell? ⟨w.heap.size, 3, none⟩ = some (.int .i64 c.n) := (hb.cell (by simp)).trans (by simp)
              have d14 : w1.cell? ⟨w.heap.size, 4, none⟩ = some (.slice a3 c.rows.length c3) := (hb.cell (by simp)).trans (by simp)
              have d15 : w1.cell? ⟨w.heap.size, 5, none⟩ = some (.slice a4 c.lits.length c4) := (hb.cell (by simp)).trans (by simp)
              clear hb
              go_wp2_with fail
              refine (form_any c _ _ _ _ _ (HK.out _ HB1.out) HL.out.1 HL.out.2.1 HL.out.2.2.1 HL.out.2.2.2).mono ?_
              rintro e w2 ⟨rfl, hb⟩
              rw [HF.out]
              have HB2 : Hid (Below w.heap.size w w2) := HB1.out.trans (hb.mono HB1.out.size)
              have HS2 : Hid (w.heap.size + 1 ≤ w2.heap.size) := Nat.le_trans HS1.out hb.size
              have d20 := (hb.cell (p := ⟨w.heap.size, 0, none⟩) (by have := HS1.out; simp only; omega)).trans d10
              have d21 := (hb.cell (p := ⟨w.heap.size, 1, none⟩) (by have := HS1.out; simp only; omega)).trans d11
              have d22 := (hb.cell (p := ⟨w.heap.size, 2, none⟩) (by have := HS1.out; simp only; omega)).trans d12
              have d23 := (hb.cell (p := ⟨w.heap.size, 3, none⟩) (by have := HS1.out; simp only; omega)).trans d13
              have d24 := (hb.cell (p := ⟨w.heap.size, 4, none⟩) (by have := HS1.out; simp only; omega)).trans d14
              have d25 := (hb.cell (p := ⟨w.heap.size, 5, none⟩) (by have := HS1.out; simp only; omega)).trans d15
              clear hb d10 d11 d12 d13 d14 d15
              go_wp2_with fail
              refine (vars_any c n _ _ _ _ _ (HK.out _ HB2.out)).mono ?_
              rintro e w3 ⟨rfl, hb⟩
              rw [HV.out]
              have HB3 : Hid (Below w.heap.size w w3) := HB2.out.trans (hb.mono HB2.out.size)
              have HS3 : Hid (w.heap.size + 1 ≤ w3.heap.size) := Nat.le_trans HS2.out hb.size
              have d30 := (hb.cell (p := ⟨w.heap.size, 0, none⟩) (by have := HS2.out; simp only; omega)).trans d20
              have d31 := (hb.cell (p := ⟨w.heap.size, 1, none⟩) (by have := HS2.out; simp only; omega)).trans d21
              have d32 := (hb.cell (p := ⟨w.heap.size, 2, none⟩) (by have := HS2.out; simp only; omega)).trans d22
              have d33 := (hb.cell (p := ⟨w.heap.size, 3, none⟩) (by have := HS2.out; simp only; omega)).trans d23
              have d34 := (hb.cell (p := ⟨w.heap.size, 4, none⟩) (by have := HS2.out; simp only; omega)).trans d24
              have d35 := (hb.cell (p := ⟨w.heap.size, 5, none⟩) (by have := HS2.out; simp only; omega)).trans d25
              clear hb d20 d21 d22 d23 d24 d25
              go_wp2_with fail
              refine (hasconsts_any c _ _ _ _ _ (HK.out _ HB3.out)).mono ?_
              rintro e w4 ⟨rfl, hb⟩
              rw [HC.out]
              have HB4 : Hid (Below w.heap.size w w4) := HB3.out.trans (hb.mono HB3.out.size)
              have HS4 : Hid (w.heap.size + 1 ≤ w4.heap.size) := Nat.le_trans HS3.out hb.size
              have d40 := (hb.cell (p := ⟨w.heap.size, 0, none⟩) (by have := HS3.out; simp only; omega)).trans d30
              have d41 := (hb.cell (p := ⟨w.heap.size, 1, none⟩) (by have := HS3.out; simp only; omega)).trans d31
              have d42 := (hb.cell (p := ⟨w.heap.size, 2, none⟩) (by have := HS3.out; simp only; omega)).trans d32
              have d43 := (hb.cell (p := ⟨w.heap.size, 3, none⟩) (by have := HS3.out; simp only; omega)).trans d33
              have d44 := (hb.cell (p := ⟨w.heap.size, 4, none⟩) (by have := HS3.out; simp only; omega)).trans d34
              have d45 := (hb.cell (p := ⟨w.heap.size, 5, none⟩) (by have := HS3.out; simp only; omega)).trans d35
              clear hb d30 d31 d32 d33 d34 d35
              go_wp2
              go_ret
              exact ⟨ret_int HE.out.symm, HB4.out⟩
            · rw [hc] at hR
              simp only [if_true] at hR
              have HE : Hid (R = litsE c.lits) := hR.symm
              have HC : Hid (constsB c = true) := hc
              clear hc hR
              go_enter Tryz.func85, Tryz.ntmps85
              go_wp2_with fail
              refine (many_any c _ _ _ _ _ (HK.out _ (below_alloc _ _))).mono ?_
              rintro e w1 ⟨rfl, hb⟩
              rw [HM.out]
              have HB1 : Hid (Below w.heap.size w w1) := (below_alloc _ _).trans (hb.mono (by simp))
              have HS1 : Hid (w.heap.size + 1 ≤ w1.heap.size) := show w.heap.size + 1 ≤ w1.heap.size by simpa using hb.size
              have d10 : w1.cell? ⟨w.heap.size, 0, none⟩ = some (.int .i64 c.kind) := (hb.cell (by simp)).trans (by simp)
              have d11 : w1.cell? ⟨w.heap.size, 1, none⟩ = some (.slice a1 c.vars.length c1) := (hb.cell (by simp)).trans (by simp)
              have d12 : w1.cell? ⟨w.heap.size, 2, none⟩ = some (.slice a2 c.consts.length c2) := (hb.cell (by simp)).trans (by simp)
              have d13 : w1.cell? ⟨w.heap.size, 3, none⟩ = some (.int .i64 c.n) := (hb.cell (by simp)).trans (by simp)
              have d14 : w1.cell? ⟨w.heap.size, 4, none⟩ = some (.slice a3 c.rows.length c3) := (hb.cell (by simp)).trans (by simp)
              have d15 : w1.cell? ⟨w.heap.size, 5, none⟩ = some (.slice a4 c.lits.length c4) := (hb.cell (by simp)).trans (by simp)
              clear hb
              go_wp2_with fail
              refine (form_any c _ _ _ _ _ (HK.out _ HB1.out) HL.out.1 HL.out.2.1 HL.out.2.2.1 HL.out.2.2.2).mono ?_
              rintro e w2 ⟨rfl, hb⟩
              rw [HF.out]
              have HB2 : Hid (Below w.heap.size w w2) := HB1.out.trans (hb.mono HB1.out.size)
              have HS2 : Hid (w.heap.size + 1 ≤ w2.heap.size) := Nat.le_trans HS1.out hb.size
              have d20 := (hb.cell (p := ⟨w.heap.size, 0, none⟩) (by have := HS1.out; simp only; omega)).trans d10
              have d21 := (hb.cell (p := ⟨w.heap.size, 1, none⟩) (by have := HS1.out; simp only; omega)).trans d11
              have d22 := (hb.cell (p := ⟨w.heap.size, 2, none⟩) (by have := HS1.out; simp only; omega)).trans d12
              have d23 := (hb.cell (p := ⟨w.heap.size, 3, none⟩) (by have := HS1.out; simp only; omega)).trans d13
              have d24 := (hb.cell (p := ⟨w.heap.size, 4, none⟩) (by have := HS1.out; simp only; omega)).trans d14
              have d25 := (hb.cell (p := ⟨w.heap.size, 5, none⟩) (by have := HS1.out; simp only; omega)).trans d15
              clear hb d10 d11 d12 d13 d14 d15
              go_wp2_with fail
              refine (vars_any c n _ _ _ _ _ (HK.out _ HB2.out)).mono ?_
              rintro e w3 ⟨rfl, hb⟩
              rw [HV.out]
              have HB3 : Hid (Below w.heap.size w w3) := HB2.out.trans (hb.mono HB2.out.size)
              have HS3 : Hid (w.heap.size + 1 ≤ w3.heap.size) := Nat.le_trans HS2.out hb.size
              have d30 := (hb.cell (p := ⟨w.heap.size, 0, none⟩) (by have := HS2.out; simp only; omega)).trans d20
              have d31 := (hb.cell (p := ⟨w.heap.size, 1, none⟩) (by have := HS2.out; simp only; omega)).trans d21
              have d32 := (hb.cell (p := ⟨w.heap.size, 2, none⟩) (by have := HS2.out; simp only; omega)).trans d22
              have d33 := (hb.cell (p := ⟨w.heap.size, 3, none⟩) (by have := HS2.out; simp only; omega)).trans d23
              have d34 := (hb.cell (p := ⟨w.heap.size, 4, none⟩) (by have := HS2.out; simp only; omega)).trans d24
              have d35 := (hb.cell (p := ⟨w.heap.size, 5, none⟩) (by have := HS2.out; simp only; omega)).trans d25
              clear hb d20 d21 d22 d23 d24 d25
              go_wp2_with fail
              refine (hasconsts_any c _ _ _ _ _ (HK.out _ HB3.out)).mono ?_
              rintro e w4 ⟨rfl, hb⟩
              rw [HC.out]
              have HB4 : Hid (Below w.heap.size w w4) := HB3.out.trans (hb.mono HB3.out.size)
              have HS4 : Hid (w.heap.size + 1 ≤ w4.heap.size) := Nat.le_trans HS3.out hb.size
              have d40 := (hb.cell (p := ⟨w.heap.size, 0, none⟩) (by have := HS3.out; simp only; omega)).trans d30
              have d41 := (hb.cell (p := ⟨w.heap.size, 1, none⟩) (by have := HS3.out; simp only; omega)).trans d31
              have d42 := (hb.cell (p := ⟨w.heap.size, 2, none⟩) (by have := HS3.out; simp only; omega)).trans d32
              have d43 := (hb.cell (p := ⟨w.heap.size, 3, none⟩) (by have := HS3.out; simp only; omega)).trans d33
              have d44 := (hb.cell (p := ⟨w.heap.size, 4, none⟩) (by have := HS3.out; simp only; omega)).trans d34
              have d45 := (hb.cell (p := ⟨w.heap.size, 5, none⟩) (by have := HS3.out; simp only; omega)).trans d35
              clear hb d30 d31 d32 d33 d34 d35
              go_wp2_with fail
              refine (lits_any c.lits _ _ (HK.out _ HB4.out).2.2.2).mono ?_
              rintro e w5 ⟨rfl, hb⟩
              have HB5 : Hid (Below w.heap.size w w5) := HB4.out.trans (hb.mono HB4.out.size)
              go_wp2
              go_ret
              exact ⟨ret_int HE.out.symm, HB5.out⟩
      · rw [hm] at hR
        have HE : Hid (R = 2) := hR.symm
        have HM : Hid (manyB c = true) := hm
        clear hm hR
        go_enter Tryz.func85, Tryz.ntmps85
        go_wp2_with fail
        refine (many_any c _ _ _ _ _ (HK.out _ (below_alloc _ _))).mono ?_
        rintro e w1 ⟨rfl, hb⟩
        rw [HM.out]
        have HB1 : Hid (Below w.heap.size w w1) := (below_alloc _ _).trans (hb.mono (by simp))
        have HS1 : Hid (w.heap.size + 1 ≤ w1.heap.size) := show w.heap.size + 1 ≤ w1.heap.size by simpa using hb.size
        have d10 : w1.cell? ⟨w.heap.size, 0, none⟩ = some (.int .i64 c.kind) := (hb.cell (by simp)).trans (by simp)
        have d11 : w1.cell? ⟨w.heap.size, 1, none⟩ = some (.slice a1 c.vars.length c1) := (hb.cell (by simp)).trans (by simp)
        have d12 : w1.cell? ⟨w.heap.size, 2, none⟩ = some (.slice a2 c.consts.length c2) := (hb.cell (by simp)).trans (by simp)
        have d13 : w1.cell? ⟨w.heap.size, 3, none⟩ = some (.int .i64 c.n) := (hb.cell (by simp)).trans (by simp)
        have d14 : w1.cell? ⟨w.heap.size, 4, none⟩ = some (.slice a3 c.rows.length c3) := (hb.cell (by simp)).trans (by simp)
        have d15 : w1.cell? ⟨w.heap.size, 5, none⟩ = some (.slice a4 c.lits.length c4) := (hb.cell (by simp)).trans (by simp)
        clear hb
        go_wp2
        go_ret
        exact ⟨ret_int HE.out.symm, HB1.out⟩
    · rw [if_neg (fun h => hhi h.2)] at hR
      have HE : Hid (R = 7) := hR.symm
      clear hR
      go_enter Tryz.func85, Tryz.ntmps85
      go_wp2
      go_ret
      exact ⟨ret_int HE.out.symm, below_alloc _ _⟩
  · rw [if_neg (fun h => hlo h.1)] at hR
    have HE : Hid (R = 7) := hR.symm
    clear hR
    go_enter Tryz.func85, Tryz.ntmps85
    go_wp2
    go_ret
    exact ⟨ret_int HE.out.symm, below_alloc _ _⟩

set_option maxHeartbeats 800000 in
set_option maxRecDepth 100000 in
theorem goal_any (m : Mod) (vs cs : Value) (w : World) (hm : MArg w vs cs m) :
    Calls Tryz.prog 86 #[modV vs cs m] w fun e w' => e = .returned (.int .i64 (goalE m)) ∧ Below w.heap.size w w' := by
  obtain ⟨⟨a1, c1, rfl, _, _⟩, ⟨a2, c2, rfl, _, _⟩⟩ := hm
  obtain ⟨R, hR⟩ : ∃ R, goalE m = R := ⟨_, rfl⟩
  rw [hR]
  unfold goalE at hR
  unfold modV
  by_cases h0 : m.goal = 0
  · rw [if_pos h0] at hR
    have g0 : (m.goal == 0) = true := by simpa using h0
    by_cases hv : m.var = 0
    · rw [if_pos hv] at hR
      have HE : Hid (R = 0) := hR.symm
      have v0 : (m.var != 0) = false := by simpa using hv
      clear hR h0 hv
      go_enter Tryz.func86, Tryz.ntmps86
      go_wp2
      go_ret
      exact ⟨ret_int HE.out.symm, below_alloc _ _⟩
    · rw [if_neg hv] at hR
      have HE : Hid (R = 1) := hR.symm
      have v0 : (m.var != 0) = true := by simpa using hv
      clear hR h0 hv
      go_enter Tryz.func86, Tryz.ntmps86
      go_wp2
      go_ret
      exact ⟨ret_int HE.out.symm, below_alloc _ _⟩
  · rw [if_neg h0] at hR
    have g0 : (m.goal == 0) = false := by simpa using h0
    by_cases h12 : m.goal = 1 ∨ m.goal = 2
    · rw [if_pos h12] at hR
      cases hv : isVarB m.var m.vars.length
      · rw [hv] at hR
        have HE : Hid (R = 5) := hR.symm
        have HV : Hid (isVarB m.var m.vars.length = false) := hv
        clear hR h0 hv
        rcases h12 with h | h
        · have g1 : (m.goal == 1) = true := by simpa using h
          clear h
          go_enter Tryz.func86, Tryz.ntmps86
          go_wp2_with fail
          refine (isvar_any _ _ _).mono ?_
          rintro e w2 ⟨rfl, hw2⟩
          rw [HV.out, hw2]
          clear hw2
          go_wp2
          go_ret
          exact ⟨ret_int HE.out.symm, below_alloc _ _⟩
        · have g1 : (m.goal == 1) = false := by simp [h]
          have g2 : (m.goal == 2) = true := by simpa using h
          clear h
          go_enter Tryz.func86, Tryz.ntmps86
          go_wp2_with fail
          refine (isvar_any _ _ _).mono ?_
          rintro e w2 ⟨rfl, hw2⟩
          rw [HV.out, hw2]
          clear hw2
          go_wp2
          go_ret
          exact ⟨ret_int HE.out.symm, below_alloc _ _⟩
      · rw [hv] at hR
        have HE : Hid (R = 0) := hR.symm
        have HV : Hid (isVarB m.var m.vars.length = true) := hv
        clear hR h0 hv
        rcases h12 with h | h
        · have g1 : (m.goal == 1) = true := by simpa using h
          clear h
          go_enter Tryz.func86, Tryz.ntmps86
          go_wp2_with fail
          refine (isvar_any _ _ _).mono ?_
          rintro e w2 ⟨rfl, hw2⟩
          rw [HV.out, hw2]
          clear hw2
          go_wp2
          go_ret
          exact ⟨ret_int HE.out.symm, below_alloc _ _⟩
        · have g1 : (m.goal == 1) = false := by simp [h]
          have g2 : (m.goal == 2) = true := by simpa using h
          clear h
          go_enter Tryz.func86, Tryz.ntmps86
          go_wp2_with fail
          refine (isvar_any _ _ _).mono ?_
          rintro e w2 ⟨rfl, hw2⟩
          rw [HV.out, hw2]
          clear hw2
          go_wp2
          go_ret
          exact ⟨ret_int HE.out.symm, below_alloc _ _⟩
    · rw [if_neg h12] at hR
      have HE : Hid (R = 7) := hR.symm
      have g1 : (m.goal == 1) = false := by simpa using (fun h => h12 (Or.inl h))
      have g2 : (m.goal == 2) = false := by simpa using (fun h => h12 (Or.inr h))
      clear hR h0 h12
      go_enter Tryz.func86, Tryz.ntmps86
      go_wp2
      go_ret
      exact ⟨ret_int HE.out.symm, below_alloc _ _⟩
end Go.Proofs.YtdjbejlbmaiocagGreatDoor
/-
  WALK: model.Check: it answers what 'checkM' says.
-/
namespace Go.Proofs.YtdjbejlbmaiocagGreatDoor
open Go.RowKit

def varL (m : Mod) : List Int := (List.range m.vars.length).map fun i => varE (m.vars.take i) (m.vars.getD i ⟨ByteArray.empty, 0, 0⟩)
theorem varL_get (m : Mod) (k : Nat) (t : MVar) (h : m.vars[k]? = some t) : (varL m)[k]? = some (varE (m.vars.take k) t) := by
  have hk : k < m.vars.length := (List.getElem?_eq_some_iff.1 h).1
  unfold varL
  rw [List.getElem?_map, List.getElem?_range hk]
  simp [List.getD, h]
theorem varL_len (m : Mod) : (varL m).length = m.vars.length := by simp [varL]
def conL (m : Mod) : List Int := m.cons.map (conE m.vars.length)
theorem conL_get (m : Mod) (k : Nat) (t : MCon) (h : m.cons[k]? = some t) : (conL m)[k]? = some (conE m.vars.length t) := by simp [conL, h]

set_option maxHeartbeats 1600000 in
set_option maxRecDepth 100000 in
theorem check_model (m : Mod) (vs cs : Value) (w : World) (hm : MArg w vs cs m) :
    Calls Tryz.prog 40 #[modV vs cs m] w fun e w' => e = .returned (.int .i64 (checkM m)) ∧ Below w.heap.size w w' := by
  have HMA : Hid (∀ w' : World, Below w.heap.size w w' → MArg w' vs cs m) := fun w' h => MArg.below h hm
  obtain ⟨⟨a1, c1, rfl, hl1, hr1⟩, ⟨a2, c2, rfl, hl2, hr2⟩⟩ := hm
  obtain ⟨R, hR⟩ : ∃ R, checkM m = R := ⟨_, rfl⟩
  rw [hR]
  unfold maxLen at hl1 hl2
  obtain ⟨hl11, hl1⟩ := hl1
  obtain ⟨hl21, hl2⟩ := hl2
  clear hr1 hr2
  unfold modV
  by_cases h0 : m.vars.length = 0
  · have HE : Hid (R = 1) := by rw [← hR]; unfold checkM; rw [if_pos h0]; rfl
    have g0 : ((m.vars.length : Int) == 0) = true := by simp [h0]
    clear hR h0
    go_enter Tryz.func40, Tryz.ntmps40
    go_wp2
    go_ret
    exact ⟨ret_int HE.out.symm, below_alloc _ _⟩
  · have g0 : ((m.vars.length : Int) == 0) = false := by simpa using h0
    by_cases h6 : 6 < m.vars.length
    · have HE : Hid (R = 2) := by rw [← hR]; unfold checkM; rw [if_neg h0, if_pos (Or.inl h6)]; rfl
      clear hR h0
      go_enter Tryz.func40, Tryz.ntmps40
      go_wp2
      go_ret
      exact ⟨ret_int HE.out.symm, below_alloc _ _⟩
    · by_cases h8 : 8 < m.cons.length
      · have HE : Hid (R = 2) := by rw [← hR]; unfold checkM; rw [if_neg h0, if_pos (Or.inr h8)]; rfl
        clear hR h0
        go_enter Tryz.func40, Tryz.ntmps40
        go_wp2
        go_ret
        exact ⟨ret_int HE.out.symm, below_alloc _ _⟩
      · have HE : Hid (R = if firstE (varL m) = 0 then (if firstE (conL m) = 0 then goalE m else firstE (conL m)) else firstE (varL m)) := by
          rw [← hR]; unfold checkM; rw [if_neg h0, if_neg (by omega)]; rfl
        clear hR h0
        go_enter Tryz.func40, Tryz.ntmps40
        go_wp2
        obtain ⟨w0, hw0⟩ : ∃ w0 : World, w0 = w.alloc (.cells #[.slice a1 m.vars.length c1, .slice a2 m.cons.length c2, .int .i64 m.goal, .int .i64 m.var] 25) := ⟨_, rfl⟩
        rw [← hw0]
        have HB0 : Hid (Below w.heap.size w w0) := by rw [hw0]; exact below_alloc _ _
        have HZ0 : Hid (w0.heap.size = w.heap.size + 1) := by show _ = _; rw [hw0]; simp
        have HD : Hid (w0.cell? ⟨w.heap.size, 0, none⟩ = some (.slice a1 m.vars.length c1) ∧ w0.cell? ⟨w.heap.size, 1, none⟩ = some (.slice a2 m.cons.length c2) ∧ w0.cell? ⟨w.heap.size, 2, none⟩ = some (.int .i64 m.goal) ∧ w0.cell? ⟨w.heap.size, 3, none⟩ = some (.int .i64 m.var)) := by
          rw [hw0]; exact ⟨by simp, by simp, by simp, by simp⟩
        clear hw0
        go_loopw [25] (fun i wr => ∃ k : Nat, k ≤ m.vars.length ∧ i = .int .i64 k ∧ Hid (firstE ((varL m).take k) = 0) ∧ Below w0.heap.size w0 wr) (fun i _ => m.vars.length - (intOf i).toNat)
        case atStart => exact ⟨0, by omega, rfl, rfl, Below.refl _ _⟩
        case round =>
          obtain ⟨k, hk, rfl, hno, hbw⟩ := hrel
          have hlt0 : w.heap.size < w0.heap.size := by rw [HZ0.out]; omega
          have d0 := (hbw.cell (p := ⟨w.heap.size, 0, none⟩) hlt0).trans HD.out.1
          have d1 := (hbw.cell (p := ⟨w.heap.size, 1, none⟩) hlt0).trans HD.out.2.1
          have d2 := (hbw.cell (p := ⟨w.heap.size, 2, none⟩) hlt0).trans HD.out.2.2.1
          have d3 := (hbw.cell (p := ⟨w.heap.size, 3, none⟩) hlt0).trans HD.out.2.2.2
          have HBW : Hid (Below w.heap.size w wr) := HB0.out.trans (hbw.mono (by omega))
          by_cases hlt : k < m.vars.length
          · obtain ⟨t, ht⟩ : ∃ t, m.vars[k]? = some t := ⟨m.vars[k], by simp [hlt]⟩
            have HG : Hid ((varL m)[k]? = some (varE (m.vars.take k) t)) := varL_get m k t ht
            have HT : Hid (m.vars[k]? = some t) := ht
            clear ht
            go_wp2_with fail
            refine (var_check m.vars _ k t _ (HMA.out _ HBW.out).1 HT.out).mono ?_
            rintro e w1 ⟨rfl, hb1⟩
            obtain ⟨er, her⟩ : ∃ er, varE (m.vars.take k) t = er := ⟨_, rfl⟩
            have HG2 : Hid ((varL m)[k]? = some er) := by rw [← her]; exact HG.out
            rw [her]
            clear her
            have hbt : Below w0.heap.size w0 w1 := hbw.trans (hb1.mono hbw.size)
            by_cases he : er = 0
            · subst he
              have HN : Hid (firstE ((varL m).take (k + 1)) = 0) := firstE_step _ k hno.out HG2.out
              clear hb1
              go_wp2
              go_roundw
              case rel => exact ⟨k + 1, by omega, by go_num, HN, hbt⟩
              case measure => simp [intOf]; omega
            · have HN : Hid (R = er) := by
                have hf := firstE_hit (varL m) k er hno.out HG2.out he
                rw [HE.out, hf, if_neg he]; rfl
              have he2 : (er != 0) = true := by simpa using he
              clear hb1 he
              go_wp2
              go_ret
              exact ⟨ret_int HN.out.symm, HB0.out.trans (hbt.mono (by omega))⟩
          · have HV : Hid (firstE (varL m) = 0) := by
              have := hno.out; rw [List.take_of_length_le (by rw [varL_len]; omega)] at this; exact this
            have HBO : Hid (Below w0.heap.size w0 wr) := hbw
            obtain ⟨wo, rfl⟩ : ∃ wo : World, wo = wr := ⟨_, rfl⟩
            go_wp2
            clear hk hno hbw hlt d0 d1 d2 d3
            go_loopw [39] (fun i wr => ∃ k : Nat, k ≤ m.cons.length ∧ i = .int .i64 k ∧ Hid (firstE ((conL m).take k) = 0) ∧ Below w0.heap.size w0 wr) (fun i _ => m.cons.length - (intOf i).toNat)
            case atStart => exact ⟨0, by omega, rfl, rfl, HBO.out⟩
            case round =>
              obtain ⟨k, hk, rfl, hno, hbw⟩ := hrel
              have d0 := (hbw.cell (p := ⟨w.heap.size, 0, none⟩) hlt0).trans HD.out.1
              have d1 := (hbw.cell (p := ⟨w.heap.size, 1, none⟩) hlt0).trans HD.out.2.1
              have d2 := (hbw.cell (p := ⟨w.heap.size, 2, none⟩) hlt0).trans HD.out.2.2.1
              have d3 := (hbw.cell (p := ⟨w.heap.size, 3, none⟩) hlt0).trans HD.out.2.2.2
              have HB2 : Hid (Below w.heap.size w wr) := HB0.out.trans (hbw.mono (by omega))
              by_cases hlt : k < m.cons.length
              · obtain ⟨t, ht⟩ : ∃ t, m.cons[k]? = some t := ⟨m.cons[k], by simp [hlt]⟩
                have HG : Hid ((conL m)[k]? = some (conE m.vars.length t)) := conL_get m k t ht
                obtain ⟨a2', c2', hva, _, hrc⟩ := (HMA.out _ HB2.out).2
                obtain ⟨b, off, vv, vc, vr, vl, ha, hb, e0, e1, e2, e3, e4, e5, hka⟩ := hrc k t ht
                have ha2 : a2 = some ⟨b, off, none⟩ := by cases hva; exact ha
                subst ha2
                have HKA : Hid (KArg wr vv vc vr vl t) := hka
                obtain ⟨⟨q1, r1, rfl, _, _⟩, ⟨q2, r2, rfl, _, _⟩, ⟨q3, r3, rfl, _, _⟩, ⟨q4, r4, rfl, _, _⟩⟩ := hka
                have hsz := hbw.size
                have hlw : w.heap.size < wr.heap.size := by omega
                clear ht hva hrc ha
                go_wp2_with fail
                refine (con_any t _ _ _ _ _ _ (KArg.below (below_alloc _ _) HKA.out)).mono ?_
                rintro e w1 ⟨rfl, hb1⟩
                obtain ⟨er, her⟩ : ∃ er, conE m.vars.length t = er := ⟨_, rfl⟩
                have HG2 : Hid ((conL m)[k]? = some er) := by rw [← her]; exact HG.out
                rw [her]
                clear her
                have hbt : Below w0.heap.size w0 w1 := (hbw.alloc hsz _).trans (hb1.mono (by simp; omega))
                by_cases he : er = 0
                · subst he
                  have HN : Hid (firstE ((conL m).take (k + 1)) = 0) := firstE_step _ k hno.out HG2.out
                  clear hb1
                  go_wp2
                  go_roundw
                  case rel => exact ⟨k + 1, by omega, by go_num, HN, hbt⟩
                  case measure => simp [intOf]; omega
                · have HN : Hid (R = er) := by
                    have hf := firstE_hit (conL m) k er hno.out HG2.out he
                    rw [HE.out, HV.out, if_pos rfl, hf, if_neg he]; rfl
                  have he2 : (er != 0) = true := by simpa using he
                  clear hb1 he
                  go_wp2
                  go_ret
                  exact ⟨ret_int HN.out.symm, HB0.out.trans (hbt.mono (by omega))⟩
              · have HN : Hid (R = goalE m) := by
                  have hc0 : firstE (conL m) = 0 := by have := hno.out; rw [List.take_of_length_le (by simp [conL]; omega)] at this; exact this
                  rw [HE.out, HV.out, if_pos rfl, hc0, if_pos rfl]; rfl
                go_wp2_with fail
                refine (goal_any m _ _ _ (HMA.out _ HB2.out)).mono ?_
                rintro e w3 ⟨rfl, hb3⟩
                go_wp2
                go_ret
                exact ⟨ret_int HN.out.symm, HB2.out.trans (hb3.mono HB2.out.size)⟩
end Go.Proofs.YtdjbejlbmaiocagGreatDoor
/-
  A model that came in, opened.
-/
namespace Go.Proofs.YtdjbejlbmaiocagGreatDoor
open Go.ChangeShapes Go.WideShapes Go.ChangeAt Go.RowKit Go.Deep

section
variable {H : Type} {enc : TypeId × Value → H} {w : World} {base : Nat} {spare : Nat → Bool} {held : Bool}

/-- A slice, opened by what its elements are. -/
theorem open_elems {α : Type} [Inhabited α] {t e : TypeId} {size : Nat} (ht : Tryz.prog.underlying t = some (.slice e)) (hc : Tryz.prog.cellsOf e = size) (hsz : 0 < size) (cellsOf : α → List Value) (good : α → Prop)
    (hel : ∀ (n : Nat) (cs' : List Value) (x' : DataW H × List MemPlace), DataW.trod enc Tryz.prog w base spare held n e cs' = some x' → ∃ a : α, cs' = cellsOf a ∧ good a)
    {fuel : Nat} {cs : List Value} {x : DataW H × List MemPlace} (h : DataW.trod enc Tryz.prog w base spare held fuel t cs = some x) :
    ∃ (l : List α) (a : Option Addr) (c : Nat), cs = [.slice a l.length c] ∧ (l.length ≤ c ∧ c ≤ maxLen) ∧ ∀ (i : Nat) (y : α), l[i]? = some y → good y ∧ ∃ b off, a = some ⟨b, off, none⟩ ∧ b < w.heap.size ∧ ∀ (j : Nat) (u : Value), (cellsOf y)[j]? = some u → w.cell? ⟨b, off + (i * size + j), none⟩ = some u := by
  rcases open_slice ht h with ⟨hcs, _⟩ | ⟨a, len, cap, m, n, D, Pl, hcs, _, hl, hcm, hmm, _, hx⟩
  · exact ⟨[], none, 0, hcs, ⟨Nat.le_refl _, Nat.zero_le _⟩, fun i y h => by simp at h⟩
  · have hlm : len ≤ m := by rw [hmm]; split <;> omega
    have each : ∀ i, i < len → ∃ y : α, good y ∧ (cellsOf y).length = size ∧ ∀ j u, (cellsOf y)[j]? = some u → w.cell? (a.add (i * size + j)) = some u := by
      intro i hi
      obtain ⟨cs', hc', ht'⟩ := hx i (by omega)
      obtain ⟨y, rfl, hg⟩ := hel n cs' _ ht'
      obtain ⟨_, hlen, hcell⟩ := World.cells?_some hc'
      rw [hc] at hlen
      refine ⟨y, hg, hlen, fun j u hj => ?_⟩
      have hj3 : j < (cellsOf y).length := (List.getElem?_eq_some_iff.1 hj).1
      have := hcell j (by rw [hc, ← hlen]; exact hj3)
      rw [hc, add_add] at this
      rw [this]; exact hj
    obtain ⟨f, hf⟩ := choose_lt each
    refine ⟨(List.range len).map f, some a, cap, by simpa using hcs, ⟨by simpa using hl, hcm⟩, fun i y hy => ?_⟩
    have hi : i < len := by have := (List.getElem?_eq_some_iff.1 hy).1; simpa using this
    have hyf : y = f i := by simp [hi] at hy; exact hy.symm
    subst hyf
    obtain ⟨hg, hlen, hcell⟩ := hf i hi
    obtain ⟨_, hlen0, hcell0⟩ := hf 0 (by omega)
    obtain ⟨u0, hu0⟩ : ∃ u0, (cellsOf (f 0))[0]? = some u0 := ⟨(cellsOf (f 0))[0]'(by omega), by simp⟩
    have h00 := hcell0 0 u0 hu0
    have hspot : a.spot = none := by simpa [Addr.add] using World.cell?_spot h00
    have hblk : a.block < w.heap.size := by simpa [Addr.add] using World.block_lt_of_cell? w _ h00
    refine ⟨hg, a.block, a.off, ?_, hblk, fun j u hj => ?_⟩
    · obtain ⟨b, off, spot⟩ := a; simp only at hspot; subst hspot; rfl
    · have := hcell j u hj
      obtain ⟨b, off, spot⟩ := a; simp only at hspot; subst hspot
      rwa [add_plain] at this

theorem Tryz.cInt : Tryz.prog.cellsOf 3 = 1 := by kernel_rfl
theorem Tryz.cStr : Tryz.prog.cellsOf 9 = 1 := by kernel_rfl
theorem Tryz.cInts : Tryz.prog.cellsOf 26 = 1 := by kernel_rfl
theorem Tryz.cRows : Tryz.prog.cellsOf 60 = 1 := by kernel_rfl
theorem Tryz.cLits : Tryz.prog.cellsOf 37 = 1 := by kernel_rfl
theorem Tryz.cLit : Tryz.prog.cellsOf 88 = 3 := by kernel_rfl
theorem Tryz.cVar : Tryz.prog.cellsOf 71 = 3 := by kernel_rfl
theorem Tryz.cCon : Tryz.prog.cellsOf 73 = 6 := by kernel_rfl

theorem open_ilist {fuel : Nat} {cs : List Value} {x : DataW H × List MemPlace} (h : DataW.trod enc Tryz.prog w base spare held fuel 26 cs = some x) :
    ∃ v l, cs = [v] ∧ IArg w v l := by
  obtain ⟨l, a, c, hcs, hm, hr⟩ := open_elems (α := Int) Tryz.underlying26 Tryz.cInt (by decide) (fun z => [.int .i64 z]) (fun _ => True)
    (fun n cs' x' h' => by obtain ⟨z, hz, _, _⟩ := DataW.trod_int Tryz.underlying3 h'; exact ⟨z, hz, trivial⟩) h
  refine ⟨_, l, hcs, a, c, rfl, hm, fun i z hz => ?_⟩
  obtain ⟨_, b, off, ha, hb, hc⟩ := hr i z hz
  have := hc 0 _ rfl
  exact ⟨b, off, ha, hb, by simpa using this⟩

theorem open_rlist {fuel : Nat} {cs : List Value} {x : DataW H × List MemPlace} (h : DataW.trod enc Tryz.prog w base spare held fuel 60 cs = some x) :
    ∃ v l, cs = [v] ∧ RArg w v l := by
  obtain ⟨l, a, c, hcs, hm, hr⟩ := open_elems (α := Value × List Int) Tryz.underlying60 Tryz.cInts (by decide) (fun z => [z.1]) (fun z => IArg w z.1 z.2)
    (fun n cs' x' h' => by obtain ⟨v, r, hz, hi⟩ := open_ilist h'; exact ⟨(v, r), hz, hi⟩) h
  refine ⟨_, l.map (·.2), hcs, a, c, by simp, by simpa using hm, fun i r hr' => ?_⟩
  rw [List.getElem?_map] at hr'
  obtain ⟨⟨v, r2⟩, hz, rfl⟩ := Option.map_eq_some_iff.1 hr'
  obtain ⟨hg, b, off, ha, hb, hc⟩ := hr i _ hz
  have := hc 0 _ rfl
  exact ⟨b, off, v, ha, hb, by simpa using this, hg⟩

set_option maxRecDepth 100000 in
theorem one_lit {n : Nat} {cs : List Value} {x : DataW H × List MemPlace} (h : DataW.trod enc Tryz.prog w base spare held n 88 cs = some x) :
    ∃ t : MLit, cs = [.int .i64 t.var, .int .i64 t.op, .int .i64 t.n] := by
  obtain ⟨y0, y1, y2, m, _, hl, h0, h1, h2⟩ := trod_struct3 Tryz.underlying88 h
  rw [Tryz.cLit] at hl
  obtain ⟨k, hk, _, _⟩ := DataW.trod_int Tryz.underlying3 h0
  obtain ⟨p, hp, _, _⟩ := DataW.trod_int Tryz.underlying3 h1
  obtain ⟨s, hs, _, _⟩ := DataW.trod_int Tryz.underlying3 h2
  match cs, hl with
  | [c0, c1, c2], _ =>
    change List.take (Tryz.prog.cellsOf 3) [c0, c1, c2] = _ at hk
    change List.take (Tryz.prog.cellsOf 3) [c1, c2] = _ at hp
    change List.take (Tryz.prog.cellsOf 3) [c2] = _ at hs
    rw [Tryz.cInt] at hk hp hs
    simp at hk hp hs
    exact ⟨⟨k, p, s⟩, by rw [hk, hp, hs]⟩

theorem open_llist {fuel : Nat} {cs : List Value} {x : DataW H × List MemPlace} (h : DataW.trod enc Tryz.prog w base spare held fuel 37 cs = some x) :
    ∃ v l, cs = [v] ∧ LArg w v l := by
  have hinh : Inhabited MLit := ⟨⟨0, 0, 0⟩⟩
  obtain ⟨l, a, c, hcs, hm, hr⟩ := open_elems (α := MLit) Tryz.underlying37 Tryz.cLit (by decide) (fun t => [.int .i64 t.var, .int .i64 t.op, .int .i64 t.n]) (fun _ => True)
    (fun n cs' x' h' => by obtain ⟨t, ht⟩ := one_lit h'; exact ⟨t, ht, trivial⟩) h
  refine ⟨_, l, hcs, a, c, rfl, hm, fun i z hz => ?_⟩
  obtain ⟨_, b, off, ha, hb, hc⟩ := hr i z hz
  have e0 := hc 0 _ rfl
  have e1 := hc 1 _ rfl
  have e2 := hc 2 _ rfl
  rw [← Nat.add_assoc] at e0 e1 e2
  exact ⟨b, off, ha, hb, e0, e1, e2⟩

set_option maxRecDepth 100000 in
theorem one_var {n : Nat} {cs : List Value} {x : DataW H × List MemPlace} (h : DataW.trod enc Tryz.prog w base spare held n 71 cs = some x) :
    ∃ t : MVar, cs = [.string t.name, .int .i64 t.lo, .int .i64 t.hi] ∧ t.name.size ≤ maxLen := by
  obtain ⟨y0, y1, y2, m, _, hl, h0, h1, h2⟩ := trod_struct3 Tryz.underlying71 h
  rw [Tryz.cVar] at hl
  obtain ⟨k, hk, _, hsz⟩ := DataW.trod_string Tryz.underlying9 h0
  obtain ⟨p, hp, _, _⟩ := DataW.trod_int Tryz.underlying3 h1
  obtain ⟨s, hs, _, _⟩ := DataW.trod_int Tryz.underlying3 h2
  match cs, hl with
  | [c0, c1, c2], _ =>
    change List.take (Tryz.prog.cellsOf 9) [c0, c1, c2] = _ at hk
    change List.take (Tryz.prog.cellsOf 3) [c1, c2] = _ at hp
    change List.take (Tryz.prog.cellsOf 3) [c2] = _ at hs
    rw [Tryz.cStr] at hk
    rw [Tryz.cInt] at hp hs
    simp at hk hp hs
    exact ⟨⟨k, p, s⟩, by rw [hk, hp, hs], hsz⟩

theorem open_vlist {fuel : Nat} {cs : List Value} {x : DataW H × List MemPlace} (h : DataW.trod enc Tryz.prog w base spare held fuel 22 cs = some x) :
    ∃ v l, cs = [v] ∧ VArg w v l := by
  have hinh : Inhabited MVar := ⟨⟨ByteArray.empty, 0, 0⟩⟩
  obtain ⟨l, a, c, hcs, hm, hr⟩ := open_elems (α := MVar) Tryz.underlying22 Tryz.cVar (by decide) (fun t => [.string t.name, .int .i64 t.lo, .int .i64 t.hi]) (fun t => t.name.size ≤ maxLen)
    (fun n cs' x' h' => by obtain ⟨t, ht, hs⟩ := one_var h'; exact ⟨t, ht, hs⟩) h
  refine ⟨_, l, hcs, a, c, rfl, hm, fun i z hz => ?_⟩
  obtain ⟨hg, b, off, ha, hb, hc⟩ := hr i z hz
  have e0 := hc 0 _ rfl
  have e1 := hc 1 _ rfl
  have e2 := hc 2 _ rfl
  rw [← Nat.add_assoc] at e0 e1 e2
  exact ⟨hg, b, off, ha, hb, e0, e1, e2⟩

set_option maxRecDepth 100000 in
theorem one_con {n : Nat} {cs : List Value} {x : DataW H × List MemPlace} (h : DataW.trod enc Tryz.prog w base spare held n 73 cs = some x) :
    ∃ (t : MCon) (vv vc vr vl : Value), cs = [.int .i64 t.kind, vv, vc, .int .i64 t.n, vr, vl] ∧ KArg w vv vc vr vl t := by
  obtain ⟨xs, k, _, _, hl, hxl, hf⟩ := DataW.trod_struct Tryz.underlying73 h
  rw [Tryz.cCon] at hl
  match cs, hl, xs, hxl with
  | [c0, c1, c2, c3, c4, c5], _, [y0, y1, y2, y3, y4, y5], _ =>
    have g0 := hf 0 _ rfl
    have g1 := hf 1 _ rfl
    have g2 := hf 2 _ rfl
    have g3 := hf 3 _ rfl
    have g4 := hf 4 _ rfl
    have g5 := hf 5 _ rfl
    obtain ⟨kd, hk, _, _⟩ := DataW.trod_int Tryz.underlying3 g0
    obtain ⟨v1, l1, hv1, i1⟩ := open_ilist g1
    obtain ⟨v2, l2, hv2, i2⟩ := open_ilist g2
    obtain ⟨nn, hn, _, _⟩ := DataW.trod_int Tryz.underlying3 g3
    obtain ⟨v4, l4, hv4, i4⟩ := open_rlist g4
    obtain ⟨v5, l5, hv5, i5⟩ := open_llist g5
    change List.take (Tryz.prog.cellsOf 3) [c0, c1, c2, c3, c4, c5] = _ at hk
    change List.take (Tryz.prog.cellsOf 26) [c1, c2, c3, c4, c5] = _ at hv1
    change List.take (Tryz.prog.cellsOf 26) [c2, c3, c4, c5] = _ at hv2
    change List.take (Tryz.prog.cellsOf 3) [c3, c4, c5] = _ at hn
    change List.take (Tryz.prog.cellsOf 60) [c4, c5] = _ at hv4
    change List.take (Tryz.prog.cellsOf 37) [c5] = _ at hv5
    rw [Tryz.cInt] at hk hn
    rw [Tryz.cInts] at hv1 hv2
    rw [Tryz.cRows] at hv4
    rw [Tryz.cLits] at hv5
    simp at hk hv1 hv2 hn hv4 hv5
    exact ⟨⟨kd, l1, l2, nn, l4, l5⟩, v1, v2, v4, v5, by rw [hk, hv1, hv2, hn, hv4, hv5], i1, i2, i4, i5⟩

theorem open_clist {fuel : Nat} {cs : List Value} {x : DataW H × List MemPlace} (h : DataW.trod enc Tryz.prog w base spare held fuel 23 cs = some x) :
    ∃ v l, cs = [v] ∧ CArg w v l := by
  have hinh : Inhabited (MCon × Value × Value × Value × Value) := ⟨⟨0, [], [], 0, [], []⟩, .bool false, .bool false, .bool false, .bool false⟩
  obtain ⟨l, a, c, hcs, hm, hr⟩ := open_elems (α := MCon × Value × Value × Value × Value) Tryz.underlying23 Tryz.cCon (by decide)
    (fun t => [.int .i64 t.1.kind, t.2.1, t.2.2.1, .int .i64 t.1.n, t.2.2.2.1, t.2.2.2.2]) (fun t => KArg w t.2.1 t.2.2.1 t.2.2.2.1 t.2.2.2.2 t.1)
    (fun n cs' x' h' => by obtain ⟨t, vv, vc, vr, vl, ht, hk⟩ := one_con h'; exact ⟨(t, vv, vc, vr, vl), ht, hk⟩) h
  refine ⟨_, l.map (·.1), hcs, a, c, by simp, by simpa using hm, fun i r hr' => ?_⟩
  rw [List.getElem?_map] at hr'
  obtain ⟨⟨t, vv, vc, vr, vl⟩, hz, rfl⟩ := Option.map_eq_some_iff.1 hr'
  obtain ⟨hg, b, off, ha, hb, hc⟩ := hr i _ hz
  have e0 := hc 0 _ rfl
  have e1 := hc 1 _ rfl
  have e2 := hc 2 _ rfl
  have e3 := hc 3 _ rfl
  have e4 := hc 4 _ rfl
  have e5 := hc 5 _ rfl
  rw [← Nat.add_assoc] at e0 e1 e2 e3 e4 e5
  exact ⟨b, off, vv, vc, vr, vl, ha, hb, e0, e1, e2, e3, e4, e5, hg⟩

theorem Tryz.cModel : Tryz.prog.cellsOf 25 = 4 := by kernel_rfl
set_option maxRecDepth 100000 in
/-- A model by value. -/
theorem open_model {r : Reach} {b0 : Nat} {v : Value} {d : DataW H} {p : List MemPlace} (hv : Value.okWide Tryz.prog w r b0 25 v) (h : DataW.Trod enc Tryz.prog w base spare held 25 v d p) :
    ∃ vs cs m, v = modV vs cs m ∧ MArg w vs cs m := by
  obtain ⟨v0, v1, v2, v3, y0, y1, y2, y3, n, rfl, _, _, h0, h1, h2, h3⟩ := Go.Joins.open_agg4 Tryz.underlying25 (by kernel_rfl) Tryz.cModel hv h
  obtain ⟨a0, l0, e0, i0⟩ := open_vlist h0
  obtain ⟨a1, l1, e1, i1⟩ := open_clist h1
  obtain ⟨g, hg, _, _⟩ := DataW.trod_int Tryz.underlying3 h2
  obtain ⟨q, hq, _, _⟩ := DataW.trod_int Tryz.underlying3 h3
  cases e0; cases e1; cases hg; cases hq
  exact ⟨v0, v1, ⟨l0, l1, g, q⟩, rfl, i0, i1⟩
end
end Go.Proofs.YtdjbejlbmaiocagGreatDoor
/-
  WALK: two(): the small model that all statements begin with.
-/
namespace Go.Proofs.YtdjbejlbmaiocagGreatDoor
open Go.RowKit

def twoM : Mod := ⟨[⟨⟨#[120]⟩, 0, 2⟩, ⟨⟨#[121]⟩, 0, 2⟩], [⟨1, [0, 1], [1, -1], -1, [], []⟩], 1, 1⟩
theorem two_checks : checkM twoM = 0 := by kernel_rfl

theorem five_blocks (w : World) (o1 o2 o3 o4 o5 : Obj) :
    (((((w.alloc o1).alloc o2).alloc o3).alloc o4).alloc o5).heap[w.heap.size + 1]? = some o2 ∧ (((((w.alloc o1).alloc o2).alloc o3).alloc o4).alloc o5).heap[w.heap.size + 1 + 1]? = some o3 ∧
    (((((w.alloc o1).alloc o2).alloc o3).alloc o4).alloc o5).heap[w.heap.size + 1 + 1 + 1]? = some o4 ∧ (((((w.alloc o1).alloc o2).alloc o3).alloc o4).alloc o5).heap[w.heap.size + 1 + 1 + 1 + 1]? = some o5 := by
  refine ⟨?_, ?_, ?_, ?_⟩
  all_goals
    show (((((w.heap.push _).push _).push _).push _).push _)[_]? = _
    simp only [Array.getElem?_push, Array.size_push]
    repeat first | rw [if_pos (by omega)] | rw [if_neg (by omega)]
  all_goals rfl

set_option maxHeartbeats 400000 in
set_option maxRecDepth 100000 in
theorem two_any (w : World) :
    Calls Tryz.prog 47 #[] w fun e w' => ∃ vs cs, e = .returned (modV vs cs twoM) ∧ MArg w' vs cs twoM ∧ Below w.heap.size w w' := by
  go_enter Tryz.func47, Tryz.ntmps47
  go_wp2
  refine bodyPost_ret (v := modV (.slice (some ⟨w.heap.size + 1, 0, none⟩) 2 2) (.slice (some ⟨w.heap.size + 1 + 1 + 1 + 1, 0, none⟩) 1 1) twoM) (by simp [results, Tryz.results47, go_sem, modV, twoM]) rfl ⟨_, _, rfl, ⟨?_, ?_⟩, ?_⟩
  · refine ⟨_, _, rfl, ⟨by decide, by unfold maxLen; decide⟩, fun i t ht => ?_⟩
    have hb := (five_blocks w (.cells #[.slice (some ⟨w.heap.size + 1, 0, none⟩) 2 2, .slice (some ⟨w.heap.size + 1 + 1 + 1 + 1, 0, none⟩) 1 1, .int .i64 1, .int .i64 1] 25) (.cells #[.string ⟨#[120]⟩, .int .i64 0, .int .i64 2, .string ⟨#[121]⟩, .int .i64 0, .int .i64 2] 71) (.cells #[.int .i64 0, .int .i64 1] 3) (.cells #[.int .i64 1, .int .i64 (-1)] 3) (.cells #[.int .i64 1, .slice (some ⟨w.heap.size + 1 + 1, 0, none⟩) 2 2, .slice (some ⟨w.heap.size + 1 + 1 + 1, 0, none⟩) 2 2, .int .i64 (-1), .slice none 0 0, .slice none 0 0] 73)).1
    match i, ht with
    | 0, ht => cases ht; exact ⟨by unfold maxLen; decide, _, _, rfl, by simp, by rw [Lib.cell_of_heap hb]; rfl, by rw [Lib.cell_of_heap hb]; rfl, by rw [Lib.cell_of_heap hb]; rfl⟩
    | 1, ht => cases ht; exact ⟨by unfold maxLen; decide, _, _, rfl, by simp, by rw [Lib.cell_of_heap hb]; rfl, by rw [Lib.cell_of_heap hb]; rfl, by rw [Lib.cell_of_heap hb]; rfl⟩
  · refine ⟨_, _, rfl, ⟨by decide, by unfold maxLen; decide⟩, fun i t ht => ?_⟩
    obtain ⟨_, hb2, hb3, hb4⟩ := five_blocks w (.cells #[.slice (some ⟨w.heap.size + 1, 0, none⟩) 2 2, .slice (some ⟨w.heap.size + 1 + 1 + 1 + 1, 0, none⟩) 1 1, .int .i64 1, .int .i64 1] 25) (.cells #[.string ⟨#[120]⟩, .int .i64 0, .int .i64 2, .string ⟨#[121]⟩, .int .i64 0, .int .i64 2] 71) (.cells #[.int .i64 0, .int .i64 1] 3) (.cells #[.int .i64 1, .int .i64 (-1)] 3) (.cells #[.int .i64 1, .slice (some ⟨w.heap.size + 1 + 1, 0, none⟩) 2 2, .slice (some ⟨w.heap.size + 1 + 1 + 1, 0, none⟩) 2 2, .int .i64 (-1), .slice none 0 0, .slice none 0 0] 73)
    match i, ht with
    | 0, ht =>
      cases ht
      refine ⟨_, _, .slice (some ⟨w.heap.size + 1 + 1, 0, none⟩) 2 2, .slice (some ⟨w.heap.size + 1 + 1 + 1, 0, none⟩) 2 2, .slice none 0 0, .slice none 0 0, rfl, by simp, by rw [Lib.cell_of_heap hb4]; rfl, by rw [Lib.cell_of_heap hb4]; rfl, by rw [Lib.cell_of_heap hb4]; rfl, by rw [Lib.cell_of_heap hb4]; rfl, by rw [Lib.cell_of_heap hb4]; rfl, by rw [Lib.cell_of_heap hb4]; rfl, ?_⟩
      refine ⟨⟨_, _, rfl, ⟨by decide, by unfold maxLen; decide⟩, fun i z hz => ?_⟩, ⟨_, _, rfl, ⟨by decide, by unfold maxLen; decide⟩, fun i z hz => ?_⟩, ⟨_, _, rfl, ⟨by decide, by unfold maxLen; decide⟩, fun i z hz => by simp at hz⟩, ⟨_, _, rfl, ⟨by decide, by unfold maxLen; decide⟩, fun i z hz => by simp at hz⟩⟩
      · match i, hz with
        | 0, hz => cases hz; exact ⟨_, _, rfl, by simp, by rw [Lib.cell_of_heap hb2]; rfl⟩
        | 1, hz => cases hz; exact ⟨_, _, rfl, by simp, by rw [Lib.cell_of_heap hb2]; rfl⟩
      · match i, hz with
        | 0, hz => cases hz; exact ⟨_, _, rfl, by simp, by rw [Lib.cell_of_heap hb3]; rfl⟩
        | 1, hz => cases hz; exact ⟨_, _, rfl, by simp, by rw [Lib.cell_of_heap hb3]; rfl⟩
  · exact (((((Below.refl _ _).alloc (Nat.le_refl _) _).alloc (by simp) _).alloc (by simp; omega) _).alloc (by simp; omega) _).alloc (by simp; omega) _
end Go.Proofs.YtdjbejlbmaiocagGreatDoor
/-
  PLAIN: stores, and what the program's calls say of them, as functions on data; no program in it.
-/
namespace Go.Proofs.YtdjbejlbmaiocagGreatDoor

abbrev Sto := List (List Int)
def insideB (v : MVar) (n : Int) : Bool := decide (v.lo ≤ n) && decide (n ≤ v.hi)
def risesB : List Int → Bool
  | a :: b :: r => decide (a < b) && risesB (b :: r)
  | _ => true
def rangeS (vs : List MVar) (s : Sto) : Bool := (vs.zip s).all fun p => p.2.all (insideB p.1)
def checkV (vs : List MVar) (s : Sto) : Int :=
  if s.length = vs.length then (if rangeS vs s then (if s.all risesB then 0 else 4) else 3) else 1
/-- What is wrong with a model, then with the stores, one after the other. -/
def checkL (m : Mod) (l : List Sto) : Int := if checkM m = 0 then firstE (l.map (checkV m.vars)) else checkM m
def hasB (l : List Int) (n : Int) : Bool := l.any (fun k => n == k)
def meetR (a b : List Int) : List Int := a.filter (hasB b)
def meetS (s t : Sto) : Sto := List.zipWith meetR s t
def withinR (a b : List Int) : Bool := a.all (hasB b)
def withinS (s t : Sto) : Bool := (s.zip t).all fun p => withinR p.1 p.2
def failedS (s : Sto) : Bool := s.any fun r => decide (r.length = 0)
def spanR (lo hi : Int) : List Int := (List.range (hi + 1 - lo).toNat).map fun (k : Nat) => lo + (k : Int)
def beginS (vs : List MVar) : Sto := vs.map fun v => spanR v.lo v.hi

theorem hasB_iff (l : List Int) (n : Int) : hasB l n = true ↔ n ∈ l := by
  unfold hasB; rw [List.any_eq_true]
  constructor
  · rintro ⟨k, hk, he⟩; rwa [beq_iff_eq.1 he]
  · intro h; exact ⟨n, h, by simp⟩
theorem withinR_iff (a b : List Int) : withinR a b = true ↔ ∀ n ∈ a, n ∈ b := by
  unfold withinR; rw [List.all_eq_true]
  exact ⟨fun h n hn => (hasB_iff b n).1 (h n hn), fun h n hn => (hasB_iff b n).2 (h n hn)⟩
theorem mem_meetR (a b : List Int) (n : Int) : n ∈ meetR a b ↔ n ∈ a ∧ n ∈ b := by
  unfold meetR; rw [List.mem_filter, hasB_iff]
theorem rises_pair (l : List Int) : risesB l = true ↔ l.Pairwise (· < ·) := by
  induction l with
  | nil => simp [risesB]
  | cons a r ih =>
    cases r with
    | nil => simp [risesB]
    | cons b r =>
      simp only [risesB, Bool.and_eq_true, decide_eq_true_eq]
      rw [ih]
      constructor
      · rintro ⟨hab, hp⟩
        refine List.pairwise_cons.2 ⟨fun c hc => ?_, hp⟩
        rcases List.mem_cons.1 hc with rfl | hc
        · exact hab
        · have := (List.pairwise_cons.1 hp).1 c hc; omega
      · intro hp
        exact ⟨(List.pairwise_cons.1 hp).1 b (List.mem_cons_self ..), (List.pairwise_cons.1 hp).2⟩
theorem meetS_len (s t : Sto) (h : t.length = s.length) : (meetS s t).length = s.length := by simp [meetS, h]
theorem meetS_get (s t : Sto) (i : Nat) (a b : List Int) (ha : s[i]? = some a) (hb : t[i]? = some b) : (meetS s t)[i]? = some (meetR a b) := by
  simp [meetS, List.getElem?_zipWith, ha, hb]

theorem all_zip {α β : Type} (p : α × β → Bool) : ∀ (a : List α) (b : List β), (a.zip b).all p = true ↔ ∀ (i : Nat) x y, a[i]? = some x → b[i]? = some y → p (x, y) = true
  | [], b => by simp
  | x :: a, [] => by simp
  | x :: a, y :: b => by
    rw [List.zip_cons_cons, List.all_cons, Bool.and_eq_true, all_zip p a b]
    constructor
    · rintro ⟨h0, h1⟩ i u v hu hv
      cases i with
      | zero => simp at hu hv; subst hu; subst hv; exact h0
      | succ i => exact h1 i u v (by simpa using hu) (by simpa using hv)
    · intro h
      exact ⟨h 0 x y rfl rfl, fun i u v hu hv => h (i + 1) u v (by simpa using hu) (by simpa using hv)⟩

theorem checkV_ok (vs : List MVar) (s : Sto) : checkV vs s = 0 ↔ s.length = vs.length ∧ rangeS vs s = true ∧ s.all risesB = true := by
  unfold checkV
  by_cases h1 : s.length = vs.length
  · cases h2 : rangeS vs s <;> cases h3 : s.all risesB <;> simp [h1]
  · simp [h1]
theorem checkV_meet (vs : List MVar) (s t : Sto) (hs : checkV vs s = 0) (ht : checkV vs t = 0) : checkV vs (meetS s t) = 0 := by
  rw [checkV_ok] at *
  obtain ⟨s1, s2, s3⟩ := hs
  obtain ⟨t1, t2, t3⟩ := ht
  have hl : t.length = s.length := by omega
  refine ⟨by rw [meetS_len s t hl, s1], ?_, ?_⟩
  · unfold rangeS at *
    rw [all_zip] at *
    intro i v r hv hr
    have hi : i < s.length := by rw [← meetS_len s t hl]; exact (List.getElem?_eq_some_iff.1 hr).1
    have ha : s[i]? = some s[i] := by simp [hi]
    have hb : t[i]? = some (t[i]'(by omega)) := by simp [show i < t.length by omega]
    rw [meetS_get s t i _ _ ha hb] at hr
    cases hr
    have h0 := s2 i v _ hv ha
    rw [List.all_eq_true] at h0 ⊢
    intro n hn
    exact h0 n ((mem_meetR _ _ _).1 hn).1
  · rw [List.all_eq_true] at *
    intro r hr
    obtain ⟨i, hi⟩ := List.mem_iff_getElem?.1 hr
    have hi' : i < s.length := by rw [← meetS_len s t hl]; exact (List.getElem?_eq_some_iff.1 hi).1
    have ha : s[i]? = some s[i] := by simp [hi']
    have hb : t[i]? = some (t[i]'(by omega)) := by simp [show i < t.length by omega]
    rw [meetS_get s t i _ _ ha hb] at hi
    cases hi
    rw [rises_pair]
    exact ((rises_pair _).1 (s3 _ (List.mem_of_getElem? ha))).sublist (List.filter_sublist)
theorem within_meet_l (s t : Sto) (hl : t.length = s.length) : withinS (meetS s t) s = true := by
  unfold withinS
  rw [all_zip]
  intro i r a hr ha
  have hi : i < s.length := (List.getElem?_eq_some_iff.1 ha).1
  have hb : t[i]? = some (t[i]'(by omega)) := by simp [show i < t.length by omega]
  rw [meetS_get s t i _ _ ha hb] at hr
  cases hr
  exact (withinR_iff _ _).2 fun n hn => ((mem_meetR _ _ _).1 hn).1
theorem within_meet_r (s t : Sto) (hl : t.length = s.length) : withinS (meetS s t) t = true := by
  unfold withinS
  rw [all_zip]
  intro i r b hr hb
  have hi : i < t.length := (List.getElem?_eq_some_iff.1 hb).1
  have ha : s[i]? = some (s[i]'(by omega)) := by simp [show i < s.length by omega]
  rw [meetS_get s t i _ _ ha hb] at hr
  cases hr
  exact (withinR_iff _ _).2 fun n hn => ((mem_meetR _ _ _).1 hn).2
theorem within_meet (s t u : Sto) (hl : t.length = s.length) (hu : u.length = s.length) : withinS u (meetS s t) = (withinS u s && withinS u t) := by
  rw [Bool.eq_iff_iff, Bool.and_eq_true]
  unfold withinS
  rw [all_zip, all_zip, all_zip]
  constructor
  · intro h
    refine ⟨fun i r a hr ha => ?_, fun i r b hr hb => ?_⟩
    · have hi : i < s.length := (List.getElem?_eq_some_iff.1 ha).1
      have hb : t[i]? = some (t[i]'(by omega)) := by simp [show i < t.length by omega]
      have := h i r _ hr (meetS_get s t i _ _ ha hb)
      exact (withinR_iff _ _).2 fun n hn => ((mem_meetR _ _ _).1 ((withinR_iff _ _).1 this n hn)).1
    · have hi : i < t.length := (List.getElem?_eq_some_iff.1 hb).1
      have ha : s[i]? = some (s[i]'(by omega)) := by simp [show i < s.length by omega]
      have := h i r _ hr (meetS_get s t i _ _ ha hb)
      exact (withinR_iff _ _).2 fun n hn => ((mem_meetR _ _ _).1 ((withinR_iff _ _).1 this n hn)).2
  · rintro ⟨h1, h2⟩ i r x hr hx
    have hi : i < s.length := by rw [← meetS_len s t hl]; exact (List.getElem?_eq_some_iff.1 hx).1
    have ha : s[i]? = some (s[i]'(by omega)) := by simp [hi]
    have hb : t[i]? = some (t[i]'(by omega)) := by simp [show i < t.length by omega]
    rw [meetS_get s t i _ _ ha hb] at hx
    cases hx
    refine (withinR_iff _ _).2 fun n hn => (mem_meetR _ _ _).2 ⟨?_, ?_⟩
    · exact (withinR_iff _ _).1 (h1 i r _ hr ha) n hn
    · exact (withinR_iff _ _).1 (h2 i r _ hr hb) n hn
end Go.Proofs.YtdjbejlbmaiocagGreatDoor
/-
  PLAIN: the store of those values that stay.
-/
namespace Go.Proofs.YtdjbejlbmaiocagGreatDoor

def siftS (s : Sto) (p : Nat → Int → Bool) : Sto := s.mapIdx fun k r => r.filter (p k)
theorem siftS_len (s : Sto) (p : Nat → Int → Bool) : (siftS s p).length = s.length := by simp [siftS]
theorem siftS_get (s : Sto) (p : Nat → Int → Bool) (k : Nat) (r : List Int) (h : s[k]? = some r) : (siftS s p)[k]? = some (r.filter (p k)) := by
  simp [siftS, h]
theorem siftS_back (s : Sto) (p : Nat → Int → Bool) (k : Nat) (q : List Int) (h : (siftS s p)[k]? = some q) : ∃ r, s[k]? = some r ∧ q = r.filter (p k) := by
  have hk : k < s.length := by rw [← siftS_len s p]; exact (List.getElem?_eq_some_iff.1 h).1
  refine ⟨s[k], by simp [hk], ?_⟩
  rw [siftS_get s p k s[k] (by simp [hk])] at h
  exact (Option.some.inj h).symm
theorem sto_ext (s t : Sto) (hl : s.length = t.length) (h : ∀ (k : Nat) r q, s[k]? = some r → t[k]? = some q → r = q) : s = t := by
  apply List.ext_getElem? 
  intro k
  by_cases hk : k < s.length
  · have h1 : s[k]? = some s[k] := by simp [hk]
    have h2 : t[k]? = some (t[k]'(by omega)) := by simp [show k < t.length by omega]
    rw [h1, h2, h k _ _ h1 h2]
  · rw [List.getElem?_eq_none (by omega), List.getElem?_eq_none (by omega)]
theorem checkV_sift (vs : List MVar) (s : Sto) (p : Nat → Int → Bool) (hs : checkV vs s = 0) : checkV vs (siftS s p) = 0 := by
  rw [checkV_ok] at *
  obtain ⟨s1, s2, s3⟩ := hs
  refine ⟨by rw [siftS_len, s1], ?_, ?_⟩
  · unfold rangeS at *
    rw [all_zip] at *
    intro i v r hv hr
    obtain ⟨q, hq, rfl⟩ := siftS_back s p i r hr
    have h0 := s2 i v q hv hq
    rw [List.all_eq_true] at h0 ⊢
    intro n hn
    exact h0 n (List.mem_filter.1 hn).1
  · rw [List.all_eq_true] at *
    intro r hr
    obtain ⟨i, hi⟩ := List.mem_iff_getElem?.1 hr
    obtain ⟨q, hq, rfl⟩ := siftS_back s p i r hi
    rw [rises_pair]
    exact ((rises_pair _).1 (s3 _ (List.mem_of_getElem? hq))).sublist List.filter_sublist
theorem within_sift (s : Sto) (p : Nat → Int → Bool) : withinS (siftS s p) s = true := by
  unfold withinS
  rw [all_zip]
  intro i r a hr ha
  obtain ⟨q, hq, rfl⟩ := siftS_back s p i r hr
  rw [ha] at hq; cases hq
  exact (withinR_iff _ _).2 fun n hn => (List.mem_filter.1 hn).1
theorem meetS_sift (s t : Sto) (h : t.length = s.length) : meetS s t = siftS s fun k z => hasB (t.getD k []) z := by
  refine sto_ext _ _ (by rw [meetS_len s t h, siftS_len]) fun k r q hr hq => ?_
  obtain ⟨a, ha, rfl⟩ := siftS_back _ _ _ _ hq
  have hk : k < s.length := (List.getElem?_eq_some_iff.1 ha).1
  have hb : t[k]? = some (t[k]'(by omega)) := by simp [show k < t.length by omega]
  rw [meetS_get s t k _ _ ha hb] at hr
  cases hr
  unfold meetR
  rw [List.getD_eq_getElem?_getD, hb]; rfl
def hasS (s : Sto) (vals : List Int) : Bool := decide (s.length = vals.length) && (s.zip vals).all fun p => hasB p.1 p.2
theorem hasS_iff (s : Sto) (vals : List Int) : hasS s vals = true ↔ s.length = vals.length ∧ ∀ (k : Nat) r x, s[k]? = some r → vals[k]? = some x → x ∈ r := by
  unfold hasS
  rw [Bool.and_eq_true, decide_eq_true_eq, all_zip]
  exact ⟨fun h => ⟨h.1, fun k r x hr hx => (hasB_iff _ _).1 (h.2 k r x hr hx)⟩, fun h => ⟨h.1, fun k r x hr hx => (hasB_iff _ _).2 (h.2 k r x hr hx)⟩⟩
end Go.Proofs.YtdjbejlbmaiocagGreatDoor
/-
  PLAIN: literals, and what the program's calls say of them; that a literal and its opposite part the values.
-/
namespace Go.Proofs.YtdjbejlbmaiocagGreatDoor

def litE (vs : List MVar) (l : MLit) : Int :=
  if l.var < 0 ∨ (vs.length : Int) ≤ l.var then 5 else if l.op < 1 ∨ 4 < l.op then 7 else if l.n < -1000 ∨ 1000 < l.n then 3 else 0
def lcheckA (m : Mod) (l : MLit) : Int := if checkM m = 0 then litE m.vars l else checkM m
def lholdsA (m : Mod) (l : MLit) (x : Int) : Bool × Int := if lcheckA m l = 0 then (litV x l, 0) else (false, lcheckA m l)
def oppL (l : MLit) : MLit := if l.op = 1 then ⟨l.var, 2, l.n + 1⟩ else if l.op = 2 then ⟨l.var, 1, l.n - 1⟩ else if l.op = 3 then ⟨l.var, 4, l.n⟩ else ⟨l.var, 3, l.n⟩
def noLit : MLit := ⟨0, 0, 0⟩
def lnotA (m : Mod) (l : MLit) : MLit × Int :=
  if lcheckA m l = 0 then (if litE m.vars (oppL l) = 0 then (oppL l, 0) else (noLit, litE m.vars (oppL l))) else (noLit, lcheckA m l)
def linE (m : Mod) (s : Sto) (l : MLit) : Int := if checkL m [s] = 0 then litE m.vars l else checkL m [s]
def heldN (r : List Int) (l : MLit) : Nat := (r.filter fun x => litV x l).length
def toldR (r : List Int) (l : MLit) : Int := if heldN r l = 0 then -1 else if heldN r l = r.length then 1 else 0
def rowOf (s : Sto) (l : MLit) : List Int := s.getD l.var.toNat []
def ltoldA (m : Mod) (s : Sto) (l : MLit) : Int × Int := if linE m s l = 0 then (toldR (rowOf s l) l, 0) else (0, linE m s l)
def putB (l : MLit) (k : Nat) (z : Int) : Bool := decide ((k : Int) ≠ l.var) || litV z l
def putS (s : Sto) (l : MLit) : Sto := siftS s (putB l)
def lputA (m : Mod) (s : Sto) (l : MLit) : Sto × Int := if linE m s l = 0 then (putS s l, 0) else ([], linE m s l)

theorem litE_ok (vs : List MVar) (l : MLit) : litE vs l = 0 ↔ (0 ≤ l.var ∧ l.var < vs.length) ∧ (1 ≤ l.op ∧ l.op ≤ 4) ∧ (-1000 ≤ l.n ∧ l.n ≤ 1000) := by
  unfold litE
  split
  · constructor
    · intro h; cases h
    · intro h; omega
  · split
    · constructor
      · intro h; cases h
      · intro h; omega
    · split
      · constructor
        · intro h; cases h
        · intro h; omega
      · constructor
        · intro _; omega
        · intro _; rfl
theorem oppL_var (l : MLit) : (oppL l).var = l.var := by
  unfold oppL
  split
  · rfl
  · split
    · rfl
    · split <;> rfl
theorem oppL_op (l : MLit) : 1 ≤ (oppL l).op ∧ (oppL l).op ≤ 4 := by
  unfold oppL
  split
  · simp
  · split
    · simp
    · split <;> simp
theorem litV_opp (x : Int) (l : MLit) (h : 1 ≤ l.op ∧ l.op ≤ 4) : litV x (oppL l) = !litV x l := by
  rcases (show l.op = 1 ∨ l.op = 2 ∨ l.op = 3 ∨ l.op = 4 by omega) with h | h | h | h
  · simp only [oppL, litV, h]
    simp
    by_cases q : x ≤ l.n
    · rw [decide_eq_true q, decide_eq_false (by omega)]; rfl
    · rw [decide_eq_false q, decide_eq_true (by omega)]; rfl
  · simp only [oppL, litV, h]
    simp
    by_cases q : l.n ≤ x
    · rw [decide_eq_true q, decide_eq_false (by omega)]; rfl
    · rw [decide_eq_false q, decide_eq_true (by omega)]; rfl
  · simp only [oppL, litV, h]
    simp [bne]
  · simp only [oppL, litV, h]
    simp [bne]
theorem linE_ok (m : Mod) (s : Sto) (l : MLit) (h : linE m s l = 0) : checkL m [s] = 0 ∧ litE m.vars l = 0 := by
  unfold linE at h
  split at h
  · rename_i h0; exact ⟨h0, h⟩
  · contradiction
theorem checkL_one (m : Mod) (s : Sto) : checkL m [s] = 0 ↔ checkM m = 0 ∧ checkV m.vars s = 0 := by
  unfold checkL
  by_cases h : checkM m = 0
  · rw [if_pos h]
    simp only [List.map, firstE]
    by_cases h1 : checkV m.vars s = 0
    · simp [h, h1]
    · simp [h1]
  · rw [if_neg h]; simp [h]
theorem put_row (s : Sto) (l : MLit) (i : Nat) (hi : l.var = (i : Int)) (r : List Int) (hr : s[i]? = some r) : (putS s l)[i]? = some (r.filter fun z => litV z l) := by
  unfold putS
  rw [siftS_get s _ i r hr]
  congr 1
  refine List.filter_congr fun z _ => ?_
  unfold putB
  rw [hi]; simp
theorem held_parts (r : List Int) (l : MLit) (h : 1 ≤ l.op ∧ l.op ≤ 4) : heldN r l + heldN r (oppL l) = r.length := by
  unfold heldN
  induction r with
  | nil => rfl
  | cons a r ih =>
    rw [List.filter_cons, List.filter_cons, litV_opp a l h]
    cases litV a l <;> simp <;> omega
theorem lcheck_ok (m : Mod) (l : MLit) (h : lcheckA m l = 0) : checkM m = 0 ∧ litE m.vars l = 0 := by
  unfold lcheckA at h
  split at h
  · rename_i h0; exact ⟨h0, h⟩
  · contradiction
end Go.Proofs.YtdjbejlbmaiocagGreatDoor
/-
  PLAIN: clauses, and what they leave of a store; that no values are lost.
-/
namespace Go.Proofs.YtdjbejlbmaiocagGreatDoor

abbrev Cla := List MLit
/-- Does a clause hold of values? -/
def claB (c : Cla) (vals : List Int) : Bool := c.any fun l => litV (vals.getD l.var.toNat 0) l
def claE (vs : List MVar) (c : Cla) : Int := if 40 < c.length then 2 else firstE (c.map (litE vs))
/-- Does one of the literals of a variable hold of a value? -/
def oneB (c : Cla) (k : Nat) (z : Int) : Bool := c.any fun l => decide (l.var = (k : Int)) && litV z l
/-- The literals that are not told to hold of nothing. -/
def liveL (s : Sto) (c : Cla) : Cla := c.filter fun l => decide (heldN (rowOf s l) l ≠ 0)
def clasE (vs : List MVar) (l : List Cla) : Int := if 600 < l.length then 2 else firstE (l.map (claE vs))
def liveB (s : Sto) (l : MLit) : Bool := (rowOf s l).any fun z => litV z l
def unitS (s : Sto) (c : Cla) : Sto :=
  if failedS s then s
  else match liveL s c with
    | [] => siftS s fun _ _ => false
    | l0 :: rest => if rest.all (fun l => decide (l.var = l0.var)) then siftS s (fun k z => decide ((k : Int) ≠ l0.var) || oneB c k z) else s
def denyS (s : Sto) (c : Cla) : Sto := siftS s fun k z => !oneB c k z

theorem held_pos (r : List Int) (l : MLit) : heldN r l ≠ 0 ↔ ∃ x ∈ r, litV x l = true := by
  unfold heldN
  rw [Ne, List.length_eq_zero_iff, List.filter_eq_nil_iff]
  constructor
  · intro h
    apply Classical.byContradiction
    intro hn
    exact h fun x hx hl => hn ⟨x, hx, hl⟩
  · rintro ⟨x, hx, hl⟩ h
    exact h x hx hl
theorem mem_live (s : Sto) (c : Cla) (l : MLit) : l ∈ liveL s c ↔ l ∈ c ∧ ∃ x ∈ rowOf s l, litV x l = true := by
  unfold liveL
  rw [List.mem_filter, decide_eq_true_eq, held_pos]
theorem oneB_iff (c : Cla) (k : Nat) (z : Int) : oneB c k z = true ↔ ∃ l ∈ c, l.var = (k : Int) ∧ litV z l = true := by
  unfold oneB
  rw [List.any_eq_true]
  exact ⟨fun ⟨l, h1, h2⟩ => ⟨l, h1, by simpa using h2⟩, fun ⟨l, h1, h2⟩ => ⟨l, h1, by simpa using h2⟩⟩
theorem claB_iff (c : Cla) (vals : List Int) : claB c vals = true ↔ ∃ l ∈ c, litV (vals.getD l.var.toNat 0) l = true := by unfold claB; rw [List.any_eq_true]

/-- All literals of a clause are of variables of the store. -/
def ClaIn (s : Sto) (c : Cla) : Prop := ∀ l ∈ c, 0 ≤ l.var ∧ l.var < (s.length : Int)
theorem has_val (s : Sto) (vals : List Int) (h : hasS s vals = true) (l : MLit) (h0 : 0 ≤ l.var) (h1 : l.var < (s.length : Int)) : vals.getD l.var.toNat 0 ∈ rowOf s l := by
  rw [hasS_iff] at h
  have hi : l.var.toNat < s.length := by omega
  have e1 : s[l.var.toNat]? = some s[l.var.toNat] := by simp [hi]
  have e2 : vals[l.var.toNat]? = some (vals[l.var.toNat]'(by omega)) := by simp [show l.var.toNat < vals.length by omega]
  unfold rowOf
  rw [List.getD_eq_getElem?_getD, List.getD_eq_getElem?_getD, e1, e2]
  exact h.2 _ _ _ e1 e2
theorem has_not_failed (s : Sto) (vals : List Int) (h : hasS s vals = true) : failedS s = false := by
  rw [hasS_iff] at h
  cases hf : failedS s
  · rfl
  · unfold failedS at hf
    rw [List.any_eq_true] at hf
    obtain ⟨r, hr, h0⟩ := hf
    obtain ⟨k, hk⟩ := List.mem_iff_getElem?.1 hr
    have hkl : k < s.length := (List.getElem?_eq_some_iff.1 hk).1
    have e2 : vals[k]? = some (vals[k]'(by omega)) := by simp [show k < vals.length by omega]
    have := h.2 k r _ hk e2
    have hn : r = [] := List.eq_nil_of_length_eq_zero (by simpa using h0)
    rw [hn] at this
    cases this
/-- NO VALUES OF WHICH THE CLAUSE HOLDS ARE LOST BY UNIT. -/
theorem unit_keeps (s : Sto) (c : Cla) (hc : ClaIn s c) (vals : List Int) (hs : hasS s vals = true) (hh : claB c vals = true) : hasS (unitS s c) vals = true := by
  obtain ⟨l, hl, hlv⟩ := (claB_iff c vals).1 hh
  obtain ⟨h0, h1⟩ := hc l hl
  have hlive : l ∈ liveL s c := (mem_live s c l).2 ⟨hl, _, has_val s vals hs l h0 h1, hlv⟩
  unfold unitS
  rw [has_not_failed s vals hs, if_neg (by simp)]
  match hq : liveL s c with
  | [] => rw [hq] at hlive; cases hlive
  | l0 :: rest =>
    simp only
    split
    · rename_i hall
      have hv : l.var = l0.var := by
        rw [hq] at hlive
        rcases List.mem_cons.1 hlive with rfl | h
        · rfl
        · simpa using List.all_eq_true.1 hall l h
      rw [hasS_iff] at hs ⊢
      refine ⟨by rw [siftS_len]; exact hs.1, fun k r x hr hx => ?_⟩
      obtain ⟨q, hq2, rfl⟩ := siftS_back _ _ _ _ hr
      refine List.mem_filter.2 ⟨hs.2 k q x hq2 hx, ?_⟩
      by_cases hk : (k : Int) = l0.var
      · simp only [hk, ne_eq, not_true_eq_false, decide_false, Bool.false_or]
        rw [oneB_iff]
        refine ⟨l, hl, by rw [hv, hk], ?_⟩
        have : l.var.toNat = k := by rw [hv, ← hk]; simp
        rw [this, List.getD_eq_getElem?_getD, hx] at hlv
        exact hlv
      · simp [hk]
    · exact hs
/-- DENY LEAVES JUST THE VALUES OF WHICH THE CLAUSE DOES NOT HOLD. -/
theorem deny_has (s : Sto) (c : Cla) (hc : ClaIn s c) (vals : List Int) (hs : hasS s vals = true) : hasS (denyS s c) vals = !claB c vals := by
  have hs2 := (hasS_iff s vals).1 hs
  rw [Bool.eq_iff_iff, hasS_iff]
  constructor
  · rintro ⟨_, h⟩
    cases hh : claB c vals
    · rfl
    · obtain ⟨l, hl, hlv⟩ := (claB_iff c vals).1 hh
      obtain ⟨h0, h1⟩ := hc l hl
      have hi : l.var.toNat < s.length := by omega
      have e1 : s[l.var.toNat]? = some s[l.var.toNat] := by simp [hi]
      have e2 : vals[l.var.toNat]? = some (vals[l.var.toNat]'(by omega)) := by simp [show l.var.toNat < vals.length by omega]
      have hm := h _ _ _ (siftS_get s _ _ _ e1) e2
      have hno := (List.mem_filter.1 hm).2
      have hyes : oneB c l.var.toNat (vals[l.var.toNat]'(by omega)) = true := by
        rw [oneB_iff]
        refine ⟨l, hl, by omega, ?_⟩
        rw [List.getD_eq_getElem?_getD, e2] at hlv
        exact hlv
      rw [hyes] at hno
      cases hno
  · intro hno
    refine ⟨by unfold denyS; rw [siftS_len]; exact hs2.1, fun k r x hr hx => ?_⟩
    obtain ⟨q, hq, rfl⟩ := siftS_back _ _ _ _ hr
    refine List.mem_filter.2 ⟨hs2.2 k q x hq hx, ?_⟩
    cases ho : oneB c k x
    · rfl
    · obtain ⟨l, hl, hk, hlv⟩ := (oneB_iff c k x).1 ho
      have : claB c vals = true := by
        rw [claB_iff]
        refine ⟨l, hl, ?_⟩
        have hkn : l.var.toNat = k := by rw [hk]; simp
        rw [hkn, List.getD_eq_getElem?_getD, hx]
        exact hlv
      rw [this] at hno
      cases hno
theorem checkV_unit (vs : List MVar) (s : Sto) (c : Cla) (hs : checkV vs s = 0) : checkV vs (unitS s c) = 0 := by
  unfold unitS
  split
  · exact hs
  · split
    · exact checkV_sift _ _ _ hs
    · split
      · exact checkV_sift _ _ _ hs
      · exact hs
theorem checkV_deny (vs : List MVar) (s : Sto) (c : Cla) (hs : checkV vs s = 0) : checkV vs (denyS s c) = 0 := checkV_sift _ _ _ hs

/-- One store is within another. -/
def SubS (t s : Sto) : Prop := t.length = s.length ∧ ∀ (k : Nat) r q, t[k]? = some r → s[k]? = some q → ∀ x ∈ r, x ∈ q
theorem SubS.refl (s : Sto) : SubS s s := ⟨rfl, fun k r q hr hq x hx => by rw [hr] at hq; cases hq; exact hx⟩
theorem SubS.trans {a b c : Sto} (h : SubS a b) (k : SubS b c) : SubS a c := by
  refine ⟨h.1.trans k.1, fun i r q hr hq x hx => ?_⟩
  have hi : i < b.length := by rw [← h.1]; exact (List.getElem?_eq_some_iff.1 hr).1
  have e : b[i]? = some b[i] := by simp [hi]
  exact k.2 i _ q e hq x (h.2 i r _ hr e x hx)
theorem sub_sift (s : Sto) (p : Nat → Int → Bool) : SubS (siftS s p) s := by
  refine ⟨siftS_len _ _, fun k r q hr hq x hx => ?_⟩
  obtain ⟨a, ha, rfl⟩ := siftS_back _ _ _ _ hr
  rw [hq] at ha; cases ha
  exact (List.mem_filter.1 hx).1
theorem sub_unit (s : Sto) (c : Cla) : SubS (unitS s c) s := by
  unfold unitS
  split
  · exact SubS.refl _
  · split
    · exact sub_sift _ _
    · split
      · exact sub_sift _ _
      · exact SubS.refl _
theorem sub_row {t s : Sto} (h : SubS t s) (l : MLit) : ∀ x ∈ rowOf t l, x ∈ rowOf s l := by
  intro x hx
  unfold rowOf at *
  rw [List.getD_eq_getElem?_getD] at *
  cases hq : t[l.var.toNat]? with
  | none => rw [hq] at hx; cases hx
  | some r =>
    rw [hq] at hx
    have hi : l.var.toNat < s.length := by rw [← h.1]; exact (List.getElem?_eq_some_iff.1 hq).1
    have e : s[l.var.toNat]? = some s[l.var.toNat] := by simp [hi]
    rw [e]
    exact h.2 _ _ _ hq e x hx
/-- WHAT UNIT LEAVES OF LESS IS LESS. -/
theorem unit_mono (s t : Sto) (c : Cla) (h : SubS t s) (ht : failedS t = false) (hs : failedS s = false) : SubS (unitS t c) (unitS s c) := by
  have hlive : ∀ l ∈ liveL t c, l ∈ liveL s c := fun l hl => by
    rw [mem_live] at *
    obtain ⟨h1, x, hx, h2⟩ := hl
    exact ⟨h1, x, sub_row h l x hx, h2⟩
  unfold unitS
  rw [ht, hs, if_neg (by simp), if_neg (by simp)]
  match hqs : liveL s c with
  | [] =>
    have hqt : liveL t c = [] := by
      rcases hq : liveL t c with _ | ⟨a, r⟩
      · rfl
      · have := hlive a (by rw [hq]; exact List.mem_cons_self ..)
        rw [hqs] at this; cases this
    rw [hqt]
    simp only
    refine ⟨by rw [siftS_len, siftS_len]; exact h.1, fun k r q hr hq x hx => ?_⟩
    obtain ⟨a, ha, rfl⟩ := siftS_back _ _ _ _ hr
    simp at hx
  | l0 :: rest =>
    simp only
    by_cases hall : rest.all (fun l => decide (l.var = l0.var)) = true
    · rw [if_pos hall]
      have hv : ∀ l ∈ liveL s c, l.var = l0.var := fun l hl => by
        rw [hqs] at hl
        rcases List.mem_cons.1 hl with rfl | h
        · rfl
        · simpa using List.all_eq_true.1 hall l h
      match hqt : liveL t c with
      | [] =>
        simp only
        refine ⟨by rw [siftS_len, siftS_len]; exact h.1, fun k r q hr hq x hx => ?_⟩
        obtain ⟨a, ha, rfl⟩ := siftS_back _ _ _ _ hr
        simp at hx
      | a :: r =>
        simp only
        have ha : a.var = l0.var := hv a (hlive a (by rw [hqt]; exact List.mem_cons_self ..))
        have hall2 : r.all (fun l => decide (l.var = a.var)) = true := by
          rw [List.all_eq_true]
          intro l hl
          have := hv l (hlive l (by rw [hqt]; exact List.mem_cons_of_mem _ hl))
          simp [this, ha]
        rw [if_pos hall2, ha]
        refine ⟨by rw [siftS_len, siftS_len]; exact h.1, fun k r q hr hq x hx => ?_⟩
        obtain ⟨b, hb, rfl⟩ := siftS_back _ _ _ _ hr
        obtain ⟨d, hd, rfl⟩ := siftS_back _ _ _ _ hq
        obtain ⟨h1, h2⟩ := List.mem_filter.1 hx
        exact List.mem_filter.2 ⟨h.2 k b d hb hd x h1, h2⟩
    · rw [if_neg hall]
      have := sub_unit t c
      unfold unitS at this
      rw [ht, if_neg (by simp)] at this
      exact this.trans h

theorem sift_same (s : Sto) (p : Nat → Int → Bool) (h : ∀ (k : Nat) r z, s[k]? = some r → z ∈ r → p k z = true) : siftS s p = s := by
  refine sto_ext _ _ (siftS_len _ _) fun k r q hr hq => ?_
  obtain ⟨a, ha, rfl⟩ := siftS_back _ _ _ _ hr
  rw [hq] at ha; cases ha
  exact List.filter_eq_self.2 fun z hz => h k _ z hq hz
theorem live_iff (s : Sto) (c : Cla) (l : MLit) : l ∈ liveL s c ↔ l ∈ c ∧ liveB s l = true := by
  rw [mem_live]
  unfold liveB
  rw [List.any_eq_true]
/-- What the program goes by: none can hold. -/
theorem unit_none (s : Sto) (c : Cla) (hf : failedS s = false) (h : c.any (liveB s) = false) : unitS s c = siftS s fun _ _ => false := by
  have hn : liveL s c = [] := by
    rcases hq : liveL s c with _ | ⟨a, r⟩
    · rfl
    · obtain ⟨h1, h2⟩ := (live_iff s c a).1 (by rw [hq]; exact List.mem_cons_self ..)
      have : c.any (liveB s) = true := List.any_eq_true.2 ⟨a, h1, h2⟩
      rw [h] at this; cases this
  unfold unitS
  rw [hf, if_neg (by simp), hn]
theorem unit_cases (s : Sto) (c : Cla) (hf : failedS s = false) (t : MLit) (ht : t ∈ c) (hl : liveB s t = true) :
    unitS s c = if c.any (fun l => !decide (l.var = t.var) && liveB s l) then s else siftS s (fun k z => decide ((k : Int) ≠ t.var) || oneB c k z) := by
  have hm : t ∈ liveL s c := (live_iff s c t).2 ⟨ht, hl⟩
  unfold unitS
  rw [hf, if_neg (by simp)]
  match hq : liveL s c with
  | [] => rw [hq] at hm; cases hm
  | l0 :: rest =>
    simp only
    by_cases hall : rest.all (fun l => decide (l.var = l0.var)) = true
    · have hv : ∀ l ∈ liveL s c, l.var = l0.var := fun l hl => by
        rw [hq] at hl
        rcases List.mem_cons.1 hl with rfl | h
        · rfl
        · simpa using List.all_eq_true.1 hall l h
      have hno : c.any (fun l => !decide (l.var = t.var) && liveB s l) = false := by
        rw [List.any_eq_false]
        intro l hlc hx
        simp only [Bool.and_eq_true, Bool.not_eq_true', decide_eq_false_iff_not] at hx
        exact hx.1 ((hv l ((live_iff s c l).2 ⟨hlc, hx.2⟩)).trans (hv t hm).symm)
      rw [if_pos hall, hno, hv t hm]
      rfl
    · rw [if_neg hall]
      have hyes : c.any (fun l => !decide (l.var = t.var) && liveB s l) = true := by
        have h1 : ∃ l ∈ rest, l.var ≠ l0.var := by
          apply Classical.byContradiction
          intro hn
          apply hall
          rw [List.all_eq_true]
          intro l hl
          by_cases e : l.var = l0.var
          · simp [e]
          · exact absurd ⟨l, hl, e⟩ hn
        obtain ⟨l, hl1, hne⟩ := h1
        have hlm : l ∈ liveL s c := by rw [hq]; exact List.mem_cons_of_mem _ hl1
        have h0m : l0 ∈ liveL s c := by rw [hq]; exact List.mem_cons_self ..
        rw [List.any_eq_true]
        by_cases e : l.var = t.var
        · have : l0.var ≠ t.var := fun e2 => hne (e.trans e2.symm)
          obtain ⟨a1, a2⟩ := (live_iff s c l0).1 h0m
          exact ⟨l0, a1, by simp [this, a2]⟩
        · obtain ⟨a1, a2⟩ := (live_iff s c l).1 hlm
          exact ⟨l, a1, by simp [e, a2]⟩
      rw [hyes]
      rfl
theorem unit_many (s : Sto) (c : Cla) (hf : failedS s = false) (t : MLit) (ht : t ∈ c) (hl : liveB s t = true) (h : c.any (fun l => !decide (l.var = t.var) && liveB s l) = true) : unitS s c = s := by
  rw [unit_cases s c hf t ht hl, h, if_pos rfl]
theorem unit_one (s : Sto) (c : Cla) (hf : failedS s = false) (t : MLit) (ht : t ∈ c) (hl : liveB s t = true) (h : c.any (fun l => !decide (l.var = t.var) && liveB s l) = false) :
    unitS s c = siftS s (fun k z => decide ((k : Int) ≠ t.var) || oneB c k z) := by
  rw [unit_cases s c hf t ht hl, h, if_neg (by simp)]
theorem unit_stays (s : Sto) (c : Cla) (hf : failedS s = false) (t : MLit) (ht : t ∈ c) (hl : liveB s t = true) (h : c.any (fun l => !decide (l.var = t.var) && liveB s l) = false)
    (k : Nat) (r : List Int) (hk : t.var = (k : Int)) (hr : s[k]? = some r) (hg : r.any (fun z => !oneB c k z) = false) : unitS s c = s := by
  rw [unit_one s c hf t ht hl h]
  refine sift_same _ _ fun j q z hq hz => ?_
  by_cases e : (j : Int) = t.var
  · have : j = k := by omega
    subst this
    rw [hr] at hq; cases hq
    have := (List.any_eq_false.1 hg) z hz
    simp only [Bool.not_eq_true', Bool.not_eq_false] at this
    simp [this]
  · simp [e]
end Go.Proofs.YtdjbejlbmaiocagGreatDoor
