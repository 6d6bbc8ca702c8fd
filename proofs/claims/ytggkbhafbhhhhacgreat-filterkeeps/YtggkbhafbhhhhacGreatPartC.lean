/-
  PART 3 of what the proof leans on (ModO, ModQ, Srt, ModS, ModT, ModG, ModH, StoPlain, SifPlain, FilPlain, FilA).
-/
import Derived.Test.YtggkbhafbhhhhacGreatPartB
import Derived.Shelf.Sort.Plain
import Derived.Ground.Names2Prog
import Derived.Shelf.Slices.CompactI
import Derived.Test.YtggkbhafbhhhhacGreatProg
import Derived.ProofKit
import Derived.OpenShut
import Derived.ShutString
import Derived.ChangeOld
import Derived.Below
import Derived.SizedLaws
import Derived.Deep.Slices
import Derived.Deep.Strs
import Derived.Lib.SmallJoins
import Derived.Maps.OwnSet
import Derived.Maps.AppendAt
import Derived.DeepKeys4
import Derived.WalkKit
/-
  WALK: package truth: Con.
-/
namespace Go.Proofs.YtggkbhafbhhhhacGreat
open Go.RowKit

theorem con_facts (n : Int) (c : MCon) (h : conE n c = 0) : (1 ≤ c.kind ∧ c.kind ≤ 10) ∧ manyB c = false ∧ formB c = true ∧ varsB c n = true ∧ constsB c = true ∧ litsE c.lits = 0 := by
  unfold conE at h
  split at h
  · rename_i hk
    cases h1 : manyB c
    · cases h2 : formB c
      · rw [h1, h2] at h; simp at h
      · cases h3 : varsB c n
        · rw [h1, h2, h3] at h; simp at h
        · cases h4 : constsB c
          · rw [h1, h2, h3, h4] at h; simp at h
          · rw [h1, h2, h3, h4] at h; simp at h
            exact ⟨hk, rfl, rfl, rfl, rfl, h⟩
    · rw [h1] at h; simp at h
  · cases h

theorem ownV_bound (vars vals : List Int) (h : ∀ x ∈ vals, -50 ≤ x ∧ x ≤ 50) (x : Int) (hx : x ∈ ownV vars vals) : -50 ≤ x ∧ x ≤ 50 := by
  obtain ⟨v, _, rfl⟩ := List.mem_map.1 hx
  unfold valAt
  rw [List.getD_eq_getElem?_getD]
  cases hq : vals[v.toNat]? with
  | none => simp
  | some y => exact h y (List.mem_of_getElem? hq)
theorem ownV_len (vars vals : List Int) : (ownV vars vals).length = vars.length := by simp [ownV]
theorem vars_in (c : MCon) (n : Int) (h : varsB c n = true) : (∀ x ∈ c.vars, 0 ≤ x ∧ x < n) ∧ ∀ l ∈ c.lits, 0 ≤ l.var ∧ l.var < n := by
  unfold varsB at h
  rw [Bool.and_eq_true, List.all_eq_true, List.all_eq_true] at h
  exact ⟨fun x hx => by simpa [isVarB] using h.1 x hx, fun l hl => by simpa [isVarB] using h.2 l hl⟩
theorem consts_in (c : MCon) (h : constsB c = true) : ∀ x ∈ c.consts, -1000 ≤ x ∧ x ≤ 1000 := by
  unfold constsB at h
  rw [Bool.and_eq_true, List.all_eq_true] at h
  exact fun x hx => by simpa [isConstB, inB] using h.1 x hx
theorem many_not (c : MCon) (h : manyB c = false) : c.vars.length ≤ 4 ∧ c.lits.length ≤ 4 ∧ c.consts.length ≤ 8 ∧ c.rows.length ≤ 20 := by
  unfold manyB at h
  simp at h
  omega

set_option maxHeartbeats 3200000 in
set_option maxRecDepth 100000 in
theorem holds_any (c : MCon) (vals : List Int) (vv vc vr vl v : Value) (w : World) (hk : KArg w vv vc vr vl c) (hv : IArg w v vals) (hc : conE vals.length c = 0) (hb : ∀ x ∈ vals, -50 ≤ x ∧ x ≤ 50) :
    Calls Tryz.prog 19 #[conV vv vc vr vl c, v] w fun e w' => e = .returned (.bool (holdsC c vals)) ∧ Below w.heap.size w w' := by
  obtain ⟨⟨hk1, hk10⟩, hmany, hform, hvars, hconsts, hlits⟩ := con_facts _ _ hc
  obtain ⟨hn4, hl4, hc8, _⟩ := many_not c hmany
  have HVI : Hid (∀ x ∈ c.vars, 0 ≤ x ∧ x < (vals.length : Int)) := (vars_in c _ hvars).1
  have HLI : Hid (∀ l ∈ c.lits, 0 ≤ l.var ∧ l.var < (vals.length : Int)) := (vars_in c _ hvars).2
  have HCI : Hid (∀ x ∈ c.consts, -1000 ≤ x ∧ x ≤ 1000) := consts_in c hconsts
  have HOB : Hid (∀ x ∈ ownV c.vars vals, -50 ≤ x ∧ x ≤ 50) := ownV_bound c.vars vals hb
  have HKA : Hid (∀ w' : World, Below w.heap.size w w' → KArg w' vv vc vr vl c) := fun w' h => KArg.below h hk
  have HVA : Hid (∀ w' : World, Below w.heap.size w w' → IArg w' v vals) := fun w' h => IArg.below h hv
  have HFO : Hid (formB c = true) := hform
  obtain ⟨⟨a1, c1, rfl, _, _⟩, ⟨a2, c2, rfl, hm2, _⟩, ⟨a3, c3, rfl, _, _⟩, ⟨a4, c4, rfl, hm4, _⟩⟩ := hk
  obtain ⟨a5, c5, rfl, _, _⟩ := hv
  unfold maxLen at hm2 hm4
  obtain ⟨hm21, hm2⟩ := hm2
  obtain ⟨hm41, hm4⟩ := hm4
  obtain ⟨R, hR⟩ : ∃ R, holdsC c vals = R := ⟨_, rfl⟩
  rw [hR]
  have HR : Hid (holdsC c vals = R) := hR
  unfold conV
  clear hR hc hb hmany hform hvars hconsts hlits
  go_enter Tryz.func19, Tryz.ntmps19
  go_wp2_with fail
  refine (values_of c.vars vals _ _ _ ?_ ?_ hn4 HVI.out).mono ?_
  · exact (HKA.out _ (below_alloc _ _)).1
  · exact HVA.out _ (below_alloc _ _)
  rintro e w1 ⟨x, rfl, hx, hb1⟩
  have d0 : w1.cell? ⟨w.heap.size, 0, none⟩ = some (.int .i64 c.kind) := (hb1.cell (by simp)).trans (by simp)
  have d2 : w1.cell? ⟨w.heap.size, 2, none⟩ = some (.slice a2 c.consts.length c2) := (hb1.cell (by simp)).trans (by simp)
  have d3 : w1.cell? ⟨w.heap.size, 3, none⟩ = some (.int .i64 c.n) := (hb1.cell (by simp)).trans (by simp)
  have d4 : w1.cell? ⟨w.heap.size, 4, none⟩ = some (.slice a3 c.rows.length c3) := (hb1.cell (by simp)).trans (by simp)
  have d5 : w1.cell? ⟨w.heap.size, 5, none⟩ = some (.slice a4 c.lits.length c4) := (hb1.cell (by simp)).trans (by simp)
  have hs1 : w.heap.size + 1 ≤ w1.heap.size := by simpa using hb1.size
  have HB1 : Hid (Below w.heap.size w w1) := (below_alloc _ _).trans (hb1.mono (by simp))
  have HX : Hid (∀ w' : World, Below w1.heap.size w1 w' → IArg w' x (ownV c.vars vals)) := fun w' h => IArg.below h hx
  obtain ⟨own, HOWN⟩ : ∃ own, Hid (ownV c.vars vals = own) := ⟨_, rfl⟩
  have HOL : Hid (own.length = c.vars.length) := by rw [← HOWN.out]; exact ownV_len _ _
  rw [HOWN.out] at HX HOB hx
  obtain ⟨a6, c6, rfl, hm6, h6⟩ := hx
  unfold maxLen at hm6
  obtain ⟨hm61, hm6⟩ := hm6
  have H6 : Hid (∀ (i : Nat) (z : Int), own[i]? = some z → ∃ b off, a6 = some ⟨b, off, none⟩ ∧ b < w1.heap.size ∧ w1.cell? ⟨b, off + i, none⟩ = some (.int .i64 z)) := h6
  clear hb1 h6
  have hl0 : w.heap.size < w1.heap.size := by omega
  have HB2 : Hid (Below w.heap.size w (w1.alloc (.cells #[.slice a6 own.length c6] 36))) := HB1.out.trans ((below_alloc _ _).mono (by omega))
  obtain ⟨kd, hkd⟩ : ∃ kd, c.kind = kd := ⟨_, rfl⟩
  have HKD : Hid (c.kind = kd) := hkd
  rw [hkd] at d0 hk1 hk10
  clear hkd hs1
  have HN : Hid (R = true ∨ R = false) := by cases R <;> simp [Hid]
  have hcases : kd = 1 ∨ kd = 2 ∨ kd = 3 ∨ kd = 4 ∨ kd = 5 ∨ kd = 6 ∨ kd = 7 ∨ kd = 8 ∨ kd = 9 ∨ kd = 10 := by omega
  clear hk1 hk10
  rcases hcases with rfl | rfl | rfl | rfl | rfl | rfl | rfl | rfl | rfl | rfl
  · -- kind 1
    have HL : Hid (c.consts.length = own.length) := by
      have h := HFO.out
      unfold formB at h
      rw [HKD.out] at h
      simp at h
      exact h.2.1.trans HOL.out.symm
    have HE : Hid (R = decide (sumV c.consts own ≤ c.n)) := by rw [← HR.out, ← HOWN.out]; unfold holdsC; rw [HKD.out]; rfl
    have HS : Hid (∀ n, Calls Tryz.prog 49 #[.slice a2 c.consts.length c2, .slice a6 own.length c6] ((w1.alloc (.cells #[.slice a6 own.length c6] 36)).drewN n) fun e w' => e = .returned (.int .i64 (sumV c.consts own)) ∧ ∃ k, w' = (w1.alloc (.cells #[.slice a6 own.length c6] 36)).drewN k) := by
      intro n
      refine (sum_any c.consts own _ _ _ ((HKA.out _ (below_drewN HB2.out n)).2.1) (HX.out _ (below_drewN (below_alloc _ _) n)) HL.out hc8 HCI.out HOB.out).mono ?_
      rintro e w' ⟨rfl, rfl⟩
      exact ⟨rfl, n, rfl⟩
    go_wp2
    go_quiet ((go_at_call 49; exact HS.out _))
    go_wp2
    go_ret
    exact ⟨ret_bool HE.out.symm, below_drewN HB2.out _⟩
  · -- kind 2
    have HL : Hid (c.consts.length = own.length) := by
      have h := HFO.out
      unfold formB at h
      rw [HKD.out] at h
      simp at h
      exact h.2.1.trans HOL.out.symm
    have HE : Hid (R = (sumV c.consts own == c.n)) := by rw [← HR.out, ← HOWN.out]; unfold holdsC; rw [HKD.out]; rfl
    have HS : Hid (∀ n, Calls Tryz.prog 49 #[.slice a2 c.consts.length c2, .slice a6 own.length c6] ((w1.alloc (.cells #[.slice a6 own.length c6] 36)).drewN n) fun e w' => e = .returned (.int .i64 (sumV c.consts own)) ∧ ∃ k, w' = (w1.alloc (.cells #[.slice a6 own.length c6] 36)).drewN k) := by
      intro n
      refine (sum_any c.consts own _ _ _ ((HKA.out _ (below_drewN HB2.out n)).2.1) (HX.out _ (below_drewN (below_alloc _ _) n)) HL.out hc8 HCI.out HOB.out).mono ?_
      rintro e w' ⟨rfl, rfl⟩
      exact ⟨rfl, n, rfl⟩
    go_wp2
    go_quiet ((go_at_call 49; exact HS.out _))
    go_wp2
    go_ret
    exact ⟨ret_bool HE.out.symm, below_drewN HB2.out _⟩
  · -- kind 3
    have HL : Hid (c.consts.length = own.length) := by
      have h := HFO.out
      unfold formB at h
      rw [HKD.out] at h
      simp at h
      exact h.2.1.trans HOL.out.symm
    have HE : Hid (R = (sumV c.consts own != c.n)) := by rw [← HR.out, ← HOWN.out]; unfold holdsC; rw [HKD.out]; rfl
    have HS : Hid (∀ n, Calls Tryz.prog 49 #[.slice a2 c.consts.length c2, .slice a6 own.length c6] ((w1.alloc (.cells #[.slice a6 own.length c6] 36)).drewN n) fun e w' => e = .returned (.int .i64 (sumV c.consts own)) ∧ ∃ k, w' = (w1.alloc (.cells #[.slice a6 own.length c6] 36)).drewN k) := by
      intro n
      refine (sum_any c.consts own _ _ _ ((HKA.out _ (below_drewN HB2.out n)).2.1) (HX.out _ (below_drewN (below_alloc _ _) n)) HL.out hc8 HCI.out HOB.out).mono ?_
      rintro e w' ⟨rfl, rfl⟩
      exact ⟨rfl, n, rfl⟩
    go_wp2
    go_quiet ((go_at_call 49; exact HS.out _))
    go_wp2
    go_ret
    exact ⟨ret_bool HE.out.symm, below_drewN HB2.out _⟩
  · -- kind 4
    have HE : Hid (R = decide own.Nodup) := by rw [← HR.out, ← HOWN.out]; unfold holdsC; rw [HKD.out]; rfl
    have ho4 : own.length ≤ 4 := by have := HOL.out; omega
    go_wp2_with fail
    refine (differ_any own _ _ (HX.out _ (below_alloc _ _)) ho4 HOB.out).mono ?_
    rintro e w3 ⟨rfl, hb3⟩
    have hb4 : Below w.heap.size w w3 := HB2.out.trans (hb3.mono (by simp; omega))
    clear hb3
    go_wp2
    go_ret
    exact ⟨ret_bool HE.out.symm, hb4⟩
  · -- kind 5
    have HL : Hid (own.length = 2) := by
      have h := HFO.out
      unfold formB at h
      rw [HKD.out] at h
      simp at h
      exact HOL.out.trans h.2.1
    obtain ⟨p, q, rfl⟩ : ∃ p q, own = [p, q] := by
      match own, HL.out with
      | [p, q], _ => exact ⟨p, q, rfl⟩
    obtain ⟨b, off, rfl, hb, e0⟩ := H6.out 0 p rfl
    obtain ⟨b', off', hab, hb', e1⟩ := H6.out 1 q rfl
    cases hab
    rw [Nat.add_zero] at e0
    have HE : Hid (R = (decide (0 ≤ p) && (decide (p < c.consts.length) && (c.consts.getD p.toNat 0 == q)))) := by rw [← HR.out]; unfold holdsC; rw [HKD.out, HOWN.out]; rfl
    by_cases q1 : 0 ≤ p
    · obtain ⟨j, rfl⟩ : ∃ j : Nat, p = (j : Int) := ⟨p.toNat, by omega⟩
      by_cases q2 : j < c.consts.length
      · obtain ⟨y, hy⟩ : ∃ y, c.consts[j]? = some y := ⟨c.consts[j], by simp [q2]⟩
        obtain ⟨a2', c2', hva, _, hrc⟩ := (HKA.out _ HB1.out).2.1
        obtain ⟨b2, off2, hax, hb2, e2⟩ := hrc j y hy
        have ha2 : a2 = some ⟨b2, off2, none⟩ := by cases hva; exact hax
        subst ha2
        have HE2 : Hid (R = (y == q)) := by
          show _ = _
          rw [HE.out, decide_eq_true q1, decide_eq_true (show (j : Int) < c.consts.length by omega), Int.toNat_natCast, List.getD_eq_getElem?_getD, hy]; rfl
        have q2' : (j : Int) < (c.consts.length : Int) := by omega
        clear hy hva hrc hax
        go_wp2
        go_quiet (fail)
        go_wp2
        go_ret
        exact ⟨ret_bool HE2.out.symm, below_drewN HB2.out _⟩
      · have HE2 : Hid (R = false) := by
          show _ = _
          rw [HE.out, decide_eq_true q1, decide_eq_false (show ¬ (j : Int) < c.consts.length by omega)]; rfl
        have q3 : decide (j < c.consts.length) = false := decide_eq_false q2
        have q4 : decide ((j : Int) < (c.consts.length : Int)) = false := decide_eq_false (by omega)
        clear q2
        go_wp2
        go_quiet (fail)
        go_wp2
        go_ret
        exact ⟨ret_bool HE2.out.symm, below_drewN HB2.out _⟩
    · have HE2 : Hid (R = false) := by
        show _ = _
        rw [HE.out, decide_eq_false q1]; rfl
      have q3 : decide (0 ≤ p) = false := decide_eq_false q1
      go_wp2
      go_quiet (fail)
      go_wp2
      go_ret
      exact ⟨ret_bool HE2.out.symm, below_drewN HB2.out _⟩
  · -- kind 6
    have HE : Hid (R = c.rows.any fun r => decide (r = own)) := by rw [← HR.out, ← HOWN.out]; unfold holdsC; rw [HKD.out]; rfl
    go_wp2_with fail
    refine (containsf_rows 52 _ (fun r => decide (r = own)) c.rows _ _ ((HKA.out _ HB2.out).2.2.1) ⟨enters_row, ?_⟩).mono ?_
    · intro r x w' hb' hx'
      exact row_same own r _ x w1.heap.size w' (HX.out _ ((below_alloc _ _).trans (hb'.mono (by simp)))) hx' ((hb'.cell (by simp)).trans (by simp))
    rintro e w3 ⟨rfl, hb3⟩
    have hb4 : Below w.heap.size w w3 := HB2.out.trans (hb3.mono (by simp; omega))
    clear hb3
    go_wp2
    go_ret
    exact ⟨ret_bool HE.out.symm, hb4⟩
  · -- kind 7
    have HL : Hid (own.length = 3) := by
      have h := HFO.out
      unfold formB at h
      rw [HKD.out] at h
      simp at h
      exact HOL.out.trans h.2.1
    obtain ⟨p, q, r, rfl⟩ : ∃ p q r, own = [p, q, r] := by
      match own, HL.out with
      | [p, q, r], _ => exact ⟨p, q, r, rfl⟩
    obtain ⟨b, off, rfl, hb, e0⟩ := H6.out 0 p rfl
    obtain ⟨b', off', hab, hb', e1⟩ := H6.out 1 q rfl
    cases hab
    obtain ⟨b', off', hab, hb', e2⟩ := H6.out 2 r rfl
    cases hab
    rw [Nat.add_zero] at e0
    have HE : Hid (R = (p * q == r)) := by rw [← HR.out]; unfold holdsC; rw [HKD.out, HOWN.out]; rfl
    obtain ⟨g1, g2⟩ := mul_bound p q (by have := HOB.out p (by simp); omega) (by have := HOB.out p (by simp); omega) (HOB.out q (by simp)).1 (HOB.out q (by simp)).2
    go_wp2
    go_quiet (fail)
    go_wp2
    go_ret
    exact ⟨ret_bool HE.out.symm, below_drewN HB2.out _⟩
  · -- kind 8
    have HL : Hid (2 ≤ own.length) := by
      have h := HFO.out
      unfold formB at h
      rw [HKD.out] at h
      simp at h
      have := HOL.out
      show 2 ≤ _
      omega
    obtain ⟨p, q, r, rfl⟩ : ∃ p q r, own = p :: q :: r := by
      match own, HL.out with
      | p :: q :: r, _ => exact ⟨p, q, r, rfl⟩
    obtain ⟨b, off, rfl, hb, e0⟩ := H6.out 0 p rfl
    rw [Nat.add_zero] at e0
    have HE : Hid (R = (p == r.foldl max q)) := by rw [← HR.out]; unfold holdsC; rw [HKD.out, HOWN.out]; rfl
    obtain ⟨n, hn⟩ : ∃ n, (p :: q :: r).length = n := ⟨_, rfl⟩
    have hn2 : 2 ≤ n := by rw [← hn]; simp
    have HT : Hid (IArg w1 (.slice (some ⟨b, off + 1, none⟩) (n - 1) (c6 - 1)) (q :: r)) := by
      refine ⟨_, _, by rw [← hn]; rfl, ⟨by rw [← hn] at *; simp at *; omega, by unfold maxLen; omega⟩, fun i z hz => ?_⟩
      obtain ⟨b', off', hab, hb', e1⟩ := H6.out (i + 1) z (by simpa using hz)
      cases hab
      exact ⟨b, off + 1, rfl, hb, by rw [Nat.add_assoc, Nat.add_comm 1 i]; exact e1⟩
    rw [hn] at hm61 HB2 ⊢
    clear hn
    go_wp2
    go_quiet ((go_at_call 54; exact (max_any q r _ _ (IArg.below (below_drewN (below_alloc _ _) _) HT.out)).mono (fun _ _ h => ⟨h.1, _, h.2⟩)))
    go_wp2
    go_ret
    exact ⟨ret_bool HE.out.symm, below_drewN HB2.out _⟩
  · -- kind 9
    have HE : Hid (R = c.lits.any (litB vals)) := by rw [← HR.out]; unfold holdsC; rw [HKD.out]; rfl
    go_wp2_with fail
    refine (clause_true c.lits vals _ _ _ ((HKA.out _ HB2.out).2.2.2) (HVA.out _ HB2.out) HLI.out).mono ?_
    rintro e w3 ⟨rfl, hb3⟩
    have hb4 : Below w.heap.size w w3 := HB2.out.trans (hb3.mono (by simp; omega))
    clear hb3
    go_wp2
    go_ret
    exact ⟨ret_bool HE.out.symm, hb4⟩
  · -- kind 10
    have HFF : Hid (own.length = 1 ∧ c.lits.length = 1) := by
      have h := HFO.out
      unfold formB at h
      rw [HKD.out] at h
      simp at h
      exact ⟨HOL.out.trans h.2.1, h.2.2.1⟩
    obtain ⟨p, rfl⟩ : ∃ p, own = [p] := by
      match own, HFF.out.1 with
      | [p], _ => exact ⟨p, rfl⟩
    obtain ⟨l, hl⟩ : ∃ l, c.lits = [l] := by
      match c.lits, HFF.out.2 with
      | [l], _ => exact ⟨l, rfl⟩
    obtain ⟨b, off, rfl, hb, e0⟩ := H6.out 0 p rfl
    rw [Nat.add_zero] at e0
    have HE : Hid (R = (p == (if litB vals l then 1 else 0))) := by rw [← HR.out]; unfold holdsC; rw [HKD.out, HOWN.out, hl]; rfl
    obtain ⟨a2', c2', hva, _, hrc⟩ := (HKA.out _ HB1.out).2.2.2
    obtain ⟨b2, off2, hax, hb2, g0, g1, g2⟩ := hrc 0 l (by rw [hl]; rfl)
    have ha2 : a4 = some ⟨b2, off2, none⟩ := by cases hva; exact hax
    subst ha2
    simp only [Nat.zero_mul, Nat.add_zero] at g0 g1 g2
    have HLL := HLI.out l (by rw [hl]; simp)
    have hlen : c.lits.length = 1 := by rw [hl]; rfl
    obtain ⟨j, hj⟩ : ∃ j : Nat, l.var = (j : Int) := ⟨l.var.toNat, by omega⟩
    have hjl : j < vals.length := by omega
    obtain ⟨y, hy⟩ : ∃ y, vals[j]? = some y := ⟨vals[j], by simp [hjl]⟩
    obtain ⟨a7, c7, hva7, hm7, hrc7⟩ := HVA.out _ HB1.out
    obtain ⟨b7, off7, hax7, hb7, g7⟩ := hrc7 j y hy
    have ha5 : a5 = some ⟨b7, off7, none⟩ := by cases hva7; exact hax7
    have hm75 : vals.length ≤ c5 ∧ c5 ≤ maxLen := by cases hva7; exact hm7
    unfold maxLen at hm75
    obtain ⟨hm71, hm72⟩ := hm75
    subst ha5
    obtain ⟨B, HB⟩ : ∃ B : Bool, Hid (litB vals l = B) := ⟨_, rfl⟩
    rw [HB.out] at HE
    have HBV : Hid (litV y l = B) := by
      have h := HB.out
      unfold litB at h
      rwa [hj, valAt_get vals j y hy] at h
    obtain ⟨N, hN⟩ : ∃ N : Int, (if B then (1 : Int) else 0) = N := ⟨_, rfl⟩
    have HOI : Hid (∀ W' : World, Calls Tryz.prog 56 #[.bool B] W' fun e w' => e = .returned (.int .i64 N) ∧ w' = W') := by
      intro W'; rw [← hN]; exact oneif_any B W'
    rw [hN] at HE
    clear hN
    obtain ⟨W, hW⟩ : ∃ W : World, W = w1.alloc (.cells #[.slice (some ⟨b, off, none⟩) 1 c6] 36) := ⟨_, rfl⟩
    have HW : Hid (W = w1.alloc (.cells #[.slice (some ⟨b, off, none⟩) 1 c6] 36)) := hW
    have HB2W : Hid (Below w.heap.size w W) := by rw [hW]; exact HB2.out
    have HCL : Hid (∀ wq : World, Below W.heap.size W wq → Calls Tryz.prog 57 #[.agg #[.int .i64 (j : Int), .int .i64 l.op, .int .i64 l.n], .int .i64 y] wq fun e w' => e = .returned (.bool B) ∧ Below W.heap.size W w') := by
      intro wq hq
      rw [← hj]
      refine (lit_true l y wq).mono ?_
      rintro e w' ⟨rfl, hb⟩
      exact ⟨by rw [HBV.out], hq.trans (hb.mono hq.size)⟩
    have k0 : W.cell? ⟨w1.heap.size, 0, none⟩ = some (.slice (some ⟨b, off, none⟩) 1 c6) := by rw [hW]; simp
    have k1 : W.cell? ⟨b, off, none⟩ = some (.int .i64 p) := by rw [hW]; exact (World.cell?_alloc_past _ _ _ hb).trans e0
    have k2 : W.cell? ⟨w.heap.size, 5, none⟩ = some (.slice (some ⟨b2, off2, none⟩) 1 c4) := by rw [hW, ← hlen]; exact (World.cell?_alloc_past _ _ _ hl0).trans d5
    have k3 : W.cell? ⟨b2, off2, none⟩ = some (.int .i64 (j : Int)) := by rw [hW, ← hj]; exact (World.cell?_alloc_past _ _ _ hb2).trans g0
    have k4 : W.cell? ⟨b2, off2 + 1, none⟩ = some (.int .i64 l.op) := by rw [hW]; exact (World.cell?_alloc_past _ _ _ hb2).trans g1
    have k5 : W.cell? ⟨b2, off2 + 2, none⟩ = some (.int .i64 l.n) := by rw [hW]; exact (World.cell?_alloc_past _ _ _ hb2).trans g2
    have k7 : W.cell? ⟨b7, off7 + j, none⟩ = some (.int .i64 y) := by rw [hW]; exact (World.cell?_alloc_past _ _ _ hb7).trans g7
    have hsW : W.heap.size = w1.heap.size + 1 := by rw [hW]; simp
    have HSW : Hid (W.heap.size = w1.heap.size + 1) := hsW
    clear hW hsW hva hrc hax hl hva7 hrc7 hax7 hm7 hy hj
    go_wp2
    rw [← HW.out]
    clear d0 d2 d3 d4 d5 e0 g0 g1 g2 g7 H6 HX HKA HVA HVI HLI HCI HOB HFO HFF HOL HOWN HLL HR HKD HB1 hm21 hm41 hm2 hm4 hm61 hm6
    refine region_below (by kernel_rfl) (by kernel_rfl) ?_
    go_big_quiet_want
    refine ⟨.slice (some ⟨b, off, none⟩) 1 c6, fun wq hq => ?_, ?_⟩
    · have h0 := (hq.cell (p := ⟨w1.heap.size, 0, none⟩) (by have := HSW.out; simp only; omega)).trans k0
      simp [Oper.quietAt, go_sem, h0]
    go_simp
    go_big_quiet_on
    go_big_quiet_want
    go_big_quiet_op
    first | go_big_quiet_on | (refine ⟨_, fun _ _ => rfl, ?_⟩; go_big_quiet_on)
    go_big_quiet_want
    refine ⟨.int .i64 p, fun wq hq => ?_, ?_⟩
    · have h0 := (hq.cell (p := ⟨b, off, none⟩) (by have := HSW.out; simp only; omega)).trans k1
      simp [Oper.quietAt, go_sem, h0]
    go_simp
    go_big_quiet_on
    go_big_quiet_want
    go_big_quiet_op
    first | go_big_quiet_on | (refine ⟨_, fun _ _ => rfl, ?_⟩; go_big_quiet_on)
    go_big_quiet_want
    refine ⟨.slice (some ⟨b2, off2, none⟩) 1 c4, fun wq hq => ?_, ?_⟩
    · have h0 := (hq.cell (p := ⟨w.heap.size, 5, none⟩) (by have := HSW.out; simp only; omega)).trans k2
      simp [Oper.quietAt, go_sem, h0]
    go_simp
    go_big_quiet_on
    go_big_quiet_want
    go_big_quiet_op
    first | go_big_quiet_on | (refine ⟨_, fun _ _ => rfl, ?_⟩; go_big_quiet_on)
    go_big_quiet_want
    refine ⟨.agg #[.int .i64 (j : Int), .int .i64 l.op, .int .i64 l.n], fun wq hq => ?_, ?_⟩
    · have h0 := (hq.cell (p := ⟨b2, off2, none⟩) (by have := HSW.out; simp only; omega)).trans k3
      have h1 := (hq.cell (p := ⟨b2, off2 + 1, none⟩) (by have := HSW.out; simp only; omega)).trans k4
      have h2 := (hq.cell (p := ⟨b2, off2 + 2, none⟩) (by have := HSW.out; simp only; omega)).trans k5
      simp [Oper.quietAt, go_sem, h0, h1, h2]
    go_simp
    go_big_quiet_on
    go_big_quiet_want
    go_big_quiet_op
    first | go_big_quiet_on | (refine ⟨_, fun _ _ => rfl, ?_⟩; go_big_quiet_on)
    go_big_quiet_want
    go_big_quiet_op
    first | go_big_quiet_on | (refine ⟨_, fun _ _ => rfl, ?_⟩; go_big_quiet_on)
    go_big_quiet_want
    refine ⟨.slice (some ⟨b2, off2, none⟩) 1 c4, fun wq hq => ?_, ?_⟩
    · have h0 := (hq.cell (p := ⟨w.heap.size, 5, none⟩) (by have := HSW.out; simp only; omega)).trans k2
      simp [Oper.quietAt, go_sem, h0]
    go_simp
    go_big_quiet_on
    go_big_quiet_want
    go_big_quiet_op
    first | go_big_quiet_on | (refine ⟨_, fun _ _ => rfl, ?_⟩; go_big_quiet_on)
    go_big_quiet_want
    go_big_quiet_op
    first | go_big_quiet_on | (refine ⟨_, fun _ _ => rfl, ?_⟩; go_big_quiet_on)
    go_big_quiet_want
    refine ⟨.int .i64 (j : Int), fun wq hq => ?_, ?_⟩
    · have h0 := (hq.cell (p := ⟨b2, off2, none⟩) (by have := HSW.out; simp only; omega)).trans k3
      simp [Oper.quietAt, go_sem, h0]
    go_simp
    go_big_quiet_on
    go_big_quiet_want
    go_big_quiet_op
    first | go_big_quiet_on | (refine ⟨_, fun _ _ => rfl, ?_⟩; go_big_quiet_on)
    go_big_quiet_want
    refine ⟨.int .i64 y, fun wq hq => ?_, ?_⟩
    · have h0 := (hq.cell (p := ⟨b7, off7 + j, none⟩) (by have := HSW.out; simp only; omega)).trans k7
      simp [Oper.quietAt, go_sem, h0]
    go_simp
    go_big_quiet_on
    go_big_quiet_want
    refine ⟨.bool B, fun wq hq => ?_, ?_⟩
    · simp [Oper.quietAt, go_sem]
      exact HCL.out wq hq
    go_simp
    go_big_quiet_on
    go_big_quiet_want
    refine ⟨.int .i64 N, fun wq hq => ?_, ?_⟩
    · simp [Oper.quietAt, go_sem]
      exact (HOI.out wq).mono (fun e w' h => ⟨h.1, by rw [h.2]; exact hq⟩)
    go_simp
    go_big_quiet_on
    go_big_quiet_want
    go_big_quiet_op
    first | go_big_quiet_on | (refine ⟨_, fun _ _ => rfl, ?_⟩; go_big_quiet_on)
    go_big_quiet_want
    go_big_quiet_op
    first | go_big_quiet_on | (refine ⟨_, fun _ _ => rfl, ?_⟩; go_big_quiet_on)
    refine wpQuiet_nil ?_
    intro w' hw'
    have hb4 : Below w.heap.size w w' := HB2W.out.trans (hw'.mono HB2W.out.size)
    clear hw'
    go_wp2
    go_ret
    exact ⟨ret_bool HE.out.symm, hb4⟩
end Go.Proofs.YtggkbhafbhhhhacGreat
/-
  WALKS: package model: checkWithCon, Holds, All.
-/
namespace Go.Proofs.YtggkbhafbhhhhacGreat
open Go.RowKit

def conCheck (m : Mod) (con : Int) : Int := if checkM m = 0 then (if con < 0 ∨ (m.cons.length : Int) ≤ con then 5 else 0) else checkM m
def noCon : MCon := ⟨0, [], [], 0, [], []⟩
def holdsA (m : Mod) (con : Int) (vals : List Int) : Bool × Int :=
  if conCheck m con = 0 then
    (if vals.length = m.vars.length then (if vals.all (fun x => inB x 50) then (holdsC (m.cons.getD con.toNat noCon) vals, 0) else (false, 3)) else (false, 1))
  else (false, conCheck m con)
def insideV (v : MVar) (x : Int) : Bool := !decide (x < v.lo) && !decide (v.hi < x)
def allA (m : Mod) (vals : List Int) : Bool × Int :=
  if checkM m = 0 then
    (if vals.length = m.vars.length then ((m.vars.zip vals).all (fun p => insideV p.1 p.2) && m.cons.all (fun c => holdsC c vals), 0) else (false, 1))
  else (false, checkM m)

set_option maxHeartbeats 800000 in
set_option maxRecDepth 100000 in
theorem check_con (m : Mod) (con : Int) (vs cs : Value) (w : World) (hm : MArg w vs cs m) :
    Calls Tryz.prog 42 #[modV vs cs m, .int .i64 con] w fun e w' => e = .returned (.int .i64 (conCheck m con)) ∧ Below w.heap.size w w' := by
  have HMA : Hid (∀ w' : World, Below w.heap.size w w' → MArg w' vs cs m) := fun w' h => MArg.below h hm
  obtain ⟨⟨a1, c1, rfl, _, _⟩, ⟨a2, c2, rfl, hl2, _⟩⟩ := hm
  unfold maxLen at hl2
  obtain ⟨hl21, hl2⟩ := hl2
  obtain ⟨R, hR⟩ : ∃ R, conCheck m con = R := ⟨_, rfl⟩
  rw [hR]
  obtain ⟨er, her⟩ : ∃ er, checkM m = er := ⟨_, rfl⟩
  have HER : Hid (checkM m = er) := her
  have HE : Hid (R = if er = 0 then (if con < 0 ∨ (m.cons.length : Int) ≤ con then 5 else 0) else er) := by rw [← hR, ← her]; rfl
  clear hR her
  unfold modV
  go_enter Tryz.func42, Tryz.ntmps42
  go_wp2_with fail
  refine (check_model m (.slice a1 m.vars.length c1) (.slice a2 m.cons.length c2) _ ?_).mono ?_
  · exact HMA.out _ (below_alloc _ _)
  rintro e w1 ⟨rfl, hb1⟩
  rw [HER.out]
  have d1 : w1.cell? ⟨w.heap.size, 1, none⟩ = some (.slice a2 m.cons.length c2) := (hb1.cell (by simp)).trans (by simp)
  have HB1 : Hid (Below w.heap.size w w1) := (below_alloc _ _).trans (hb1.mono (by simp))
  clear hb1
  by_cases he : er = 0
  · subst he
    by_cases q1 : con < 0
    · have HN : Hid (R = 5) := by rw [HE.out, if_pos rfl, if_pos (Or.inl q1)]; rfl
      go_wp2
      go_ret
      exact ⟨ret_int HN.out.symm, HB1.out⟩
    · by_cases q2 : (m.cons.length : Int) ≤ con
      · have HN : Hid (R = 5) := by rw [HE.out, if_pos rfl, if_pos (Or.inr q2)]; rfl
        go_wp2
        go_ret
        exact ⟨ret_int HN.out.symm, HB1.out⟩
      · have HN : Hid (R = 0) := by rw [HE.out, if_pos rfl, if_neg (by omega)]; rfl
        go_wp2
        go_ret
        exact ⟨ret_int HN.out.symm, HB1.out⟩
  · have HN : Hid (R = er) := by rw [HE.out, if_neg he]; rfl
    have he2 : (er != 0) = true := by simpa using he
    clear he
    go_wp2
    go_ret
    exact ⟨ret_int HN.out.symm, HB1.out⟩

theorem conCheck_ok (m : Mod) (con : Int) (h : conCheck m con = 0) : checkM m = 0 ∧ 0 ≤ con ∧ con < m.cons.length := by
  unfold conCheck at h
  split at h
  · rename_i h0
    split at h
    · cases h
    · exact ⟨h0, by omega, by omega⟩
  · contradiction

end Go.Proofs.YtggkbhafbhhhhacGreat
/-
  The library's contracts at this program, laid: one application each.
-/
namespace Go.Proofs
open Go.Shelf
def Tryz.lays189_ren : Go.Shelf.Ren := ⟨fun | 189 => 45 | 125 => 72 | 257 => 71 | 128 => 102 | 129 => 103 | 294 => 93 | 295 => 94 | 296 => 95 | 297 => 96 | 298 => 97 | 299 => 98 | 216 => 99 | 300 => 100 | 301 => 101 | 328 => 112 | 329 => 113 | 330 => 114 | 331 => 115 | 332 => 116 | 215 => 117 | 343 => 123 | n => n, fun | 28 => 36 | 3 => 3 | 46 => 102 | 0 => 0 | 51 => 125 | 53 => 127 | 4 => 4 | 183 => 118 | 182 => 117 | 131 => 122 | 5 => 5 | 9 => 9 | 218 => 139 | 222 => 143 | 228 => 149 | 229 => 129 | n => n, fun | n => n⟩
theorem Tryz.lays189 : Go.Proofs.Lays.n189 Tryz.prog Tryz.lays189_ren := {
  mixed := by kernel_rfl
  f125 := Tryz.func72.trans (congrArg some (by kernel_rfl))
  f128 := Tryz.func102.trans (congrArg some (by kernel_rfl))
  f129 := Tryz.func103.trans (congrArg some (by kernel_rfl))
  f189 := Tryz.func45.trans (congrArg some (by kernel_rfl))
  f215 := Tryz.func117.trans (congrArg some (by kernel_rfl))
  f216 := Tryz.func99.trans (congrArg some (by kernel_rfl))
  f257 := Tryz.func71.trans (congrArg some (by kernel_rfl))
  f294 := Tryz.func93.trans (congrArg some (by kernel_rfl))
  f295 := Tryz.func94.trans (congrArg some (by kernel_rfl))
  f296 := Tryz.func95.trans (congrArg some (by kernel_rfl))
  f297 := Tryz.func96.trans (congrArg some (by kernel_rfl))
  f298 := Tryz.func97.trans (congrArg some (by kernel_rfl))
  f299 := Tryz.func98.trans (congrArg some (by kernel_rfl))
  f300 := Tryz.func100.trans (congrArg some (by kernel_rfl))
  f301 := Tryz.func101.trans (congrArg some (by kernel_rfl))
  f328 := Tryz.func112.trans (congrArg some (by kernel_rfl))
  f329 := Tryz.func113.trans (congrArg some (by kernel_rfl))
  f330 := Tryz.func114.trans (congrArg some (by kernel_rfl))
  f331 := Tryz.func115.trans (congrArg some (by kernel_rfl))
  f332 := Tryz.func116.trans (congrArg some (by kernel_rfl))
  f343 := Tryz.func123.trans (congrArg some (by kernel_rfl))
  t0 := Tryz.underlying0
  a0 := Tryz.isAgg0
  z0 := Tryz.sizeOf0
  v0 := Tryz.zeroValue0
  t3 := Tryz.underlying3
  a3 := Tryz.isAgg3
  z3 := Tryz.sizeOf3
  v3 := Tryz.zeroValue3
  t4 := Tryz.underlying4
  a4 := Tryz.isAgg4
  z4 := Tryz.sizeOf4
  v4 := Tryz.zeroValue4
  t5 := Tryz.underlying5
  a5 := Tryz.isAgg5
  z5 := Tryz.sizeOf5
  v5 := Tryz.zeroValue5
  t9 := Tryz.underlying9
  a9 := Tryz.isAgg9
  z9 := Tryz.sizeOf9
  v9 := Tryz.zeroValue9
  t28 := Tryz.underlying36
  a28 := Tryz.isAgg36
  z28 := Tryz.sizeOf36
  v28 := Tryz.zeroValue36
  t46 := Tryz.underlying102
  a46 := Tryz.isAgg102
  z46 := Tryz.sizeOf102
  v46 := Tryz.zeroValue102
  t51 := Tryz.underlying125
  a51 := Tryz.isAgg125
  z51 := Tryz.sizeOf125
  v51 := Tryz.zeroValue125
  t53 := Tryz.underlying127
  a53 := Tryz.isAgg127
  z53 := Tryz.sizeOf127
  v53 := Tryz.zeroValue127
  t131 := Tryz.underlying122
  a131 := Tryz.isAgg122
  z131 := Tryz.sizeOf122
  v131 := Tryz.zeroValue122
  t182 := Tryz.underlying117
  a182 := Tryz.isAgg117
  z182 := Tryz.sizeOf117
  v182 := Tryz.zeroValue117
  t183 := Tryz.underlying118
  a183 := Tryz.isAgg118
  z183 := Tryz.sizeOf118
  v183 := Tryz.zeroValue118
  t218 := Tryz.underlying139
  a218 := Tryz.isAgg139
  z218 := Tryz.sizeOf139
  v218 := Tryz.zeroValue139
  t222 := Tryz.underlying143
  a222 := Tryz.isAgg143
  z222 := Tryz.sizeOf143
  v222 := Tryz.zeroValue143
  t228 := Tryz.underlying149
  a228 := Tryz.isAgg149
  z228 := Tryz.sizeOf149
  v228 := Tryz.zeroValue149
  t229 := Tryz.underlying129
  a229 := Tryz.isAgg129
  z229 := Tryz.sizeOf129
  v229 := Tryz.zeroValue129 }
open Go.Sort Go.RowKit in
theorem Tryz.slices_Sort_int (blk off cap : Nat) (zs : List Int) (w : World) (hH : Holds (Value.int .i64) w blk off zs.toArray) (hblk : blk < w.heap.size) (hsz : zs.length < 4611686018427387904) :
    Calls Tryz.prog 45 #[.slice (some ⟨blk, off, none⟩) zs.length cap] w fun e w' =>
      e = .returned (.tuple #[]) ∧ ∃ n os, w' = grow (putRow (Value.int .i64) (Sort.ahead w n) blk off (zs.mergeSort fun x y => decide (x ≤ y)).toArray) os := Any.slices_Sort_int Tryz.lays189 blk off cap zs w hH hblk hsz
def Tryz.laysNm220_ren : Go.Shelf.Ren := ⟨fun | 20 => 46 | n => n, fun | 22 => 36 | 3 => 3 | 4 => 4 | 0 => 0 | n => n, fun | n => n⟩
theorem Tryz.laysNm220 : Go.Proofs.Lays2.n20 Tryz.prog Tryz.laysNm220_ren := {
  mixed := by kernel_rfl
  f20 := Tryz.func46.trans (congrArg some (by kernel_rfl))
  t0 := Tryz.underlying0
  a0 := Tryz.isAgg0
  z0 := Tryz.sizeOf0
  v0 := Tryz.zeroValue0
  t3 := Tryz.underlying3
  a3 := Tryz.isAgg3
  z3 := Tryz.sizeOf3
  v3 := Tryz.zeroValue3
  t4 := Tryz.underlying4
  a4 := Tryz.isAgg4
  z4 := Tryz.sizeOf4
  v4 := Tryz.zeroValue4
  t22 := Tryz.underlying36
  a22 := Tryz.isAgg36
  z22 := Tryz.sizeOf36
  v22 := Tryz.zeroValue36
  i3 := by kernel_rfl }
open Go.RowKit Go.Lib Go.Sort in
theorem Tryz.slices_Compact_int_arr (blk off cap : Nat) (d : Array Int) (w : World) (hH : Holds encI w blk off d) (hsz : d.size ≤ 9223372036854775807) (hcap : d.size ≤ cap) :
    Calls Tryz.prog 46 #[.slice (some ⟨blk, off, none⟩) d.size cap] w fun e w' => e = .returned (.slice (some ⟨blk, off, none⟩) (compactUpTo d d.size).length cap) ∧ ∃ q, w' = putRow encI (Sort.ahead w q) blk off (compactUpTo d d.size ++ List.replicate (d.size - (compactUpTo d d.size).length) 0).toArray := Any.slices_Compact_int_arr Tryz.laysNm220 blk off cap d w hH hsz hcap
open Go.RowKit Go.Lib Go.Sort in
theorem Tryz.slices_Compact_int (blk off cap : Nat) (zs : List Int) (w : World) (hH : Holds (Value.int .i64) w blk off zs.toArray) (hsz : zs.length ≤ 9223372036854775807) (hcap : zs.length ≤ cap) :
    Calls Tryz.prog 46 #[.slice (some ⟨blk, off, none⟩) zs.length cap] w fun e w' => e = .returned (.slice (some ⟨blk, off, none⟩) (Lib.compact zs).length cap) ∧ ∃ q, w' = putRow (Value.int .i64) (Sort.ahead w q) blk off (Lib.compact zs ++ List.replicate (zs.length - (Lib.compact zs).length) 0).toArray := Any.slices_Compact_int Tryz.laysNm220 blk off cap zs w hH hsz hcap
open Go.RowKit Go.Lib Go.Sort in
theorem Tryz.slices_Compact_int_empty (a : Option Addr) (cap : Nat) (w : World) :
    Calls Tryz.prog 46 #[.slice a 0 cap] w fun e w' => e = .returned (.slice a 0 cap) ∧ w' = w := Any.slices_Compact_int_empty Tryz.laysNm220 a cap w
end Go.Proofs
/-
  slices.Sort and slices.Compact on numbers of one's own, in this proof's words.
-/
namespace Go.Proofs.YtggkbhafbhhhhacGreat
open Go.RowKit Go.Sort

theorem put_below (w : World) (n g B : Nat) (d : Array Int) (hB : B ≤ g) : Below B w (putRow (Value.int .i64) (Sort.ahead w n) g 0 d) := by
  refine ⟨rfl, rfl, rfl, by simp [putRow, mapBlock, Sort.ahead], fun k hk => ?_⟩
  show (Array.modify _ _ _)[k]? = _
  rw [Array.getElem?_modify, if_neg (by omega)]; rfl
theorem grow_below (w : World) (os : Array Obj) (B : Nat) (hB : B ≤ w.heap.size) : Below B w (grow w os) :=
  ⟨rfl, rfl, rfl, by simp, fun k hk => heap_grow_old w os (by omega)⟩
/-- A row of numbers that may be written: it lies at a block's head. -/
def IRow (w : World) (g : Nat) (zs : List Int) : Prop := Holds (Value.int .i64) w g 0 zs.toArray ∧ g < w.heap.size
theorem irow_own {w : World} {base g cap : Nat} {zs : List Int} (h : w.ownsRow base 3 1 (.slice (some ⟨g, 0, none⟩) zs.length cap) zs.length (zs.map (Value.int .i64))) : IRow w g zs := by
  refine ⟨fun j hj => ?_, (h.lt g rfl).2⟩
  have hj' : j < zs.length := by simpa using hj
  rw [Nat.zero_add]
  refine ⟨?_, h.frozenAt j⟩
  rw [h.cellAt j (by omega), List.getElem?_map]
  simp [hj']
theorem irow_arg {w : World} {g cap n : Nat} {zs : List Int} (h : IRow w g zs) (hn : n = zs.length) (hc : n ≤ cap) (hm : cap ≤ maxLen) : IArg w (.slice (some ⟨g, 0, none⟩) n cap) zs := by
  subst hn
  refine ⟨_, cap, rfl, ⟨hc, hm⟩, fun i z hz => ⟨g, 0, rfl, h.2, ?_⟩⟩
  have hi : i < zs.length := (List.getElem?_eq_some_iff.1 hz).1
  have hz' : zs[i] = z := by simpa [hi] using hz
  have := (h.1 i (by simpa using hi)).1
  rw [this]
  simp [hi, hz']

def sortI (zs : List Int) : List Int := zs.mergeSort fun x y => decide (x ≤ y)
theorem sortI_len (zs : List Int) : (sortI zs).length = zs.length := by simp [sortI]

theorem sort_any (zs : List Int) (g cap B : Nat) (w : World) (h : IRow w g zs) (hB : B ≤ g) (hn : zs.length ≤ 1000) :
    Calls Tryz.prog 45 #[.slice (some ⟨g, 0, none⟩) zs.length cap] w fun e w' => e = .returned (.tuple #[]) ∧ IRow w' g (sortI zs) ∧ Below B w w' := by
  refine (Tryz.slices_Sort_int g 0 cap zs w h.1 h.2 (by omega)).mono ?_
  rintro e w' ⟨rfl, n, os, rfl⟩
  have hp : Holds (Value.int .i64) (Sort.ahead w n) g 0 zs.toArray := h.1
  have hs : g < (putRow (Value.int .i64) (Sort.ahead w n) g 0 (sortI zs).toArray).heap.size := by
    have : (putRow (Value.int .i64) (Sort.ahead w n) g 0 (sortI zs).toArray).heap.size = w.heap.size := by simp [putRow, mapBlock, Sort.ahead]
    rw [this]; exact h.2
  have h2 := h.2
  refine ⟨rfl, ⟨holds_grow _ _ _ _ _ _ hs (holds_putRow _ _ _ _ _ _ hp (by simp)), by simp; omega⟩, (put_below w n g B _ hB).trans (grow_below _ _ _ (Nat.le_trans hB (Nat.le_of_lt hs)))⟩

def compI (zs : List Int) : List Int := Lib.compact zs
theorem holds_take {w : World} {g : Nat} (a b : List Int) (h : Holds (Value.int .i64) w g 0 (a ++ b).toArray) : Holds (Value.int .i64) w g 0 a.toArray := by
  intro j hj
  have hj' : j < a.length := by simpa using hj
  have := h j (by simp; omega)
  have e1 : (a ++ b).toArray[j]! = a.toArray[j]! := by
    simp [List.getElem?_append_left hj']
  rw [e1] at this
  exact this
theorem compI_len (zs : List Int) : (compI zs).length ≤ zs.length := by
  unfold compI Lib.compact Lib.compactUpTo
  rw [List.length_map]
  exact Nat.le_trans (List.length_filter_le _ _) (by simp)
theorem compact_any (zs : List Int) (g cap B : Nat) (w : World) (h : IRow w g zs) (hB : B ≤ g) (hn : zs.length ≤ 1000) (hc : zs.length ≤ cap) :
    Calls Tryz.prog 46 #[.slice (some ⟨g, 0, none⟩) zs.length cap] w fun e w' => e = .returned (.slice (some ⟨g, 0, none⟩) (compI zs).length cap) ∧ IRow w' g (compI zs) ∧ Below B w w' := by
  refine (Tryz.slices_Compact_int g 0 cap zs w h.1 (by omega) hc).mono ?_
  rintro e w' ⟨rfl, q, rfl⟩
  have hp : Holds (Value.int .i64) (Sort.ahead w q) g 0 zs.toArray := h.1
  refine ⟨rfl, ⟨?_, ?_⟩, put_below w q g B _ hB⟩
  · refine holds_take (compI zs) (List.replicate (zs.length - (compI zs).length) 0) ?_
    have hl := compI_len zs
    exact holds_putRow _ _ _ _ _ _ hp (by simp; unfold compI at *; omega)
  · have : (putRow (Value.int .i64) (Sort.ahead w q) g 0 (Lib.compact zs ++ List.replicate (zs.length - (Lib.compact zs).length) 0).toArray).heap.size = w.heap.size := by simp [putRow, mapBlock, Sort.ahead]
    rw [this]; exact h.2
end Go.Proofs.YtggkbhafbhhhhacGreat
/-
  WALK: package model: Scope.
-/
namespace Go.Proofs.YtggkbhafbhhhhacGreat
open Go.RowKit Go.Sort

def scopeL (c : MCon) : List Int := c.vars ++ c.lits.map (·.var)
def scopeC (c : MCon) : List Int := compI (sortI (scopeL c))
def scopeA (m : Mod) (con : Int) : List Int × Int := if conCheck m con = 0 then (scopeC (m.cons.getD con.toNat noCon), 0) else ([], conCheck m con)

/-- Numbers with room: made. -/
theorem make_room (n : Nat) (hn : n ≤ 1000) (w : World) : ∃ w', Sem.run Tryz.prog (Instr.makeSlice 36 (.int .i64 0) (.int .i64 (n : Int))) w = .ok (.slice (some ⟨w.heap.size, 0, none⟩) 0 n) w' ∧
    w'.ownsRow w.heap.size 3 1 (.slice (some ⟨w.heap.size, 0, none⟩) 0 n) 0 [] ∧ Below w.heap.size w w' := by
  obtain ⟨i0, hi, hz0, hz1, hz2⟩ := info_parts Tryz.infoInt0
  obtain ⟨w', hrun, hown, hg⟩ := run_makeSlice_owned w w.heap.size 36 3 i0 (.int .i64 0) 1 Tryz.underInts0 hi hz0 hz1 .i64 .i64 n (by omega) (by rw [hz2]; omega) (by unfold maxLen; omega) (Nat.le_refl _)
  exact ⟨w', hrun, hown, (Below.refl _ _).grown hg (Nat.le_refl _) (fun k h => by cases h)⟩
/-- Nothing is appended. -/
theorem append_nothing (w : World) (ty : TypeId) (base n c : Nat) (v : Value) (xs : List Value) (hown : w.ownsRow base 3 1 v n xs) :
    (Builtin.append_ #[36, 36] ty #[v, .slice none 0 c]).run Tryz.prog w = .ok v w := by
  obtain ⟨i0, hi, hz0, hz1, hz2⟩ := info_parts Tryz.infoInt0
  rcases hown.2 with ⟨rfl, rfl⟩ | ⟨g, cap, cur, rfl, _, _, hnc, _⟩
  · simp [Builtin.append_, run_underlying Tryz.underInts0, sizeOf, typeInfo, hi, Builtin.lenOf, Builtin.firstCells]
  · simp [Builtin.append_, run_underlying Tryz.underInts0, sizeOf, typeInfo, hi, Builtin.lenOf, Builtin.firstCells, hnc, storeCells]
theorem ints_one (l : List Int) : ∀ u ∈ l.map (Value.int .i64), u.oneCell' = true := by
  intro u hu
  obtain ⟨z, _, rfl⟩ := List.mem_map.1 hu
  rfl
theorem add_at (b off j : Nat) : (⟨b, off, none⟩ : Addr).add j = ⟨b, off + j, none⟩ := by unfold Addr.add; split <;> simp_all

/-- Numbers are appended, whatever list they lie in. -/
theorem wpList_append_ints {w : World} {ops : Array Oper} {rest : List Oper} {o : Oper} {a : Act} {Q : Exit → Act → World → Prop} (hgd : o.guard = none) (s x : Operand)
    (ho : o.op = .call { callee := .builtin .append, args := #[s, x], argTypes := #[36, 36] }) (base : Nat)
    (v : Value) (xs : List Int) (hs : a.eval s = v) (hown : w.ownsRow base 3 1 v xs.length (xs.map (Value.int .i64)))
    (u : Value) (l : List Int) (hx : a.eval x = u) (hl : IArg w u l) (hn : xs.length + l.length ≤ 1000) (hbase : base ≤ w.heap.size)
    (h : ∀ v' w', w'.ownsRow base 3 1 v' (xs ++ l).length ((xs ++ l).map (Value.int .i64)) → w.grownBy w' v.ownBlock → (v ≠ .slice none 0 0 → v' ≠ .slice none 0 0) → wpList Tryz.prog ops Q rest (a.put o.dst v') w') : wpList Tryz.prog ops Q (o :: rest) a w := by
  obtain ⟨i0, hi, hz0, hz1, hz2⟩ := info_parts Tryz.infoInt0
  obtain ⟨q, c, rfl, hm, hc⟩ := hl
  cases q with
  | none =>
    have hl0 : l = [] := by
      cases l with
      | nil => rfl
      | cons z r => obtain ⟨b, off, hq, _⟩ := hc 0 z rfl; cases hq
    subst hl0
    refine wpList_plain hgd fun K hK => ?_
    have hr := append_nothing w o.type base xs.length c v _ hown
    unfold Oper.wp execOp
    simp only [ho, resolve, invoke, builtin, Sem.run_bind, Sem.run_pure, Result.andThen_ok, List.map_toArray, List.map_cons, List.map_nil, hs, hx, List.length_nil, hr]
    exact hK _ _ (h v w (by rw [List.append_nil]; exact hown) ⟨rfl, rfl, rfl, Nat.le_refl _, fun _ _ _ => rfl⟩ (fun h => h))
  | some ad =>
    refine wpList_append_own w hgd s x 36 ho base 3 i0 (.int .i64 0) 1 8 Tryz.underInts0 hi hz0 hz1 hz2 rfl (by decide) v xs.length _ hs hown ad l.length c (l.map (Value.int .i64)) hx (by simp) ?_ (ints_one l) (by unfold maxLen; omega) (by omega) hbase ?_
    · intro j y hy
      rw [List.getElem?_map] at hy
      obtain ⟨z, hz, rfl⟩ := Option.map_eq_some_iff.1 hy
      obtain ⟨b, off, hq, _, hcell⟩ := hc j z hz
      cases hq
      rw [add_at]; exact hcell
    · intro v' w' h1 h2 h3
      refine h v' w' (by rw [List.length_append, List.map_append]; exact h1) h2 (fun hv hv' => hv (h3.1 hv').1)

def accL (c : MCon) (k : Nat) : List Int := c.vars ++ (c.lits.take k).map (·.var)
theorem accL_zero (c : MCon) : accL c 0 = c.vars := by simp [accL]
theorem accL_next (c : MCon) (k : Nat) (t : MLit) (h : c.lits[k]? = some t) : accL c (k + 1) = accL c k ++ [t.var] := by
  unfold accL; rw [List.take_add_one, h]; simp
theorem accL_len (c : MCon) (k : Nat) (h : k ≤ c.lits.length) : (accL c k).length = c.vars.length + k := by
  unfold accL; simp; omega
theorem accL_all (c : MCon) : accL c c.lits.length = scopeL c := by unfold accL scopeL; rw [List.take_length]
theorem own_shape {w : World} {base n : Nat} {v : Value} {xs : List Value} (h : w.ownsRow base 3 1 v n xs) : ∃ a cap, v = .slice a n cap := by
  rcases h.2 with ⟨rfl, rfl⟩ | ⟨g, cap, cur, rfl, _⟩
  · exact ⟨_, _, rfl⟩
  · exact ⟨_, _, rfl⟩
theorem own_there {w : World} {base n : Nat} {v : Value} {xs : List Value} (h : w.ownsRow base 3 1 v n xs) (hv : v ≠ .slice none 0 0) : ∃ g cap, v = .slice (some ⟨g, 0, none⟩) n cap ∧ base ≤ g ∧ n ≤ cap ∧ cap ≤ maxLen := by
  rcases h.2 with ⟨rfl, rfl⟩ | ⟨g, cap, cur, rfl, hg, _, hc, hm, _⟩
  · exact absurd rfl hv
  · exact ⟨g, cap, rfl, hg, hc, hm⟩
theorem one_arg (w : World) (o : Obj) (z : Int) : IArg ((w.alloc o).alloc (.cells #[.int .i64 z] 3)) (.slice (some ⟨w.heap.size + 1, 0, none⟩) 1 1) [z] := by
  refine ⟨_, 1, rfl, ⟨by simp, by unfold maxLen; omega⟩, fun i y hy => ?_⟩
  match i, hy with
  | 0, hy => cases hy; exact ⟨_, 0, rfl, by simp, World.cell?_alloc_at _ _ _ _ (by simp)⟩

set_option maxHeartbeats 1600000 in
set_option maxRecDepth 100000 in
theorem mscope_any (m : Mod) (con : Int) (vs cs : Value) (w : World) (hm : MArg w vs cs m) :
    Calls Tryz.prog 16 #[modV vs cs m, .int .i64 con] w fun e w' => ∃ x, e = .returned (.tuple #[x, .int .i64 (scopeA m con).2]) ∧ IArg w' x (scopeA m con).1 ∧ Below w.heap.size w w' := by
  have HMA : Hid (∀ w' : World, Below w.heap.size w w' → MArg w' vs cs m) := fun w' h => MArg.below h hm
  obtain ⟨⟨a1, c1, rfl, _, _⟩, ⟨a2, c2, rfl, hl2, hr2⟩⟩ := hm
  have HC : Hid (∀ (i : Nat) (t : MCon), m.cons[i]? = some t → ∃ b off vv vc vr vl, a2 = some ⟨b, off, none⟩ ∧ b < w.heap.size ∧
    w.cell? ⟨b, off + i * 6, none⟩ = some (.int .i64 t.kind) ∧ w.cell? ⟨b, off + i * 6 + 1, none⟩ = some vv ∧ w.cell? ⟨b, off + i * 6 + 2, none⟩ = some vc ∧
    w.cell? ⟨b, off + i * 6 + 3, none⟩ = some (.int .i64 t.n) ∧ w.cell? ⟨b, off + i * 6 + 4, none⟩ = some vr ∧ w.cell? ⟨b, off + i * 6 + 5, none⟩ = some vl ∧ KArg w vv vc vr vl t) := hr2
  unfold maxLen at hl2
  obtain ⟨hl21, hl2⟩ := hl2
  obtain ⟨R, hR⟩ : ∃ R, scopeA m con = R := ⟨_, rfl⟩
  rw [hR]
  obtain ⟨er, her⟩ : ∃ er, conCheck m con = er := ⟨_, rfl⟩
  have HER : Hid (conCheck m con = er) := her
  have HE : Hid (R = if er = 0 then (scopeC (m.cons.getD con.toNat noCon), 0) else ([], er)) := by rw [← hR, ← her]; rfl
  clear hR her hr2
  unfold modV
  go_enter Tryz.func16, Tryz.ntmps16
  go_wp2_with fail
  refine (check_con m con (.slice a1 m.vars.length c1) (.slice a2 m.cons.length c2) _ ?_).mono ?_
  · exact HMA.out _ (below_alloc _ _)
  rintro e w1 ⟨rfl, hb1⟩
  rw [HER.out]
  have d1 : w1.cell? ⟨w.heap.size, 1, none⟩ = some (.slice a2 m.cons.length c2) := (hb1.cell (by simp)).trans (by simp)
  have HB1 : Hid (Below w.heap.size w w1) := (below_alloc _ _).trans (hb1.mono (by simp))
  have hs1 : w.heap.size + 1 ≤ w1.heap.size := by simpa using hb1.size
  clear hb1
  by_cases he : er = 0
  · subst he
    obtain ⟨o1, o2, o3⟩ := conCheck_ok m con HER.out
    obtain ⟨j, rfl⟩ : ∃ j : Nat, con = (j : Int) := ⟨con.toNat, by omega⟩
    have hjl : j < m.cons.length := by omega
    obtain ⟨c, hc⟩ : ∃ c, m.cons[j]? = some c := ⟨m.cons[j], by simp [hjl]⟩
    have HN : Hid (R = (scopeC c, 0)) := by
      rw [HE.out, if_pos rfl, Int.toNat_natCast, List.getD_eq_getElem?_getD, hc]; rfl
    obtain ⟨hn4, hl4, _, _⟩ := many_not c (con_facts _ _ (con_ok m o1 j c hc)).2.1
    obtain ⟨b, off, vv, vc, vr, vl, ha, hb, f0, f1, f2, f3, f4, f5, hka⟩ := HC.out j c hc
    subst ha
    have e0 := (HB1.out.cell (p := ⟨b, off + j * 6, none⟩) hb).trans f0
    have e1 := (HB1.out.cell (p := ⟨b, off + j * 6 + 1, none⟩) hb).trans f1
    have e2 := (HB1.out.cell (p := ⟨b, off + j * 6 + 2, none⟩) hb).trans f2
    have e3 := (HB1.out.cell (p := ⟨b, off + j * 6 + 3, none⟩) hb).trans f3
    have e4 := (HB1.out.cell (p := ⟨b, off + j * 6 + 4, none⟩) hb).trans f4
    have e5 := (HB1.out.cell (p := ⟨b, off + j * 6 + 5, none⟩) hb).trans f5
    obtain ⟨⟨q1, r1, rfl, hmv, hq1⟩, ⟨q2, r2, rfl, _, _⟩, ⟨q3, r3, rfl, _, _⟩, ⟨q4, r4, rfl, hm4, hq4⟩⟩ := hka
    have HQ1 : Hid (∀ (i : Nat) (z : Int), c.vars[i]? = some z → ∃ b off, q1 = some ⟨b, off, none⟩ ∧ b < w.heap.size ∧ w.cell? ⟨b, off + i, none⟩ = some (.int .i64 z)) := hq1
    have HQ4 : Hid (∀ (i : Nat) (t : MLit), c.lits[i]? = some t → ∃ b off, q4 = some ⟨b, off, none⟩ ∧ b < w.heap.size ∧
      w.cell? ⟨b, off + i * 3, none⟩ = some (.int .i64 t.var) ∧ w.cell? ⟨b, off + i * 3 + 1, none⟩ = some (.int .i64 t.op) ∧ w.cell? ⟨b, off + i * 3 + 2, none⟩ = some (.int .i64 t.n)) := hq4
    unfold maxLen at hm4
    obtain ⟨hm41, hm4⟩ := hm4
    obtain ⟨i0, hi, hz0, hz1, hz2⟩ := info_parts Tryz.infoInt0
    obtain ⟨wm, hrun, hown, hbm⟩ := make_room (c.vars.length + c.lits.length) (by omega) (w1.alloc (.cells #[.int .i64 c.kind, .slice q1 c.vars.length r1, .slice q2 c.consts.length r2, .int .i64 c.n, .slice q3 c.rows.length r3, .slice q4 c.lits.length r4] 47))
    have hcm1 : wm.cell? ⟨w1.heap.size, 1, none⟩ = some (.slice q1 c.vars.length r1) := (hbm.cell (by simp)).trans (by simp)
    have hcm5 : wm.cell? ⟨w1.heap.size, 5, none⟩ = some (.slice q4 c.lits.length r4) := (hbm.cell (by simp)).trans (by simp)
    have hsm : w1.heap.size + 1 ≤ wm.heap.size := by simpa using hbm.size
    have HBM : Hid (Below w.heap.size w wm) := (HB1.out.alloc HB1.out.size _).trans (hbm.mono (by simp; omega))
    rw [show (w1.alloc (.cells #[.int .i64 c.kind, .slice q1 c.vars.length r1, .slice q2 c.consts.length r2, .int .i64 c.n, .slice q3 c.rows.length r3, .slice q4 c.lits.length r4] 47)).heap.size = w1.heap.size + 1 by simp] at hown hrun
    rw [Int.natCast_add] at hrun
    obtain ⟨B, hBe⟩ : ∃ B, B = w1.heap.size + 1 := ⟨_, rfl⟩
    have HOWN : Hid (wm.ownsRow B 3 1 (.slice (some ⟨B, 0, none⟩) 0 (c.vars.length + c.lits.length)) 0 []) := by rw [hBe]; exact hown
    clear hc f0 f1 f2 f3 f4 f5 hb hq1 hq4 hbm hown o1 o2 o3
    have HIV : Hid (IArg wm (.slice q1 c.vars.length r1) c.vars) := IArg.below HBM.out ⟨q1, r1, rfl, hmv, HQ1.out⟩
    rw [← hBe] at hrun
    have hBw : w.heap.size + 2 ≤ B := by omega
    have hB1 : w1.heap.size < B := by omega
    have hBm : B ≤ wm.heap.size := by omega
    clear hBe
    go_wp2_with (at_builtin; refine wpList_append_ints rfl _ _ rfl B _ [] rfl HOWN.out _ c.vars rfl HIV.out (by simp; omega) hBm ?_)
    intro v3 w3 hown3 hg3 hnn3
    have HB3 : Hid (Below w.heap.size w w3) := HBM.out.grown hg3 HBM.out.size (fun k h => by cases h; exact (by omega : w.heap.size ≤ B))
    have hne : some w1.heap.size ≠ some B := fun h => by have := Option.some.inj h; omega
    have hc5 : w3.cell? ⟨w1.heap.size, 5, none⟩ = some (.slice q4 c.lits.length r4) := hg3.cell hcm5 hne
    clear hne
    have hs3 : B ≤ w3.heap.size := Nat.le_trans hBm hg3.size
    have HOWN3 : Hid (w3.ownsRow B 3 1 v3 (accL c 0).length ((accL c 0).map (Value.int .i64))) := by rw [accL_zero]; exact hown3
    have HNN3 : Hid (v3 ≠ .slice none 0 0) := by first | exact hnn3 | exact hnn3 (by simp)
    clear hown3 hg3 hnn3 hcm1 hcm5 hrun HOWN HIV e0 e1 e2 e3 e4 e5 d1
    go_wp2_with fail
    clear hc5
    go_loopw [8, 37] (fun v i wr => ∃ k : Nat, k ≤ c.lits.length ∧ i = .int .i64 k ∧ wr.ownsRow B 3 1 v (accL c k).length ((accL c k).map (Value.int .i64)) ∧ Hid (v ≠ .slice none 0 0) ∧ Below w.heap.size w wr ∧ B ≤ wr.heap.size) (fun _ i _ => c.lits.length - (intOf i).toNat)
    case atStart => exact ⟨0, by omega, rfl, HOWN3.out, HNN3, HB3.out, hs3⟩
    case round =>
      obtain ⟨k, hk, rfl, hown, hnn, hbw, hsw⟩ := hrel
      by_cases hlt : k < c.lits.length
      · obtain ⟨t, ht⟩ : ∃ t, c.lits[k]? = some t := ⟨c.lits[k], by simp [hlt]⟩
        have HAC : Hid (accL c (k + 1) = accL c k ++ [t.var]) := accL_next c k t ht
        have hal : (accL c k).length ≤ 8 := by rw [accL_len c k hk]; omega
        obtain ⟨b4, off4, rfl, hb4, g0, g1, g2⟩ := HQ4.out k t ht
        have k0 := (hbw.cell (p := ⟨b4, off4 + k * 3, none⟩) hb4).trans g0
        have k1 := (hbw.cell (p := ⟨b4, off4 + k * 3 + 1, none⟩) hb4).trans g1
        have k2 := (hbw.cell (p := ⟨b4, off4 + k * 3 + 2, none⟩) hb4).trans g2
        have HOW : Hid (wr.ownsRow B 3 1 u8 (accL c k).length ((accL c k).map (Value.int .i64))) := hown
        have HBW : Hid (Below w.heap.size w wr) := hbw
        obtain ⟨ax, cx, rfl⟩ := own_shape hown
        obtain ⟨acc, hacc⟩ : ∃ acc, accL c k = acc := ⟨_, rfl⟩
        rw [hacc] at HAC hal HOW hnn ⊢
        clear ht g0 g1 g2 hb4 hown hbw hacc
        go_wp2_with (at_builtin; refine wpList_append_ints rfl _ _ rfl B _ acc rfl ((HOW.out.alloc _).alloc _) _ [t.var] rfl (one_arg _ _ _) (by simp; omega) (by simp; omega) ?_)
        intro v4 w4 hown4 hg4 hnn4
        have HO4 : Hid (w4.ownsRow B 3 1 v4 (acc ++ [t.var]).length ((acc ++ [t.var]).map (Value.int .i64))) := by
          show w4.ownsRow _ _ _ _ _ _
          rw [List.length_append, List.map_append]; first | exact hown4 | simpa using hown4
        have HB4 : Hid (Below w.heap.size w w4) := ((HBW.out.alloc HBW.out.size _).alloc (by have := HBW.out.size; simp; omega) _).grown hg4 (by have := HBW.out.size; simp; omega) (fun g h => by have := (HOW.out.lt g h).1; omega)
        have HN4 : Hid (v4 ≠ .slice none 0 0) := by
          have h := hnn.out
          first | exact hnn4 h | (intro h4; simp_all)
        have hs4 : B ≤ w4.heap.size := by have := hg4.size; simp at this; omega
        clear hown4 hg4 hnn4
        go_wp2
        go_roundw
        case rel => exact ⟨k + 1, by omega, by go_num, by rw [HAC.out]; exact HO4.out, HN4, HB4.out, hs4⟩
        case measure => simp [intOf]; omega
      · have hks : k = c.lits.length := by omega
        have HAC : Hid (accL c k = scopeL c) := by show _ = _; rw [hks]; exact accL_all c
        obtain ⟨g, cap, rfl, hg, hcap, hmx⟩ := own_there hown hnn.out
        have HIR : Hid (IRow wr g (scopeL c)) := by rw [← HAC.out]; exact irow_own hown
        have HBW : Hid (Below w.heap.size w wr) := hbw
        rw [HAC.out] at hcap ⊢
        have hn8 : (scopeL c).length ≤ 8 := by unfold scopeL; simp; omega
        clear hown hnn hbw hks
        go_wp2_with fail
        refine (sort_any (scopeL c) g cap w.heap.size _ HIR.out (by omega) (by omega)).mono ?_
        rintro e w5 ⟨rfl, hr5, hb5⟩
        have HR5 : Hid (IRow w5 g (sortI (scopeL c))) := hr5
        have HB5 : Hid (Below w.heap.size w w5) := HBW.out.trans hb5
        clear hr5 hb5
        go_wp2_with fail
        rw [← sortI_len (scopeL c)]
        refine (compact_any (sortI (scopeL c)) g cap w.heap.size _ HR5.out (by omega) (by rw [sortI_len]; omega) (by rw [sortI_len]; exact hcap)).mono ?_
        rintro e w6 ⟨rfl, hr6, hb6⟩
        have HF : Hid (IArg w6 (.slice (some ⟨g, 0, none⟩) (compI (sortI (scopeL c))).length cap) (scopeC c)) := irow_arg hr6 rfl (by have h1 := compI_len (sortI (scopeL c)); rw [sortI_len] at h1; omega) hmx
        have HB6 : Hid (Below w.heap.size w w6) := HB5.out.trans hb6
        clear hr6 hb6
        go_wp2
        go_ret2
        rw [HN.out]
        exact ⟨_, rfl, HF.out, HB6.out⟩
  · have HN : Hid (R = ([], er)) := by rw [HE.out, if_neg he]; rfl
    have he2 : (er != 0) = true := by simpa using he
    clear he
    go_wp2
    go_ret2
    rw [HN.out]
    exact ⟨_, rfl, ⟨none, 0, rfl, ⟨Nat.le_refl _, Nat.zero_le _⟩, fun i z h => by simp at h⟩, HB1.out⟩
end Go.Proofs.YtggkbhafbhhhhacGreat
/-
  A model that came in, opened.
-/
namespace Go.Proofs.YtggkbhafbhhhhacGreat
open Go.ChangeShapes Go.WideShapes Go.ChangeAt Go.RowKit Go.Deep

section
variable {H : Type} {enc : TypeId × Value → H} {w : World} {base : Nat} {spare : Nat → Bool} {held : Bool}

/-- A slice, opened by what its elements are. -/
theorem open_elems {α : Type} [Inhabited α] {t e : TypeId} {size : Nat} (ht : Tryz.prog.underlying t = some (.slice e)) (hc : Tryz.prog.cellsOf e = size) (hsz : 0 < size) (cellsOf : α → List Value) (good : α → Prop)
    (hel : ∀ (n : Nat) (cs' : List Value) (x' : DataW H × List MemPlace), DataW.trod enc Tryz.prog w base spare held n e cs' = some x' → ∃ a : α, cs' = cellsOf a ∧ good a)
    {fuel : Nat} {cs : List Value} {x : DataW H × List MemPlace} (h : DataW.trod enc Tryz.prog w base spare held fuel t cs = some x) :
    ∃ (l : List α) (a : Option Addr) (c : Nat), cs = [.slice a l.length c] ∧ (l.length ≤ c ∧ c ≤ maxLen) ∧ ∀ (i : Nat) (y : α), l[i]? = some y → good y ∧ ∃ b off, a = some ⟨b, off, none⟩ ∧ b < w.heap.size ∧ ∀ (j : Nat) (u : Value), (cellsOf y)[j]? = some u → w.cell? ⟨b, off + (i * size + j), none⟩ = some u := by
  rcases open_slice ht h with ⟨hcs, _⟩ | ⟨a, len, cap, m, n, D, Pl, hcs, _, hl, hcm, hmm, _, hx⟩
  · exact ⟨[], none, 0, hcs, ⟨Nat.le_refl _, Nat.zero_le _⟩, fun i y h => by simp at h⟩
  · have hlm : len ≤ m := by rw [hmm]; split <;> omega
    have each : ∀ i, i < len → ∃ y : α, good y ∧ (cellsOf y).length = size ∧ ∀ j u, (cellsOf y)[j]? = some u → w.cell? (a.add (i * size + j)) = some u := by
      intro i hi
      obtain ⟨cs', hc', ht'⟩ := hx i (by omega)
      obtain ⟨y, rfl, hg⟩ := hel n cs' _ ht'
      obtain ⟨_, hlen, hcell⟩ := World.cells?_some hc'
      rw [hc] at hlen
      refine ⟨y, hg, hlen, fun j u hj => ?_⟩
      have hj3 : j < (cellsOf y).length := (List.getElem?_eq_some_iff.1 hj).1
      have := hcell j (by rw [hc, ← hlen]; exact hj3)
      rw [hc, add_add] at this
      rw [this]; exact hj
    obtain ⟨f, hf⟩ := choose_lt each
    refine ⟨(List.range len).map f, some a, cap, by simpa using hcs, ⟨by simpa using hl, hcm⟩, fun i y hy => ?_⟩
    have hi : i < len := by have := (List.getElem?_eq_some_iff.1 hy).1; simpa using this
    have hyf : y = f i := by simp [hi] at hy; exact hy.symm
    subst hyf
    obtain ⟨hg, hlen, hcell⟩ := hf i hi
    obtain ⟨_, hlen0, hcell0⟩ := hf 0 (by omega)
    obtain ⟨u0, hu0⟩ : ∃ u0, (cellsOf (f 0))[0]? = some u0 := ⟨(cellsOf (f 0))[0]'(by omega), by simp⟩
    have h00 := hcell0 0 u0 hu0
    have hspot : a.spot = none := by simpa [Addr.add] using World.cell?_spot h00
    have hblk : a.block < w.heap.size := by simpa [Addr.add] using World.block_lt_of_cell? w _ h00
    refine ⟨hg, a.block, a.off, ?_, hblk, fun j u hj => ?_⟩
    · obtain ⟨b, off, spot⟩ := a; simp only at hspot; subst hspot; rfl
    · have := hcell j u hj
      obtain ⟨b, off, spot⟩ := a; simp only at hspot; subst hspot
      rwa [add_plain] at this

theorem Tryz.cInt : Tryz.prog.cellsOf 3 = 1 := by kernel_rfl
theorem Tryz.cStr : Tryz.prog.cellsOf 9 = 1 := by kernel_rfl
theorem Tryz.cInts : Tryz.prog.cellsOf 36 = 1 := by kernel_rfl
theorem Tryz.cRows : Tryz.prog.cellsOf 26 = 1 := by kernel_rfl
theorem Tryz.cLits : Tryz.prog.cellsOf 45 = 1 := by kernel_rfl
theorem Tryz.cLit : Tryz.prog.cellsOf 65 = 3 := by kernel_rfl
theorem Tryz.cVar : Tryz.prog.cellsOf 90 = 3 := by kernel_rfl
theorem Tryz.cCon : Tryz.prog.cellsOf 47 = 6 := by kernel_rfl

theorem open_ilist {fuel : Nat} {cs : List Value} {x : DataW H × List MemPlace} (h : DataW.trod enc Tryz.prog w base spare held fuel 36 cs = some x) :
    ∃ v l, cs = [v] ∧ IArg w v l := by
  obtain ⟨l, a, c, hcs, hm, hr⟩ := open_elems (α := Int) Tryz.underlying36 Tryz.cInt (by decide) (fun z => [.int .i64 z]) (fun _ => True)
    (fun n cs' x' h' => by obtain ⟨z, hz, _, _⟩ := DataW.trod_int Tryz.underlying3 h'; exact ⟨z, hz, trivial⟩) h
  refine ⟨_, l, hcs, a, c, rfl, hm, fun i z hz => ?_⟩
  obtain ⟨_, b, off, ha, hb, hc⟩ := hr i z hz
  have := hc 0 _ rfl
  exact ⟨b, off, ha, hb, by simpa using this⟩

theorem open_rlist {fuel : Nat} {cs : List Value} {x : DataW H × List MemPlace} (h : DataW.trod enc Tryz.prog w base spare held fuel 26 cs = some x) :
    ∃ v l, cs = [v] ∧ RArg w v l := by
  obtain ⟨l, a, c, hcs, hm, hr⟩ := open_elems (α := Value × List Int) Tryz.underlying26 Tryz.cInts (by decide) (fun z => [z.1]) (fun z => IArg w z.1 z.2)
    (fun n cs' x' h' => by obtain ⟨v, r, hz, hi⟩ := open_ilist h'; exact ⟨(v, r), hz, hi⟩) h
  refine ⟨_, l.map (·.2), hcs, a, c, by simp, by simpa using hm, fun i r hr' => ?_⟩
  rw [List.getElem?_map] at hr'
  obtain ⟨⟨v, r2⟩, hz, rfl⟩ := Option.map_eq_some_iff.1 hr'
  obtain ⟨hg, b, off, ha, hb, hc⟩ := hr i _ hz
  have := hc 0 _ rfl
  exact ⟨b, off, v, ha, hb, by simpa using this, hg⟩

set_option maxRecDepth 100000 in
theorem one_lit {n : Nat} {cs : List Value} {x : DataW H × List MemPlace} (h : DataW.trod enc Tryz.prog w base spare held n 65 cs = some x) :
    ∃ t : MLit, cs = [.int .i64 t.var, .int .i64 t.op, .int .i64 t.n] := by
  obtain ⟨y0, y1, y2, m, _, hl, h0, h1, h2⟩ := trod_struct3 Tryz.underlying65 h
  rw [Tryz.cLit] at hl
  obtain ⟨k, hk, _, _⟩ := DataW.trod_int Tryz.underlying3 h0
  obtain ⟨p, hp, _, _⟩ := DataW.trod_int Tryz.underlying3 h1
  obtain ⟨s, hs, _, _⟩ := DataW.trod_int Tryz.underlying3 h2
  match cs, hl with
  | [c0, c1, c2], _ =>
    change List.take (Tryz.prog.cellsOf 3) [c0, c1, c2] = _ at hk
    change List.take (Tryz.prog.cellsOf 3) [c1, c2] = _ at hp
    change List.take (Tryz.prog.cellsOf 3) [c2] = _ at hs
    rw [Tryz.cInt] at hk hp hs
    simp at hk hp hs
    exact ⟨⟨k, p, s⟩, by rw [hk, hp, hs]⟩

theorem open_llist {fuel : Nat} {cs : List Value} {x : DataW H × List MemPlace} (h : DataW.trod enc Tryz.prog w base spare held fuel 45 cs = some x) :
    ∃ v l, cs = [v] ∧ LArg w v l := by
  have hinh : Inhabited MLit := ⟨⟨0, 0, 0⟩⟩
  obtain ⟨l, a, c, hcs, hm, hr⟩ := open_elems (α := MLit) Tryz.underlying45 Tryz.cLit (by decide) (fun t => [.int .i64 t.var, .int .i64 t.op, .int .i64 t.n]) (fun _ => True)
    (fun n cs' x' h' => by obtain ⟨t, ht⟩ := one_lit h'; exact ⟨t, ht, trivial⟩) h
  refine ⟨_, l, hcs, a, c, rfl, hm, fun i z hz => ?_⟩
  obtain ⟨_, b, off, ha, hb, hc⟩ := hr i z hz
  have e0 := hc 0 _ rfl
  have e1 := hc 1 _ rfl
  have e2 := hc 2 _ rfl
  rw [← Nat.add_assoc] at e0 e1 e2
  exact ⟨b, off, ha, hb, e0, e1, e2⟩

set_option maxRecDepth 100000 in
theorem one_var {n : Nat} {cs : List Value} {x : DataW H × List MemPlace} (h : DataW.trod enc Tryz.prog w base spare held n 90 cs = some x) :
    ∃ t : MVar, cs = [.string t.name, .int .i64 t.lo, .int .i64 t.hi] ∧ t.name.size ≤ maxLen := by
  obtain ⟨y0, y1, y2, m, _, hl, h0, h1, h2⟩ := trod_struct3 Tryz.underlying90 h
  rw [Tryz.cVar] at hl
  obtain ⟨k, hk, _, hsz⟩ := DataW.trod_string Tryz.underlying9 h0
  obtain ⟨p, hp, _, _⟩ := DataW.trod_int Tryz.underlying3 h1
  obtain ⟨s, hs, _, _⟩ := DataW.trod_int Tryz.underlying3 h2
  match cs, hl with
  | [c0, c1, c2], _ =>
    change List.take (Tryz.prog.cellsOf 9) [c0, c1, c2] = _ at hk
    change List.take (Tryz.prog.cellsOf 3) [c1, c2] = _ at hp
    change List.take (Tryz.prog.cellsOf 3) [c2] = _ at hs
    rw [Tryz.cStr] at hk
    rw [Tryz.cInt] at hp hs
    simp at hk hp hs
    exact ⟨⟨k, p, s⟩, by rw [hk, hp, hs], hsz⟩

theorem open_vlist {fuel : Nat} {cs : List Value} {x : DataW H × List MemPlace} (h : DataW.trod enc Tryz.prog w base spare held fuel 22 cs = some x) :
    ∃ v l, cs = [v] ∧ VArg w v l := by
  have hinh : Inhabited MVar := ⟨⟨ByteArray.empty, 0, 0⟩⟩
  obtain ⟨l, a, c, hcs, hm, hr⟩ := open_elems (α := MVar) Tryz.underlying22 Tryz.cVar (by decide) (fun t => [.string t.name, .int .i64 t.lo, .int .i64 t.hi]) (fun t => t.name.size ≤ maxLen)
    (fun n cs' x' h' => by obtain ⟨t, ht, hs⟩ := one_var h'; exact ⟨t, ht, hs⟩) h
  refine ⟨_, l, hcs, a, c, rfl, hm, fun i z hz => ?_⟩
  obtain ⟨hg, b, off, ha, hb, hc⟩ := hr i z hz
  have e0 := hc 0 _ rfl
  have e1 := hc 1 _ rfl
  have e2 := hc 2 _ rfl
  rw [← Nat.add_assoc] at e0 e1 e2
  exact ⟨hg, b, off, ha, hb, e0, e1, e2⟩

set_option maxRecDepth 100000 in
theorem one_con {n : Nat} {cs : List Value} {x : DataW H × List MemPlace} (h : DataW.trod enc Tryz.prog w base spare held n 47 cs = some x) :
    ∃ (t : MCon) (vv vc vr vl : Value), cs = [.int .i64 t.kind, vv, vc, .int .i64 t.n, vr, vl] ∧ KArg w vv vc vr vl t := by
  obtain ⟨xs, k, _, _, hl, hxl, hf⟩ := DataW.trod_struct Tryz.underlying47 h
  rw [Tryz.cCon] at hl
  match cs, hl, xs, hxl with
  | [c0, c1, c2, c3, c4, c5], _, [y0, y1, y2, y3, y4, y5], _ =>
    have g0 := hf 0 _ rfl
    have g1 := hf 1 _ rfl
    have g2 := hf 2 _ rfl
    have g3 := hf 3 _ rfl
    have g4 := hf 4 _ rfl
    have g5 := hf 5 _ rfl
    obtain ⟨kd, hk, _, _⟩ := DataW.trod_int Tryz.underlying3 g0
    obtain ⟨v1, l1, hv1, i1⟩ := open_ilist g1
    obtain ⟨v2, l2, hv2, i2⟩ := open_ilist g2
    obtain ⟨nn, hn, _, _⟩ := DataW.trod_int Tryz.underlying3 g3
    obtain ⟨v4, l4, hv4, i4⟩ := open_rlist g4
    obtain ⟨v5, l5, hv5, i5⟩ := open_llist g5
    change List.take (Tryz.prog.cellsOf 3) [c0, c1, c2, c3, c4, c5] = _ at hk
    change List.take (Tryz.prog.cellsOf 36) [c1, c2, c3, c4, c5] = _ at hv1
    change List.take (Tryz.prog.cellsOf 36) [c2, c3, c4, c5] = _ at hv2
    change List.take (Tryz.prog.cellsOf 3) [c3, c4, c5] = _ at hn
    change List.take (Tryz.prog.cellsOf 26) [c4, c5] = _ at hv4
    change List.take (Tryz.prog.cellsOf 45) [c5] = _ at hv5
    rw [Tryz.cInt] at hk hn
    rw [Tryz.cInts] at hv1 hv2
    rw [Tryz.cRows] at hv4
    rw [Tryz.cLits] at hv5
    simp at hk hv1 hv2 hn hv4 hv5
    exact ⟨⟨kd, l1, l2, nn, l4, l5⟩, v1, v2, v4, v5, by rw [hk, hv1, hv2, hn, hv4, hv5], i1, i2, i4, i5⟩

theorem open_clist {fuel : Nat} {cs : List Value} {x : DataW H × List MemPlace} (h : DataW.trod enc Tryz.prog w base spare held fuel 23 cs = some x) :
    ∃ v l, cs = [v] ∧ CArg w v l := by
  have hinh : Inhabited (MCon × Value × Value × Value × Value) := ⟨⟨0, [], [], 0, [], []⟩, .bool false, .bool false, .bool false, .bool false⟩
  obtain ⟨l, a, c, hcs, hm, hr⟩ := open_elems (α := MCon × Value × Value × Value × Value) Tryz.underlying23 Tryz.cCon (by decide)
    (fun t => [.int .i64 t.1.kind, t.2.1, t.2.2.1, .int .i64 t.1.n, t.2.2.2.1, t.2.2.2.2]) (fun t => KArg w t.2.1 t.2.2.1 t.2.2.2.1 t.2.2.2.2 t.1)
    (fun n cs' x' h' => by obtain ⟨t, vv, vc, vr, vl, ht, hk⟩ := one_con h'; exact ⟨(t, vv, vc, vr, vl), ht, hk⟩) h
  refine ⟨_, l.map (·.1), hcs, a, c, by simp, by simpa using hm, fun i r hr' => ?_⟩
  rw [List.getElem?_map] at hr'
  obtain ⟨⟨t, vv, vc, vr, vl⟩, hz, rfl⟩ := Option.map_eq_some_iff.1 hr'
  obtain ⟨hg, b, off, ha, hb, hc⟩ := hr i _ hz
  have e0 := hc 0 _ rfl
  have e1 := hc 1 _ rfl
  have e2 := hc 2 _ rfl
  have e3 := hc 3 _ rfl
  have e4 := hc 4 _ rfl
  have e5 := hc 5 _ rfl
  rw [← Nat.add_assoc] at e0 e1 e2 e3 e4 e5
  exact ⟨b, off, vv, vc, vr, vl, ha, hb, e0, e1, e2, e3, e4, e5, hg⟩

theorem Tryz.cModel : Tryz.prog.cellsOf 25 = 4 := by kernel_rfl
set_option maxRecDepth 100000 in
/-- A model by value. -/
theorem open_model {r : Reach} {b0 : Nat} {v : Value} {d : DataW H} {p : List MemPlace} (hv : Value.okWide Tryz.prog w r b0 25 v) (h : DataW.Trod enc Tryz.prog w base spare held 25 v d p) :
    ∃ vs cs m, v = modV vs cs m ∧ MArg w vs cs m := by
  obtain ⟨v0, v1, v2, v3, y0, y1, y2, y3, n, rfl, _, _, h0, h1, h2, h3⟩ := Go.Joins.open_agg4 Tryz.underlying25 (by kernel_rfl) Tryz.cModel hv h
  obtain ⟨a0, l0, e0, i0⟩ := open_vlist h0
  obtain ⟨a1, l1, e1, i1⟩ := open_clist h1
  obtain ⟨g, hg, _, _⟩ := DataW.trod_int Tryz.underlying3 h2
  obtain ⟨q, hq, _, _⟩ := DataW.trod_int Tryz.underlying3 h3
  cases e0; cases e1; cases hg; cases hq
  exact ⟨v0, v1, ⟨l0, l1, g, q⟩, rfl, i0, i1⟩
end
end Go.Proofs.YtggkbhafbhhhhacGreat
/-
  WALK: two(): the small model that all statements begin with.
-/
namespace Go.Proofs.YtggkbhafbhhhhacGreat
open Go.RowKit

def twoM : Mod := ⟨[⟨⟨#[120]⟩, 0, 2⟩, ⟨⟨#[121]⟩, 0, 2⟩], [⟨1, [0, 1], [1, -1], -1, [], []⟩], 1, 1⟩
theorem two_checks : checkM twoM = 0 := by kernel_rfl

theorem five_blocks (w : World) (o1 o2 o3 o4 o5 : Obj) :
    (((((w.alloc o1).alloc o2).alloc o3).alloc o4).alloc o5).heap[w.heap.size + 1]? = some o2 ∧ (((((w.alloc o1).alloc o2).alloc o3).alloc o4).alloc o5).heap[w.heap.size + 1 + 1]? = some o3 ∧
    (((((w.alloc o1).alloc o2).alloc o3).alloc o4).alloc o5).heap[w.heap.size + 1 + 1 + 1]? = some o4 ∧ (((((w.alloc o1).alloc o2).alloc o3).alloc o4).alloc o5).heap[w.heap.size + 1 + 1 + 1 + 1]? = some o5 := by
  refine ⟨?_, ?_, ?_, ?_⟩
  all_goals
    show (((((w.heap.push _).push _).push _).push _).push _)[_]? = _
    simp only [Array.getElem?_push, Array.size_push]
    repeat first | rw [if_pos (by omega)] | rw [if_neg (by omega)]
  all_goals rfl

set_option maxHeartbeats 400000 in
set_option maxRecDepth 100000 in
theorem two_any (w : World) :
    Calls Tryz.prog 31 #[] w fun e w' => ∃ vs cs, e = .returned (modV vs cs twoM) ∧ MArg w' vs cs twoM ∧ Below w.heap.size w w' := by
  go_enter Tryz.func31, Tryz.ntmps31
  go_wp2
  refine bodyPost_ret (v := modV (.slice (some ⟨w.heap.size + 1, 0, none⟩) 2 2) (.slice (some ⟨w.heap.size + 1 + 1 + 1 + 1, 0, none⟩) 1 1) twoM) (by simp [results, Tryz.results31, go_sem, modV, twoM]) rfl ⟨_, _, rfl, ⟨?_, ?_⟩, ?_⟩
  · refine ⟨_, _, rfl, ⟨by decide, by unfold maxLen; decide⟩, fun i t ht => ?_⟩
    have hb := (five_blocks w (.cells #[.slice (some ⟨w.heap.size + 1, 0, none⟩) 2 2, .slice (some ⟨w.heap.size + 1 + 1 + 1 + 1, 0, none⟩) 1 1, .int .i64 1, .int .i64 1] 25) (.cells #[.string ⟨#[120]⟩, .int .i64 0, .int .i64 2, .string ⟨#[121]⟩, .int .i64 0, .int .i64 2] 90) (.cells #[.int .i64 0, .int .i64 1] 3) (.cells #[.int .i64 1, .int .i64 (-1)] 3) (.cells #[.int .i64 1, .slice (some ⟨w.heap.size + 1 + 1, 0, none⟩) 2 2, .slice (some ⟨w.heap.size + 1 + 1 + 1, 0, none⟩) 2 2, .int .i64 (-1), .slice none 0 0, .slice none 0 0] 47)).1
    match i, ht with
    | 0, ht => cases ht; exact ⟨by unfold maxLen; decide, _, _, rfl, by simp, by rw [Lib.cell_of_heap hb]; rfl, by rw [Lib.cell_of_heap hb]; rfl, by rw [Lib.cell_of_heap hb]; rfl⟩
    | 1, ht => cases ht; exact ⟨by unfold maxLen; decide, _, _, rfl, by simp, by rw [Lib.cell_of_heap hb]; rfl, by rw [Lib.cell_of_heap hb]; rfl, by rw [Lib.cell_of_heap hb]; rfl⟩
  · refine ⟨_, _, rfl, ⟨by decide, by unfold maxLen; decide⟩, fun i t ht => ?_⟩
    obtain ⟨_, hb2, hb3, hb4⟩ := five_blocks w (.cells #[.slice (some ⟨w.heap.size + 1, 0, none⟩) 2 2, .slice (some ⟨w.heap.size + 1 + 1 + 1 + 1, 0, none⟩) 1 1, .int .i64 1, .int .i64 1] 25) (.cells #[.string ⟨#[120]⟩, .int .i64 0, .int .i64 2, .string ⟨#[121]⟩, .int .i64 0, .int .i64 2] 90) (.cells #[.int .i64 0, .int .i64 1] 3) (.cells #[.int .i64 1, .int .i64 (-1)] 3) (.cells #[.int .i64 1, .slice (some ⟨w.heap.size + 1 + 1, 0, none⟩) 2 2, .slice (some ⟨w.heap.size + 1 + 1 + 1, 0, none⟩) 2 2, .int .i64 (-1), .slice none 0 0, .slice none 0 0] 47)
    match i, ht with
    | 0, ht =>
      cases ht
      refine ⟨_, _, .slice (some ⟨w.heap.size + 1 + 1, 0, none⟩) 2 2, .slice (some ⟨w.heap.size + 1 + 1 + 1, 0, none⟩) 2 2, .slice none 0 0, .slice none 0 0, rfl, by simp, by rw [Lib.cell_of_heap hb4]; rfl, by rw [Lib.cell_of_heap hb4]; rfl, by rw [Lib.cell_of_heap hb4]; rfl, by rw [Lib.cell_of_heap hb4]; rfl, by rw [Lib.cell_of_heap hb4]; rfl, by rw [Lib.cell_of_heap hb4]; rfl, ?_⟩
      refine ⟨⟨_, _, rfl, ⟨by decide, by unfold maxLen; decide⟩, fun i z hz => ?_⟩, ⟨_, _, rfl, ⟨by decide, by unfold maxLen; decide⟩, fun i z hz => ?_⟩, ⟨_, _, rfl, ⟨by decide, by unfold maxLen; decide⟩, fun i z hz => by simp at hz⟩, ⟨_, _, rfl, ⟨by decide, by unfold maxLen; decide⟩, fun i z hz => by simp at hz⟩⟩
      · match i, hz with
        | 0, hz => cases hz; exact ⟨_, _, rfl, by simp, by rw [Lib.cell_of_heap hb2]; rfl⟩
        | 1, hz => cases hz; exact ⟨_, _, rfl, by simp, by rw [Lib.cell_of_heap hb2]; rfl⟩
      · match i, hz with
        | 0, hz => cases hz; exact ⟨_, _, rfl, by simp, by rw [Lib.cell_of_heap hb3]; rfl⟩
        | 1, hz => cases hz; exact ⟨_, _, rfl, by simp, by rw [Lib.cell_of_heap hb3]; rfl⟩
  · exact (((((Below.refl _ _).alloc (Nat.le_refl _) _).alloc (by simp) _).alloc (by simp; omega) _).alloc (by simp; omega) _).alloc (by simp; omega) _
end Go.Proofs.YtggkbhafbhhhhacGreat
/-
  PLAIN: stores, and what the program's calls say of them, as functions on data; no program in it.
-/
namespace Go.Proofs.YtggkbhafbhhhhacGreat

abbrev Sto := List (List Int)
def insideB (v : MVar) (n : Int) : Bool := decide (v.lo ≤ n) && decide (n ≤ v.hi)
def risesB : List Int → Bool
  | a :: b :: r => decide (a < b) && risesB (b :: r)
  | _ => true
def rangeS (vs : List MVar) (s : Sto) : Bool := (vs.zip s).all fun p => p.2.all (insideB p.1)
def checkV (vs : List MVar) (s : Sto) : Int :=
  if s.length = vs.length then (if rangeS vs s then (if s.all risesB then 0 else 4) else 3) else 1
/-- What is wrong with a model, then with the stores, one after the other. -/
def checkL (m : Mod) (l : List Sto) : Int := if checkM m = 0 then firstE (l.map (checkV m.vars)) else checkM m
def hasB (l : List Int) (n : Int) : Bool := l.any (fun k => n == k)
def meetR (a b : List Int) : List Int := a.filter (hasB b)
def meetS (s t : Sto) : Sto := List.zipWith meetR s t
def withinR (a b : List Int) : Bool := a.all (hasB b)
def withinS (s t : Sto) : Bool := (s.zip t).all fun p => withinR p.1 p.2
def failedS (s : Sto) : Bool := s.any fun r => decide (r.length = 0)
def spanR (lo hi : Int) : List Int := (List.range (hi + 1 - lo).toNat).map fun (k : Nat) => lo + (k : Int)
def beginS (vs : List MVar) : Sto := vs.map fun v => spanR v.lo v.hi

theorem hasB_iff (l : List Int) (n : Int) : hasB l n = true ↔ n ∈ l := by
  unfold hasB; rw [List.any_eq_true]
  constructor
  · rintro ⟨k, hk, he⟩; rwa [beq_iff_eq.1 he]
  · intro h; exact ⟨n, h, by simp⟩
theorem withinR_iff (a b : List Int) : withinR a b = true ↔ ∀ n ∈ a, n ∈ b := by
  unfold withinR; rw [List.all_eq_true]
  exact ⟨fun h n hn => (hasB_iff b n).1 (h n hn), fun h n hn => (hasB_iff b n).2 (h n hn)⟩
theorem mem_meetR (a b : List Int) (n : Int) : n ∈ meetR a b ↔ n ∈ a ∧ n ∈ b := by
  unfold meetR; rw [List.mem_filter, hasB_iff]
theorem rises_pair (l : List Int) : risesB l = true ↔ l.Pairwise (· < ·) := by
  induction l with
  | nil => simp [risesB]
  | cons a r ih =>
    cases r with
    | nil => simp [risesB]
    | cons b r =>
      simp only [risesB, Bool.and_eq_true, decide_eq_true_eq]
      rw [ih]
      constructor
      · rintro ⟨hab, hp⟩
        refine List.pairwise_cons.2 ⟨fun c hc => ?_, hp⟩
        rcases List.mem_cons.1 hc with rfl | hc
        · exact hab
        · have := (List.pairwise_cons.1 hp).1 c hc; omega
      · intro hp
        exact ⟨(List.pairwise_cons.1 hp).1 b (List.mem_cons_self ..), (List.pairwise_cons.1 hp).2⟩
theorem meetS_len (s t : Sto) (h : t.length = s.length) : (meetS s t).length = s.length := by simp [meetS, h]
theorem meetS_get (s t : Sto) (i : Nat) (a b : List Int) (ha : s[i]? = some a) (hb : t[i]? = some b) : (meetS s t)[i]? = some (meetR a b) := by
  simp [meetS, List.getElem?_zipWith, ha, hb]

theorem all_zip {α β : Type} (p : α × β → Bool) : ∀ (a : List α) (b : List β), (a.zip b).all p = true ↔ ∀ (i : Nat) x y, a[i]? = some x → b[i]? = some y → p (x, y) = true
  | [], b => by simp
  | x :: a, [] => by simp
  | x :: a, y :: b => by
    rw [List.zip_cons_cons, List.all_cons, Bool.and_eq_true, all_zip p a b]
    constructor
    · rintro ⟨h0, h1⟩ i u v hu hv
      cases i with
      | zero => simp at hu hv; subst hu; subst hv; exact h0
      | succ i => exact h1 i u v (by simpa using hu) (by simpa using hv)
    · intro h
      exact ⟨h 0 x y rfl rfl, fun i u v hu hv => h (i + 1) u v (by simpa using hu) (by simpa using hv)⟩

theorem checkV_ok (vs : List MVar) (s : Sto) : checkV vs s = 0 ↔ s.length = vs.length ∧ rangeS vs s = true ∧ s.all risesB = true := by
  unfold checkV
  by_cases h1 : s.length = vs.length
  · cases h2 : rangeS vs s <;> cases h3 : s.all risesB <;> simp [h1]
  · simp [h1]
theorem checkV_meet (vs : List MVar) (s t : Sto) (hs : checkV vs s = 0) (ht : checkV vs t = 0) : checkV vs (meetS s t) = 0 := by
  rw [checkV_ok] at *
  obtain ⟨s1, s2, s3⟩ := hs
  obtain ⟨t1, t2, t3⟩ := ht
  have hl : t.length = s.length := by omega
  refine ⟨by rw [meetS_len s t hl, s1], ?_, ?_⟩
  · unfold rangeS at *
    rw [all_zip] at *
    intro i v r hv hr
    have hi : i < s.length := by rw [← meetS_len s t hl]; exact (List.getElem?_eq_some_iff.1 hr).1
    have ha : s[i]? = some s[i] := by simp [hi]
    have hb : t[i]? = some (t[i]'(by omega)) := by simp [show i < t.length by omega]
    rw [meetS_get s t i _ _ ha hb] at hr
    cases hr
    have h0 := s2 i v _ hv ha
    rw [List.all_eq_true] at h0 ⊢
    intro n hn
    exact h0 n ((mem_meetR _ _ _).1 hn).1
  · rw [List.all_eq_true] at *
    intro r hr
    obtain ⟨i, hi⟩ := List.mem_iff_getElem?.1 hr
    have hi' : i < s.length := by rw [← meetS_len s t hl]; exact (List.getElem?_eq_some_iff.1 hi).1
    have ha : s[i]? = some s[i] := by simp [hi']
    have hb : t[i]? = some (t[i]'(by omega)) := by simp [show i < t.length by omega]
    rw [meetS_get s t i _ _ ha hb] at hi
    cases hi
    rw [rises_pair]
    exact ((rises_pair _).1 (s3 _ (List.mem_of_getElem? ha))).sublist (List.filter_sublist)
theorem within_meet_l (s t : Sto) (hl : t.length = s.length) : withinS (meetS s t) s = true := by
  unfold withinS
  rw [all_zip]
  intro i r a hr ha
  have hi : i < s.length := (List.getElem?_eq_some_iff.1 ha).1
  have hb : t[i]? = some (t[i]'(by omega)) := by simp [show i < t.length by omega]
  rw [meetS_get s t i _ _ ha hb] at hr
  cases hr
  exact (withinR_iff _ _).2 fun n hn => ((mem_meetR _ _ _).1 hn).1
theorem within_meet_r (s t : Sto) (hl : t.length = s.length) : withinS (meetS s t) t = true := by
  unfold withinS
  rw [all_zip]
  intro i r b hr hb
  have hi : i < t.length := (List.getElem?_eq_some_iff.1 hb).1
  have ha : s[i]? = some (s[i]'(by omega)) := by simp [show i < s.length by omega]
  rw [meetS_get s t i _ _ ha hb] at hr
  cases hr
  exact (withinR_iff _ _).2 fun n hn => ((mem_meetR _ _ _).1 hn).2
theorem within_meet (s t u : Sto) (hl : t.length = s.length) (hu : u.length = s.length) : withinS u (meetS s t) = (withinS u s && withinS u t) := by
  rw [Bool.eq_iff_iff, Bool.and_eq_true]
  unfold withinS
  rw [all_zip, all_zip, all_zip]
  constructor
  · intro h
    refine ⟨fun i r a hr ha => ?_, fun i r b hr hb => ?_⟩
    · have hi : i < s.length := (List.getElem?_eq_some_iff.1 ha).1
      have hb : t[i]? = some (t[i]'(by omega)) := by simp [show i < t.length by omega]
      have := h i r _ hr (meetS_get s t i _ _ ha hb)
      exact (withinR_iff _ _).2 fun n hn => ((mem_meetR _ _ _).1 ((withinR_iff _ _).1 this n hn)).1
    · have hi : i < t.length := (List.getElem?_eq_some_iff.1 hb).1
      have ha : s[i]? = some (s[i]'(by omega)) := by simp [show i < s.length by omega]
      have := h i r _ hr (meetS_get s t i _ _ ha hb)
      exact (withinR_iff _ _).2 fun n hn => ((mem_meetR _ _ _).1 ((withinR_iff _ _).1 this n hn)).2
  · rintro ⟨h1, h2⟩ i r x hr hx
    have hi : i < s.length := by rw [← meetS_len s t hl]; exact (List.getElem?_eq_some_iff.1 hx).1
    have ha : s[i]? = some (s[i]'(by omega)) := by simp [hi]
    have hb : t[i]? = some (t[i]'(by omega)) := by simp [show i < t.length by omega]
    rw [meetS_get s t i _ _ ha hb] at hx
    cases hx
    refine (withinR_iff _ _).2 fun n hn => (mem_meetR _ _ _).2 ⟨?_, ?_⟩
    · exact (withinR_iff _ _).1 (h1 i r _ hr ha) n hn
    · exact (withinR_iff _ _).1 (h2 i r _ hr hb) n hn
end Go.Proofs.YtggkbhafbhhhhacGreat
/-
  PLAIN: the store of those values that stay.
-/
namespace Go.Proofs.YtggkbhafbhhhhacGreat

def siftS (s : Sto) (p : Nat → Int → Bool) : Sto := s.mapIdx fun k r => r.filter (p k)
theorem siftS_len (s : Sto) (p : Nat → Int → Bool) : (siftS s p).length = s.length := by simp [siftS]
theorem siftS_get (s : Sto) (p : Nat → Int → Bool) (k : Nat) (r : List Int) (h : s[k]? = some r) : (siftS s p)[k]? = some (r.filter (p k)) := by
  simp [siftS, h]
theorem siftS_back (s : Sto) (p : Nat → Int → Bool) (k : Nat) (q : List Int) (h : (siftS s p)[k]? = some q) : ∃ r, s[k]? = some r ∧ q = r.filter (p k) := by
  have hk : k < s.length := by rw [← siftS_len s p]; exact (List.getElem?_eq_some_iff.1 h).1
  refine ⟨s[k], by simp [hk], ?_⟩
  rw [siftS_get s p k s[k] (by simp [hk])] at h
  exact (Option.some.inj h).symm
theorem sto_ext (s t : Sto) (hl : s.length = t.length) (h : ∀ (k : Nat) r q, s[k]? = some r → t[k]? = some q → r = q) : s = t := by
  apply List.ext_getElem? 
  intro k
  by_cases hk : k < s.length
  · have h1 : s[k]? = some s[k] := by simp [hk]
    have h2 : t[k]? = some (t[k]'(by omega)) := by simp [show k < t.length by omega]
    rw [h1, h2, h k _ _ h1 h2]
  · rw [List.getElem?_eq_none (by omega), List.getElem?_eq_none (by omega)]
theorem checkV_sift (vs : List MVar) (s : Sto) (p : Nat → Int → Bool) (hs : checkV vs s = 0) : checkV vs (siftS s p) = 0 := by
  rw [checkV_ok] at *
  obtain ⟨s1, s2, s3⟩ := hs
  refine ⟨by rw [siftS_len, s1], ?_, ?_⟩
  · unfold rangeS at *
    rw [all_zip] at *
    intro i v r hv hr
    obtain ⟨q, hq, rfl⟩ := siftS_back s p i r hr
    have h0 := s2 i v q hv hq
    rw [List.all_eq_true] at h0 ⊢
    intro n hn
    exact h0 n (List.mem_filter.1 hn).1
  · rw [List.all_eq_true] at *
    intro r hr
    obtain ⟨i, hi⟩ := List.mem_iff_getElem?.1 hr
    obtain ⟨q, hq, rfl⟩ := siftS_back s p i r hi
    rw [rises_pair]
    exact ((rises_pair _).1 (s3 _ (List.mem_of_getElem? hq))).sublist List.filter_sublist
theorem within_sift (s : Sto) (p : Nat → Int → Bool) : withinS (siftS s p) s = true := by
  unfold withinS
  rw [all_zip]
  intro i r a hr ha
  obtain ⟨q, hq, rfl⟩ := siftS_back s p i r hr
  rw [ha] at hq; cases hq
  exact (withinR_iff _ _).2 fun n hn => (List.mem_filter.1 hn).1
theorem meetS_sift (s t : Sto) (h : t.length = s.length) : meetS s t = siftS s fun k z => hasB (t.getD k []) z := by
  refine sto_ext _ _ (by rw [meetS_len s t h, siftS_len]) fun k r q hr hq => ?_
  obtain ⟨a, ha, rfl⟩ := siftS_back _ _ _ _ hq
  have hk : k < s.length := (List.getElem?_eq_some_iff.1 ha).1
  have hb : t[k]? = some (t[k]'(by omega)) := by simp [show k < t.length by omega]
  rw [meetS_get s t k _ _ ha hb] at hr
  cases hr
  unfold meetR
  rw [List.getD_eq_getElem?_getD, hb]; rfl
def hasS (s : Sto) (vals : List Int) : Bool := decide (s.length = vals.length) && (s.zip vals).all fun p => hasB p.1 p.2
theorem hasS_iff (s : Sto) (vals : List Int) : hasS s vals = true ↔ s.length = vals.length ∧ ∀ (k : Nat) r x, s[k]? = some r → vals[k]? = some x → x ∈ r := by
  unfold hasS
  rw [Bool.and_eq_true, decide_eq_true_eq, all_zip]
  exact ⟨fun h => ⟨h.1, fun k r x hr hx => (hasB_iff _ _).1 (h.2 k r x hr hx)⟩, fun h => ⟨h.1, fun k r x hr hx => (hasB_iff _ _).2 (h.2 k r x hr hx)⟩⟩
end Go.Proofs.YtggkbhafbhhhhacGreat
/-
  PLAIN: what a constraint by itself leaves of a store; that no values are lost; that twice is once; that less leaves less.
-/
namespace Go.Proofs.YtggkbhafbhhhhacGreat

/-- All values that are tried, from a place of the scope on. -/
def reach (s : Sto) : List Int → List Int → List (List Int)
  | [], vals => [vals]
  | v :: r, vals => (s.getD v.toNat []).flatMap fun x => reach s r (vals.set v.toNat x)
def keysOf (scope u : List Int) : List (Int × Int) := scope.map fun v => (v, valAt u v)
/-- What is met, in its order. -/
def metK (c : MCon) (scope : List Int) (us : List (List Int)) : List (Int × Int) := us.flatMap fun u => if holdsC c u then keysOf scope u else []
def zerosOf (n : Nat) : List Int := List.replicate n 0
def metAll (c : MCon) (s : Sto) : List (Int × Int) := metK c (scopeC c) (reach s (scopeC c) (zerosOf s.length))
def staysB (c : MCon) (s : Sto) (k : Nat) (z : Int) : Bool :=
  if failedS s then true
  else if (scopeC c).length = 0 then holdsC c (zerosOf s.length)
  else if hasB (scopeC c) (k : Int) then (metAll c s).contains ((k : Int), z)
  else true
def filterS (c : MCon) (s : Sto) : Sto := siftS s (staysB c s)
def filterA (m : Mod) (con : Int) (s : Sto) : Sto × Int :=
  if checkL m [s] = 0 then (if conCheck m con = 0 then (filterS (m.cons.getD con.toNat noCon) s, 0) else ([], conCheck m con)) else ([], checkL m [s])

theorem mem_comp (zs : List Int) (x : Int) : x ∈ compI zs ↔ x ∈ zs := by
  unfold compI Lib.compact Lib.compactUpTo
  constructor
  · intro h
    obtain ⟨i, hi, rfl⟩ := List.mem_map.1 h
    have hi' : i < zs.length := List.mem_range.1 (List.mem_filter.1 hi).1
    simp [getElem!_pos, hi']
  · intro h
    obtain ⟨i, hi, rfl⟩ := List.mem_iff_getElem.1 h
    have key : ∀ (j : Nat) (hj : j < zs.length), zs[j] ∈ ((List.range zs.length).filter (Lib.keeps zs.toArray)).map (zs.toArray[·]!) := by
      intro j
      induction j with
      | zero =>
        intro hj
        exact List.mem_map.2 ⟨0, List.mem_filter.2 ⟨List.mem_range.2 hj, by simp [Lib.keeps]⟩, by simp [getElem!_pos, hj]⟩
      | succ j ih =>
        intro hj
        by_cases hk : Lib.keeps zs.toArray (j + 1) = true
        · exact List.mem_map.2 ⟨j + 1, List.mem_filter.2 ⟨List.mem_range.2 hj, hk⟩, by simp [getElem!_pos, hj]⟩
        · have he : zs[j + 1] = zs[j] := by
            have h1 : ¬ (j + 1 = 0 ∨ zs.toArray[j + 1]! ≠ zs.toArray[j + 1 - 1]!) := by simpa [Lib.keeps] using hk
            have h2 : zs.toArray[j + 1]! = zs.toArray[j]! := by
              by_cases h3 : zs.toArray[j + 1]! = zs.toArray[j]!
              · exact h3
              · exact absurd (Or.inr h3) h1
            rw [getElem!_pos zs.toArray (j + 1) (by simpa using hj), getElem!_pos zs.toArray j (by simp; omega)] at h2
            simpa using h2
          rw [he]
          exact ih (by omega)
    exact key i hi
theorem mem_scope (c : MCon) (x : Int) : x ∈ scopeC c ↔ x ∈ scopeL c := by
  unfold scopeC
  rw [mem_comp]
  unfold sortI
  exact (List.mergeSort_perm _ _).mem_iff
theorem ownV_same (vars a b : List Int) (h : ∀ v ∈ vars, valAt a v = valAt b v) : ownV vars a = ownV vars b := List.map_congr_left h
theorem litB_same (a b : List Int) (l : MLit) (h : valAt a l.var = valAt b l.var) : litB a l = litB b l := by unfold litB; rw [h]
/-- A constraint speaks of its scope alone. -/
theorem holds_scope (c : MCon) (a b : List Int) (h : ∀ v ∈ scopeC c, valAt a v = valAt b v) (hl : c.kind = 10 → c.lits ≠ []) : holdsC c a = holdsC c b := by
  have h0 : ∀ v ∈ c.vars, valAt a v = valAt b v := fun v hv => h v ((mem_scope c v).2 (List.mem_append_left _ hv))
  have h1 : ∀ l ∈ c.lits, litB a l = litB b l := fun l hl => litB_same a b l (h _ ((mem_scope c _).2 (List.mem_append_right _ (List.mem_map.2 ⟨l, hl, rfl⟩))))
  have h2 := ownV_same c.vars a b h0
  have h3 : c.lits.any (litB a) = c.lits.any (litB b) := by
    rw [Bool.eq_iff_iff, List.any_eq_true, List.any_eq_true]
    exact ⟨fun ⟨l, hm, hq⟩ => ⟨l, hm, by rw [← h1 l hm]; exact hq⟩, fun ⟨l, hm, hq⟩ => ⟨l, hm, by rw [h1 l hm]; exact hq⟩⟩
  by_cases hk : c.kind = 10
  · have h4 : litB a (c.lits.getD 0 ⟨0, 0, 0⟩) = litB b (c.lits.getD 0 ⟨0, 0, 0⟩) := by
      match hc : c.lits with
      | [] => exact absurd hc (hl hk)
      | l :: r => exact h1 l (by rw [hc]; exact List.mem_cons_self ..)
    unfold holdsC
    rw [h2, h3, h4]
  · unfold holdsC
    rw [h2, h3]
    simp only [hk, if_false]

theorem valAt_set_self (vals : List Int) (v x : Int) (h : v.toNat < vals.length) : valAt (vals.set v.toNat x) v = x := by
  unfold valAt; rw [List.getD_eq_getElem?_getD, List.getElem?_set_self h]; rfl
theorem valAt_set_ne (vals : List Int) (v x u : Int) (h : v.toNat ≠ u.toNat) : valAt (vals.set v.toNat x) u = valAt vals u := by
  unfold valAt; rw [List.getD_eq_getElem?_getD, List.getD_eq_getElem?_getD, List.getElem?_set_ne h]

theorem reach_len (s : Sto) : ∀ (r vals u : List Int), u ∈ reach s r vals → u.length = vals.length
  | [], vals, u, h => by simp [reach] at h; rw [h]
  | v :: r, vals, u, h => by
    unfold reach at h
    obtain ⟨x, _, hx⟩ := List.mem_flatMap.1 h
    have := reach_len s r _ u hx
    simpa using this
theorem reach_out (s : Sto) : ∀ (r vals u : List Int), u ∈ reach s r vals → ∀ w : Int, (∀ v ∈ r, v.toNat ≠ w.toNat) → valAt u w = valAt vals w
  | [], vals, u, h, w, _ => by simp [reach] at h; rw [h]
  | v :: r, vals, u, h, w, hw => by
    unfold reach at h
    obtain ⟨x, _, hx⟩ := List.mem_flatMap.1 h
    rw [reach_out s r _ u hx w (fun v' hv => hw v' (List.mem_cons_of_mem _ hv)), valAt_set_ne _ _ _ _ (hw v (List.mem_cons_self ..))]
theorem reach_in (s : Sto) : ∀ (r vals u : List Int), (∀ v ∈ r, v.toNat < vals.length) → u ∈ reach s r vals → ∀ w ∈ r, ∃ v ∈ r, v.toNat = w.toNat ∧ valAt u w ∈ s.getD v.toNat []
  | [], vals, u, _, h, w, hw => by cases hw
  | v :: r, vals, u, hb, h, w, hw => by
    unfold reach at h
    obtain ⟨x, hx0, hx⟩ := List.mem_flatMap.1 h
    by_cases hq : ∃ v' ∈ r, v'.toNat = w.toNat
    · obtain ⟨v', hv', he⟩ := hq
      obtain ⟨v2, hv2, he2, hm⟩ := reach_in s r _ u (fun v'' hv'' => by simpa using hb v'' (List.mem_cons_of_mem _ hv'')) hx v' hv'
      refine ⟨v2, List.mem_cons_of_mem _ hv2, by omega, ?_⟩
      have : valAt u w = valAt u v' := by unfold valAt; rw [he]
      rw [this]; exact hm
    · have hne : ∀ v' ∈ r, v'.toNat ≠ w.toNat := fun v' hv' he => hq ⟨v', hv', he⟩
      have hwv : w = v := by
        rcases List.mem_cons.1 hw with h | h
        · exact h
        · exact absurd rfl (hne w h)
      subst hwv
      refine ⟨w, List.mem_cons_self .., rfl, ?_⟩
      rw [reach_out s r _ u hx w hne, valAt_set_self _ _ _ (hb w (List.mem_cons_self ..))]
      exact hx0
theorem reach_hits (s : Sto) : ∀ (r vals u : List Int), (∀ v ∈ r, v.toNat < vals.length) → u.length = vals.length → (∀ v ∈ r, valAt u v ∈ s.getD v.toNat []) →
    (∀ w : Nat, (∀ v ∈ r, v.toNat ≠ w) → u[w]? = vals[w]?) → u ∈ reach s r vals
  | [], vals, u, _, hl, _, ho => by
    simp only [reach, List.mem_singleton]
    exact List.ext_getElem? fun w => ho w (fun v hv => by cases hv)
  | v :: r, vals, u, hb, hl, hi, ho => by
    unfold reach
    refine List.mem_flatMap.2 ⟨valAt u v, hi v (List.mem_cons_self ..), ?_⟩
    refine reach_hits s r _ u (fun v' hv' => by simpa using hb v' (List.mem_cons_of_mem _ hv')) (by simpa using hl) (fun v' hv' => hi v' (List.mem_cons_of_mem _ hv')) fun w hw => ?_
    by_cases hwv : w = v.toNat
    · subst hwv
      have hlt := hb v (List.mem_cons_self ..)
      rw [List.getElem?_set_self hlt]
      unfold valAt
      rw [List.getD_eq_getElem?_getD]
      rw [List.getElem?_eq_getElem (by omega)]; rfl
    · rw [List.getElem?_set_ne (fun h => hwv h.symm)]
      refine ho w fun v' hv' => ?_
      rcases List.mem_cons.1 hv' with rfl | h
      · exact fun h => hwv h.symm
      · exact hw v' h

/-- Values that agree but for a rest of the scope reach the same. -/
def Agree (r a b : List Int) : Prop := a.length = b.length ∧ ∀ w : Nat, (∀ v ∈ r, v.toNat ≠ w) → a[w]? = b[w]?
theorem Agree.refl (r a : List Int) : Agree r a a := ⟨rfl, fun _ _ => rfl⟩
theorem Agree.trans {r a b c : List Int} (h : Agree r a b) (k : Agree r b c) : Agree r a c := ⟨h.1.trans k.1, fun w hw => (h.2 w hw).trans (k.2 w hw)⟩
theorem Agree.symm {r a b : List Int} (h : Agree r a b) : Agree r b a := ⟨h.1.symm, fun w hw => (h.2 w hw).symm⟩
theorem Agree.cons {r a b : List Int} (v : Int) (h : Agree r a b) : Agree (v :: r) a b := ⟨h.1, fun w hw => h.2 w fun v' hv' => hw v' (List.mem_cons_of_mem _ hv')⟩
theorem Agree.set {r a b : List Int} {v : Int} (x : Int) (h : Agree (v :: r) a b) : Agree r (a.set v.toNat x) (b.set v.toNat x) := by
  refine ⟨by simpa using h.1, fun w hw => ?_⟩
  by_cases hwv : w = v.toNat
  · subst hwv
    by_cases hlt : v.toNat < a.length
    · rw [List.getElem?_set_self hlt, List.getElem?_set_self (by rw [← h.1]; exact hlt)]
    · rw [List.getElem?_eq_none (by simp; omega), List.getElem?_eq_none (by have := h.1; simp; omega)]
  · rw [List.getElem?_set_ne (fun h => hwv h.symm), List.getElem?_set_ne (fun h => hwv h.symm)]
    refine h.2 w fun v' hv' => ?_
    rcases List.mem_cons.1 hv' with rfl | h'
    · exact fun h => hwv h.symm
    · exact hw v' h'
theorem Agree.of_set (r a : List Int) (v x : Int) : Agree (v :: r) a (a.set v.toNat x) := by
  refine ⟨by simp, fun w hw => ?_⟩
  rw [List.getElem?_set_ne (hw v (List.mem_cons_self ..))]
theorem reach_same (s : Sto) : ∀ (r a b : List Int), Agree r a b → reach s r a = reach s r b
  | [], a, b, h => by
    unfold reach
    rw [show a = b from List.ext_getElem? fun w => h.2 w (fun v hv => by cases hv)]
  | v :: r, a, b, h => by
    unfold reach
    congr 1
    funext x
    exact reach_same s r _ _ (h.set x)

/-- A value is part of values of which the constraint holds. -/
def Part (c : MCon) (s : Sto) (k : Nat) (z : Int) : Prop := ∃ u : List Int, u.length = s.length ∧ (∀ v ∈ scopeC c, valAt u v ∈ s.getD v.toNat []) ∧ holdsC c u = true ∧ valAt u (k : Int) = z

theorem mem_metK (c : MCon) (scope : List Int) (us : List (List Int)) (k z : Int) : (k, z) ∈ metK c scope us ↔ ∃ u ∈ us, holdsC c u = true ∧ k ∈ scope ∧ valAt u k = z := by
  unfold metK
  rw [List.mem_flatMap]
  constructor
  · rintro ⟨u, hu, h⟩
    cases hh : holdsC c u
    · rw [hh] at h; simp at h
    · rw [hh, if_pos rfl] at h
      obtain ⟨v, hv, he⟩ := List.mem_map.1 h
      cases he
      exact ⟨u, hu, hh, hv, rfl⟩
  · rintro ⟨u, hu, hh, hv, rfl⟩
    exact ⟨u, hu, by rw [hh, if_pos rfl]; exact List.mem_map.2 ⟨k, hv, rfl⟩⟩

theorem getElem_zeros (n w : Nat) (h : w < n) : (zerosOf n)[w]? = some 0 := by simp [zerosOf, h]
theorem met_iff (c : MCon) (s : Sto) (hsc : ∀ v ∈ scopeC c, 0 ≤ v ∧ v < s.length) (hl : c.kind = 10 → c.lits ≠ []) (k : Nat) (z : Int) (hk : (k : Int) ∈ scopeC c) :
    (metAll c s).contains ((k : Int), z) = true ↔ Part c s k z := by
  rw [List.contains_iff_mem]
  unfold metAll
  rw [mem_metK]
  have hb : ∀ v ∈ scopeC c, v.toNat < (zerosOf s.length).length := fun v hv => by
    have := hsc v hv
    simp only [zerosOf, List.length_replicate]
    omega
  constructor
  · rintro ⟨u, hu, hh, _, hz⟩
    refine ⟨u, by rw [reach_len s _ _ u hu]; simp [zerosOf], fun v hv => ?_, hh, hz⟩
    obtain ⟨v', _, he, hm⟩ := reach_in s _ _ u hb hu v hv
    rw [← he]; exact hm
  · rintro ⟨u, hul, hu, hh, hz⟩
    let u' : List Int := (List.range s.length).map fun (i : Nat) => if (i : Int) ∈ scopeC c then valAt u (i : Int) else 0
    have hu'l : u'.length = s.length := by simp [u']
    have hval : ∀ v ∈ scopeC c, valAt u' v = valAt u v := fun v hv => by
      obtain ⟨h0, h1⟩ := hsc v hv
      obtain ⟨i, rfl⟩ : ∃ i : Nat, v = (i : Int) := ⟨v.toNat, by omega⟩
      have hi : i < s.length := by omega
      unfold valAt
      rw [List.getD_eq_getElem?_getD]
      simp only [u', Int.toNat_natCast, List.getElem?_map, List.getElem?_range hi, Option.map_some, Option.getD_some, if_pos hv]
      rfl
    refine ⟨u', reach_hits s _ _ u' hb (by rw [hu'l]; simp [zerosOf]) (fun v hv => by rw [hval v hv]; exact hu v hv) (fun w hw => ?_), ?_, hk, by rw [hval _ hk]; exact hz⟩
    · by_cases hws : w < s.length
      · rw [getElem_zeros _ _ hws]
        simp only [u', List.getElem?_map, List.getElem?_range hws, Option.map_some]
        rw [if_neg (fun h => hw _ h (by simp))]
      · rw [List.getElem?_eq_none (by omega), List.getElem?_eq_none (by simp [zerosOf]; omega)]
    · rw [holds_scope c u' u hval hl]; exact hh

theorem stays_in (c : MCon) (s : Sto) (hf : failedS s = false) (k : Nat) (z : Int) (hk : (k : Int) ∈ scopeC c) : staysB c s k z = (metAll c s).contains ((k : Int), z) := by
  have hn : (scopeC c).length ≠ 0 := fun h => by rw [List.eq_nil_of_length_eq_zero h] at hk; cases hk
  unfold staysB
  rw [hf, if_neg (by simp), if_neg hn, if_pos ((hasB_iff _ _).2 hk)]
theorem stays_out (c : MCon) (s : Sto) (hn : (scopeC c).length ≠ 0) (k : Nat) (z : Int) (hk : (k : Int) ∉ scopeC c) : staysB c s k z = true := by
  unfold staysB
  cases failedS s
  · rw [if_neg (by simp), if_neg hn, if_neg (fun h => hk ((hasB_iff _ _).1 h))]
  · rfl
theorem stays_none (c : MCon) (s : Sto) (hf : failedS s = false) (hn : (scopeC c).length = 0) (k : Nat) (z : Int) : staysB c s k z = holdsC c (zerosOf s.length) := by
  unfold staysB
  rw [hf, if_neg (by simp), if_pos hn]
theorem stays_failed (c : MCon) (s : Sto) (hf : failedS s = true) (k : Nat) (z : Int) : staysB c s k z = true := by
  unfold staysB; rw [hf, if_pos rfl]
theorem filter_failed (c : MCon) (s : Sto) (hf : failedS s = true) : filterS c s = s := by
  unfold filterS
  refine sto_ext _ _ (siftS_len _ _) fun k r q hr hq => ?_
  obtain ⟨a, ha, rfl⟩ := siftS_back _ _ _ _ hr
  rw [hq] at ha; cases ha
  exact List.filter_eq_self.2 fun z _ => stays_failed c s hf k z
theorem getD_row (s : Sto) (k : Nat) (r : List Int) (h : s[k]? = some r) : s.getD k [] = r := by rw [List.getD_eq_getElem?_getD, h]; rfl

/-- NO VALUES ARE LOST. -/
theorem filter_keeps (c : MCon) (s : Sto) (hsc : ∀ v ∈ scopeC c, 0 ≤ v ∧ v < s.length) (hl : c.kind = 10 → c.lits ≠ []) (vals : List Int) (hv : vals.length = s.length)
    (hin : ∀ (k : Nat) r x, s[k]? = some r → vals[k]? = some x → x ∈ r) (hh : holdsC c vals = true) (k : Nat) (r : List Int) (x : Int) (hr : (filterS c s)[k]? = some r) (hx : vals[k]? = some x) : x ∈ r := by
  obtain ⟨a, ha, rfl⟩ := siftS_back _ _ _ _ hr
  refine List.mem_filter.2 ⟨hin k a x ha hx, ?_⟩
  cases hf : failedS s
  · by_cases hn : (scopeC c).length = 0
    · rw [stays_none c s hf hn, holds_scope c (zerosOf s.length) vals (fun v hv => by rw [List.eq_nil_of_length_eq_zero hn] at hv; cases hv) hl]
      exact hh
    · by_cases hk : (k : Int) ∈ scopeC c
      · rw [stays_in c s hf k x hk, met_iff c s hsc hl k x hk]
        refine ⟨vals, hv, fun v hvs => ?_, hh, valAt_get vals k x hx⟩
        obtain ⟨h0, h1⟩ := hsc v hvs
        obtain ⟨i, rfl⟩ : ∃ i : Nat, v = (i : Int) := ⟨v.toNat, by omega⟩
        have hi : i < s.length := by omega
        have e1 : s[i]? = some s[i] := by simp [hi]
        have e2 : vals[i]? = some (vals[i]'(by omega)) := by simp [show i < vals.length by omega]
        rw [Int.toNat_natCast, getD_row s i _ e1, valAt_get vals i _ e2]
        exact hin i _ _ e1 e2
      · exact stays_out c s hn k x hk
  · exact stays_failed c s hf k x

theorem failed_iff (s : Sto) : failedS s = true ↔ ∃ k : Nat, s[k]? = some [] := by
  unfold failedS
  rw [List.any_eq_true]
  constructor
  · rintro ⟨r, hr, h⟩
    obtain ⟨k, hk⟩ := List.mem_iff_getElem?.1 hr
    have : r = [] := List.eq_nil_of_length_eq_zero (by simpa using h)
    exact ⟨k, by rw [hk, this]⟩
  · rintro ⟨k, hk⟩
    exact ⟨[], List.mem_of_getElem? hk, rfl⟩

/-- FILTERED TWICE IT IS FILTERED ONCE. -/
theorem filter_twice (c : MCon) (s : Sto) (hsc : ∀ v ∈ scopeC c, 0 ≤ v ∧ v < s.length) (hl : c.kind = 10 → c.lits ≠ []) : filterS c (filterS c s) = filterS c s := by
  cases hf : failedS s
  · cases hf2 : failedS (filterS c s)
    · have hlen : (filterS c s).length = s.length := siftS_len _ _
      refine sto_ext _ _ (siftS_len _ _) fun k r q hr hq => ?_
      obtain ⟨a, ha, rfl⟩ := siftS_back _ _ _ _ hr
      rw [hq] at ha; cases ha
      refine List.filter_eq_self.2 fun z hz => ?_
      obtain ⟨b, hb, rfl⟩ := siftS_back _ _ _ _ hq
      obtain ⟨hz1, hz2⟩ := List.mem_filter.1 hz
      by_cases hn : (scopeC c).length = 0
      · rw [stays_none c _ hf2 hn, hlen]
        rw [stays_none c s hf hn] at hz2
        exact hz2
      · by_cases hk : (k : Int) ∈ scopeC c
        · rw [stays_in c s hf k z hk, met_iff c s hsc hl k z hk] at hz2
          rw [stays_in c _ hf2 k z hk, met_iff c _ (by rw [hlen]; exact hsc) hl k z hk]
          obtain ⟨u, hul, hu, hh, huz⟩ := hz2
          refine ⟨u, by rw [hlen]; exact hul, fun v hv => ?_, hh, huz⟩
          obtain ⟨h0, h1⟩ := hsc v hv
          obtain ⟨i, rfl⟩ : ∃ i : Nat, v = (i : Int) := ⟨v.toNat, by omega⟩
          have hi : i < s.length := by omega
          have e1 : s[i]? = some s[i] := by simp [hi]
          have := hu _ hv
          rw [Int.toNat_natCast] at this ⊢
          rw [getD_row s i _ e1] at this
          show _ ∈ (siftS s (staysB c s)).getD i []
          rw [getD_row _ i _ (siftS_get s (staysB c s) i _ e1)]
          refine List.mem_filter.2 ⟨this, ?_⟩
          rw [stays_in c s hf i _ hv, met_iff c s hsc hl i _ hv]
          exact ⟨u, hul, hu, hh, rfl⟩
        · exact stays_out c _ hn k z hk
    · exact filter_failed c _ hf2
  · rw [filter_failed c s hf, filter_failed c s hf]

/-- WHAT IS FILTERED OF LESS IS LESS. -/
theorem filter_less (c : MCon) (s t : Sto) (hlen : t.length = s.length) (hsc : ∀ v ∈ scopeC c, 0 ≤ v ∧ v < s.length) (hl : c.kind = 10 → c.lits ≠ []) (hft : failedS t = false) (hfs : failedS s = false)
    (hw : withinS t s = true) : withinS (filterS c t) (filterS c s) = true := by
  unfold withinS at *
  rw [all_zip] at *
  have hsub : ∀ (i : Nat) r q, t[i]? = some r → s[i]? = some q → ∀ n ∈ r, n ∈ q := fun i r q hr hq => (withinR_iff r q).1 (hw i r q hr hq)
  intro k r q hr hq
  obtain ⟨a, ha, rfl⟩ := siftS_back _ _ _ _ hr
  obtain ⟨b, hb, rfl⟩ := siftS_back _ _ _ _ hq
  refine (withinR_iff _ _).2 fun z hz => ?_
  obtain ⟨hz1, hz2⟩ := List.mem_filter.1 hz
  refine List.mem_filter.2 ⟨hsub k a b ha hb z hz1, ?_⟩
  by_cases hn : (scopeC c).length = 0
  · rw [stays_none c s hfs hn]
    rw [stays_none c t hft hn, hlen] at hz2
    exact hz2
  · by_cases hk : (k : Int) ∈ scopeC c
    · rw [stays_in c t hft k z hk, met_iff c t (by rw [hlen]; exact hsc) hl k z hk] at hz2
      rw [stays_in c s hfs k z hk, met_iff c s hsc hl k z hk]
      obtain ⟨u, hul, hu, hh, huz⟩ := hz2
      refine ⟨u, by rw [hul, hlen], fun v hv => ?_, hh, huz⟩
      obtain ⟨h0, h1⟩ := hsc v hv
      obtain ⟨i, rfl⟩ : ∃ i : Nat, v = (i : Int) := ⟨v.toNat, by omega⟩
      have hi : i < s.length := by omega
      have e1 : s[i]? = some s[i] := by simp [hi]
      have e2 : t[i]? = some (t[i]'(by omega)) := by simp [show i < t.length by omega]
      have := hu _ hv
      rw [Int.toNat_natCast] at this ⊢
      rw [getD_row s i _ e1]
      rw [getD_row t i _ e2] at this
      exact hsub i _ _ e2 e1 _ this
    · exact stays_out c s hn k z hk
/-- What a right model's constraints have. -/
theorem scope_in (m : Mod) (hm : checkM m = 0) (j : Nat) (c : MCon) (hc : m.cons[j]? = some c) : (∀ v ∈ scopeC c, 0 ≤ v ∧ v < (m.vars.length : Int)) ∧ (c.kind = 10 → c.lits ≠ []) := by
  obtain ⟨_, _, hform, hvars, _, _⟩ := con_facts _ _ (con_ok m hm j c hc)
  obtain ⟨h1, h2⟩ := vars_in c _ hvars
  refine ⟨fun v hv => ?_, fun hk => ?_⟩
  · rw [mem_scope] at hv
    unfold scopeL at hv
    rcases List.mem_append.1 hv with h | h
    · exact h1 v h
    · obtain ⟨l, hl, rfl⟩ := List.mem_map.1 h
      exact h2 l hl
  · intro h
    unfold formB at hform
    rw [hk, h] at hform
    simp at hform
end Go.Proofs.YtggkbhafbhhhhacGreat
/-
  Sets of pairs of numbers: a map whose keys are arrays of two.
-/
namespace Go.Proofs.YtggkbhafbhhhhacGreat
open Go.RowKit Go.Maps

theorem Tryz.pairUnder : Tryz.prog.underlying 56 = some (.array 2 3) := by kernel_rfl
theorem Tryz.pairWide : (match Tryz.prog.underlying 56 with | some (.array _ _) | some (.struct _) => true | _ => false) = true := by rw [Tryz.pairUnder]
theorem Tryz.pairRow : (56 : Nat) < Tryz.prog.types.size := of_decide_eq_true (by kernel_rfl)
theorem Tryz.pairLaid : laidOutB Tryz.prog = true := by kernel_rfl
theorem Tryz.pairCells : Tryz.prog.cellsOf 56 = 2 := by kernel_rfl
theorem Tryz.pairCell : Tryz.prog.cellsOf 3 = 1 := by kernel_rfl
set_option maxRecDepth 100000 in
theorem Tryz.pairKeyed : Keyed Tryz.prog 56 := Keyed.of_law (deep_law_laid Tryz.pairLaid (m := 2) (by omega) Tryz.pairRow (by kernel_rfl) Tryz.pairWide)
theorem Tryz.pairType : Tryz.prog.keyType 56 = true := by kernel_rfl
theorem Tryz.unitZero (w : World) : (zeroValue 54).run Tryz.prog w = .ok (.agg #[]) w := by kernel_rfl

/-- What such a key reads as. -/
def pairK (a b : Int) : Lit := .string (keyBytes [.int .i64 a, .int .i64 b])
def okInt (a : Int) : Prop := -1000000 ≤ a ∧ a ≤ 1000000
theorem ok_wf {a : Int} (h : okInt a) : (Lit.int .i64 a).wf = true := WalkArith.wf_i64 (by unfold okInt at h; omega)
theorem pair_lits (d : Nat) (a b : Int) (ha : okInt a) (hb : okInt b) : Tryz.prog.keyLits (d + 2) 56 [.int .i64 a, .int .i64 b] = some [.int .i64 a, .int .i64 b] := by
  have h0 : Tryz.prog.underlying 3 = some (.int .i64) := Tryz.underlying3
  unfold Program.keyLits
  simp only [Tryz.pairUnder, Tryz.pairCells, Tryz.pairCell]
  simp [List.range_succ, Program.keyLits, h0, ok_wf ha, ok_wf hb]
theorem keyOf_pair (a b : Int) (ha : okInt a) (hb : okInt b) : keyOf Tryz.prog 56 (.agg #[.int .i64 a, .int .i64 b]) = some (pairK a b) := by
  have hf : (Value.agg #[.int .i64 a, .int .i64 b]).formed Tryz.prog 56 = true := by simp [Value.formed, Tryz.pairCells]
  have hs : ∃ d, Tryz.prog.types.size + 1 = d + 2 := ⟨Tryz.prog.types.size - 1, by have := Tryz.pairRow; omega⟩
  obtain ⟨d, hd⟩ := hs
  unfold keyOf
  rw [Tryz.pairUnder]
  simp only [Tryz.pairType, hf, Bool.and_self, if_true]
  rw [hd]
  show Option.map _ (Tryz.prog.keyLits (d + 2) 56 [.int .i64 a, .int .i64 b]) = _
  rw [pair_lits d a b ha hb]
  rfl
theorem pairK_inj {a b c d : Int} (ha : okInt a) (hb : okInt b) (hc : okInt c) (hd : okInt d) (h : pairK a b = pairK c d) : a = c ∧ b = d := by
  have h1 := keyOf_pair a b ha hb
  have h2 := keyOf_pair c d hc hd
  rw [← h] at h2
  have := Tryz.pairKeyed.inj h1 h2
  simp at this
  exact this

def okPair (p : Int × Int) : Prop := okInt p.1 ∧ okInt p.2
def setP {H : Type} (l : List (Int × Int)) : DataW H := setOf (.agg []) (l.map fun p => pairK p.1 p.2)
theorem setP_next {H : Type} (l : List (Int × Int)) (p : Int × Int) : setP (H := H) (l ++ [p]) = (setP l).put (pairK p.1 p.2) (.agg []) := by
  unfold setP; rw [List.map_append]; exact setOf_snoc _ _ _
theorem has_setP {H : Type} (l : List (Int × Int)) (p : Int × Int) (hl : ∀ q ∈ l, okPair q) (hp : okPair p) : Maps.has (setP (H := H) l) (pairK p.1 p.2) = l.contains p := by
  unfold setP
  rw [has_setOf _ _ _ (fun y hy => by obtain ⟨q, _, rfl⟩ := List.mem_map.1 hy; unfold pairK; trivial), List.any_map]
  rw [Bool.eq_iff_iff, List.any_eq_true, List.contains_iff_mem]
  constructor
  · rintro ⟨q, hq, he⟩
    have he2 : pairK q.1 q.2 = pairK p.1 p.2 := WideAt.sameKey_eq he
    obtain ⟨h1, h2⟩ := pairK_inj (hl q hq).1 (hl q hq).2 hp.1 hp.2 he2
    have : q = p := Prod.ext h1 h2
    rw [← this]; exact hq
  · intro h
    refine ⟨p, h, ?_⟩
    show (pairK p.1 p.2).sameKey (pairK p.1 p.2) = true
    exact WideAt.sameKey_self (by unfold pairK; trivial)
end Go.Proofs.YtggkbhafbhhhhacGreat
