/-
  LitParts is true at every input: a literal and its opposite part the values. No condition.
-/
import Derived.Test.YtggkbhafbhhhhacLitD
namespace Go.Proofs.Ytggkbhafbhhhhac
open Go.ChangeShapes Go.WideShapes Go.ChangeAt Go.RowKit Go.Deep

theorem lnotA_bad (m : Mod) (l : MLit) (h : (lnotA m l).2 ≠ 0) : (lnotA m l).1 = noLit := by
  unfold lnotA at *
  split
  · rename_i h0
    rw [if_pos h0] at h
    split
    · rename_i h1
      rw [if_pos h1] at h
      exact absurd rfl h
    · rfl
  · rfl
theorem lnotA_ok (m : Mod) (l : MLit) (h : (lnotA m l).2 = 0) : lcheckA m l = 0 ∧ litE m.vars (oppL l) = 0 ∧ lnotA m l = (oppL l, 0) := by
  unfold lnotA at *
  by_cases h0 : lcheckA m l = 0
  · rw [if_pos h0] at *
    by_cases h1 : litE m.vars (oppL l) = 0
    · rw [if_pos h1] at *; exact ⟨h0, h1, rfl⟩
    · rw [if_neg h1] at *; exact absurd h h1
  · rw [if_neg h0] at *; exact absurd h h0
theorem lholdsA_ok (m : Mod) (l : MLit) (x : Int) (h : lcheckA m l = 0) : lholdsA m l x = (litV x l, 0) := by unfold lholdsA; rw [if_pos h]
theorem linE_of (m : Mod) (s : Sto) (l : MLit) (h : litE m.vars l = 0) : linE m s l = checkL m [s] := by
  unfold linE
  by_cases h0 : checkL m [s] = 0
  · rw [if_pos h0, h, h0]
  · rw [if_neg h0]

set_option maxHeartbeats 3200000 in
set_option maxRecDepth 100000 in
theorem parts_walk (m : Mod) (s : Sto) (l : MLit) (x : Int) (vs cs v : Value) (w : World) (hm : MArg w vs cs m) (hv : RArg w v s) :
    Calls Try.prog 3 #[modV vs cs m, v, .agg #[.int .i64 l.var, .int .i64 l.op, .int .i64 l.n], .int .i64 x] w fun e w' => e = .returned (.bool true) ∧ Below w.heap.size w w' := by
  have HMA : Hid (∀ w' : World, Below w.heap.size w w' → MArg w' vs cs m) := fun w' h => MArg.below h hm
  have HVA : Hid (∀ w' : World, Below w.heap.size w w' → RArg w' v s) := fun w' h => RArg.below h hv
  obtain ⟨⟨a1, c1, rfl, _, _⟩, ⟨a2, c2, rfl, _, _⟩⟩ := hm
  obtain ⟨a3, c3, rfl, hl3, hr3⟩ := hv
  have HV3 : Hid (∀ (i : Nat) (r : List Int), s[i]? = some r → ∃ b off x, a3 = some ⟨b, off, none⟩ ∧ b < w.heap.size ∧ w.cell? ⟨b, off + i, none⟩ = some x ∧ IArg w x r) := hr3
  unfold maxLen at hl3
  obtain ⟨hl31, hl3⟩ := hl3
  clear hr3
  obtain ⟨W, hW⟩ : ∃ W : World, W = (w.alloc (.cells #[.slice a1 m.vars.length c1, .slice a2 m.cons.length c2, .int .i64 m.goal, .int .i64 m.var] 25)).alloc (.cells #[.int .i64 l.var, .int .i64 l.op, .int .i64 l.n] 29) := ⟨_, rfl⟩
  have HW : Hid (W = (w.alloc (.cells #[.slice a1 m.vars.length c1, .slice a2 m.cons.length c2, .int .i64 m.goal, .int .i64 m.var] 25)).alloc (.cells #[.int .i64 l.var, .int .i64 l.op, .int .i64 l.n] 29)) := hW
  have HBW : Hid (Below w.heap.size w W) := by rw [hW]; exact below2 _ _ _
  have hsW : w.heap.size + 2 ≤ W.heap.size := by rw [hW]; simp
  have HC : Hid (∀ w' : World, Below W.heap.size W w' → w'.cell? ⟨w.heap.size, 0, none⟩ = some (.slice a1 m.vars.length c1) ∧ w'.cell? ⟨w.heap.size, 1, none⟩ = some (.slice a2 m.cons.length c2) ∧ w'.cell? ⟨w.heap.size, 2, none⟩ = some (.int .i64 m.goal) ∧ w'.cell? ⟨w.heap.size, 3, none⟩ = some (.int .i64 m.var) ∧
      w'.cell? ⟨w.heap.size + 1, 0, none⟩ = some (.int .i64 l.var) ∧ w'.cell? ⟨w.heap.size + 1, 1, none⟩ = some (.int .i64 l.op) ∧ w'.cell? ⟨w.heap.size + 1, 2, none⟩ = some (.int .i64 l.n)) := by
    intro w' h
    refine ⟨?_, ?_, ?_, ?_, ?_, ?_, ?_⟩
    all_goals (refine (h.cell (by simp only; omega)).trans ?_; rw [hW])
    iterate 4 (exact (World.cell?_alloc_past _ _ _ (by simp)).trans (by simp))
    iterate 3 (exact World.cell?_alloc_at _ _ _ _ (by simp))
  have HMW : Hid (∀ w' : World, Below W.heap.size W w' → MArg w' (.slice a1 m.vars.length c1) (.slice a2 m.cons.length c2) m) := fun w' h => HMA.out _ (HBW.out.trans (h.mono (by omega)))
  have HVW : Hid (∀ w' : World, Below W.heap.size W w' → RArg w' (.slice a3 s.length c3) s) := fun w' h => HVA.out _ (HBW.out.trans (h.mono (by omega)))
  have hmv : modV (.slice a1 m.vars.length c1) (.slice a2 m.cons.length c2) m = .agg #[.slice a1 m.vars.length c1, .slice a2 m.cons.length c2, .int .i64 m.goal, .int .i64 m.var] := rfl
  rw [hmv]
  clear hmv hW HMA HVA
  go_enter Try.func3, Try.ntmps3
  go_wp2_with fail
  rw [← HW.out]
  clear HW
  refine (begun_lit _).mono ?_
  rintro e w1 ⟨rfl, hb1⟩
  go_wp2_with fail
  refine (begun_store _).mono ?_
  rintro e w2 ⟨rfl, hb2⟩
  have hB2 : Below W.heap.size W w2 := hb1.trans (hb2.mono hb1.size)
  obtain ⟨g0, g1, g2, g3, d0, d1, d2⟩ := HC.out _ hB2
  clear hb1 hb2
  go_wp2_with fail
  refine (lnot_any m l (.slice a1 m.vars.length c1) (.slice a2 m.cons.length c2) _ (HMW.out _ hB2)).mono ?_
  rintro e w3 ⟨rfl, hb3⟩
  have hB3 : Below W.heap.size W w3 := hB2.trans (hb3.mono hB2.size)
  clear hb3 hB2 g0 g1 g2 g3 d0 d1 d2
  by_cases hne : (lnotA m l).2 = 0
  · obtain ⟨o1, o2, o3⟩ := lnotA_ok m l hne
    obtain ⟨p1, p2⟩ := lcheck_ok m l o1
    obtain ⟨⟨q1, q2⟩, q3, _⟩ := (litE_ok _ _).1 p2
    have HOV : Hid ((oppL l).var = l.var) := oppL_var l
    have HOV2 : Hid (∀ x, litV x (oppL l) = !litV x l) := fun x => litV_opp x l q3
    have HHP : Hid (∀ r, heldN r l + heldN r (oppL l) = r.length) := fun r => held_parts r l q3
    rw [o3]
    obtain ⟨o, ho⟩ : ∃ o, oppL l = o := ⟨_, rfl⟩
    rw [ho] at HOV HOV2 HHP o2 ⊢
    have E1 : Hid (lholdsA m l x = (litV x l, 0)) := lholdsA_ok m l x o1
    have E2 : Hid (lholdsA m o x = (!litV x l, 0)) := by
      show _ = _
      rw [lholdsA_ok m o x (by unfold lcheckA; rw [if_pos p1]; exact o2), HOV2.out]
    have HP2 : Hid (litE m.vars l = 0) := p2
    have HO2 : Hid (litE m.vars o = 0) := o2
    obtain ⟨i, hi⟩ : ∃ i : Nat, l.var = (i : Int) := ⟨l.var.toNat, by omega⟩
    have HI : Hid (l.var = (i : Int)) := hi
    have HIL : Hid ((i : Int) < m.vars.length) := by show _ < _; omega
    clear hne o1 o3 p1 p2 q1 q2 q3 ho o2 hi
    obtain ⟨W4, hW4⟩ : ∃ W4 : World, W4 = w3.alloc (.cells #[.int .i64 o.var, .int .i64 o.op, .int .i64 o.n] 29) := ⟨_, rfl⟩
    have HW4 : Hid (W4 = w3.alloc (.cells #[.int .i64 o.var, .int .i64 o.op, .int .i64 o.n] 29)) := hW4
    have hB4 : Below W.heap.size W W4 := by rw [hW4]; exact hB3.alloc hB3.size _
    have hs4 : w3.heap.size < W4.heap.size := by rw [hW4]; simp
    have HN : Hid (∀ w' : World, Below W4.heap.size W4 w' → w'.cell? ⟨w3.heap.size, 0, none⟩ = some (.int .i64 o.var) ∧ w'.cell? ⟨w3.heap.size, 1, none⟩ = some (.int .i64 o.op) ∧ w'.cell? ⟨w3.heap.size, 2, none⟩ = some (.int .i64 o.n)) := by
      intro w' h
      refine ⟨?_, ?_, ?_⟩
      all_goals (refine (h.cell hs4).trans ?_; rw [hW4]; simp)
    have HT4 : Hid (∀ w' : World, Below W4.heap.size W4 w' → Below W.heap.size W w') := fun w' h => hB4.trans (h.mono hB4.size)
    have hs40 : w.heap.size + 2 ≤ w3.heap.size := Nat.le_trans hsW hB3.size
    obtain ⟨g0, g1, g2, g3, d0, d1, d2⟩ := HC.out _ hB3
    have hl0 : w.heap.size < w3.heap.size := by omega
    have hl1 : w.heap.size + 1 < w3.heap.size := by omega
    clear hW4 hB3
    go_wp2_with fail
    rw [← HW4.out]
    refine (lholds_any m l x (.slice a1 m.vars.length c1) (.slice a2 m.cons.length c2) _ (HMW.out _ hB4)).mono ?_
    rintro e w5 ⟨rfl, hb5⟩
    rw [E1.out]
    clear g0 g1 g2 g3 d0 d1 d2 HW4 hB4
    obtain ⟨g0, g1, g2, g3, d0, d1, d2⟩ := HC.out _ (HT4.out _ hb5)
    obtain ⟨n0, n1, n2⟩ := HN.out _ hb5
    go_wp2_with fail
    refine (lholds_any m o x (.slice a1 m.vars.length c1) (.slice a2 m.cons.length c2) _ (HMW.out _ (HT4.out _ hb5))).mono ?_
    rintro e w6 ⟨rfl, hb6⟩
    rw [E2.out]
    have hB6 : Below W4.heap.size W4 w6 := hb5.trans (hb6.mono hb5.size)
    clear g0 g1 g2 g3 d0 d1 d2 n0 n1 n2 hb5 hb6 E1 E2
    obtain ⟨g0, g1, g2, g3, d0, d1, d2⟩ := HC.out _ (HT4.out _ hB6)
    obtain ⟨n0, n1, n2⟩ := HN.out _ hB6
    obtain ⟨A, HA⟩ : ∃ A, Hid (litV x l = A) := ⟨_, rfl⟩
    rw [HA.out]
    have HAB : Hid (∀ B : Bool, (B == !B) = false) := by intro B; cases B <;> rfl
    have hab := HAB.out A
    go_wp2_with fail
    refine (lput_any m s l (.slice a1 m.vars.length c1) (.slice a2 m.cons.length c2) _ _ (HMW.out _ (HT4.out _ hB6)) (HVW.out _ (HT4.out _ hB6))).mono ?_
    rintro e w7 ⟨xv, rfl, hx7, hb7⟩
    have hB7 : Below W4.heap.size W4 w7 := hB6.trans (hb7.mono hB6.size)
    clear g0 g1 g2 g3 d0 d1 d2 n0 n1 n2 hb7 hB6 hab HAB HA
    obtain ⟨g0, g1, g2, g3, d0, d1, d2⟩ := HC.out _ (HT4.out _ hB7)
    obtain ⟨n0, n1, n2⟩ := HN.out _ hB7
    have HX7 : Hid (∀ w' : World, Below w7.heap.size w7 w' → RArg w' xv (lputA m s l).1) := fun w' h => RArg.below h hx7
    obtain ⟨ax, cx, rfl, _, _⟩ := hx7
    go_wp2_with fail
    refine (lput_any m s o (.slice a1 m.vars.length c1) (.slice a2 m.cons.length c2) _ _ (HMW.out _ (HT4.out _ hB7)) (HVW.out _ (HT4.out _ hB7))).mono ?_
    rintro e w8 ⟨yv, rfl, hy8, hb8⟩
    have hB8 : Below W4.heap.size W4 w8 := hB7.trans (hb8.mono hB7.size)
    have HX8 : Hid (∀ w' : World, Below w8.heap.size w8 w' → RArg w' (.slice ax (lputA m s l).1.length cx) (lputA m s l).1) := fun w' h => HX7.out _ (hb8.trans (h.mono hb8.size))
    clear g0 g1 g2 g3 d0 d1 d2 n0 n1 n2 hb8 hB7 HX7
    obtain ⟨g0, g1, g2, g3, d0, d1, d2⟩ := HC.out _ (HT4.out _ hB8)
    obtain ⟨n0, n1, n2⟩ := HN.out _ hB8
    have HY8 : Hid (∀ w' : World, Below w8.heap.size w8 w' → RArg w' yv (lputA m s o).1) := fun w' h => RArg.below h hy8
    obtain ⟨ay, cy, rfl, _, _⟩ := hy8
    have L1 := linE_of m s l HP2.out
    have L2 := linE_of m s o HO2.out
    by_cases he : checkL m [s] = 0
    · have E1 : lputA m s l = (putS s l, 0) := by unfold lputA; rw [L1, if_pos he]
      have E2 : lputA m s o = (putS s o, 0) := by unfold lputA; rw [L2, if_pos he]
      rw [E1] at HX8 ⊢
      rw [E2] at HY8 ⊢
      obtain ⟨o3, o4⟩ := (checkL_one m s).1 he
      have hlen := ((checkV_ok _ _).1 o4).1
      have hil : i < s.length := by have := HIL.out; omega
      obtain ⟨r, hr⟩ : ∃ r, s[i]? = some r := ⟨s[i], by simp [hil]⟩
      have hr6 : r.length ≤ 6 := row_short m s o3 o4 i r hr
      have E3 : Hid (ltoldA m s l = (toldR r l, 0)) := by
        show _ = _
        unfold ltoldA rowOf
        rw [L1, if_pos he, HI.out, Int.toNat_natCast, List.getD_eq_getElem?_getD, hr]; rfl
      have E4 : Hid (ltoldA m s o = (toldR r o, 0)) := by
        show _ = _
        unfold ltoldA rowOf
        rw [L2, if_pos he, HOV.out, HI.out, Int.toNat_natCast, List.getD_eq_getElem?_getD, hr]; rfl
      have HPX : Hid ((putS s l)[i]? = some (r.filter fun z => litV z l)) := put_row s l i HI.out r hr
      have HPY : Hid ((putS s o)[i]? = some (r.filter fun z => litV z o)) := put_row s o i (HOV.out.trans HI.out) r hr
      have HLX : Hid ((putS s l).length = s.length) := siftS_len _ _
      have HLY : Hid ((putS s o).length = s.length) := siftS_len _ _
      have HR : Hid (s[i]? = some r) := hr
      simp only [] at HX8 HY8 ⊢
      rw [HLX.out] at HX8 ⊢
      rw [HLY.out] at HY8 ⊢
      clear L1 L2 he E1 E2 o3 o4 hlen hr HP2 HO2
      go_wp2_with fail
      refine (ltold_any m s l (.slice a1 m.vars.length c1) (.slice a2 m.cons.length c2) _ _ (HMW.out _ (HT4.out _ hB8)) (HVW.out _ (HT4.out _ hB8))).mono ?_
      rintro e w9 ⟨rfl, hb9⟩
      rw [E3.out]
      have hB9 : Below W4.heap.size W4 w9 := hB8.trans (hb9.mono hB8.size)
      clear g0 g1 g2 g3 d0 d1 d2 n0 n1 n2
      obtain ⟨g0, g1, g2, g3, d0, d1, d2⟩ := HC.out _ (HT4.out _ hB9)
      obtain ⟨n0, n1, n2⟩ := HN.out _ hB9
      go_wp2_with fail
      refine (ltold_any m s o (.slice a1 m.vars.length c1) (.slice a2 m.cons.length c2) _ _ (HMW.out _ (HT4.out _ hB9)) (HVW.out _ (HT4.out _ hB9))).mono ?_
      rintro e wa ⟨rfl, hba⟩
      rw [E4.out]
      have hBa : Below W4.heap.size W4 wa := hB9.trans (hba.mono hB9.size)
      have hBx : Below w8.heap.size w8 wa := hb9.trans (hba.mono hb9.size)
      clear g0 g1 g2 g3 d0 d1 d2 n0 n1 n2 hb9 hba
      obtain ⟨g0, g1, g2, g3, d0, d1, d2⟩ := HC.out _ (HT4.out _ hBa)
      rw [HI.out] at d0
      obtain ⟨bs, os, vs0, has, hbs, k0, hks⟩ := HV3.out i r HR.out
      obtain ⟨as5, cs5, rfl, _, _⟩ := hks
      obtain ⟨ax', cx', hvx, hmx, hrx⟩ := HX8.out _ hBx
      obtain ⟨bx, ox, vx0, hax, hbx, x0, hkx⟩ := hrx i _ HPX.out
      obtain ⟨ax5, cx5, rfl, _, _⟩ := hkx
      obtain ⟨ay', cy', hvy, hmy, hry⟩ := HY8.out _ hBx
      obtain ⟨by_, oy, vy0, hay, hby, y0, hky⟩ := hry i _ HPY.out
      obtain ⟨ay5, cy5, rfl, _, _⟩ := hky
      have hax2 : ax = some ⟨bx, ox, none⟩ := by injection hvx with e1; exact e1.trans hax
      have hay2 : ay = some ⟨by_, oy, none⟩ := by injection hvy with e1; exact e1.trans hay
      subst has; subst hax2; subst hay2
      have s0 := ((HT4.out _ hBa).cell (p := ⟨bs, os + i, none⟩) (by simp only; omega)).trans ((HBW.out.cell (p := ⟨bs, os + i, none⟩) hbs).trans k0)
      change wa.cell? _ = some (.slice ax5 (heldN r l) cx5) at x0
      change wa.cell? _ = some (.slice ay5 (heldN r o) cy5) at y0
      have hh := HHP.out r
      obtain ⟨j, hj⟩ : ∃ j, toldR r l = j := ⟨_, rfl⟩
      obtain ⟨k, hk⟩ : ∃ k, toldR r o = k := ⟨_, rfl⟩
      unfold toldR at hj hk
      obtain ⟨h, hh0⟩ : ∃ h, heldN r l = h := ⟨_, rfl⟩
      obtain ⟨h', hh1⟩ : ∃ h', heldN r o = h' := ⟨_, rfl⟩
      rw [hh0] at hh hj x0
      rw [hh1] at hh hk y0
      have hjk : (toldR r l = j) ∧ (toldR r o = k) := by
        unfold toldR; rw [hh0, hh1]; exact ⟨hj, hk⟩
      rw [hjk.1, hjk.2]
      obtain ⟨N, hN⟩ : ∃ N, r.length = N := ⟨_, rfl⟩
      rw [hN] at hh hj hk s0 hr6
      have hBe : Below w.heap.size w wa := HBW.out.trans ((HT4.out _ hBa).mono HBW.out.size)
      have hsum : ((h : Int) + (h' : Int) != (N : Int)) = false := by simp; omega
      clear hvx hrx hax hvy hry hay hmx hmy hjk hN hh0 hh1 HX8 HY8 HV3 HMW HVW HC HN HT4 HHP HOV HOV2 HI HIL HR HLX HLY HPX HPY E3 E4 hBx hBa hB9 hB8 k0
      have hil2 : (i : Int) < (s.length : Int) := by omega
      by_cases h0 : h = 0
      · subst h0
        rw [if_pos rfl] at hj
        subst hj
        obtain rfl : h' = N := by omega
        by_cases hN0 : h' = 0
        · subst hN0
          rw [if_pos rfl] at hk
          subst hk
          clear hh hsum
          go_wp2
          go_quiet (fail)
          go_wp2
          go_ret
          exact ⟨rfl, below_drewN hBe _⟩
        · rw [if_neg hN0, if_pos rfl] at hk
          subst hk
          have z0 : ((h' : Int) == 0) = false := by simpa using hN0
          clear hN0 hh
          go_wp2
          go_quiet (fail)
          go_wp2
          go_ret
          exact ⟨rfl, below_drewN hBe _⟩
      · by_cases h1 : h = N
        · subst h1
          obtain rfl : h' = 0 := by omega
          rw [if_neg h0, if_pos rfl] at hj
          rw [if_pos rfl] at hk
          subst hj; subst hk
          have z0 : ((h : Int) == 0) = false := by simpa using h0
          clear h0 hh
          go_wp2
          go_quiet (fail)
          go_wp2
          go_ret
          exact ⟨rfl, below_drewN hBe _⟩
        · rw [if_neg h0, if_neg h1] at hj
          rw [if_neg (by omega), if_neg (by omega)] at hk
          subst hj; subst hk
          have z0 : ((h : Int) == 0) = false := by simpa using h0
          have z1 : ((h' : Int) == 0) = false := by simp; omega
          have z2 : ((N : Int) == 0) = false := by simp; omega
          have hb1 : h ≤ 6 := by omega
          have hb2 : h' ≤ 6 := by omega
          clear h0 h1 hh
          go_wp2
          go_quiet (fail)
          go_wp2
          go_ret
          exact ⟨rfl, below_drewN hBe _⟩
    · have E1 : lputA m s l = ([], checkL m [s]) := by unfold lputA; rw [L1, if_neg he]
      have E2 : lputA m s o = ([], checkL m [s]) := by unfold lputA; rw [L2, if_neg he]
      rw [E1, E2]
      obtain ⟨ec, hec⟩ : ∃ ec, checkL m [s] = ec := ⟨_, rfl⟩
      rw [hec] at he ⊢
      have he2 : (ec != 0) = true := by simpa using he
      have hee : (ec == ec) = true := by simp
      have hBe : Below w.heap.size w w8 := HBW.out.trans ((HT4.out _ hB8).mono HBW.out.size)
      clear he hec L1 L2 E1 E2 HX8 HY8
      go_wp2
      go_ret
      exact ⟨rfl, hBe⟩
  · have hno := lnotA_bad m l hne
    obtain ⟨R, hR⟩ : ∃ R, lnotA m l = R := ⟨_, rfl⟩
    rw [hR] at hno hne ⊢
    obtain ⟨n, en⟩ := R
    simp only at hno hne ⊢
    subst hno
    have he2 : (en != 0) = true := by simpa using hne
    have hBe : Below w.heap.size w w3 := HBW.out.trans (hB3.mono HBW.out.size)
    clear hne hR
    unfold noLit
    go_wp2
    go_ret
    exact ⟨rfl, hBe.alloc hBe.size _⟩

theorem parts_own : ownKnob Try.prog.godebug = none := by kernel_rfl
theorem parts_laidOut : laidOutB Try.prog = true := by kernel_rfl
section
variable {H : Type} {enc : TypeId × Value → H} {w : World} {base : Nat} {spare : Nat → Bool} {held : Bool}
/-- A store that came in. -/
theorem open_store {fuel : Nat} {cs : List Value} {x : DataW H × List MemPlace} (h : DataW.trod enc Try.prog w base spare held fuel 27 cs = some x) :
    ∃ v l, cs = [v] ∧ RArg w v l := by
  obtain ⟨l, a, c, hcs, hm, hr⟩ := open_elems (α := Value × List Int) Try.underStore Try.cInts (by decide) (fun z => [z.1]) (fun z => IArg w z.1 z.2)
    (fun n cs' x' h' => by obtain ⟨v, r, hz, hi⟩ := open_ilist h'; exact ⟨(v, r), hz, hi⟩) h
  refine ⟨_, l.map (·.2), hcs, a, c, by simp, by simpa using hm, fun i r hr' => ?_⟩
  rw [List.getElem?_map] at hr'
  obtain ⟨⟨v, r2⟩, hz, rfl⟩ := Option.map_eq_some_iff.1 hr'
  obtain ⟨hg, b, off, ha, hb, hc⟩ := hr i _ hz
  have := hc 0 _ rfl
  exact ⟨b, off, v, ha, hb, by simpa using this, hg⟩
set_option maxRecDepth 100000 in
/-- A literal that came in by value. -/
theorem open_lit {r : Reach} {b0 : Nat} {v : Value} {d : DataW H} {p : List MemPlace} (hv : Value.okWide Try.prog w r b0 29 v) (h : DataW.Trod enc Try.prog w base spare held 29 v d p) :
    ∃ l : MLit, v = .agg #[.int .i64 l.var, .int .i64 l.op, .int .i64 l.n] := by
  obtain ⟨v0, v1, v2, y0, y1, y2, n, rfl, _, _, h0, h1, h2⟩ := Go.Joins.open_agg3 Try.underlying29 (by kernel_rfl) Try.cLit hv h
  obtain ⟨a, ha, _, _⟩ := DataW.trod_int Try.underlying3 h0
  obtain ⟨b, hb, _, _⟩ := DataW.trod_int Try.underlying3 h1
  obtain ⟨c, hc, _, _⟩ := DataW.trod_int Try.underlying3 h2
  cases ha; cases hb; cases hc
  exact ⟨⟨a, b, c⟩, rfl⟩
end

set_option maxHeartbeats 1600000 in
set_option maxRecDepth 100000 in
theorem parts_lifted (os : Os) (started : os.Started) (H : Type) (enc : TypeId × Value → H) :
    ReturnsInHanded {} Try.checked os 3 .any (Rows.litPartsSpec.pre6 enc Try.prog Try.f3 Rows.litPartsRow.domain false) (Rows.litPartsSpec.post enc Try.prog Try.f3 false true false false) := by
  refine returnsInHanded_of_change_sized (C := Try.checked) parts_own started (by kernel_rfl) Try.func3
    (ChangeSpec.witness6 (enc := enc) (C := Try.checked) false ⟨#[], #[.agg #[.slice none 0 0, .slice none 0 0, .int .i64 0, .int .i64 0], .slice none 0 0, .agg #[.int .i64 0, .int .i64 0, .int .i64 0], .int .i64 0], []⟩ 8 (by kernel_rfl) (by kernel_rfl) (by kernel_rfl) (by kernel_rfl)) ?_
  intro W base args ds gs before hval0 hW hcnd hsz0 _
  have hval : ∀ (j : Nat) t v, Try.f3.params[j]? = some t → args[j]? = some v → Value.okWide Try.prog W .any base t v := hval0
  have hW' := hW
  obtain ⟨p, q, hA0, hV, rfl, hfz, hnd⟩ := hW
  have hA : DataW.TrodAll enc Try.prog W 0 (fun _ => true) true Try.f3.params.toList args.toList ds p := hA0
  rw [Try.params3] at hA hval
  obtain ⟨v0, vs0, d0, ds0, p0, q0, hargs, rfl, rfl, h0, r0⟩ := trodAll_cons hA
  obtain ⟨v1, vs1, d1, ds1, p1, q1, rfl, rfl, rfl, h1, r1⟩ := trodAll_cons r0
  obtain ⟨v2, vs2, d2, ds2, p2, q2, rfl, rfl, rfl, h2, r2⟩ := trodAll_cons r1
  obtain ⟨v3, vs3, d3, ds3, p3, q3, rfl, rfl, rfl, h3, r3⟩ := trodAll_cons r2
  obtain ⟨rfl, rfl, rfl⟩ := trodAll_nil r3
  obtain rfl : args = #[v0, v1, v2, v3] := by cases args; simp_all
  obtain ⟨rfl, rfl⟩ := trodVars_none hV
  have k0 := h0
  have k1 := h1
  have k2 := h2
  have k3 := h3
  have lt0 : ∀ x ∈ p0, x.block < W.heap.size := by obtain ⟨m, hm⟩ := k0; exact DataW.trod_lt m _ _ _ hm
  have lt1 : ∀ x ∈ p1, x.block < W.heap.size := by obtain ⟨m, hm⟩ := k1; exact DataW.trod_lt m _ _ _ hm
  have lt2 : ∀ x ∈ p2, x.block < W.heap.size := by obtain ⟨m, hm⟩ := k2; exact DataW.trod_lt m _ _ _ hm
  have lt3 : ∀ x ∈ p3, x.block < W.heap.size := by obtain ⟨m, hm⟩ := k3; exact DataW.trod_lt m _ _ _ hm
  obtain ⟨vs, cs, m, rfl, hm⟩ := open_model (hval 0 25 v0 rfl rfl) h0
  obtain ⟨f1, hf1⟩ := h1
  obtain ⟨u1, s, e1, i1⟩ := open_store hf1
  obtain ⟨a1, n1, c1, rfl⟩ := okWide_slice Try.underStore (hval 1 27 v1 rfl rfl)
  obtain rfl : u1 = .slice a1 n1 c1 := by simpa [Value.cells] using e1.symm
  obtain ⟨l, rfl⟩ := open_lit (hval 2 29 v2 rfl rfl) h2
  obtain ⟨x, rfl⟩ := okWide_int Try.underlying3 (hval 3 3 v3 rfl rfl)
  clear hA0 hval0
  refine (parts_walk m s l x vs cs _ W hm i1).mono fun e W' ⟨he, bel⟩ => ?_
  subst he
  exact ⟨_, rfl, _, _, _, [], _, [], hW', trodAll_mk1 (shut_bool Try.underlying4 _),
    (trodAll_cons_mk (Below.trod parts_laidOut (by kernel_rfl) (of_decide_eq_true (by kernel_rfl)) k0 bel lt0)
      (trodAll_cons_mk (Below.trod parts_laidOut (by kernel_rfl) (of_decide_eq_true (by kernel_rfl)) k1 bel lt1)
        (trodAll_cons_mk (Below.trod parts_laidOut (by kernel_rfl) (of_decide_eq_true (by kernel_rfl)) k2 bel lt2)
          (trodAll_cons_mk (Below.trod parts_laidOut (by kernel_rfl) (of_decide_eq_true (by kernel_rfl)) k3 bel lt3) trodAll_mk0)))), rfl, bel.frame _, fun h => by cases h⟩

theorem litParts_holds : Rows.LitPartsSaid :=
  OpenClaim.holds_of_wide 3 Try.f3 rfl rfl rfl rfl rfl rfl rfl ⟨rfl, rfl, rfl, rfl, rfl⟩ rfl rfl rfl rfl rfl (by kernel_rfl) Try.func3 (by kernel_rfl)
    (of_decide_eq_true (by kernel_rfl)) (by unfold Func.isWrapper; first | (rw [if_pos (by decide +kernel)]; kernel_rfl) | (rw [if_neg (by decide +kernel)]; exact ⟨rfl, rfl⟩))
    (fun os started H enc _ => parts_lifted os started H enc)
#print axioms litParts_holds
end Go.Proofs.Ytggkbhafbhhhhac
