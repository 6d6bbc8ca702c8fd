/-
  ClauseKeeps is true at every input: no values of which the clause holds are lost by Unit, none of which it does not by Deny, and Deny leaves none of which it does. No condition.
-/
import Derived.Test.YtggkbhafbhhhhacRows
import Derived.Test.YtggkbhafbhhhhacClaB
import Derived.Test.YtggkbhafbhhhhacOpnA
import Derived.Test.YtggkbhafbhhhhacRefB
namespace Go.Proofs.Ytggkbhafbhhhhac
open Go.ChangeShapes Go.WideShapes Go.ChangeAt Go.RowKit Go.Deep

set_option maxHeartbeats 3200000 in
set_option maxRecDepth 100000 in
theorem ckeeps_walk (m : Mod) (s : Sto) (c : Cla) (vals : List Int) (vs cs v u y : Value) (w : World) (hm : MArg w vs cs m) (hv : RArg w v s) (hu : LArg w u c) (hy : IArg w y vals) :
    Calls Try.prog 6 #[modV vs cs m, v, u, y] w fun e w' => e = .returned (.bool true) ∧ Below w.heap.size w w' := by
  have HMA : Hid (∀ w' : World, Below w.heap.size w w' → MArg w' vs cs m) := fun w' h => MArg.below h hm
  have HVA : Hid (∀ w' : World, Below w.heap.size w w' → RArg w' v s) := fun w' h => RArg.below h hv
  have HUA : Hid (∀ w' : World, Below w.heap.size w w' → LArg w' u c) := fun w' h => LArg.below h hu
  have HYA : Hid (∀ w' : World, Below w.heap.size w w' → IArg w' y vals) := fun w' h => IArg.below h hy
  obtain ⟨⟨a1, c1, rfl, _, _⟩, ⟨a2, c2, rfl, _, _⟩⟩ := hm
  obtain ⟨a3, c3, rfl, _, _⟩ := hv
  obtain ⟨a4, c4, rfl, _, _⟩ := hu
  obtain ⟨a5, c5, rfl, _, _⟩ := hy
  obtain ⟨W, hW⟩ : ∃ W : World, W = w.alloc (.cells #[.slice a1 m.vars.length c1, .slice a2 m.cons.length c2, .int .i64 m.goal, .int .i64 m.var] 25) := ⟨_, rfl⟩
  have HW : Hid (W = w.alloc (.cells #[.slice a1 m.vars.length c1, .slice a2 m.cons.length c2, .int .i64 m.goal, .int .i64 m.var] 25)) := hW
  have HBW : Hid (Below w.heap.size w W) := by rw [hW]; exact below_alloc _ _
  have hsW : w.heap.size < W.heap.size := by rw [hW]; simp
  have HC : Hid (∀ w' : World, Below W.heap.size W w' → w'.cell? ⟨w.heap.size, 0, none⟩ = some (.slice a1 m.vars.length c1) ∧ w'.cell? ⟨w.heap.size, 1, none⟩ = some (.slice a2 m.cons.length c2) ∧ w'.cell? ⟨w.heap.size, 2, none⟩ = some (.int .i64 m.goal) ∧ w'.cell? ⟨w.heap.size, 3, none⟩ = some (.int .i64 m.var)) := by
    intro w' h
    refine ⟨?_, ?_, ?_, ?_⟩
    all_goals (refine (h.cell hsW).trans ?_; rw [hW]; simp)
  have HMW : Hid (∀ w' : World, Below W.heap.size W w' → MArg w' (.slice a1 m.vars.length c1) (.slice a2 m.cons.length c2) m) := fun w' h => HMA.out _ (HBW.out.trans (h.mono (by omega)))
  have HVW : Hid (∀ w' : World, Below W.heap.size W w' → RArg w' (.slice a3 s.length c3) s) := fun w' h => HVA.out _ (HBW.out.trans (h.mono (by omega)))
  have HUW : Hid (∀ w' : World, Below W.heap.size W w' → LArg w' (.slice a4 c.length c4) c) := fun w' h => HUA.out _ (HBW.out.trans (h.mono (by omega)))
  have HYW : Hid (∀ w' : World, Below W.heap.size W w' → IArg w' (.slice a5 vals.length c5) vals) := fun w' h => HYA.out _ (HBW.out.trans (h.mono (by omega)))
  have hmv : modV (.slice a1 m.vars.length c1) (.slice a2 m.cons.length c2) m = .agg #[.slice a1 m.vars.length c1, .slice a2 m.cons.length c2, .int .i64 m.goal, .int .i64 m.var] := rfl
  rw [hmv]
  clear hmv hW HMA HVA HUA HYA
  obtain ⟨T, hT⟩ : ∃ T, (cunitA m s c).1 = T := ⟨_, rfl⟩
  obtain ⟨D, hD⟩ : ∃ D, (cdenyA m s c).1 = D := ⟨_, rfl⟩
  obtain ⟨er, her⟩ : ∃ er, cinE m s c = er := ⟨_, rfl⟩
  have HT0 : Hid ((cunitA m s c).1 = T ∧ (cunitA m s c).2 = er) := ⟨hT, by unfold cunitA; rw [her]; split <;> simp_all⟩
  have HD0 : Hid ((cdenyA m s c).1 = D ∧ (cdenyA m s c).2 = er) := ⟨hD, by unfold cdenyA; rw [her]; split <;> simp_all⟩
  have HBAD : Hid (er ≠ 0 → T = [] ∧ D = []) := by
    intro h
    rw [← hT, ← hD]
    unfold cunitA cdenyA
    rw [her, if_neg h, if_neg h]
    exact ⟨rfl, rfl⟩
  have HOK : Hid (er = 0 → ∀ ok, choldsA m c vals = (ok, 0) → hasS s vals = true → (ok = true → hasS T vals = true) ∧ hasS D vals = !ok) := by
    intro h ok hok hs
    obtain ⟨o1, o2⟩ := cinE_ok m s c (her.trans h)
    obtain ⟨o3, o4⟩ := (checkL_one m s).1 o1
    have hci : ClaIn s c := by intro l hl; rw [((checkV_ok _ _).1 o4).1]; exact claE_fine _ _ o2 l hl
    have hB : ok = claB c vals := by
      unfold choldsA at hok
      split at hok
      · split at hok
        · cases hok; rfl
        · cases hok
      · rename_i hne
        exact absurd (congrArg Prod.snd hok) hne
    rw [← hT, ← hD]
    unfold cunitA cdenyA
    rw [her, if_pos h, if_pos h, hB]
    exact ⟨fun hk => unit_keeps s c hci vals hs hk, deny_has s c hci vals hs⟩
  clear hT hD her
  go_enter Try.func6, Try.ntmps6
  go_wp2_with fail
  rw [← HW.out]
  clear HW
  refine (cunit_any m s c (.slice a1 m.vars.length c1) (.slice a2 m.cons.length c2) _ _ _ (HMW.out _ (Below.refl _ _)) (HVW.out _ (Below.refl _ _)) (HUW.out _ (Below.refl _ _))).mono ?_
  rintro e w1 ⟨tv, rfl, ht, hb1⟩
  rw [HT0.out.1] at ht
  rw [HT0.out.2]
  have HT1 : Hid (∀ w' : World, Below w1.heap.size w1 w' → RArg w' tv T) := fun w' h => RArg.below h ht
  have HB1 : Hid (Below W.heap.size W w1) := hb1
  obtain ⟨at_, ct, rfl, _, _⟩ := ht
  obtain ⟨g0, g1, g2, g3⟩ := HC.out _ hb1
  clear hb1 HT0
  go_wp2_with fail
  refine (cdeny_any m s c (.slice a1 m.vars.length c1) (.slice a2 m.cons.length c2) _ _ _ (HMW.out _ HB1.out) (HVW.out _ HB1.out) (HUW.out _ HB1.out)).mono ?_
  rintro e w2 ⟨dv, rfl, hd, hb2⟩
  rw [HD0.out.1] at hd
  rw [HD0.out.2]
  have HD1 : Hid (∀ w' : World, Below w2.heap.size w2 w' → RArg w' dv D) := fun w' h => RArg.below h hd
  have HB12 : Hid (Below w1.heap.size w1 w2) := hb2
  obtain ⟨ad, cd, rfl, _, _⟩ := hd
  clear hb2 HD0 g0 g1 g2 g3
  go_wp2_with fail
  refine (begun_clause _).mono ?_
  rintro e w3 ⟨rfl, hb3⟩
  have HB23 : Hid (Below w2.heap.size w2 w3) := hb3
  have HB13 : Hid (Below w1.heap.size w1 w3) := HB12.out.trans (hb3.mono HB12.out.size)
  have HB3 : Hid (Below W.heap.size W w3) := HB1.out.trans (HB13.out.mono HB1.out.size)
  clear hb3 HB12
  by_cases he : er = 0
  · subst he
    have HOK2 := HOK.out rfl
    have HOKH : Hid (∀ ok, choldsA m c vals = (ok, 0) → hasS s vals = true → (ok = true → hasS T vals = true) ∧ hasS D vals = !ok) := HOK2
    clear HOK HBAD HOK2
    obtain ⟨ok, hok⟩ : ∃ ok, (choldsA m c vals).1 = ok := ⟨_, rfl⟩
    obtain ⟨e2, he2⟩ : ∃ e2, (choldsA m c vals).2 = e2 := ⟨_, rfl⟩
    have HH : Hid (choldsA m c vals = (ok, e2)) := Prod.ext hok he2
    clear hok he2
    obtain ⟨g0, g1, g2, g3⟩ := HC.out _ HB3.out
    go_wp2_with fail
    refine (cholds_any m c vals (.slice a1 m.vars.length c1) (.slice a2 m.cons.length c2) _ _ _ (HMW.out _ HB3.out) (HUW.out _ HB3.out) (HYW.out _ HB3.out)).mono ?_
    rintro e w4 ⟨rfl, hb4⟩
    rw [HH.out]
    have HB4 : Hid (Below W.heap.size W w4) := HB3.out.trans (hb4.mono HB3.out.size)
    have HB14 : Hid (Below w1.heap.size w1 w4) := HB13.out.trans (hb4.mono HB13.out.size)
    have HB24 : Hid (Below w2.heap.size w2 w4) := HB23.out.trans (hb4.mono HB23.out.size)
    have HBe : Hid (Below w.heap.size w w4) := HBW.out.trans (HB4.out.mono (by omega))
    clear g0 g1 g2 g3 hb4
    by_cases h2 : e2 = 0
    · subst h2
      have HOK3 : Hid (hasS s vals = true → (ok = true → hasS T vals = true) ∧ hasS D vals = !ok) := HOKH.out ok HH.out
      clear HOKH HH
      go_wp2_with fail
      refine (has_any s vals _ _ _ (HVW.out _ HB4.out) (HYW.out _ HB4.out)).mono ?_
      rintro e w5 ⟨rfl, n5, h5⟩
      have HB5 : Hid (Below w4.heap.size w4 w5) := draws_below h5
      clear h5
      cases hs : hasS s vals
      · clear hs
        go_wp2
        go_ret
        exact ⟨rfl, HBe.out.trans (HB5.out.mono HBe.out.size)⟩
      · have HK : Hid ((ok = true → hasS T vals = true) ∧ hasS D vals = !ok) := HOK3.out hs
        have HBe5 : Hid (Below w.heap.size w w5) := HBe.out.trans (HB5.out.mono HBe.out.size)
        have HB15 : Hid (Below w1.heap.size w1 w5) := HB14.out.trans (HB5.out.mono HB14.out.size)
        have HB25 : Hid (Below w2.heap.size w2 w5) := HB24.out.trans (HB5.out.mono HB24.out.size)
        have HBW5 : Hid (Below W.heap.size W w5) := HB4.out.trans (HB5.out.mono HB4.out.size)
        clear hs HOK3
        cases ok
        · have HK2 : Hid (hasS D vals = true) := HK.out.2
          go_wp2_with fail
          refine (has_any D vals _ _ _ (HD1.out _ HB25.out) (HYW.out _ HBW5.out)).mono ?_
          rintro e w6 ⟨rfl, n6, h6⟩
          rw [HK2.out]
          have hB6 : Below w.heap.size w w6 := HBe5.out.trans ((draws_below h6).mono HBe5.out.size)
          clear h6
          go_wp2
          go_ret
          exact ⟨rfl, hB6⟩
        · have HK1 : Hid (hasS T vals = true) := HK.out.1 rfl
          have HK2 : Hid (hasS D vals = false) := HK.out.2
          go_wp2_with fail
          refine (has_any T vals _ _ _ (HT1.out _ HB15.out) (HYW.out _ HBW5.out)).mono ?_
          rintro e w6 ⟨rfl, n6, h6⟩
          rw [HK1.out]
          have HB6 : Hid (Below w5.heap.size w5 w6) := draws_below h6
          clear h6
          go_wp2_with fail
          refine (has_any D vals _ _ _ (HD1.out _ (HB25.out.trans (HB6.out.mono HB25.out.size))) (HYW.out _ (HBW5.out.trans (HB6.out.mono HBW5.out.size)))).mono ?_
          rintro e w7 ⟨rfl, n7, h7⟩
          rw [HK2.out]
          have hB7 : Below w.heap.size w w7 := HBe5.out.trans ((HB6.out.trans ((draws_below h7).mono HB6.out.size)).mono HBe5.out.size)
          clear h7
          go_wp2
          go_ret
          exact ⟨rfl, hB7⟩
    · have g0 : (e2 != 0) = true := by simpa using h2
      clear h2
      go_wp2
      go_ret
      exact ⟨rfl, HBe.out⟩
  · obtain ⟨h1, h2⟩ := HBAD.out he
    subst h1
    subst h2
    have he2 : (er != 0) = true := by simpa using he
    have hBe : Below w.heap.size w w3 := HBW.out.trans (HB3.out.mono (by omega))
    have he3 : (er == er) = true := by simp
    clear he
    go_wp2
    go_ret
    exact ⟨rfl, hBe⟩

theorem ckeeps_own : ownKnob Try.prog.godebug = none := by kernel_rfl
theorem ckeeps_laidOut : laidOutB Try.prog = true := by kernel_rfl

set_option maxHeartbeats 1600000 in
set_option maxRecDepth 100000 in
theorem ckeeps_lifted (os : Os) (started : os.Started) (H : Type) (enc : TypeId × Value → H) :
    ReturnsInHanded {} Try.checked os 6 .any (Rows.clauseKeepsSpec.pre6 enc Try.prog Try.f6 Rows.clauseKeepsRow.domain false) (Rows.clauseKeepsSpec.post enc Try.prog Try.f6 false true false false) := by
  refine returnsInHanded_of_change_sized (C := Try.checked) ckeeps_own started (by kernel_rfl) Try.func6
    (ChangeSpec.witness6 (enc := enc) (C := Try.checked) false ⟨#[], #[.agg #[.slice none 0 0, .slice none 0 0, .int .i64 0, .int .i64 0], .slice none 0 0, .slice none 0 0, .slice none 0 0], []⟩ 8 (by kernel_rfl) (by kernel_rfl) (by kernel_rfl) (by kernel_rfl)) ?_
  intro W base args ds gs before hval0 hW hcnd hsz0 _
  have hval : ∀ (j : Nat) t v, Try.f6.params[j]? = some t → args[j]? = some v → Value.okWide Try.prog W .any base t v := hval0
  have hW' := hW
  obtain ⟨p, q, hA0, hV, rfl, hfz, hnd⟩ := hW
  have hA : DataW.TrodAll enc Try.prog W 0 (fun _ => true) true Try.f6.params.toList args.toList ds p := hA0
  rw [Try.params6] at hA hval
  obtain ⟨v0, vs0, d0, ds0, p0, q0, hargs, rfl, rfl, h0, r0⟩ := trodAll_cons hA
  obtain ⟨v1, vs1, d1, ds1, p1, q1, rfl, rfl, rfl, h1, r1⟩ := trodAll_cons r0
  obtain ⟨v2, vs2, d2, ds2, p2, q2, rfl, rfl, rfl, h2, r2⟩ := trodAll_cons r1
  obtain ⟨v3, vs3, d3, ds3, p3, q3, rfl, rfl, rfl, h3, r3⟩ := trodAll_cons r2
  obtain ⟨rfl, rfl, rfl⟩ := trodAll_nil r3
  obtain rfl : args = #[v0, v1, v2, v3] := by cases args; simp_all
  obtain ⟨rfl, rfl⟩ := trodVars_none hV
  have k0 := h0
  have k1 := h1
  have k2 := h2
  have k3 := h3
  have lt0 : ∀ x ∈ p0, x.block < W.heap.size := by obtain ⟨m, hm⟩ := k0; exact DataW.trod_lt m _ _ _ hm
  have lt1 : ∀ x ∈ p1, x.block < W.heap.size := by obtain ⟨m, hm⟩ := k1; exact DataW.trod_lt m _ _ _ hm
  have lt2 : ∀ x ∈ p2, x.block < W.heap.size := by obtain ⟨m, hm⟩ := k2; exact DataW.trod_lt m _ _ _ hm
  have lt3 : ∀ x ∈ p3, x.block < W.heap.size := by obtain ⟨m, hm⟩ := k3; exact DataW.trod_lt m _ _ _ hm
  obtain ⟨vs, cs, m, rfl, hm⟩ := open_model (hval 0 25 v0 rfl rfl) h0
  obtain ⟨f1, hf1⟩ := h1
  obtain ⟨u1, s, e1, i1⟩ := open_store hf1
  obtain ⟨a1, n1, c1, rfl⟩ := okWide_slice Try.underStore (hval 1 27 v1 rfl rfl)
  obtain rfl : u1 = .slice a1 n1 c1 := by simpa [Value.cells] using e1.symm
  obtain ⟨f2, hf2⟩ := h2
  obtain ⟨u2, c, e2, i2⟩ := open_cla hf2
  obtain ⟨a2, n2, c2, rfl⟩ := okWide_slice Try.underClause (hval 2 49 v2 rfl rfl)
  obtain rfl : u2 = .slice a2 n2 c2 := by simpa [Value.cells] using e2.symm
  obtain ⟨f3, hf3⟩ := h3
  obtain ⟨u3, u, e3, i3⟩ := open_ilist hf3
  obtain ⟨a3, n3, c3, rfl⟩ := okWide_slice Try.underlying40 (hval 3 40 v3 rfl rfl)
  obtain rfl : u3 = .slice a3 n3 c3 := by simpa [Value.cells] using e3.symm
  clear hA0 hval0
  refine (ckeeps_walk m s c u vs cs _ _ _ W hm i1 i2 i3).mono fun e W' ⟨he, bel⟩ => ?_
  subst he
  exact ⟨_, rfl, _, _, _, [], _, [], hW', trodAll_mk1 (shut_bool Try.underlying4 _),
    (trodAll_cons_mk (Below.trod ckeeps_laidOut (by kernel_rfl) (of_decide_eq_true (by kernel_rfl)) k0 bel lt0)
      (trodAll_cons_mk (Below.trod ckeeps_laidOut (by kernel_rfl) (of_decide_eq_true (by kernel_rfl)) k1 bel lt1)
        (trodAll_cons_mk (Below.trod ckeeps_laidOut (by kernel_rfl) (of_decide_eq_true (by kernel_rfl)) k2 bel lt2)
          (trodAll_cons_mk (Below.trod ckeeps_laidOut (by kernel_rfl) (of_decide_eq_true (by kernel_rfl)) k3 bel lt3) trodAll_mk0)))), rfl, bel.frame _, fun h => by cases h⟩

theorem clauseKeeps_holds : Rows.ClauseKeepsSaid :=
  OpenClaim.holds_of_wide 6 Try.f6 rfl rfl rfl rfl rfl rfl rfl ⟨rfl, rfl, rfl, rfl, rfl⟩ rfl rfl rfl rfl rfl (by kernel_rfl) Try.func6 (by kernel_rfl)
    (of_decide_eq_true (by kernel_rfl)) (by unfold Func.isWrapper; first | (rw [if_pos (by decide +kernel)]; kernel_rfl) | (rw [if_neg (by decide +kernel)]; exact ⟨rfl, rfl⟩))
    (fun os started H enc _ => ckeeps_lifted os started H enc)
#print axioms clauseKeeps_holds
end Go.Proofs.Ytggkbhafbhhhhac
