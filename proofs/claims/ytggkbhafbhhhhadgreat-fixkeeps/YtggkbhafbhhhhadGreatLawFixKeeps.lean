/-
  FixKeeps is true at every input: no values of which all of it holds are lost. No condition.
-/
import Derived.Test.YtggkbhafbhhhhadGreatPartG
import Derived.Test.YtggkbhafbhhhhadGreatRows
namespace Go.Proofs.YtggkbhafbhhhhadGreat
open Go.ChangeShapes Go.WideShapes Go.ChangeAt Go.RowKit Go.Deep

theorem allA_cons (m : Mod) (vals : List Int) (h : allA m vals = (true, 0)) : ∀ c ∈ m.cons, holdsC c vals = true := by
  unfold allA at h
  split at h
  · split at h
    · have h1 := congrArg Prod.fst h
      simp only [Bool.and_eq_true] at h1
      exact List.all_eq_true.1 h1.2
    · cases h
  · cases h

set_option maxHeartbeats 3200000 in
set_option maxRecDepth 100000 in
theorem fkeeps_walk (m : Mod) (s : Sto) (l : List Cla) (vals : List Int) (vs cs v u y : Value) (w : World) (hm : MArg w vs cs m) (hv : RArg w v s) (hu : LLArg w u l) (hy : IArg w y vals) :
    Calls Tryz.prog 4 #[modV vs cs m, v, u, y] w fun e w' => e = .returned (.bool true) ∧ Below w.heap.size w w' := by
  have HMA : Hid (∀ w' : World, Below w.heap.size w w' → MArg w' vs cs m) := fun w' h => MArg.below h hm
  have HVA : Hid (∀ w' : World, Below w.heap.size w w' → RArg w' v s) := fun w' h => RArg.below h hv
  have HUA : Hid (∀ w' : World, Below w.heap.size w w' → LLArg w' u l) := fun w' h => LLArg.below h hu
  have HYA : Hid (∀ w' : World, Below w.heap.size w w' → IArg w' y vals) := fun w' h => IArg.below h hy
  obtain ⟨⟨a1, c1, rfl, _, _⟩, ⟨a2, c2, rfl, _, _⟩⟩ := hm
  obtain ⟨a3, c3, rfl, _, _⟩ := hv
  obtain ⟨a4, c4, rfl, _, _⟩ := hu
  obtain ⟨a5, c5, rfl, _, _⟩ := hy
  obtain ⟨W, hW⟩ : ∃ W : World, W = w.alloc (.cells #[.slice a1 m.vars.length c1, .slice a2 m.cons.length c2, .int .i64 m.goal, .int .i64 m.var] 25) := ⟨_, rfl⟩
  have HW : Hid (W = w.alloc (.cells #[.slice a1 m.vars.length c1, .slice a2 m.cons.length c2, .int .i64 m.goal, .int .i64 m.var] 25)) := hW
  have HBW : Hid (Below w.heap.size w W) := by rw [hW]; exact below_alloc _ _
  have hsW : w.heap.size < W.heap.size := by rw [hW]; simp
  have HC : Hid (∀ w' : World, Below W.heap.size W w' → w'.cell? ⟨w.heap.size, 0, none⟩ = some (.slice a1 m.vars.length c1) ∧ w'.cell? ⟨w.heap.size, 1, none⟩ = some (.slice a2 m.cons.length c2) ∧ w'.cell? ⟨w.heap.size, 2, none⟩ = some (.int .i64 m.goal) ∧ w'.cell? ⟨w.heap.size, 3, none⟩ = some (.int .i64 m.var)) := by
    intro w' h
    refine ⟨?_, ?_, ?_, ?_⟩
    all_goals (refine (h.cell hsW).trans ?_; rw [hW]; simp)
  have HMW : Hid (∀ w' : World, Below W.heap.size W w' → MArg w' (.slice a1 m.vars.length c1) (.slice a2 m.cons.length c2) m) := fun w' h => HMA.out _ (HBW.out.trans (h.mono (by omega)))
  have HVW : Hid (∀ w' : World, Below W.heap.size W w' → RArg w' (.slice a3 s.length c3) s) := fun w' h => HVA.out _ (HBW.out.trans (h.mono (by omega)))
  have HUW : Hid (∀ w' : World, Below W.heap.size W w' → LLArg w' (.slice a4 l.length c4) l) := fun w' h => HUA.out _ (HBW.out.trans (h.mono (by omega)))
  have HYW : Hid (∀ w' : World, Below W.heap.size W w' → IArg w' (.slice a5 vals.length c5) vals) := fun w' h => HYA.out _ (HBW.out.trans (h.mono (by omega)))
  have hmv : modV (.slice a1 m.vars.length c1) (.slice a2 m.cons.length c2) m = .agg #[.slice a1 m.vars.length c1, .slice a2 m.cons.length c2, .int .i64 m.goal, .int .i64 m.var] := rfl
  rw [hmv]
  clear hmv hW HMA HVA HUA HYA
  go_enter Tryz.func4, Tryz.ntmps4
  go_wp2_with fail
  rw [← HW.out]
  clear HW
  refine (fboth_any m s l (.slice a1 m.vars.length c1) (.slice a2 m.cons.length c2) _ _ _ (HMW.out _ (Below.refl _ _)) (HVW.out _ (Below.refl _ _)) (HUW.out _ (Below.refl _ _))).mono ?_
  rintro e w1 ⟨tv, er, t, rfl, ht, hf, hb1⟩
  have HT1 : Hid (∀ w' : World, Below w1.heap.size w1 w' → RArg w' tv t) := fun w' h => RArg.below h ht
  have HF : Hid (FixR (bothE m s l) (bothSteps m l) m.vars s t er) := hf
  obtain ⟨at_, ct, rfl, _, _⟩ := ht
  clear hf
  go_wp2_with fail
  refine (begun_fix _).mono ?_
  rintro e w2 ⟨rfl, hb2⟩
  go_wp2_with fail
  refine (begun_model _).mono ?_
  rintro e w3 ⟨rfl, hb3⟩
  go_wp2_with fail
  refine (begun_clause _).mono ?_
  rintro e w4 ⟨rfl, hb4⟩
  have hB14 : Below w1.heap.size w1 w4 := hb2.trans ((hb3.trans (hb4.mono hb3.size)).mono hb2.size)
  have hB4 : Below W.heap.size W w4 := hb1.trans (hB14.mono hb1.size)
  have HB14 : Hid (Below w1.heap.size w1 w4) := hB14
  clear hb1 hb2 hb3 hb4 hB14
  by_cases hc : bothE m s l = 0
  · obtain ⟨rfl, hg, hcv⟩ := HF.out.2 hc
    obtain ⟨o0, o3⟩ := bothE_ok m s l hc
    obtain ⟨o1, o2⟩ := (checkL_one m s).1 o0
    have HKE : Hid (allA m vals = (true, 0) → hasS s vals = true → l.all (okB m vals) = true → hasS t vals = true) := by
      intro h1 h2 h3
      exact both_keeps m l s t o1 o2 o3 hg vals h2 (allA_cons m vals h1) (fun c hcl => okB_claB m vals c (List.all_eq_true.1 h3 c hcl))
    obtain ⟨ok, hok⟩ : ∃ ok, (allA m vals).1 = ok := ⟨_, rfl⟩
    obtain ⟨e2, he2⟩ : ∃ e2, (allA m vals).2 = e2 := ⟨_, rfl⟩
    have HH : Hid (allA m vals = (ok, e2)) := Prod.ext hok he2
    clear hc hg hcv o0 o1 o2 o3 hok he2 HF
    obtain ⟨g0, g1, g2, g3⟩ := HC.out _ hB4
    go_wp2_with fail
    refine (mall_any m vals (.slice a1 m.vars.length c1) (.slice a2 m.cons.length c2) _ _ (HMW.out _ hB4) (HYW.out _ hB4)).mono ?_
    rintro e w5 ⟨rfl, hb5⟩
    rw [HH.out]
    have HB5 : Hid (Below W.heap.size W w5) := hB4.trans (hb5.mono hB4.size)
    have HB15 : Hid (Below w1.heap.size w1 w5) := HB14.out.trans (hb5.mono HB14.out.size)
    have HBe : Hid (Below w.heap.size w w5) := HBW.out.trans (HB5.out.mono (by omega))
    clear g0 g1 g2 g3 hb5 hB4
    by_cases h2 : e2 = 0
    · subst h2
      cases ok
      · go_wp2
        go_ret
        exact ⟨rfl, HBe.out⟩
      · have HKE2 : Hid (hasS s vals = true → l.all (okB m vals) = true → hasS t vals = true) := HKE.out HH.out
        go_wp2_with fail
        refine (has_any s vals _ _ _ (HVW.out _ HB5.out) (HYW.out _ HB5.out)).mono ?_
        rintro e w6 ⟨rfl, n6, h6⟩
        have HB56 : Hid (Below w5.heap.size w5 w6) := draws_below h6
        have HB6 : Hid (Below W.heap.size W w6) := HB5.out.trans (HB56.out.mono HB5.out.size)
        have HB16 : Hid (Below w1.heap.size w1 w6) := HB15.out.trans (HB56.out.mono HB15.out.size)
        have HBe6 : Hid (Below w.heap.size w w6) := HBW.out.trans (HB6.out.mono (by omega))
        clear h6
        cases hs : hasS s vals
        · clear hs
          go_wp2
          go_ret
          exact ⟨rfl, HBe6.out⟩
        · have HKE3 : Hid (l.all (okB m vals) = true → hasS t vals = true) := HKE2.out hs
          clear hs HKE2
          obtain ⟨g0, g1, g2, g3⟩ := HC.out _ HB6.out
          go_wp2_with fail
          refine (show Calls Tryz.prog 18 #[.agg #[.slice a1 m.vars.length c1, .slice a2 m.cons.length c2, .int .i64 m.goal, .int .i64 m.var], .slice a4 l.length c4, .slice a5 vals.length c5] w6 _ from allcla_any m l vals (.slice a1 m.vars.length c1) (.slice a2 m.cons.length c2) _ _ _ (HMW.out _ HB6.out) (HUW.out _ HB6.out) (HYW.out _ HB6.out)).mono ?_
          rintro e w7 ⟨rfl, hb7⟩
          have HB7 : Hid (Below W.heap.size W w7) := HB6.out.trans (hb7.mono HB6.out.size)
          have HB17 : Hid (Below w1.heap.size w1 w7) := HB16.out.trans (hb7.mono HB16.out.size)
          have HBe7 : Hid (Below w.heap.size w w7) := HBW.out.trans (HB7.out.mono (by omega))
          clear hb7 g0 g1 g2 g3
          cases ha : l.all (okB m vals)
          · clear ha
            go_wp2
            go_ret
            exact ⟨rfl, HBe7.out⟩
          · have HK : Hid (hasS t vals = true) := HKE3.out ha
            clear ha HKE3
            go_wp2_with fail
            refine (has_any t vals _ _ _ (HT1.out _ HB17.out) (HYW.out _ HB7.out)).mono ?_
            rintro e w8 ⟨rfl, n8, h8⟩
            rw [HK.out]
            have hB8 : Below w.heap.size w w8 := HBe7.out.trans ((draws_below h8).mono HBe7.out.size)
            clear h8
            go_wp2
            go_ret
            exact ⟨rfl, hB8⟩
    · have g0 : (e2 != 0) = true := by simpa using h2
      clear h2
      go_wp2
      go_ret
      exact ⟨rfl, HBe.out⟩
  · obtain ⟨h1, h2⟩ := HF.out.1 hc
    subst h1
    subst h2
    have he2 : (bothE m s l != 0) = true := by simpa using hc
    have hBe : Below w.heap.size w w4 := HBW.out.trans (hB4.mono (by omega))
    clear hc HF
    go_wp2
    go_ret
    exact ⟨rfl, hBe⟩

theorem fixkeeps_own : ownKnob Tryz.prog.godebug = none := by kernel_rfl
theorem fixkeeps_laidOut : laidOutB Tryz.prog = true := by kernel_rfl

set_option maxHeartbeats 1600000 in
set_option maxRecDepth 100000 in
theorem fixkeeps_lifted (os : Os) (started : os.Started) (H : Type) (enc : TypeId × Value → H) :
    ReturnsInHanded {} Tryz.checked os 4 .any (Rows.fixKeepsSpec.pre6 enc Tryz.prog Tryz.f4 Rows.fixKeepsRow.domain false) (Rows.fixKeepsSpec.post enc Tryz.prog Tryz.f4 false true false false) := by
  refine returnsInHanded_of_change_sized (C := Tryz.checked) fixkeeps_own started (by kernel_rfl) Tryz.func4
    (ChangeSpec.witness6 (enc := enc) (C := Tryz.checked) false ⟨#[], #[.agg #[.slice none 0 0, .slice none 0 0, .int .i64 0, .int .i64 0], .slice none 0 0, .slice none 0 0, .slice none 0 0], []⟩ 8 (by kernel_rfl) (by kernel_rfl) (by kernel_rfl) (by kernel_rfl)) ?_
  intro W base args ds gs before hval0 hW hcnd hsz0 _
  have hval : ∀ (j : Nat) t v, Tryz.f4.params[j]? = some t → args[j]? = some v → Value.okWide Tryz.prog W .any base t v := hval0
  have hW' := hW
  obtain ⟨p, q, hA0, hV, rfl, hfz, hnd⟩ := hW
  have hA : DataW.TrodAll enc Tryz.prog W 0 (fun _ => true) true Tryz.f4.params.toList args.toList ds p := hA0
  rw [Tryz.params4] at hA hval
  obtain ⟨v0, vs0, d0, ds0, p0, q0, hargs, rfl, rfl, h0, r0⟩ := trodAll_cons hA
  obtain ⟨v1, vs1, d1, ds1, p1, q1, rfl, rfl, rfl, h1, r1⟩ := trodAll_cons r0
  obtain ⟨v2, vs2, d2, ds2, p2, q2, rfl, rfl, rfl, h2, r2⟩ := trodAll_cons r1
  obtain ⟨v3, vs3, d3, ds3, p3, q3, rfl, rfl, rfl, h3, r3⟩ := trodAll_cons r2
  obtain ⟨rfl, rfl, rfl⟩ := trodAll_nil r3
  obtain rfl : args = #[v0, v1, v2, v3] := by cases args; simp_all
  obtain ⟨rfl, rfl⟩ := trodVars_none hV
  have k0 := h0
  have k1 := h1
  have k2 := h2
  have k3 := h3
  have lt0 : ∀ x ∈ p0, x.block < W.heap.size := by obtain ⟨m, hm⟩ := k0; exact DataW.trod_lt m _ _ _ hm
  have lt1 : ∀ x ∈ p1, x.block < W.heap.size := by obtain ⟨m, hm⟩ := k1; exact DataW.trod_lt m _ _ _ hm
  have lt2 : ∀ x ∈ p2, x.block < W.heap.size := by obtain ⟨m, hm⟩ := k2; exact DataW.trod_lt m _ _ _ hm
  have lt3 : ∀ x ∈ p3, x.block < W.heap.size := by obtain ⟨m, hm⟩ := k3; exact DataW.trod_lt m _ _ _ hm
  obtain ⟨vs, cs, m, rfl, hm⟩ := open_model (hval 0 25 v0 rfl rfl) h0
  obtain ⟨f1, hf1⟩ := h1
  obtain ⟨u1, s, e1, i1⟩ := open_store hf1
  obtain ⟨a1, n1, c1, rfl⟩ := okWide_slice Tryz.underStore (hval 1 27 v1 rfl rfl)
  obtain rfl : u1 = .slice a1 n1 c1 := by simpa [Value.cells] using e1.symm
  obtain ⟨f2, hf2⟩ := h2
  obtain ⟨u2, l, e2, i2⟩ := open_clas hf2
  obtain ⟨a2, n2, c2, rfl⟩ := okWide_slice Tryz.underClauses (hval 2 28 v2 rfl rfl)
  obtain rfl : u2 = .slice a2 n2 c2 := by simpa [Value.cells] using e2.symm
  obtain ⟨f3, hf3⟩ := h3
  obtain ⟨u3, u, e3, i3⟩ := open_ilist hf3
  obtain ⟨a3, n3, c3, rfl⟩ := okWide_slice Tryz.underlying39 (hval 3 39 v3 rfl rfl)
  obtain rfl : u3 = .slice a3 n3 c3 := by simpa [Value.cells] using e3.symm
  clear hA0 hval0
  refine (fkeeps_walk m s l u vs cs _ _ _ W hm i1 i2 i3).mono fun e W' ⟨he, bel⟩ => ?_
  subst he
  exact ⟨_, rfl, _, _, _, [], _, [], hW', trodAll_mk1 (shut_bool Tryz.underlying4 _),
    (trodAll_cons_mk (Below.trod fixkeeps_laidOut (by kernel_rfl) (of_decide_eq_true (by kernel_rfl)) k0 bel lt0)
      (trodAll_cons_mk (Below.trod fixkeeps_laidOut (by kernel_rfl) (of_decide_eq_true (by kernel_rfl)) k1 bel lt1)
        (trodAll_cons_mk (Below.trod fixkeeps_laidOut (by kernel_rfl) (of_decide_eq_true (by kernel_rfl)) k2 bel lt2)
          (trodAll_cons_mk (Below.trod fixkeeps_laidOut (by kernel_rfl) (of_decide_eq_true (by kernel_rfl)) k3 bel lt3) trodAll_mk0)))), rfl, bel.frame _, fun h => by cases h⟩

theorem fixKeeps_holds : Rows.FixKeepsSaid :=
  OpenClaim.holds_of_wide 4 Tryz.f4 rfl rfl rfl rfl rfl rfl rfl ⟨rfl, rfl, rfl, rfl, rfl⟩ rfl rfl rfl rfl rfl (by kernel_rfl) Tryz.func4 (by kernel_rfl)
    (of_decide_eq_true (by kernel_rfl)) (by unfold Func.isWrapper; first | (rw [if_pos (by decide +kernel)]; kernel_rfl) | (rw [if_neg (by decide +kernel)]; exact ⟨rfl, rfl⟩))
    (fun os started H enc _ => fixkeeps_lifted os started H enc)
#print axioms fixKeeps_holds
end Go.Proofs.YtggkbhafbhhhhadGreat
