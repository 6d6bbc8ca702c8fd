/-
  FilterAgain is true at every input: filtered twice it is filtered once, and what is filtered of less is less. No condition.
-/
import Derived.Test.YtggkbhafbhhhhacFilE
import Derived.Test.YtggkbhafbhhhhacRefB
namespace Go.Proofs.Ytggkbhafbhhhhac
open Go.ChangeShapes Go.WideShapes Go.ChangeAt Go.RowKit Go.Deep

theorem filterA_ok (m : Mod) (con : Int) (s : Sto) (h : (filterA m con s).2 = 0) : ∃ c : MCon, checkM m = 0 ∧ checkV m.vars s = 0 ∧ conCheck m con = 0 ∧ m.cons.getD con.toNat noCon = c ∧ m.cons[con.toNat]? = some c ∧ filterA m con s = (filterS c s, 0) ∧
    (∀ v ∈ scopeC c, 0 ≤ v ∧ v < (s.length : Int)) ∧ (c.kind = 10 → c.lits ≠ []) := by
  unfold filterA at h ⊢
  by_cases h0 : checkL m [s] = 0
  · rw [if_pos h0] at *
    by_cases h1 : conCheck m con = 0
    · rw [if_pos h1] at *
      obtain ⟨o1, o2⟩ := (checkL_one m s).1 h0
      obtain ⟨p1, p2, p3⟩ := conCheck_ok m con h1
      have hl : con.toNat < m.cons.length := by omega
      have hc : m.cons[con.toNat]? = some m.cons[con.toNat] := by simp [hl]
      have hg : m.cons.getD con.toNat noCon = m.cons[con.toNat] := by rw [List.getD_eq_getElem?_getD, hc]; rfl
      have hs := scope_in m o1 _ _ hc
      have hlen := ((checkV_ok _ _).1 o2).1
      exact ⟨_, o1, o2, h1, hg, hc, by rw [hg], by rw [hlen]; exact hs.1, hs.2⟩
    · rw [if_neg h1] at *; exact absurd h h1
  · rw [if_neg h0] at *; exact absurd h h0
theorem filterA_bad (m : Mod) (con : Int) (s : Sto) (h : (filterA m con s).2 ≠ 0) : (filterA m con s).1 = [] := by
  unfold filterA at *
  split
  · rename_i h0
    rw [if_pos h0] at h
    split
    · rename_i h1
      rw [if_pos h1] at h
      exact absurd rfl h
    · rfl
  · rfl
theorem withinA_fine (m : Mod) (s t : Sto) (hm : checkM m = 0) (hs : checkV m.vars s = 0) (ht : checkV m.vars t = 0) : withinA m s t = (withinS s t, 0) := by
  unfold withinA; rw [if_pos ((checkL_two m s t).2 ⟨hm, hs, ht⟩)]
theorem filterA_of (m : Mod) (con : Int) (s : Sto) (c : MCon) (hm : checkM m = 0) (hs : checkV m.vars s = 0) (hc : conCheck m con = 0) (hg : m.cons.getD con.toNat noCon = c) : filterA m con s = (filterS c s, 0) := by
  unfold filterA; rw [if_pos ((checkL_one m s).2 ⟨hm, hs⟩), if_pos hc, hg]

set_option maxHeartbeats 3200000 in
set_option maxRecDepth 100000 in
theorem again_walk (m : Mod) (con : Int) (s u0 : Sto) (vs cs v u : Value) (w : World) (hm : MArg w vs cs m) (hv : RArg w v s) (hu : RArg w u u0) :
    Calls Try.prog 4 #[modV vs cs m, .int .i64 con, v, u] w fun e w' => e = .returned (.bool true) ∧ Below w.heap.size w w' := by
  have HMA : Hid (∀ w' : World, Below w.heap.size w w' → MArg w' vs cs m) := fun w' h => MArg.below h hm
  have HVA : Hid (∀ w' : World, Below w.heap.size w w' → RArg w' v s) := fun w' h => RArg.below h hv
  have HUA : Hid (∀ w' : World, Below w.heap.size w w' → RArg w' u u0) := fun w' h => RArg.below h hu
  obtain ⟨⟨a1, c1, rfl, _, _⟩, ⟨a2, c2, rfl, _, _⟩⟩ := hm
  obtain ⟨a3, c3, rfl, _, _⟩ := hv
  obtain ⟨a4, c4, rfl, _, _⟩ := hu
  obtain ⟨W, hW⟩ : ∃ W : World, W = w.alloc (.cells #[.slice a1 m.vars.length c1, .slice a2 m.cons.length c2, .int .i64 m.goal, .int .i64 m.var] 25) := ⟨_, rfl⟩
  have HW : Hid (W = w.alloc (.cells #[.slice a1 m.vars.length c1, .slice a2 m.cons.length c2, .int .i64 m.goal, .int .i64 m.var] 25)) := hW
  have HBW : Hid (Below w.heap.size w W) := by rw [hW]; exact below_alloc _ _
  have hsW : w.heap.size < W.heap.size := by rw [hW]; simp
  have HC : Hid (∀ w' : World, Below W.heap.size W w' → w'.cell? ⟨w.heap.size, 0, none⟩ = some (.slice a1 m.vars.length c1) ∧ w'.cell? ⟨w.heap.size, 1, none⟩ = some (.slice a2 m.cons.length c2) ∧ w'.cell? ⟨w.heap.size, 2, none⟩ = some (.int .i64 m.goal) ∧ w'.cell? ⟨w.heap.size, 3, none⟩ = some (.int .i64 m.var)) := by
    intro w' h
    refine ⟨?_, ?_, ?_, ?_⟩
    all_goals (refine (h.cell hsW).trans ?_; rw [hW]; simp)
  have HMW : Hid (∀ w' : World, Below W.heap.size W w' → MArg w' (.slice a1 m.vars.length c1) (.slice a2 m.cons.length c2) m) := fun w' h => HMA.out _ (HBW.out.trans (h.mono (by omega)))
  have HVW : Hid (∀ w' : World, Below W.heap.size W w' → RArg w' (.slice a3 s.length c3) s) := fun w' h => HVA.out _ (HBW.out.trans (h.mono (by omega)))
  have HUW : Hid (∀ w' : World, Below W.heap.size W w' → RArg w' (.slice a4 u0.length c4) u0) := fun w' h => HUA.out _ (HBW.out.trans (h.mono (by omega)))
  have hmv : modV (.slice a1 m.vars.length c1) (.slice a2 m.cons.length c2) m = .agg #[.slice a1 m.vars.length c1, .slice a2 m.cons.length c2, .int .i64 m.goal, .int .i64 m.var] := rfl
  rw [hmv]
  clear hmv hW HMA HVA HUA
  go_enter Try.func4, Try.ntmps4
  go_wp2_with fail
  rw [← HW.out]
  clear HW
  refine (filter_any m con s (.slice a1 m.vars.length c1) (.slice a2 m.cons.length c2) _ _ (HMW.out _ (Below.refl _ _)) (HVW.out _ (Below.refl _ _))).mono ?_
  rintro e w1 ⟨tv, rfl, ht, hb1⟩
  have HT1 : Hid (∀ w' : World, Below w1.heap.size w1 w' → RArg w' tv (filterA m con s).1) := fun w' h => RArg.below h ht
  obtain ⟨at_, ct, rfl, _, _⟩ := ht
  go_wp2_with fail
  refine (begun_filter _).mono ?_
  rintro e w2 ⟨rfl, hb2⟩
  go_wp2_with fail
  refine (begun_store _).mono ?_
  rintro e w4 ⟨rfl, hb4⟩
  have hB14 : Below w1.heap.size w1 w4 := hb2.trans (hb4.mono hb2.size)
  have hB4 : Below W.heap.size W w4 := hb1.trans (hB14.mono hb1.size)
  clear hb1 hb2 hb4
  by_cases he : (filterA m con s).2 = 0
  · obtain ⟨c, o1, o2, o3, o4, o5, o6, o7, o8⟩ := filterA_ok m con s he
    rw [o6] at HT1 ⊢
    have HT4 : Hid (∀ w' : World, Below w4.heap.size w4 w' → RArg w' (.slice at_ (filterS c s).length ct) (filterS c s)) := fun w' h => HT1.out _ (hB14.trans (h.mono hB14.size))
    have ot : checkV m.vars (filterS c s) = 0 := checkV_sift _ _ _ o2
    have E1 : Hid (filterA m con (filterS c s) = (filterS c s, 0)) := by
      show _ = _
      rw [filterA_of m con _ c o1 ot o3 o4, filter_twice c s o7 o8]
    have E2 : Hid (checkL m [s, u0] = 0 → meetA m s u0 = (meetS s u0, 0) ∧ filterA m con (meetS s u0) = (filterS c (meetS s u0), 0) ∧ (failedS (meetS s u0) = false → failedS s = false → withinA m (filterS c (meetS s u0)) (filterS c s) = (true, 0))) := by
      intro h
      obtain ⟨_, _, p3⟩ := (checkL_two m s u0).1 h
      have hl : u0.length = s.length := ((checkV_ok _ _).1 p3).1.trans ((checkV_ok _ _).1 o2).1.symm
      have om : checkV m.vars (meetS s u0) = 0 := checkV_meet _ _ _ o2 p3
      refine ⟨by unfold meetA; rw [if_pos h], filterA_of m con _ c o1 om o3 o4, fun hf1 hf2 => ?_⟩
      have ox : checkV m.vars (filterS c (meetS s u0)) = 0 := checkV_sift _ _ _ om
      rw [withinA_fine m _ _ o1 ox ot]
      exact congrArg (·, (0 : Int)) (filter_less c s _ (meetS_len s u0 hl) o7 o8 hf1 hf2 (within_meet_l s u0 hl))
    clear he o1 o2 o3 o4 o5 o6 o7 o8 ot HT1 hB14
    obtain ⟨g0, g1, g2, g3⟩ := HC.out _ hB4
    go_wp2_with fail
    refine (filter_any m con (filterS c s) (.slice a1 m.vars.length c1) (.slice a2 m.cons.length c2) _ _ (HMW.out _ hB4) (HT4.out _ (Below.refl _ _))).mono ?_
    rintro e w5 ⟨xv, rfl, hx5, hb5⟩
    rw [E1.out] at hx5 ⊢
    have HX5 : Hid (∀ w' : World, Below w5.heap.size w5 w' → RArg w' xv (filterS c s)) := fun w' h => RArg.below h hx5
    obtain ⟨ax, cx, rfl, _, _⟩ := hx5
    have hB5 : Below W.heap.size W w5 := hB4.trans (hb5.mono hB4.size)
    clear g0 g1 g2 g3 E1
    go_wp2_with fail
    refine (samestore_any (filterS c s) (filterS c s) _ _ _ (HX5.out _ (Below.refl _ _)) (HT4.out _ hb5)).mono ?_
    rintro e w6 ⟨rfl, n6, h6⟩
    rw [show decide (filterS c s = filterS c s) = true from decide_eq_true rfl]
    have hb6 := draws_below h6
    have hB6 : Below W.heap.size W w6 := hB5.trans (hb6.mono hB5.size)
    have hB46 : Below w4.heap.size w4 w6 := hb5.trans (hb6.mono hb5.size)
    clear h6 hb6 hb5 HX5 hB5
    obtain ⟨g0, g1, g2, g3⟩ := HC.out _ hB6
    go_wp2_with fail
    refine (smeet_any m s u0 (.slice a1 m.vars.length c1) (.slice a2 m.cons.length c2) _ _ _ (HMW.out _ hB6) (HVW.out _ hB6) (HUW.out _ hB6)).mono ?_
    rintro e w7 ⟨yv, rfl, hy7, hb7⟩
    have hB7 : Below W.heap.size W w7 := hB6.trans (hb7.mono hB6.size)
    have hB47 : Below w4.heap.size w4 w7 := hB46.trans (hb7.mono hB46.size)
    have hBe : Below w.heap.size w w7 := HBW.out.trans (hB7.mono (by omega))
    clear g0 g1 g2 g3 hb7 hB46 hB6
    by_cases hm0 : checkL m [s, u0] = 0
    · obtain ⟨q1, q2, q3⟩ := E2.out hm0
      rw [q1] at hy7 ⊢
      have HY7 : Hid (∀ w' : World, Below w7.heap.size w7 w' → RArg w' yv (meetS s u0)) := fun w' h => RArg.below h hy7
      obtain ⟨ay, cy, rfl, _, _⟩ := hy7
      have Q2 : Hid (filterA m con (meetS s u0) = (filterS c (meetS s u0), 0)) := q2
      have Q3 : Hid (failedS (meetS s u0) = false → failedS s = false → withinA m (filterS c (meetS s u0)) (filterS c s) = (true, 0)) := q3
      clear q1 q2 q3 hm0 E2
      go_wp2_with fail
      refine (hasfailed_any (meetS s u0) _ _ (HY7.out _ (Below.refl _ _))).mono ?_
      rintro e w7 ⟨rfl, rfl⟩
      cases hf1 : failedS (meetS s u0)
      · go_wp2_with fail
        refine (hasfailed_any s _ _ (HVW.out _ hB7)).mono ?_
        rintro e w7 ⟨rfl, rfl⟩
        cases hf2 : failedS s
        · have E3 : Hid (withinA m (filterS c (meetS s u0)) (filterS c s) = (true, 0)) := Q3.out hf1 hf2
          clear hf1 hf2 Q3
          obtain ⟨g0, g1, g2, g3⟩ := HC.out _ hB7
          go_wp2_with fail
          refine (filter_any m con (meetS s u0) (.slice a1 m.vars.length c1) (.slice a2 m.cons.length c2) _ _ (HMW.out _ hB7) (HY7.out _ (Below.refl _ _))).mono ?_
          rintro e w8 ⟨zv, rfl, hz8, hb8⟩
          rw [Q2.out] at hz8 ⊢
          have HZ8 : Hid (∀ w' : World, Below w8.heap.size w8 w' → RArg w' zv (filterS c (meetS s u0))) := fun w' h => RArg.below h hz8
          obtain ⟨az, cz, rfl, _, _⟩ := hz8
          have hB8 : Below W.heap.size W w8 := hB7.trans (hb8.mono hB7.size)
          have hB48 : Below w4.heap.size w4 w8 := hB47.trans (hb8.mono hB47.size)
          clear g0 g1 g2 g3 Q2 hb8
          obtain ⟨g0, g1, g2, g3⟩ := HC.out _ hB8
          go_wp2_with fail
          refine (swithin_any m (filterS c (meetS s u0)) (filterS c s) (.slice a1 m.vars.length c1) (.slice a2 m.cons.length c2) _ _ _ (HMW.out _ hB8) (HZ8.out _ (Below.refl _ _)) (HT4.out _ hB48)).mono ?_
          rintro e w9 ⟨rfl, hb9⟩
          rw [E3.out]
          have hBe9 : Below w.heap.size w w9 := HBW.out.trans ((hB8.trans (hb9.mono hB8.size)).mono (by omega))
          clear g0 g1 g2 g3 hb9
          go_wp2
          go_ret
          exact ⟨rfl, hBe9⟩
        · clear hf1 hf2
          go_wp2
          go_ret
          exact ⟨rfl, hBe⟩
      · clear hf1
        go_wp2
        go_ret
        exact ⟨rfl, hBe⟩
    · have hbad : meetA m s u0 = ([], checkL m [s, u0]) := by unfold meetA; rw [if_neg hm0]
      rw [hbad]
      obtain ⟨ec, hec⟩ : ∃ ec, checkL m [s, u0] = ec := ⟨_, rfl⟩
      rw [hec] at hm0 ⊢
      have g0 : (ec != 0) = true := by simpa using hm0
      clear hm0 hec hbad hy7 E2
      go_wp2
      go_ret
      exact ⟨rfl, hBe⟩
  · have hbad := filterA_bad m con s he
    obtain ⟨R, hR⟩ : ∃ R, filterA m con s = R := ⟨_, rfl⟩
    rw [hR] at hbad he ⊢
    obtain ⟨t, er⟩ := R
    simp only at hbad he ⊢
    subst hbad
    have he2 : (er != 0) = true := by simpa using he
    have hBe : Below w.heap.size w w4 := HBW.out.trans (hB4.mono (by omega))
    clear he hR
    go_wp2
    go_ret
    exact ⟨rfl, hBe⟩

theorem again_own : ownKnob Try.prog.godebug = none := by kernel_rfl
theorem again_laidOut : laidOutB Try.prog = true := by kernel_rfl
section
variable {H : Type} {enc : TypeId × Value → H} {w : World} {base : Nat} {spare : Nat → Bool} {held : Bool}
/-- A store that came in. -/
theorem open_store {fuel : Nat} {cs : List Value} {x : DataW H × List MemPlace} (h : DataW.trod enc Try.prog w base spare held fuel 27 cs = some x) :
    ∃ v l, cs = [v] ∧ RArg w v l := by
  obtain ⟨l, a, c, hcs, hm, hr⟩ := open_elems (α := Value × List Int) Try.underStore Try.cInts (by decide) (fun z => [z.1]) (fun z => IArg w z.1 z.2)
    (fun n cs' x' h' => by obtain ⟨v, r, hz, hi⟩ := open_ilist h'; exact ⟨(v, r), hz, hi⟩) h
  refine ⟨_, l.map (·.2), hcs, a, c, by simp, by simpa using hm, fun i r hr' => ?_⟩
  rw [List.getElem?_map] at hr'
  obtain ⟨⟨v, r2⟩, hz, rfl⟩ := Option.map_eq_some_iff.1 hr'
  obtain ⟨hg, b, off, ha, hb, hc⟩ := hr i _ hz
  have := hc 0 _ rfl
  exact ⟨b, off, v, ha, hb, by simpa using this, hg⟩
end

set_option maxHeartbeats 1600000 in
set_option maxRecDepth 100000 in
theorem again_lifted (os : Os) (started : os.Started) (H : Type) (enc : TypeId × Value → H) :
    ReturnsInHanded {} Try.checked os 4 .any (Rows.filterAgainSpec.pre6 enc Try.prog Try.f4 Rows.filterAgainRow.domain false) (Rows.filterAgainSpec.post enc Try.prog Try.f4 false true false false) := by
  refine returnsInHanded_of_change_sized (C := Try.checked) again_own started (by kernel_rfl) Try.func4
    (ChangeSpec.witness6 (enc := enc) (C := Try.checked) false ⟨#[], #[.agg #[.slice none 0 0, .slice none 0 0, .int .i64 0, .int .i64 0], .int .i64 0, .slice none 0 0, .slice none 0 0], []⟩ 8 (by kernel_rfl) (by kernel_rfl) (by kernel_rfl) (by kernel_rfl)) ?_
  intro W base args ds gs before hval0 hW hcnd hsz0 _
  have hval : ∀ (j : Nat) t v, Try.f4.params[j]? = some t → args[j]? = some v → Value.okWide Try.prog W .any base t v := hval0
  have hW' := hW
  obtain ⟨p, q, hA0, hV, rfl, hfz, hnd⟩ := hW
  have hA : DataW.TrodAll enc Try.prog W 0 (fun _ => true) true Try.f4.params.toList args.toList ds p := hA0
  rw [Try.params4] at hA hval
  obtain ⟨v0, vs0, d0, ds0, p0, q0, hargs, rfl, rfl, h0, r0⟩ := trodAll_cons hA
  obtain ⟨v1, vs1, d1, ds1, p1, q1, rfl, rfl, rfl, h1, r1⟩ := trodAll_cons r0
  obtain ⟨v2, vs2, d2, ds2, p2, q2, rfl, rfl, rfl, h2, r2⟩ := trodAll_cons r1
  obtain ⟨v3, vs3, d3, ds3, p3, q3, rfl, rfl, rfl, h3, r3⟩ := trodAll_cons r2
  obtain ⟨rfl, rfl, rfl⟩ := trodAll_nil r3
  obtain rfl : args = #[v0, v1, v2, v3] := by cases args; simp_all
  obtain ⟨rfl, rfl⟩ := trodVars_none hV
  have k0 := h0
  have k1 := h1
  have k2 := h2
  have k3 := h3
  have lt0 : ∀ x ∈ p0, x.block < W.heap.size := by obtain ⟨m, hm⟩ := k0; exact DataW.trod_lt m _ _ _ hm
  have lt1 : ∀ x ∈ p1, x.block < W.heap.size := by obtain ⟨m, hm⟩ := k1; exact DataW.trod_lt m _ _ _ hm
  have lt2 : ∀ x ∈ p2, x.block < W.heap.size := by obtain ⟨m, hm⟩ := k2; exact DataW.trod_lt m _ _ _ hm
  have lt3 : ∀ x ∈ p3, x.block < W.heap.size := by obtain ⟨m, hm⟩ := k3; exact DataW.trod_lt m _ _ _ hm
  obtain ⟨vs, cs, m, rfl, hm⟩ := open_model (hval 0 25 v0 rfl rfl) h0
  obtain ⟨con, rfl⟩ := okWide_int Try.underlying3 (hval 1 3 v1 rfl rfl)
  obtain ⟨f2, hf2⟩ := h2
  obtain ⟨u2, s, e2, i2⟩ := open_store hf2
  obtain ⟨a2, n2, c2, rfl⟩ := okWide_slice Try.underStore (hval 2 27 v2 rfl rfl)
  obtain rfl : u2 = .slice a2 n2 c2 := by simpa [Value.cells] using e2.symm
  obtain ⟨f3, hf3⟩ := h3
  obtain ⟨u3, u, e3, i3⟩ := open_store hf3
  obtain ⟨a3, n3, c3, rfl⟩ := okWide_slice Try.underStore (hval 3 27 v3 rfl rfl)
  obtain rfl : u3 = .slice a3 n3 c3 := by simpa [Value.cells] using e3.symm
  clear hA0 hval0
  refine (again_walk m con s u vs cs _ _ W hm i2 i3).mono fun e W' ⟨he, bel⟩ => ?_
  subst he
  exact ⟨_, rfl, _, _, _, [], _, [], hW', trodAll_mk1 (shut_bool Try.underlying4 _),
    (trodAll_cons_mk (Below.trod again_laidOut (by kernel_rfl) (of_decide_eq_true (by kernel_rfl)) k0 bel lt0)
      (trodAll_cons_mk (Below.trod again_laidOut (by kernel_rfl) (of_decide_eq_true (by kernel_rfl)) k1 bel lt1)
        (trodAll_cons_mk (Below.trod again_laidOut (by kernel_rfl) (of_decide_eq_true (by kernel_rfl)) k2 bel lt2)
          (trodAll_cons_mk (Below.trod again_laidOut (by kernel_rfl) (of_decide_eq_true (by kernel_rfl)) k3 bel lt3) trodAll_mk0)))), rfl, bel.frame _, fun h => by cases h⟩

theorem filterAgain_holds : Rows.FilterAgainSaid :=
  OpenClaim.holds_of_wide 4 Try.f4 rfl rfl rfl rfl rfl rfl rfl ⟨rfl, rfl, rfl, rfl, rfl⟩ rfl rfl rfl rfl rfl (by kernel_rfl) Try.func4 (by kernel_rfl)
    (of_decide_eq_true (by kernel_rfl)) (by unfold Func.isWrapper; first | (rw [if_pos (by decide +kernel)]; kernel_rfl) | (rw [if_neg (by decide +kernel)]; exact ⟨rfl, rfl⟩))
    (fun os started H enc _ => again_lifted os started H enc)
#print axioms filterAgain_holds
end Go.Proofs.Ytggkbhafbhhhhac
