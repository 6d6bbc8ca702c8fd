/-
  FilterKeeps is true at every input: no values of which the constraint holds are lost, and nothing comes that was not there. No condition.
-/
import Derived.Test.YtggkbhafbhhhhacGreatPartE
namespace Go.Proofs.YtggkbhafbhhhhacGreat
open Go.ChangeShapes Go.WideShapes Go.ChangeAt Go.RowKit Go.Deep

theorem filterA_ok (m : Mod) (con : Int) (s : Sto) (h : (filterA m con s).2 = 0) : ∃ c : MCon, checkM m = 0 ∧ checkV m.vars s = 0 ∧ conCheck m con = 0 ∧ m.cons.getD con.toNat noCon = c ∧ m.cons[con.toNat]? = some c ∧ filterA m con s = (filterS c s, 0) ∧
    (∀ v ∈ scopeC c, 0 ≤ v ∧ v < (s.length : Int)) ∧ (c.kind = 10 → c.lits ≠ []) := by
  unfold filterA at h ⊢
  by_cases h0 : checkL m [s] = 0
  · rw [if_pos h0] at *
    by_cases h1 : conCheck m con = 0
    · rw [if_pos h1] at *
      obtain ⟨o1, o2⟩ := (checkL_one m s).1 h0
      obtain ⟨p1, p2, p3⟩ := conCheck_ok m con h1
      have hl : con.toNat < m.cons.length := by omega
      have hc : m.cons[con.toNat]? = some m.cons[con.toNat] := by simp [hl]
      have hg : m.cons.getD con.toNat noCon = m.cons[con.toNat] := by rw [List.getD_eq_getElem?_getD, hc]; rfl
      have hs := scope_in m o1 _ _ hc
      have hlen := ((checkV_ok _ _).1 o2).1
      exact ⟨_, o1, o2, h1, hg, hc, by rw [hg], by rw [hlen]; exact hs.1, hs.2⟩
    · rw [if_neg h1] at *; exact absurd h h1
  · rw [if_neg h0] at *; exact absurd h h0
theorem filterA_bad (m : Mod) (con : Int) (s : Sto) (h : (filterA m con s).2 ≠ 0) : (filterA m con s).1 = [] := by
  unfold filterA at *
  split
  · rename_i h0
    rw [if_pos h0] at h
    split
    · rename_i h1
      rw [if_pos h1] at h
      exact absurd rfl h
    · rfl
  · rfl
theorem withinA_fine (m : Mod) (s t : Sto) (hm : checkM m = 0) (hs : checkV m.vars s = 0) (ht : checkV m.vars t = 0) : withinA m s t = (withinS s t, 0) := by
  unfold withinA; rw [if_pos ((checkL_two m s t).2 ⟨hm, hs, ht⟩)]
theorem filterA_of (m : Mod) (con : Int) (s : Sto) (c : MCon) (hm : checkM m = 0) (hs : checkV m.vars s = 0) (hc : conCheck m con = 0) (hg : m.cons.getD con.toNat noCon = c) : filterA m con s = (filterS c s, 0) := by
  unfold filterA; rw [if_pos ((checkL_one m s).2 ⟨hm, hs⟩), if_pos hc, hg]
theorem holdsA_con (m : Mod) (con : Int) (vals : List Int) (c : MCon) (hg : m.cons.getD con.toNat noCon = c) (h : holdsA m con vals = (true, 0)) : holdsC c vals = true := by
  unfold holdsA at h
  by_cases h0 : conCheck m con = 0
  · rw [if_pos h0] at h
    by_cases h1 : vals.length = m.vars.length
    · rw [if_pos h1] at h
      cases h2 : vals.all (fun x => inB x 50)
      · rw [h2] at h; simp at h
      · rw [h2, if_pos rfl, hg] at h
        exact congrArg Prod.fst h
    · rw [if_neg h1] at h; simp at h
  · rw [if_neg h0] at h; simp at h

set_option maxHeartbeats 3200000 in
set_option maxRecDepth 100000 in
theorem keeps_walk (m : Mod) (con : Int) (s : Sto) (vals : List Int) (vs cs v u : Value) (w : World) (hm : MArg w vs cs m) (hv : RArg w v s) (hu : IArg w u vals) :
    Calls Tryz.prog 4 #[modV vs cs m, .int .i64 con, v, u] w fun e w' => e = .returned (.bool true) ∧ Below w.heap.size w w' := by
  have HMA : Hid (∀ w' : World, Below w.heap.size w w' → MArg w' vs cs m) := fun w' h => MArg.below h hm
  have HVA : Hid (∀ w' : World, Below w.heap.size w w' → RArg w' v s) := fun w' h => RArg.below h hv
  have HUA : Hid (∀ w' : World, Below w.heap.size w w' → IArg w' u vals) := fun w' h => IArg.below h hu
  obtain ⟨⟨a1, c1, rfl, _, _⟩, ⟨a2, c2, rfl, _, _⟩⟩ := hm
  obtain ⟨a3, c3, rfl, _, _⟩ := hv
  obtain ⟨a4, c4, rfl, _, _⟩ := hu
  obtain ⟨W, hW⟩ : ∃ W : World, W = w.alloc (.cells #[.slice a1 m.vars.length c1, .slice a2 m.cons.length c2, .int .i64 m.goal, .int .i64 m.var] 25) := ⟨_, rfl⟩
  have HW : Hid (W = w.alloc (.cells #[.slice a1 m.vars.length c1, .slice a2 m.cons.length c2, .int .i64 m.goal, .int .i64 m.var] 25)) := hW
  have HBW : Hid (Below w.heap.size w W) := by rw [hW]; exact below_alloc _ _
  have hsW : w.heap.size < W.heap.size := by rw [hW]; simp
  have HC : Hid (∀ w' : World, Below W.heap.size W w' → w'.cell? ⟨w.heap.size, 0, none⟩ = some (.slice a1 m.vars.length c1) ∧ w'.cell? ⟨w.heap.size, 1, none⟩ = some (.slice a2 m.cons.length c2) ∧ w'.cell? ⟨w.heap.size, 2, none⟩ = some (.int .i64 m.goal) ∧ w'.cell? ⟨w.heap.size, 3, none⟩ = some (.int .i64 m.var)) := by
    intro w' h
    refine ⟨?_, ?_, ?_, ?_⟩
    all_goals (refine (h.cell hsW).trans ?_; rw [hW]; simp)
  have HMW : Hid (∀ w' : World, Below W.heap.size W w' → MArg w' (.slice a1 m.vars.length c1) (.slice a2 m.cons.length c2) m) := fun w' h => HMA.out _ (HBW.out.trans (h.mono (by omega)))
  have HVW : Hid (∀ w' : World, Below W.heap.size W w' → RArg w' (.slice a3 s.length c3) s) := fun w' h => HVA.out _ (HBW.out.trans (h.mono (by omega)))
  have HUW : Hid (∀ w' : World, Below W.heap.size W w' → IArg w' (.slice a4 vals.length c4) vals) := fun w' h => HUA.out _ (HBW.out.trans (h.mono (by omega)))
  have hmv : modV (.slice a1 m.vars.length c1) (.slice a2 m.cons.length c2) m = .agg #[.slice a1 m.vars.length c1, .slice a2 m.cons.length c2, .int .i64 m.goal, .int .i64 m.var] := rfl
  rw [hmv]
  clear hmv hW HMA HVA HUA
  go_enter Tryz.func4, Tryz.ntmps4
  go_wp2_with fail
  rw [← HW.out]
  clear HW
  refine (filter_any m con s (.slice a1 m.vars.length c1) (.slice a2 m.cons.length c2) _ _ (HMW.out _ (Below.refl _ _)) (HVW.out _ (Below.refl _ _))).mono ?_
  rintro e w1 ⟨tv, rfl, ht, hb1⟩
  have HT1 : Hid (∀ w' : World, Below w1.heap.size w1 w' → RArg w' tv (filterA m con s).1) := fun w' h => RArg.below h ht
  obtain ⟨at_, ct, rfl, _, _⟩ := ht
  go_wp2_with fail
  refine (begun_filter _).mono ?_
  rintro e w2 ⟨rfl, hb2⟩
  go_wp2_with fail
  refine (begun_model _).mono ?_
  rintro e w3 ⟨rfl, hb3⟩
  go_wp2_with fail
  refine (begun_store _).mono ?_
  rintro e w4 ⟨rfl, hb4⟩
  have hB14 : Below w1.heap.size w1 w4 := hb2.trans ((hb3.trans (hb4.mono hb3.size)).mono hb2.size)
  have hB4 : Below W.heap.size W w4 := hb1.trans (hB14.mono hb1.size)
  clear hb1 hb2 hb3 hb4
  by_cases he : (filterA m con s).2 = 0
  · obtain ⟨c, o1, o2, o3, o4, o5, o6, o7, o8⟩ := filterA_ok m con s he
    rw [o6] at HT1 ⊢
    have E1 : Hid (withinA m (filterS c s) s = (true, 0)) := by
      show _ = _
      have ot : checkV m.vars (filterS c s) = 0 := checkV_sift _ _ _ o2
      rw [withinA_fine m _ _ o1 ot o2]
      exact congrArg (·, (0 : Int)) (within_sift s _)
    have HT4 : Hid (∀ w' : World, Below w4.heap.size w4 w' → RArg w' (.slice at_ (filterS c s).length ct) (filterS c s)) := fun w' h => HT1.out _ (hB14.trans (h.mono hB14.size))
    obtain ⟨ok, hok⟩ : ∃ ok, (holdsA m con vals).1 = ok := ⟨_, rfl⟩
    obtain ⟨e2, he2⟩ : ∃ e2, (holdsA m con vals).2 = e2 := ⟨_, rfl⟩
    have HH : Hid (holdsA m con vals = (ok, e2)) := Prod.ext hok he2
    have HKE : Hid (ok = true → e2 = 0 → hasS s vals = true → hasS (filterS c s) vals = true) := by
      intro h1 h2 h3
      rw [hasS_iff] at h3 ⊢
      refine ⟨by rw [← h3.1]; exact siftS_len _ _, fun k r x hr hx => ?_⟩
      exact filter_keeps c s o7 o8 vals h3.1.symm h3.2 (holdsA_con m con vals c o4 (by rw [HH.out, h1, h2])) k r x hr hx
    clear he o1 o2 o3 o4 o5 o6 o7 o8 hok he2 HT1 hB14
    obtain ⟨g0, g1, g2, g3⟩ := HC.out _ hB4
    go_wp2_with fail
    refine (swithin_any m (filterS c s) s (.slice a1 m.vars.length c1) (.slice a2 m.cons.length c2) _ _ _ (HMW.out _ hB4) (HT4.out _ (Below.refl _ _)) (HVW.out _ hB4)).mono ?_
    rintro e w5 ⟨rfl, hb5⟩
    rw [E1.out]
    have hB5 : Below W.heap.size W w5 := hB4.trans (hb5.mono hB4.size)
    clear g0 g1 g2 g3
    obtain ⟨g0, g1, g2, g3⟩ := HC.out _ hB5
    go_wp2_with fail
    refine (mholds_any m con vals (.slice a1 m.vars.length c1) (.slice a2 m.cons.length c2) _ _ (HMW.out _ hB5) (HUW.out _ hB5)).mono ?_
    rintro e w6 ⟨rfl, hb6⟩
    rw [HH.out]
    have hB6 : Below W.heap.size W w6 := hB5.trans (hb6.mono hB5.size)
    have hB46 : Below w4.heap.size w4 w6 := hb5.trans (hb6.mono hb5.size)
    have hBe : Below w.heap.size w w6 := HBW.out.trans (hB6.mono (by omega))
    clear g0 g1 g2 g3 hb5 hb6 E1 HH
    by_cases h2 : e2 = 0
    · subst h2
      cases ok
      · go_wp2
        go_ret
        exact ⟨rfl, hBe⟩
      · go_wp2_with fail
        refine (has_any s vals _ _ _ (HVW.out _ hB6) (HUW.out _ hB6)).mono ?_
        rintro e w7 ⟨rfl, n7, h7⟩
        have hB7 : Below w6.heap.size w6 w7 := draws_below h7
        clear h7
        cases hs : hasS s vals
        · have hB7e := hBe.trans (hB7.mono hBe.size)
          clear hs
          go_wp2
          go_ret
          exact ⟨rfl, hB7e⟩
        · have hk := HKE.out (by first | rfl | trivial) (by first | rfl | trivial) hs
          go_wp2_with fail
          refine (has_any (filterS c s) vals _ _ _ (HT4.out _ (hB46.trans (hB7.mono hB46.size))) (HUW.out _ (hB6.trans (hB7.mono hB6.size)))).mono ?_
          rintro e w8 ⟨rfl, n8, h8⟩
          rw [hk]
          have hB8 : Below w.heap.size w w8 := hBe.trans ((hB7.trans ((draws_below h8).mono hB7.size)).mono hBe.size)
          clear hs hk h8
          go_wp2
          go_ret
          exact ⟨rfl, hB8⟩
    · have g0 : (e2 != 0) = true := by simpa using h2
      clear h2
      go_wp2
      go_ret
      exact ⟨rfl, hBe⟩
  · have hbad := filterA_bad m con s he
    obtain ⟨R, hR⟩ : ∃ R, filterA m con s = R := ⟨_, rfl⟩
    rw [hR] at hbad he ⊢
    obtain ⟨t, er⟩ := R
    simp only at hbad he ⊢
    subst hbad
    have he2 : (er != 0) = true := by simpa using he
    have hBe : Below w.heap.size w w4 := HBW.out.trans (hB4.mono (by omega))
    clear he hR
    go_wp2
    go_ret
    exact ⟨rfl, hBe⟩

theorem keeps_own : ownKnob Tryz.prog.godebug = none := by kernel_rfl
theorem keeps_laidOut : laidOutB Tryz.prog = true := by kernel_rfl
section
variable {H : Type} {enc : TypeId × Value → H} {w : World} {base : Nat} {spare : Nat → Bool} {held : Bool}
/-- A store that came in. -/
theorem open_store {fuel : Nat} {cs : List Value} {x : DataW H × List MemPlace} (h : DataW.trod enc Tryz.prog w base spare held fuel 27 cs = some x) :
    ∃ v l, cs = [v] ∧ RArg w v l := by
  obtain ⟨l, a, c, hcs, hm, hr⟩ := open_elems (α := Value × List Int) Tryz.underStore Tryz.cInts (by decide) (fun z => [z.1]) (fun z => IArg w z.1 z.2)
    (fun n cs' x' h' => by obtain ⟨v, r, hz, hi⟩ := open_ilist h'; exact ⟨(v, r), hz, hi⟩) h
  refine ⟨_, l.map (·.2), hcs, a, c, by simp, by simpa using hm, fun i r hr' => ?_⟩
  rw [List.getElem?_map] at hr'
  obtain ⟨⟨v, r2⟩, hz, rfl⟩ := Option.map_eq_some_iff.1 hr'
  obtain ⟨hg, b, off, ha, hb, hc⟩ := hr i _ hz
  have := hc 0 _ rfl
  exact ⟨b, off, v, ha, hb, by simpa using this, hg⟩
end

set_option maxHeartbeats 1600000 in
set_option maxRecDepth 100000 in
theorem keeps_lifted (os : Os) (started : os.Started) (H : Type) (enc : TypeId × Value → H) :
    ReturnsInHanded {} Tryz.checked os 4 .any (Rows.filterKeepsSpec.pre6 enc Tryz.prog Tryz.f4 Rows.filterKeepsRow.domain false) (Rows.filterKeepsSpec.post enc Tryz.prog Tryz.f4 false true false false) := by
  refine returnsInHanded_of_change_sized (C := Tryz.checked) keeps_own started (by kernel_rfl) Tryz.func4
    (ChangeSpec.witness6 (enc := enc) (C := Tryz.checked) false ⟨#[], #[.agg #[.slice none 0 0, .slice none 0 0, .int .i64 0, .int .i64 0], .int .i64 0, .slice none 0 0, .slice none 0 0], []⟩ 8 (by kernel_rfl) (by kernel_rfl) (by kernel_rfl) (by kernel_rfl)) ?_
  intro W base args ds gs before hval0 hW hcnd hsz0 _
  have hval : ∀ (j : Nat) t v, Tryz.f4.params[j]? = some t → args[j]? = some v → Value.okWide Tryz.prog W .any base t v := hval0
  have hW' := hW
  obtain ⟨p, q, hA0, hV, rfl, hfz, hnd⟩ := hW
  have hA : DataW.TrodAll enc Tryz.prog W 0 (fun _ => true) true Tryz.f4.params.toList args.toList ds p := hA0
  rw [Tryz.params4] at hA hval
  obtain ⟨v0, vs0, d0, ds0, p0, q0, hargs, rfl, rfl, h0, r0⟩ := trodAll_cons hA
  obtain ⟨v1, vs1, d1, ds1, p1, q1, rfl, rfl, rfl, h1, r1⟩ := trodAll_cons r0
  obtain ⟨v2, vs2, d2, ds2, p2, q2, rfl, rfl, rfl, h2, r2⟩ := trodAll_cons r1
  obtain ⟨v3, vs3, d3, ds3, p3, q3, rfl, rfl, rfl, h3, r3⟩ := trodAll_cons r2
  obtain ⟨rfl, rfl, rfl⟩ := trodAll_nil r3
  obtain rfl : args = #[v0, v1, v2, v3] := by cases args; simp_all
  obtain ⟨rfl, rfl⟩ := trodVars_none hV
  have k0 := h0
  have k1 := h1
  have k2 := h2
  have k3 := h3
  have lt0 : ∀ x ∈ p0, x.block < W.heap.size := by obtain ⟨m, hm⟩ := k0; exact DataW.trod_lt m _ _ _ hm
  have lt1 : ∀ x ∈ p1, x.block < W.heap.size := by obtain ⟨m, hm⟩ := k1; exact DataW.trod_lt m _ _ _ hm
  have lt2 : ∀ x ∈ p2, x.block < W.heap.size := by obtain ⟨m, hm⟩ := k2; exact DataW.trod_lt m _ _ _ hm
  have lt3 : ∀ x ∈ p3, x.block < W.heap.size := by obtain ⟨m, hm⟩ := k3; exact DataW.trod_lt m _ _ _ hm
  obtain ⟨vs, cs, m, rfl, hm⟩ := open_model (hval 0 25 v0 rfl rfl) h0
  obtain ⟨con, rfl⟩ := okWide_int Tryz.underlying3 (hval 1 3 v1 rfl rfl)
  obtain ⟨f2, hf2⟩ := h2
  obtain ⟨u2, s, e2, i2⟩ := open_store hf2
  obtain ⟨a2, n2, c2, rfl⟩ := okWide_slice Tryz.underStore (hval 2 27 v2 rfl rfl)
  obtain rfl : u2 = .slice a2 n2 c2 := by simpa [Value.cells] using e2.symm
  obtain ⟨f3, hf3⟩ := h3
  obtain ⟨u3, u, e3, i3⟩ := open_ilist hf3
  obtain ⟨a3, n3, c3, rfl⟩ := okWide_slice Tryz.underlying36 (hval 3 36 v3 rfl rfl)
  obtain rfl : u3 = .slice a3 n3 c3 := by simpa [Value.cells] using e3.symm
  clear hA0 hval0
  refine (keeps_walk m con s u vs cs _ _ W hm i2 i3).mono fun e W' ⟨he, bel⟩ => ?_
  subst he
  exact ⟨_, rfl, _, _, _, [], _, [], hW', trodAll_mk1 (shut_bool Tryz.underlying4 _),
    (trodAll_cons_mk (Below.trod keeps_laidOut (by kernel_rfl) (of_decide_eq_true (by kernel_rfl)) k0 bel lt0)
      (trodAll_cons_mk (Below.trod keeps_laidOut (by kernel_rfl) (of_decide_eq_true (by kernel_rfl)) k1 bel lt1)
        (trodAll_cons_mk (Below.trod keeps_laidOut (by kernel_rfl) (of_decide_eq_true (by kernel_rfl)) k2 bel lt2)
          (trodAll_cons_mk (Below.trod keeps_laidOut (by kernel_rfl) (of_decide_eq_true (by kernel_rfl)) k3 bel lt3) trodAll_mk0)))), rfl, bel.frame _, fun h => by cases h⟩

theorem filterKeeps_holds : Rows.FilterKeepsSaid :=
  OpenClaim.holds_of_wide 4 Tryz.f4 rfl rfl rfl rfl rfl rfl rfl ⟨rfl, rfl, rfl, rfl, rfl⟩ rfl rfl rfl rfl rfl (by kernel_rfl) Tryz.func4 (by kernel_rfl)
    (of_decide_eq_true (by kernel_rfl)) (by unfold Func.isWrapper; first | (rw [if_pos (by decide +kernel)]; kernel_rfl) | (rw [if_neg (by decide +kernel)]; exact ⟨rfl, rfl⟩))
    (fun os started H enc _ => keeps_lifted os started H enc)
#print axioms filterKeeps_holds
end Go.Proofs.YtggkbhafbhhhhacGreat
