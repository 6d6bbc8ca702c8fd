/-
  StoreMeets is true at every input: what meets is within both, and whatever is within both is within it. No condition.
-/
import Derived.Test.YtggkbhafbhhhhabStoG
namespace Go.Proofs.Ytggkbhafbhhhhab
open Go.ChangeShapes Go.WideShapes Go.ChangeAt Go.RowKit Go.Deep

theorem withinA_ok (m : Mod) (s t : Sto) (hm : checkM m = 0) (hs : checkV m.vars s = 0) (ht : checkV m.vars t = 0) : withinA m s t = (withinS s t, 0) := by
  unfold withinA; rw [if_pos ((checkL_two m s t).2 ⟨hm, hs, ht⟩)]
theorem withinA_bad (m : Mod) (u t : Sto) (hm : checkM m = 0) (hu : checkV m.vars u ≠ 0) : withinA m u t = (false, checkV m.vars u) := by
  have h : checkL m [u, t] = checkV m.vars u := by
    unfold checkL; rw [if_pos hm]; simp only [List.map, firstE]; rw [if_neg hu]
  unfold withinA; rw [h, if_neg hu]

set_option maxHeartbeats 3200000 in
set_option maxRecDepth 100000 in
theorem meets_walk (m : Mod) (s t u : Sto) (vs cs v x y : Value) (w : World) (hm : MArg w vs cs m) (hv : RArg w v s) (hx : RArg w x t) (hy : RArg w y u) :
    Calls Try.prog 4 #[modV vs cs m, v, x, y] w fun e w' => e = .returned (.bool true) ∧ Below w.heap.size w w' := by
  have HMA : Hid (∀ w' : World, Below w.heap.size w w' → MArg w' vs cs m) := fun w' h => MArg.below h hm
  have HVA : Hid (∀ w' : World, Below w.heap.size w w' → RArg w' v s) := fun w' h => RArg.below h hv
  have HXA : Hid (∀ w' : World, Below w.heap.size w w' → RArg w' x t) := fun w' h => RArg.below h hx
  have HYA : Hid (∀ w' : World, Below w.heap.size w w' → RArg w' y u) := fun w' h => RArg.below h hy
  obtain ⟨⟨a1, c1, rfl, _, _⟩, ⟨a2, c2, rfl, _, _⟩⟩ := hm
  obtain ⟨a3, c3, rfl, _, _⟩ := hv
  obtain ⟨a4, c4, rfl, _, _⟩ := hx
  obtain ⟨a5, c5, rfl, _, _⟩ := hy
  have hmv : modV (.slice a1 m.vars.length c1) (.slice a2 m.cons.length c2) m = .agg #[.slice a1 m.vars.length c1, .slice a2 m.cons.length c2, .int .i64 m.goal, .int .i64 m.var] := rfl
  rw [hmv]
  clear hmv
  go_enter Try.func4, Try.ntmps4
  go_wp2_with fail
  refine (smeet_any m s t (.slice a1 m.vars.length c1) (.slice a2 m.cons.length c2) _ _ _ (HMA.out _ (below_alloc _ _)) (HVA.out _ (below_alloc _ _)) (HXA.out _ (below_alloc _ _))).mono ?_
  rintro e w1 ⟨z, rfl, hz, hb1⟩
  have hB1 : Below w.heap.size w w1 := (below_alloc _ _).trans (hb1.mono (by simp))
  have d0 : w1.cell? ⟨w.heap.size, 0, none⟩ = some (.slice a1 m.vars.length c1) := (hb1.cell (by simp)).trans (by simp)
  have d1 : w1.cell? ⟨w.heap.size, 1, none⟩ = some (.slice a2 m.cons.length c2) := (hb1.cell (by simp)).trans (by simp)
  have d2 : w1.cell? ⟨w.heap.size, 2, none⟩ = some (.int .i64 m.goal) := (hb1.cell (by simp)).trans (by simp)
  have d3 : w1.cell? ⟨w.heap.size, 3, none⟩ = some (.int .i64 m.var) := (hb1.cell (by simp)).trans (by simp)
  have hs1 : w.heap.size + 1 ≤ w1.heap.size := by simpa using hb1.size
  have HZ : Hid (∀ w' : World, Below w1.heap.size w1 w' → RArg w' z (meetA m s t).1) := fun w' h => RArg.below h hz
  obtain ⟨a6, c6, rfl, _, _⟩ := hz
  clear hb1
  go_wp2_with fail
  refine (begun_store _).mono ?_
  rintro e w2 ⟨rfl, hb2⟩
  have hB2 : Below w1.heap.size w1 w2 := hb2
  clear hb2
  by_cases he : checkL m [s, t] = 0
  · have hMA : meetA m s t = (meetS s t, 0) := by unfold meetA; rw [if_pos he]
    rw [hMA] at HZ
    rw [hMA]
    obtain ⟨o1, o2, o3⟩ := (checkL_two m s t).1 he
    have hl : t.length = s.length := ((checkV_ok _ _).1 o3).1.trans ((checkV_ok _ _).1 o2).1.symm
    have ox : checkV m.vars (meetS s t) = 0 := checkV_meet _ _ _ o2 o3
    have E1 : Hid (withinA m (meetS s t) s = (true, 0)) := by show _ = _; rw [withinA_ok m _ _ o1 ox o2, within_meet_l s t hl]
    have E2 : Hid (withinA m (meetS s t) t = (true, 0)) := by show _ = _; rw [withinA_ok m _ _ o1 ox o3, within_meet_r s t hl]
    have hB : Below w.heap.size w w2 := hB1.trans (hB2.mono (by omega))
    have hs2 := hB2.size
    have f0 := (hB2.cell (p := ⟨w.heap.size, 0, none⟩) (by simp only; omega)).trans d0
    have f1 := (hB2.cell (p := ⟨w.heap.size, 1, none⟩) (by simp only; omega)).trans d1
    have f2 := (hB2.cell (p := ⟨w.heap.size, 2, none⟩) (by simp only; omega)).trans d2
    have f3 := (hB2.cell (p := ⟨w.heap.size, 3, none⟩) (by simp only; omega)).trans d3
    have HZ2 : Hid (∀ w' : World, Below w2.heap.size w2 w' → RArg w' (.slice a6 (meetS s t).length c6) (meetS s t)) := fun w' h => HZ.out w' (hB2.trans (h.mono hs2))
    have hsw : w.heap.size < w2.heap.size := by omega
    have H5 : ∃ c d k f, Hid (withinA m u s = (c, f)) ∧ Hid (withinA m u t = (d, f)) ∧ Hid (withinA m u (meetS s t) = (k, f)) ∧ (f = 0 → k = (c && d)) := by
      by_cases hu : checkV m.vars u = 0
      · refine ⟨_, _, _, 0, withinA_ok m _ _ o1 hu o2, withinA_ok m _ _ o1 hu o3, withinA_ok m _ _ o1 hu ox, fun _ => ?_⟩
        exact within_meet s t u hl (((checkV_ok _ _).1 hu).1.trans ((checkV_ok _ _).1 o2).1.symm)
      · exact ⟨_, _, _, _, withinA_bad m _ _ o1 hu, withinA_bad m _ _ o1 hu, withinA_bad m _ _ o1 hu, fun h => absurd h hu⟩
    obtain ⟨c, d, k, f, E3, E4, E5, hk⟩ := H5
    clear he hMA hB1 hB2 d0 d1 d2 d3 hs1 o1 o2 o3 hl ox hs2 HZ
    go_wp2_with fail
    refine (swithin_any m (meetS s t) s (.slice a1 m.vars.length c1) (.slice a2 m.cons.length c2) _ _ _ (HMA.out _ hB) (HZ2.out _ (Below.refl _ _)) (HVA.out _ hB)).mono ?_
    rintro e w3 ⟨rfl, hb⟩
    rw [E1.out]
    have hB3 : Below w2.heap.size w2 w3 := hb
    have g0 := (hb.cell (p := ⟨w.heap.size, 0, none⟩) hsw).trans f0
    have g1 := (hb.cell (p := ⟨w.heap.size, 1, none⟩) hsw).trans f1
    have g2 := (hb.cell (p := ⟨w.heap.size, 2, none⟩) hsw).trans f2
    have g3 := (hb.cell (p := ⟨w.heap.size, 3, none⟩) hsw).trans f3
    have hs3 := hb.size
    have hsw3 : w.heap.size < w3.heap.size := by omega
    have HT : Hid (∀ w' : World, Below w3.heap.size w3 w' → Below w.heap.size w w' ∧ Below w2.heap.size w2 w') := fun w' h => ⟨hB.trans ((hb.trans (h.mono hs3)).mono (by omega)), hb.trans (h.mono hs3)⟩
    clear f0 f1 f2 f3 hb hB hB3
    go_wp2_with fail
    refine (swithin_any m (meetS s t) t (.slice a1 m.vars.length c1) (.slice a2 m.cons.length c2) _ _ _ (HMA.out _ (HT.out _ (Below.refl _ _)).1) (HZ2.out _ (HT.out _ (Below.refl _ _)).2) (HXA.out _ (HT.out _ (Below.refl _ _)).1)).mono ?_
    rintro e w4 ⟨rfl, hb⟩
    rw [E2.out]
    have f0 := (hb.cell (p := ⟨w.heap.size, 0, none⟩) hsw3).trans g0
    have f1 := (hb.cell (p := ⟨w.heap.size, 1, none⟩) hsw3).trans g1
    have f2 := (hb.cell (p := ⟨w.heap.size, 2, none⟩) hsw3).trans g2
    have f3 := (hb.cell (p := ⟨w.heap.size, 3, none⟩) hsw3).trans g3
    have hs4 := hb.size
    have hsw4 : w.heap.size < w4.heap.size := by omega
    have HT4 : Hid (∀ w' : World, Below w4.heap.size w4 w' → Below w.heap.size w w' ∧ Below w2.heap.size w2 w') := fun w' h => HT.out _ (hb.trans (h.mono hs4))
    clear g0 g1 g2 g3 hb HT hsw3
    go_wp2_with fail
    refine (swithin_any m u s (.slice a1 m.vars.length c1) (.slice a2 m.cons.length c2) _ _ _ (HMA.out _ (HT4.out _ (Below.refl _ _)).1) (HYA.out _ (HT4.out _ (Below.refl _ _)).1) (HVA.out _ (HT4.out _ (Below.refl _ _)).1)).mono ?_
    rintro e w5 ⟨rfl, hb⟩
    rw [E3.out]
    have g0 := (hb.cell (p := ⟨w.heap.size, 0, none⟩) hsw4).trans f0
    have g1 := (hb.cell (p := ⟨w.heap.size, 1, none⟩) hsw4).trans f1
    have g2 := (hb.cell (p := ⟨w.heap.size, 2, none⟩) hsw4).trans f2
    have g3 := (hb.cell (p := ⟨w.heap.size, 3, none⟩) hsw4).trans f3
    have hs5 := hb.size
    have hsw5 : w.heap.size < w5.heap.size := by omega
    have HT5 : Hid (∀ w' : World, Below w5.heap.size w5 w' → Below w.heap.size w w' ∧ Below w2.heap.size w2 w') := fun w' h => HT4.out _ (hb.trans (h.mono hs5))
    clear f0 f1 f2 f3 hb HT4 hsw4
    go_wp2_with fail
    refine (swithin_any m u t (.slice a1 m.vars.length c1) (.slice a2 m.cons.length c2) _ _ _ (HMA.out _ (HT5.out _ (Below.refl _ _)).1) (HYA.out _ (HT5.out _ (Below.refl _ _)).1) (HXA.out _ (HT5.out _ (Below.refl _ _)).1)).mono ?_
    rintro e w6 ⟨rfl, hb⟩
    rw [E4.out]
    have f0 := (hb.cell (p := ⟨w.heap.size, 0, none⟩) hsw5).trans g0
    have f1 := (hb.cell (p := ⟨w.heap.size, 1, none⟩) hsw5).trans g1
    have f2 := (hb.cell (p := ⟨w.heap.size, 2, none⟩) hsw5).trans g2
    have f3 := (hb.cell (p := ⟨w.heap.size, 3, none⟩) hsw5).trans g3
    have hs6 := hb.size
    have hsw6 : w.heap.size < w6.heap.size := by omega
    have HT6 : Hid (∀ w' : World, Below w6.heap.size w6 w' → Below w.heap.size w w' ∧ Below w2.heap.size w2 w') := fun w' h => HT5.out _ (hb.trans (h.mono hs6))
    clear g0 g1 g2 g3 hb HT5 hsw5
    go_wp2_with fail
    refine (swithin_any m u (meetS s t) (.slice a1 m.vars.length c1) (.slice a2 m.cons.length c2) _ _ _ (HMA.out _ (HT6.out _ (Below.refl _ _)).1) (HYA.out _ (HT6.out _ (Below.refl _ _)).1) (HZ2.out _ (HT6.out _ (Below.refl _ _)).2)).mono ?_
    rintro e w7 ⟨rfl, hb⟩
    rw [E5.out]
    have hB7 : Below w.heap.size w w7 := (HT6.out _ hb).1
    clear f0 f1 f2 f3 hb HT6 hsw6
    by_cases hf : f = 0
    · subst hf
      have hk2 := hk rfl
      subst hk2
      clear hk
      cases c <;> cases d <;> (go_wp2; go_ret; exact ⟨rfl, hB7⟩)
    · have he2 : (f != 0) = true := by simpa using hf
      clear hf hk
      go_wp2
      go_ret
      exact ⟨rfl, hB7⟩
  · have hMA : meetA m s t = ([], checkL m [s, t]) := by unfold meetA; rw [if_neg he]
    rw [hMA]
    obtain ⟨er, her⟩ : ∃ er, checkL m [s, t] = er := ⟨_, rfl⟩
    rw [her] at he ⊢
    have he2 : (er != 0) = true := by simpa using he
    have hB : Below w.heap.size w w2 := hB1.trans (hB2.mono (by omega))
    clear he her hMA hB1 hB2 d0 d1 d2 d3
    go_wp2
    go_ret
    exact ⟨rfl, hB⟩

theorem meets_own : ownKnob Try.prog.godebug = none := by kernel_rfl
theorem meets_laidOut : laidOutB Try.prog = true := by kernel_rfl
theorem meets_cStore : Try.prog.cellsOf 27 = 1 := by kernel_rfl
section
variable {H : Type} {enc : TypeId × Value → H} {w : World} {base : Nat} {spare : Nat → Bool} {held : Bool}
/-- A store that came in. -/
theorem open_store {fuel : Nat} {cs : List Value} {x : DataW H × List MemPlace} (h : DataW.trod enc Try.prog w base spare held fuel 27 cs = some x) :
    ∃ v l, cs = [v] ∧ RArg w v l := by
  obtain ⟨l, a, c, hcs, hm, hr⟩ := open_elems (α := Value × List Int) Try.underStore Try.cInts (by decide) (fun z => [z.1]) (fun z => IArg w z.1 z.2)
    (fun n cs' x' h' => by obtain ⟨v, r, hz, hi⟩ := open_ilist h'; exact ⟨(v, r), hz, hi⟩) h
  refine ⟨_, l.map (·.2), hcs, a, c, by simp, by simpa using hm, fun i r hr' => ?_⟩
  rw [List.getElem?_map] at hr'
  obtain ⟨⟨v, r2⟩, hz, rfl⟩ := Option.map_eq_some_iff.1 hr'
  obtain ⟨hg, b, off, ha, hb, hc⟩ := hr i _ hz
  have := hc 0 _ rfl
  exact ⟨b, off, v, ha, hb, by simpa using this, hg⟩
end

set_option maxHeartbeats 1600000 in
set_option maxRecDepth 100000 in
theorem meets_lifted (os : Os) (started : os.Started) (H : Type) (enc : TypeId × Value → H) :
    ReturnsInHanded {} Try.checked os 4 .any (Rows.storeMeetsSpec.pre6 enc Try.prog Try.f4 Rows.storeMeetsRow.domain false) (Rows.storeMeetsSpec.post enc Try.prog Try.f4 false true false false) := by
  refine returnsInHanded_of_change_sized (C := Try.checked) meets_own started (by kernel_rfl) Try.func4
    (ChangeSpec.witness6 (enc := enc) (C := Try.checked) false ⟨#[], #[.agg #[.slice none 0 0, .slice none 0 0, .int .i64 0, .int .i64 0], .slice none 0 0, .slice none 0 0, .slice none 0 0], []⟩ 8 (by kernel_rfl) (by kernel_rfl) (by kernel_rfl) (by kernel_rfl)) ?_
  intro W base args ds gs before hval0 hW hcnd hsz0 _
  have hval : ∀ (j : Nat) t v, Try.f4.params[j]? = some t → args[j]? = some v → Value.okWide Try.prog W .any base t v := hval0
  have hW' := hW
  obtain ⟨p, q, hA0, hV, rfl, hfz, hnd⟩ := hW
  have hA : DataW.TrodAll enc Try.prog W 0 (fun _ => true) true Try.f4.params.toList args.toList ds p := hA0
  rw [Try.params4] at hA hval
  obtain ⟨v0, vs0, d0, ds0, p0, q0, hargs, rfl, rfl, h0, r0⟩ := trodAll_cons hA
  obtain ⟨v1, vs1, d1, ds1, p1, q1, rfl, rfl, rfl, h1, r1⟩ := trodAll_cons r0
  obtain ⟨v2, vs2, d2, ds2, p2, q2, rfl, rfl, rfl, h2, r2⟩ := trodAll_cons r1
  obtain ⟨v3, vs3, d3, ds3, p3, q3, rfl, rfl, rfl, h3, r3⟩ := trodAll_cons r2
  obtain ⟨rfl, rfl, rfl⟩ := trodAll_nil r3
  obtain rfl : args = #[v0, v1, v2, v3] := by cases args; simp_all
  obtain ⟨rfl, rfl⟩ := trodVars_none hV
  have k0 := h0
  have k1 := h1
  have k2 := h2
  have k3 := h3
  have lt0 : ∀ x ∈ p0, x.block < W.heap.size := by obtain ⟨m, hm⟩ := k0; exact DataW.trod_lt m _ _ _ hm
  have lt1 : ∀ x ∈ p1, x.block < W.heap.size := by obtain ⟨m, hm⟩ := k1; exact DataW.trod_lt m _ _ _ hm
  have lt2 : ∀ x ∈ p2, x.block < W.heap.size := by obtain ⟨m, hm⟩ := k2; exact DataW.trod_lt m _ _ _ hm
  have lt3 : ∀ x ∈ p3, x.block < W.heap.size := by obtain ⟨m, hm⟩ := k3; exact DataW.trod_lt m _ _ _ hm
  obtain ⟨vs, cs, m, rfl, hm⟩ := open_model (hval 0 25 v0 rfl rfl) h0
  obtain ⟨f1, hf1⟩ := h1
  obtain ⟨f2, hf2⟩ := h2
  obtain ⟨f3, hf3⟩ := h3
  obtain ⟨u1, s, e1, i1⟩ := open_store hf1
  obtain ⟨u2, t, e2, i2⟩ := open_store hf2
  obtain ⟨u3, u, e3, i3⟩ := open_store hf3
  obtain ⟨a1, n1, c1, rfl⟩ := okWide_slice Try.underStore (hval 1 27 v1 rfl rfl)
  obtain ⟨a2, n2, c2, rfl⟩ := okWide_slice Try.underStore (hval 2 27 v2 rfl rfl)
  obtain ⟨a3, n3, c3, rfl⟩ := okWide_slice Try.underStore (hval 3 27 v3 rfl rfl)
  obtain rfl : u1 = .slice a1 n1 c1 := by simpa [Value.cells] using e1.symm
  obtain rfl : u2 = .slice a2 n2 c2 := by simpa [Value.cells] using e2.symm
  obtain rfl : u3 = .slice a3 n3 c3 := by simpa [Value.cells] using e3.symm
  clear hA0 hval0
  refine (meets_walk m s t u vs cs _ _ _ W hm i1 i2 i3).mono fun e W' ⟨he, bel⟩ => ?_
  subst he
  exact ⟨_, rfl, _, _, _, [], _, [], hW', trodAll_mk1 (shut_bool Try.underlying4 _),
    (trodAll_cons_mk (Below.trod meets_laidOut (by kernel_rfl) (of_decide_eq_true (by kernel_rfl)) k0 bel lt0)
      (trodAll_cons_mk (Below.trod meets_laidOut (by kernel_rfl) (of_decide_eq_true (by kernel_rfl)) k1 bel lt1)
        (trodAll_cons_mk (Below.trod meets_laidOut (by kernel_rfl) (of_decide_eq_true (by kernel_rfl)) k2 bel lt2)
          (trodAll_cons_mk (Below.trod meets_laidOut (by kernel_rfl) (of_decide_eq_true (by kernel_rfl)) k3 bel lt3) trodAll_mk0)))), rfl, bel.frame _, fun h => by cases h⟩

theorem storeMeets_holds : Rows.StoreMeetsSaid :=
  OpenClaim.holds_of_wide 4 Try.f4 rfl rfl rfl rfl rfl rfl rfl ⟨rfl, rfl, rfl, rfl, rfl⟩ rfl rfl rfl rfl rfl (by kernel_rfl) Try.func4 (by kernel_rfl)
    (of_decide_eq_true (by kernel_rfl)) (by unfold Func.isWrapper; first | (rw [if_pos (by decide +kernel)]; kernel_rfl) | (rw [if_neg (by decide +kernel)]; exact ⟨rfl, rfl⟩))
    (fun os started H enc _ => meets_lifted os started H enc)
#print axioms storeMeets_holds
end Go.Proofs.Ytggkbhafbhhhhab
