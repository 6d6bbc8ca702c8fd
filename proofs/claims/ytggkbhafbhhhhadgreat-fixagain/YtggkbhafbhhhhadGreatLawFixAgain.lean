/-
  FixAgain is true at every input: done twice it is done once; what is within is within; and all together leave no more than a part does. No condition.
-/
import Derived.Test.YtggkbhafbhhhhadGreatPartG
import Derived.Test.YtggkbhafbhhhhadGreatRows
namespace Go.Proofs.YtggkbhafbhhhhadGreat
open Go.ChangeShapes Go.WideShapes Go.ChangeAt Go.RowKit Go.Deep

theorem fwithin (m : Mod) (s t : Sto) (hm : checkM m = 0) (hs : checkV m.vars s = 0) (ht : checkV m.vars t = 0) (h : SubS s t) : withinA m s t = (true, 0) := by
  unfold withinA
  rw [if_pos ((checkL_two m s t).2 ⟨hm, hs, ht⟩), sub_within h]
theorem sub_meet (s t : Sto) (h : t.length = s.length) : SubS (meetS s t) s := by rw [meetS_sift s t h]; exact sub_sift _ _
theorem right_meet (vs : List MVar) (s t : Sto) (h : t.length = s.length) (hs : checkV vs s = 0) : checkV vs (meetS s t) = 0 := by rw [meetS_sift s t h]; exact checkV_sift _ _ _ hs
theorem rises_of (vs : List MVar) (s : Sto) (h : checkV vs s = 0) : s.all risesB = true := ((checkV_ok _ _).1 h).2.2

set_option maxHeartbeats 3200000 in
set_option maxRecDepth 100000 in
theorem fagain_walk (m : Mod) (s q : Sto) (l : List Cla) (vs cs v y u : Value) (w : World) (hm : MArg w vs cs m) (hv : RArg w v s) (hy : RArg w y q) (hu : LLArg w u l) :
    Calls Tryz.prog 5 #[modV vs cs m, v, y, u] w fun e w' => e = .returned (.bool true) ∧ Below w.heap.size w w' := by
  have HMA : Hid (∀ w' : World, Below w.heap.size w w' → MArg w' vs cs m) := fun w' h => MArg.below h hm
  have HVA : Hid (∀ w' : World, Below w.heap.size w w' → RArg w' v s) := fun w' h => RArg.below h hv
  have HUA : Hid (∀ w' : World, Below w.heap.size w w' → LLArg w' u l) := fun w' h => LLArg.below h hu
  have HYA : Hid (∀ w' : World, Below w.heap.size w w' → RArg w' y q) := fun w' h => RArg.below h hy
  obtain ⟨⟨a1, c1, rfl, _, _⟩, ⟨a2, c2, rfl, _, _⟩⟩ := hm
  obtain ⟨a3, c3, rfl, _, _⟩ := hv
  obtain ⟨a4, c4, rfl, _, _⟩ := hu
  obtain ⟨a5, c5, rfl, _, _⟩ := hy
  obtain ⟨W, hW⟩ : ∃ W : World, W = w.alloc (.cells #[.slice a1 m.vars.length c1, .slice a2 m.cons.length c2, .int .i64 m.goal, .int .i64 m.var] 25) := ⟨_, rfl⟩
  have HW : Hid (W = w.alloc (.cells #[.slice a1 m.vars.length c1, .slice a2 m.cons.length c2, .int .i64 m.goal, .int .i64 m.var] 25)) := hW
  have HBW : Hid (Below w.heap.size w W) := by rw [hW]; exact below_alloc _ _
  have hsW : w.heap.size < W.heap.size := by rw [hW]; simp
  have HC : Hid (∀ w' : World, Below W.heap.size W w' → w'.cell? ⟨w.heap.size, 0, none⟩ = some (.slice a1 m.vars.length c1) ∧ w'.cell? ⟨w.heap.size, 1, none⟩ = some (.slice a2 m.cons.length c2) ∧ w'.cell? ⟨w.heap.size, 2, none⟩ = some (.int .i64 m.goal) ∧ w'.cell? ⟨w.heap.size, 3, none⟩ = some (.int .i64 m.var)) := by
    intro w' h
    refine ⟨?_, ?_, ?_, ?_⟩
    all_goals (refine (h.cell hsW).trans ?_; rw [hW]; simp)
  have HMW : Hid (∀ w' : World, Below W.heap.size W w' → MArg w' (.slice a1 m.vars.length c1) (.slice a2 m.cons.length c2) m) := fun w' h => HMA.out _ (HBW.out.trans (h.mono (by omega)))
  have HVW : Hid (∀ w' : World, Below W.heap.size W w' → RArg w' (.slice a3 s.length c3) s) := fun w' h => HVA.out _ (HBW.out.trans (h.mono (by omega)))
  have HUW : Hid (∀ w' : World, Below W.heap.size W w' → LLArg w' (.slice a4 l.length c4) l) := fun w' h => HUA.out _ (HBW.out.trans (h.mono (by omega)))
  have HYW : Hid (∀ w' : World, Below W.heap.size W w' → RArg w' (.slice a5 q.length c5) q) := fun w' h => HYA.out _ (HBW.out.trans (h.mono (by omega)))
  have hmv : modV (.slice a1 m.vars.length c1) (.slice a2 m.cons.length c2) m = .agg #[.slice a1 m.vars.length c1, .slice a2 m.cons.length c2, .int .i64 m.goal, .int .i64 m.var] := rfl
  rw [hmv]
  clear hmv hW HMA HVA HUA HYA
  go_enter Tryz.func5, Tryz.ntmps5
  go_wp2_with fail
  rw [← HW.out]
  clear HW
  refine (fboth_any m s l (.slice a1 m.vars.length c1) (.slice a2 m.cons.length c2) _ _ _ (HMW.out _ (Below.refl _ _)) (HVW.out _ (Below.refl _ _)) (HUW.out _ (Below.refl _ _))).mono ?_
  rintro e w1 ⟨tv, er, t, rfl, ht, hf, hb1⟩
  have HT1 : Hid (∀ w' : World, Below w1.heap.size w1 w' → RArg w' tv t) := fun w' h => RArg.below h ht
  have HF : Hid (FixR (bothE m s l) (bothSteps m l) m.vars s t er) := hf
  obtain ⟨at_, ct, rfl, _, _⟩ := ht
  clear hf
  go_wp2_with fail
  refine (begun_fix _).mono ?_
  rintro e w2 ⟨rfl, hb2⟩
  go_wp2_with fail
  refine (begun_store _).mono ?_
  rintro e w3 ⟨rfl, hb3⟩
  have HB13 : Hid (Below w1.heap.size w1 w3) := hb2.trans (hb3.mono hb2.size)
  have HB3 : Hid (Below W.heap.size W w3) := hb1.trans (HB13.out.mono hb1.size)
  clear hb1 hb2 hb3
  by_cases hc : bothE m s l = 0
  · obtain ⟨rfl, hg, hcv⟩ := HF.out.2 hc
    obtain ⟨o0, o3⟩ := bothE_ok m s l hc
    obtain ⟨o1, o2⟩ := (checkL_one m s).1 o0
    have HG : Hid (Greatest (bothSteps m l) s t) := hg
    have HCV : Hid (checkV m.vars t = 0) := hcv
    have HO0 : Hid (checkL m [s] = 0) := o0
    have HO1 : Hid (checkM m = 0) := o1
    have HO2 : Hid (checkV m.vars s = 0) := o2
    have HO3 : Hid (clasE m.vars l = 0) := o3
    have HBE : Hid (∀ z : Sto, checkV m.vars z = 0 → bothE m z l = 0) := fun z hz => by unfold bothE; rw [if_pos ((checkL_one m z).2 ⟨o1, hz⟩)]; exact o3
    clear hc hg hcv o0 o1 o2 o3 HF
    have hs0 : w.heap.size < w3.heap.size := Nat.lt_of_lt_of_le hsW HB3.out.size
    obtain ⟨g0, g1, g2, g3⟩ := HC.out _ HB3.out
    go_wp2_with fail
    refine (fboth_any m t l (.slice a1 m.vars.length c1) (.slice a2 m.cons.length c2) _ _ _ (HMW.out _ HB3.out) (HT1.out _ HB13.out) (HUW.out _ HB3.out)).mono ?_
    rintro e w4 ⟨rv, er, t2, rfl, hr, hf, hb4⟩
    obtain ⟨rfl, hg2, hcv2⟩ := hf.2 (HBE.out t HCV.out)
    obtain rfl : t2 = t := great_again HG.out hg2 (rises_of _ _ HCV.out) (rises_of _ _ hcv2)
    have HR4 : Hid (∀ w' : World, Below w4.heap.size w4 w' → RArg w' rv t2) := fun w' h => RArg.below h hr
    obtain ⟨ar, cr, rfl, _, _⟩ := hr
    have HB14 : Hid (Below w1.heap.size w1 w4) := HB13.out.trans (hb4.mono HB13.out.size)
    have HB4 : Hid (Below W.heap.size W w4) := HB3.out.trans (hb4.mono HB3.out.size)
    clear hb4 hf hg2 hcv2 g0 g1 g2 g3 HB13 HB3
    obtain ⟨g0, g1, g2, g3⟩ := HC.out _ HB4.out
    go_wp2_with fail
    refine (fcons_any m s (.slice a1 m.vars.length c1) (.slice a2 m.cons.length c2) _ _ (HMW.out _ HB4.out) (HVW.out _ HB4.out)).mono ?_
    rintro e w5 ⟨av, er, A, rfl, ha, hf, hb5⟩
    obtain ⟨rfl, hgA, hcA⟩ := hf.2 HO0.out
    have HWA : Hid (withinA m t2 A = (true, 0)) := fwithin m t2 A HO1.out HCV.out hcA (great_part HG.out hgA (fun g hg => List.mem_append.2 (Or.inr hg)))
    have HA5 : Hid (∀ w' : World, Below w5.heap.size w5 w' → RArg w' av A) := fun w' h => RArg.below h ha
    obtain ⟨aa, ca, rfl, _, _⟩ := ha
    have HB15 : Hid (Below w1.heap.size w1 w5) := HB14.out.trans (hb5.mono HB14.out.size)
    have HB45 : Hid (Below w4.heap.size w4 w5) := hb5
    have HB5 : Hid (Below W.heap.size W w5) := HB4.out.trans (hb5.mono HB4.out.size)
    clear hb5 hf hgA hcA g0 g1 g2 g3 HB14 HB4
    obtain ⟨g0, g1, g2, g3⟩ := HC.out _ HB5.out
    go_wp2_with fail
    refine (funits_any m s l (.slice a1 m.vars.length c1) (.slice a2 m.cons.length c2) _ _ _ (HMW.out _ HB5.out) (HVW.out _ HB5.out) (HUW.out _ HB5.out)).mono ?_
    rintro e w6 ⟨bv, er, D, rfl, hd, hf, hb6⟩
    obtain ⟨rfl, hgD, hcD⟩ := hf.2 (HBE.out s HO2.out)
    have HWD : Hid (withinA m t2 D = (true, 0)) := fwithin m t2 D HO1.out HCV.out hcD (great_part HG.out hgD (fun g hg => List.mem_append.2 (Or.inl hg)))
    have HD6 : Hid (∀ w' : World, Below w6.heap.size w6 w' → RArg w' bv D) := fun w' h => RArg.below h hd
    obtain ⟨ab, cb, rfl, _, _⟩ := hd
    have HB16 : Hid (Below w1.heap.size w1 w6) := HB15.out.trans (hb6.mono HB15.out.size)
    have HB46 : Hid (Below w4.heap.size w4 w6) := HB45.out.trans (hb6.mono HB45.out.size)
    have HB56 : Hid (Below w5.heap.size w5 w6) := hb6
    have HB6 : Hid (Below W.heap.size W w6) := HB5.out.trans (hb6.mono HB5.out.size)
    clear hb6 hf hgD hcD g0 g1 g2 g3 HB15 HB5 HB45
    obtain ⟨g0, g1, g2, g3⟩ := HC.out _ HB6.out
    go_wp2_with fail
    refine (swithin_any m t2 A (.slice a1 m.vars.length c1) (.slice a2 m.cons.length c2) _ _ _ (HMW.out _ HB6.out) (HT1.out _ HB16.out) (HA5.out _ HB56.out)).mono ?_
    rintro e w7 ⟨rfl, hb7⟩
    rw [HWA.out]
    have HB67 : Hid (Below w6.heap.size w6 w7) := hb7
    have HB17 : Hid (Below w1.heap.size w1 w7) := HB16.out.trans (hb7.mono HB16.out.size)
    have HB47 : Hid (Below w4.heap.size w4 w7) := HB46.out.trans (hb7.mono HB46.out.size)
    have HB7 : Hid (Below W.heap.size W w7) := HB6.out.trans (hb7.mono HB6.out.size)
    clear hb7 g0 g1 g2 g3 HB16 HB46 HB56 HB6
    obtain ⟨g0, g1, g2, g3⟩ := HC.out _ HB7.out
    go_wp2_with fail
    refine (swithin_any m t2 D (.slice a1 m.vars.length c1) (.slice a2 m.cons.length c2) _ _ _ (HMW.out _ HB7.out) (HT1.out _ HB17.out) (HD6.out _ HB67.out)).mono ?_
    rintro e w8 ⟨rfl, hb8⟩
    rw [HWD.out]
    have HB18 : Hid (Below w1.heap.size w1 w8) := HB17.out.trans (hb8.mono HB17.out.size)
    have HB48 : Hid (Below w4.heap.size w4 w8) := HB47.out.trans (hb8.mono HB47.out.size)
    have HB8 : Hid (Below W.heap.size W w8) := HB7.out.trans (hb8.mono HB7.out.size)
    clear hb8 g0 g1 g2 g3 HB17 HB47 HB67 HB7
    go_wp2_with fail
    refine (samestore_any t2 t2 _ _ _ (HR4.out _ HB48.out) (HT1.out _ HB18.out)).mono ?_
    rintro e w9 ⟨rfl, n9, h9⟩
    have HDE : Hid (decide (t2 = t2) = true) := by show _ = _; simp
    rw [HDE.out]
    have HB19 : Hid (Below w1.heap.size w1 w9) := HB18.out.trans ((draws_below h9).mono HB18.out.size)
    have HB9 : Hid (Below W.heap.size W w9) := HB8.out.trans ((draws_below h9).mono HB8.out.size)
    clear h9 HB18 HB48 HB8
    obtain ⟨g0, g1, g2, g3⟩ := HC.out _ HB9.out
    go_wp2_with fail
    refine (smeet_any m s q (.slice a1 m.vars.length c1) (.slice a2 m.cons.length c2) _ _ _ (HMW.out _ HB9.out) (HVW.out _ HB9.out) (HYW.out _ HB9.out)).mono ?_
    rintro e wa ⟨lv, rfl, hl, hba⟩
    have HB1a : Hid (Below w1.heap.size w1 wa) := HB19.out.trans (hba.mono HB19.out.size)
    have HBa : Hid (Below W.heap.size W wa) := HB9.out.trans (hba.mono HB9.out.size)
    have HBea : Hid (Below w.heap.size w wa) := HBW.out.trans (HBa.out.mono (by omega))
    clear hba g0 g1 g2 g3 HB19 HB9
    by_cases hme : checkL m [s, q] = 0
    · obtain ⟨_, _, p3⟩ := (checkL_two m s q).1 hme
      have hql : q.length = s.length := ((checkV_ok _ _).1 p3).1.trans ((checkV_ok _ _).1 HO2.out).1.symm
      have hmA : meetA m s q = (meetS s q, 0) := by unfold meetA; rw [if_pos hme]
      rw [hmA] at hl ⊢
      have hrm := right_meet m.vars s q hql HO2.out
      have HSM : Hid (SubS (meetS s q) s) := sub_meet s q hql
      obtain ⟨M, hM⟩ : ∃ M, meetS s q = M := ⟨_, rfl⟩
      rw [hM] at hl hrm HSM
      have HRM : Hid (checkV m.vars M = 0) := hrm
      have HLa : Hid (RArg wa lv M) := hl
      obtain ⟨al, cl, rfl, _, _⟩ := hl
      clear hme p3 hql hmA hrm hM
      obtain ⟨g0, g1, g2, g3⟩ := HC.out _ HBa.out
      go_wp2_with fail
      refine (fboth_any m M l (.slice a1 m.vars.length c1) (.slice a2 m.cons.length c2) _ _ _ (HMW.out _ HBa.out) HLa.out (HUW.out _ HBa.out)).mono ?_
      rintro e wb ⟨kv, er, K, rfl, hk, hf, hbb⟩
      obtain ⟨rfl, hgK, hcK⟩ := hf.2 (HBE.out M HRM.out)
      have HWK : Hid (withinA m K t2 = (true, 0)) := fwithin m K t2 HO1.out hcK HCV.out (great_less HG.out hgK HSM.out)
      have HKb : Hid (RArg wb kv K) := hk
      obtain ⟨ak, ck, rfl, _, _⟩ := hk
      have HB1b : Hid (Below w1.heap.size w1 wb) := HB1a.out.trans (hbb.mono HB1a.out.size)
      have HBb : Hid (Below W.heap.size W wb) := HBa.out.trans (hbb.mono HBa.out.size)
      clear hbb hf hgK hcK g0 g1 g2 g3
      obtain ⟨g0, g1, g2, g3⟩ := HC.out _ HBb.out
      go_wp2_with fail
      refine (swithin_any m K t2 (.slice a1 m.vars.length c1) (.slice a2 m.cons.length c2) _ _ _ (HMW.out _ HBb.out) HKb.out (HT1.out _ HB1b.out)).mono ?_
      rintro e wc ⟨rfl, hbc⟩
      rw [HWK.out]
      have hBc : Below w.heap.size w wc := HBW.out.trans ((HBb.out.trans (hbc.mono HBb.out.size)).mono (by omega))
      clear hbc g0 g1 g2 g3
      go_wp2
      go_ret
      exact ⟨rfl, hBc⟩
    · have hmA : meetA m s q = ([], checkL m [s, q]) := by unfold meetA; rw [if_neg hme]
      rw [hmA] at hl ⊢
      obtain ⟨er, her⟩ : ∃ er, checkL m [s, q] = er := ⟨_, rfl⟩
      rw [her] at hme ⊢
      have he2 : (er != 0) = true := by simpa using hme
      obtain ⟨al, cl, rfl, _, _⟩ := hl
      clear hme hmA her
      go_wp2
      go_ret
      exact ⟨rfl, HBea.out⟩
  · obtain ⟨h1, h2⟩ := HF.out.1 hc
    subst h1
    subst h2
    have he2 : (bothE m s l != 0) = true := by simpa using hc
    have hBe : Below w.heap.size w w3 := HBW.out.trans (HB3.out.mono (by omega))
    clear hc HF
    go_wp2
    go_ret
    exact ⟨rfl, hBe⟩

theorem fixagain_own : ownKnob Tryz.prog.godebug = none := by kernel_rfl
theorem fixagain_laidOut : laidOutB Tryz.prog = true := by kernel_rfl

set_option maxHeartbeats 1600000 in
set_option maxRecDepth 100000 in
theorem fixagain_lifted (os : Os) (started : os.Started) (H : Type) (enc : TypeId × Value → H) :
    ReturnsInHanded {} Tryz.checked os 5 .any (Rows.fixAgainSpec.pre6 enc Tryz.prog Tryz.f5 Rows.fixAgainRow.domain false) (Rows.fixAgainSpec.post enc Tryz.prog Tryz.f5 false true false false) := by
  refine returnsInHanded_of_change_sized (C := Tryz.checked) fixagain_own started (by kernel_rfl) Tryz.func5
    (ChangeSpec.witness6 (enc := enc) (C := Tryz.checked) false ⟨#[], #[.agg #[.slice none 0 0, .slice none 0 0, .int .i64 0, .int .i64 0], .slice none 0 0, .slice none 0 0, .slice none 0 0], []⟩ 8 (by kernel_rfl) (by kernel_rfl) (by kernel_rfl) (by kernel_rfl)) ?_
  intro W base args ds gs before hval0 hW hcnd hsz0 _
  have hval : ∀ (j : Nat) t v, Tryz.f5.params[j]? = some t → args[j]? = some v → Value.okWide Tryz.prog W .any base t v := hval0
  have hW' := hW
  obtain ⟨p, q, hA0, hV, rfl, hfz, hnd⟩ := hW
  have hA : DataW.TrodAll enc Tryz.prog W 0 (fun _ => true) true Tryz.f5.params.toList args.toList ds p := hA0
  rw [Tryz.params5] at hA hval
  obtain ⟨v0, vs0, d0, ds0, p0, q0, hargs, rfl, rfl, h0, r0⟩ := trodAll_cons hA
  obtain ⟨v1, vs1, d1, ds1, p1, q1, rfl, rfl, rfl, h1, r1⟩ := trodAll_cons r0
  obtain ⟨v2, vs2, d2, ds2, p2, q2, rfl, rfl, rfl, h2, r2⟩ := trodAll_cons r1
  obtain ⟨v3, vs3, d3, ds3, p3, q3, rfl, rfl, rfl, h3, r3⟩ := trodAll_cons r2
  obtain ⟨rfl, rfl, rfl⟩ := trodAll_nil r3
  obtain rfl : args = #[v0, v1, v2, v3] := by cases args; simp_all
  obtain ⟨rfl, rfl⟩ := trodVars_none hV
  have k0 := h0
  have k1 := h1
  have k2 := h2
  have k3 := h3
  have lt0 : ∀ x ∈ p0, x.block < W.heap.size := by obtain ⟨m, hm⟩ := k0; exact DataW.trod_lt m _ _ _ hm
  have lt1 : ∀ x ∈ p1, x.block < W.heap.size := by obtain ⟨m, hm⟩ := k1; exact DataW.trod_lt m _ _ _ hm
  have lt2 : ∀ x ∈ p2, x.block < W.heap.size := by obtain ⟨m, hm⟩ := k2; exact DataW.trod_lt m _ _ _ hm
  have lt3 : ∀ x ∈ p3, x.block < W.heap.size := by obtain ⟨m, hm⟩ := k3; exact DataW.trod_lt m _ _ _ hm
  obtain ⟨vs, cs, m, rfl, hm⟩ := open_model (hval 0 25 v0 rfl rfl) h0
  obtain ⟨f1, hf1⟩ := h1
  obtain ⟨u1, s, e1, i1⟩ := open_store hf1
  obtain ⟨a1, n1, c1, rfl⟩ := okWide_slice Tryz.underStore (hval 1 27 v1 rfl rfl)
  obtain rfl : u1 = .slice a1 n1 c1 := by simpa [Value.cells] using e1.symm
  obtain ⟨f2, hf2⟩ := h2
  obtain ⟨u2, q, e2, i2⟩ := open_store hf2
  obtain ⟨a2, n2, c2, rfl⟩ := okWide_slice Tryz.underStore (hval 2 27 v2 rfl rfl)
  obtain rfl : u2 = .slice a2 n2 c2 := by simpa [Value.cells] using e2.symm
  obtain ⟨f3, hf3⟩ := h3
  obtain ⟨u3, l, e3, i3⟩ := open_clas hf3
  obtain ⟨a3, n3, c3, rfl⟩ := okWide_slice Tryz.underClauses (hval 3 28 v3 rfl rfl)
  obtain rfl : u3 = .slice a3 n3 c3 := by simpa [Value.cells] using e3.symm
  clear hA0 hval0
  refine (fagain_walk m s q l vs cs _ _ _ W hm i1 i2 i3).mono fun e W' ⟨he, bel⟩ => ?_
  subst he
  exact ⟨_, rfl, _, _, _, [], _, [], hW', trodAll_mk1 (shut_bool Tryz.underlying4 _),
    (trodAll_cons_mk (Below.trod fixagain_laidOut (by kernel_rfl) (of_decide_eq_true (by kernel_rfl)) k0 bel lt0)
      (trodAll_cons_mk (Below.trod fixagain_laidOut (by kernel_rfl) (of_decide_eq_true (by kernel_rfl)) k1 bel lt1)
        (trodAll_cons_mk (Below.trod fixagain_laidOut (by kernel_rfl) (of_decide_eq_true (by kernel_rfl)) k2 bel lt2)
          (trodAll_cons_mk (Below.trod fixagain_laidOut (by kernel_rfl) (of_decide_eq_true (by kernel_rfl)) k3 bel lt3) trodAll_mk0)))), rfl, bel.frame _, fun h => by cases h⟩

theorem fixAgain_holds : Rows.FixAgainSaid :=
  OpenClaim.holds_of_wide 5 Tryz.f5 rfl rfl rfl rfl rfl rfl rfl ⟨rfl, rfl, rfl, rfl, rfl⟩ rfl rfl rfl rfl rfl (by kernel_rfl) Tryz.func5 (by kernel_rfl)
    (of_decide_eq_true (by kernel_rfl)) (by unfold Func.isWrapper; first | (rw [if_pos (by decide +kernel)]; kernel_rfl) | (rw [if_neg (by decide +kernel)]; exact ⟨rfl, rfl⟩))
    (fun os started H enc _ => fixagain_lifted os started H enc)
#print axioms fixAgain_holds
end Go.Proofs.YtggkbhafbhhhhadGreat
