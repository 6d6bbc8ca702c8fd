/-
  PART 19 of what the proof leans on (BstF, RepE, OpnA, OpnB, OpnC).
-/
import Derived.Test.YtdjbejlbmaiocagGreatDoorPartR
/-
  PLAIN: what is best is at least as good as whatever holds. WALK: BestLeast.
-/
namespace Go.Proofs.YtdjbejlbmaiocagGreatDoor
open Go.RowKit

theorem sol_of_all (m : Mod) (vals : List Int) (h : allA m vals = (true, 0)) : checkM m = 0 ∧ Sol m vals := by
  obtain ⟨h0, h1, h2⟩ := allA_parts m vals h
  exact ⟨h0, maybe_of m.vars vals h1, h2⟩
/-- WHAT IS BEST IS AT LEAST AS GOOD AS WHATEVER HOLDS; and where there is none, nothing does. -/
theorem best_least (m : Mod) (fuel : Int) (vals : List Int) (he : (bestA m fuel).2 = 0) (ha : allA m vals = (true, 0)) (hv : (bestA m fuel).1.verdict ≠ 3) :
    (bestA m fuel).1.verdict = 1 ∧ (bestA m fuel).1.values.length = vals.length ∧ (m.goal = 1 → valAt (bestA m fuel).1.values m.var ≤ valAt vals m.var) ∧ (m.goal = 2 → valAt vals m.var ≤ valAt (bestA m fuel).1.values m.var) := by
  obtain ⟨hm, hs⟩ := sol_of_all m vals ha
  obtain ⟨_, _, hgo⟩ := goal_var m hm
  unfold bestA at he hv ⊢
  by_cases hg : m.goal = 0
  · rw [if_pos hg] at he hv ⊢
    unfold solveA at he hv ⊢
    rw [if_pos hm] at he hv ⊢
    by_cases hf : fuel < 0 ∨ 300 < fuel
    · rw [if_pos hf] at he; cases he
    · rw [if_neg hf] at he hv ⊢
      obtain ⟨n1, n2, n3, n4, n5⟩ := next_sound m hm (fun _ => True) _ (startSk fuel) (Nat.lt_succ_self _) (fun x _ _ c hc => by cases hc)
      by_cases h2 : (solveR m fuel).1 = 2
      · exact absurd trivial (n3 h2 vals hs)
      · rw [if_neg h2] at hv ⊢
        have h1 : (solveR m fuel).1 = 1 := by
          rcases n4 with h | h | h
          · exact h
          · exact absurd h h2
          · exact absurd h hv
        have hl := (n2 h1).1.1.1
        exact ⟨h1, hl.trans hs.1.1.symm, fun h => by omega, fun h => by omega⟩
  · rw [if_neg hg] at he hv ⊢
    rw [if_pos hm] at he hv ⊢
    have hg2 : m.goal = 1 ∨ m.goal = 2 := by omega
    by_cases hf : fuel < 0 ∨ 300 < fuel
    · rw [if_pos hf] at he; cases he
    · rw [if_neg hf] at he hv ⊢
      obtain ⟨c1, c2, c3, c4⟩ := climb_sound m hm hg2 _ (startSk fuel) [] (Nat.lt_succ_self _) (fun x _ _ c hc => by cases hc) (Or.inl rfl)
      change (climbA m fuel).verdict = 1 → _ at c1
      change (climbA m fuel).verdict = 2 → _ at c2
      change (climbA m fuel).verdict = 1 → _ at c3
      change (climbA m fuel).verdict = 1 ∨ (climbA m fuel).verdict = 2 ∨ (climbA m fuel).verdict = 3 at c4
      simp only at hv ⊢
      have h1 : (climbA m fuel).verdict = 1 := by
        rcases c4 with h | h | h
        · exact h
        · exact absurd hs (c2 h vals)
        · exact absurd h hv
      have hb := c1 h1 vals hs
      have hsl := c3 h1
      change NoBetter m (climbA m fuel).values vals at hb
      change Sol m (climbA m fuel).values at hsl
      unfold NoBetter at hb
      refine ⟨h1, hsl.1.1.trans hs.1.1.symm, fun h => ?_, fun h => ?_⟩
      · rw [if_pos h] at hb; exact hb
      · rw [if_neg (by omega)] at hb; exact hb

set_option maxHeartbeats 3200000 in
set_option maxRecDepth 100000 in
theorem bestleast_any (m : Mod) (fuel : Int) (vals : List Int) (vs cs v : Value) (w : World) (hma : MArg w vs cs m) (hv : IArg w v vals) (hT : TabT w) :
    Calls Tryz.prog 4 #[modV vs cs m, .int .i64 fuel, v] w fun e w' => e = .returned (.bool true) ∧ Below w.heap.size w w' := by
  have HMA : Hid (∀ w', Below w.heap.size w w' → MArg w' vs cs m) := fun w' h => MArg.below h hma
  have HV : Hid (∀ w', Below w.heap.size w w' → IArg w' v vals) := fun w' h => IArg.below h hv
  have HT : Hid (∀ w', Below w.heap.size w w' → TabT w') := fun w' h => hT.below h
  obtain ⟨⟨a1, c1, rfl, _, _⟩, ⟨a2, c2, rfl, _, _⟩⟩ := hma
  obtain ⟨av, cv, rfl, ⟨hlv, hlm⟩, hvr⟩ := hv
  have HVR : Hid (∀ (i : Nat) (z : Int), vals[i]? = some z → ∃ b off, av = some ⟨b, off, none⟩ ∧ b < w.heap.size ∧ w.cell? ⟨b, off + i, none⟩ = some (.int .i64 z)) := hvr
  have HBL : Hid ((bestA m fuel).2 = 0 → allA m vals = (true, 0) → (bestA m fuel).1.verdict ≠ 3 →
    (bestA m fuel).1.verdict = 1 ∧ (bestA m fuel).1.values.length = vals.length ∧ (m.goal = 1 → valAt (bestA m fuel).1.values m.var ≤ valAt vals m.var) ∧ (m.goal = 2 → valAt vals m.var ≤ valAt (bestA m fuel).1.values m.var)) := best_least m fuel vals
  obtain ⟨⟨⟨RV, RX, RP⟩, RE⟩, hR⟩ : ∃ R, bestA m fuel = R := ⟨_, rfl⟩
  have HR : Hid (bestA m fuel = (⟨RV, RX, RP⟩, RE)) := hR
  rw [hR] at HBL
  obtain ⟨A, EA, hA⟩ : ∃ A EA, allA m vals = (A, EA) := ⟨_, _, rfl⟩
  have HA : Hid (allA m vals = (A, EA)) := hA
  rw [hA] at HBL
  clear hR hA hvr hT
  unfold modV
  go_enter Tryz.func4, Tryz.ntmps4
  go_wp2_with fail
  have hbY : Below w.heap.size w (w.alloc (.cells #[.slice a1 m.vars.length c1, .slice a2 m.cons.length c2, .int .i64 m.goal, .int .i64 m.var] 25)) := below_alloc _ _
  have hblY := heap_alloc_new w (.cells #[.slice a1 m.vars.length c1, .slice a2 m.cons.length c2, .int .i64 m.goal, .int .i64 m.var] 25)
  refine (begun_best _ (HT.out _ hbY)).mono ?_
  rintro e w1 ⟨rfl, hb1⟩
  have HQ1 : Hid (w1.heap[w.heap.size]? = some (.cells #[.slice a1 m.vars.length c1, .slice a2 m.cons.length c2, .int .i64 m.goal, .int .i64 m.var] 25)) := (hb1.block _ (by simp)).trans hblY
  have HB1 : Hid (Below w.heap.size w w1) := hbY.trans (hb1.mono (by simp))
  clear hb1 hbY hblY
  go_wp2_with fail
  refine (begun_model _).mono ?_
  rintro e w2 ⟨rfl, hb2⟩
  have HQ2 : Hid (w2.heap[w.heap.size]? = some (.cells #[.slice a1 m.vars.length c1, .slice a2 m.cons.length c2, .int .i64 m.goal, .int .i64 m.var] 25)) := (hb2.block _ (Array.getElem?_eq_some_iff.1 HQ1.out).1).trans HQ1.out
  have HB2 : Hid (Below w.heap.size w w2) := HB1.out.trans (hb2.mono HB1.out.size)
  clear hb2
  have k0 := blk9 HQ2.out 0 _ rfl
  have k1 := blk9 HQ2.out 1 _ rfl
  have k2 := blk9 HQ2.out 2 _ rfl
  have k3 := blk9 HQ2.out 3 _ rfl
  have kl := (Array.getElem?_eq_some_iff.1 HQ2.out).1
  go_wp2_with fail
  refine (best_any m fuel (.slice a1 m.vars.length c1) (.slice a2 m.cons.length c2) w2 (HMA.out _ HB2.out) (HT.out _ HB2.out)).mono ?_
  rintro e w3 ⟨vv, pp, rfl, hq, hb3⟩
  rw [HR.out] at hq ⊢
  dsimp only at hq ⊢
  obtain ⟨⟨ax, cx, rfl⟩, ap, np, cp, rfl⟩ := hq.forms
  simp only
  have HQ3 : Hid (w3.heap[w.heap.size]? = some (.cells #[.slice a1 m.vars.length c1, .slice a2 m.cons.length c2, .int .i64 m.goal, .int .i64 m.var] 25)) := (hb3.block _ kl).trans HQ2.out
  have HB3 : Hid (Below w.heap.size w w3) := HB2.out.trans (hb3.mono HB2.out.size)
  have HX : Hid (∀ Y, Below w3.heap.size w3 Y → IArg Y (.slice ax RX.length cx) RX) := fun Y hY => IArg.below hY (own_ilist hq.val)
  clear hb3 hq k0 k1 k2 k3 kl
  have k0 := blk9 HQ3.out 0 _ rfl
  have k1 := blk9 HQ3.out 1 _ rfl
  have k2 := blk9 HQ3.out 2 _ rfl
  have k3 := blk9 HQ3.out 3 _ rfl
  have kl := (Array.getElem?_eq_some_iff.1 HQ3.out).1
  go_wp2_with fail
  have hbZ : Below w3.heap.size w3 (w3.alloc (.cells #[.int .i64 RV, .slice ax RX.length cx, .slice ap np cp] 29)) := below_alloc _ _
  have hblZ := heap_alloc_new w3 (.cells #[.int .i64 RV, .slice ax RX.length cx, .slice ap np cp] 29)
  have hsZ : w3.heap.size < (w3.alloc (.cells #[.int .i64 RV, .slice ax RX.length cx, .slice ap np cp] 29)).heap.size := by simp
  refine (mall_any m vals (.slice a1 m.vars.length c1) (.slice a2 m.cons.length c2) _ _ (HMA.out _ (HB3.out.trans (hbZ.mono HB3.out.size))) (HV.out _ (HB3.out.trans (hbZ.mono HB3.out.size)))).mono ?_
  rintro e w4 ⟨rfl, hb4⟩
  rw [HA.out]
  dsimp only
  have HB34 : Hid (Below w3.heap.size w3 w4) := hbZ.trans (hb4.mono hbZ.size)
  have HQ4 : Hid (w4.heap[w.heap.size]? = some (.cells #[.slice a1 m.vars.length c1, .slice a2 m.cons.length c2, .int .i64 m.goal, .int .i64 m.var] 25)) := (HB34.out.block _ kl).trans HQ3.out
  have HZ4 : Hid (w4.heap[w3.heap.size]? = some (.cells #[.int .i64 RV, .slice ax RX.length cx, .slice ap np cp] 29)) := (hb4.block _ hsZ).trans hblZ
  have HB4 : Hid (Below w.heap.size w w4) := HB3.out.trans (HB34.out.mono HB3.out.size)
  clear hb4 hbZ hblZ hsZ k0 k1 k2 k3 kl
  have k2 := blk9 HQ4.out 2 _ rfl
  have k3 := blk9 HQ4.out 3 _ rfl
  have kl := (Array.getElem?_eq_some_iff.1 HQ4.out).1
  have j0 := blk9 HZ4.out 0 _ rfl
  have j1 := blk9 HZ4.out 1 _ rfl
  have jl := (Array.getElem?_eq_some_iff.1 HZ4.out).1
  by_cases h1 : RE = 0
  · by_cases h2 : EA = 0
    · cases A
      · subst h1 h2
        clear HBL
        go_wp2
        go_ret
        exact ⟨rfl, HB4.out⟩
      · by_cases h3 : RV = 3
        · subst h1 h2 h3
          clear HBL
          go_wp2
          go_ret
          exact ⟨rfl, HB4.out⟩
        · have hbl := HBL.out h1 (by rw [h2]) h3
          subst h1 h2
          obtain ⟨b1, b2, b3, b4⟩ := hbl
          try simp only at b1 b2 b3 b4
          subst b1
          have hm0 : checkM m = 0 := (sol_of_all m vals HA.out).1
          have hs0 := (sol_of_all m vals HA.out).2
          obtain ⟨g1, g2, g3⟩ := goal_var m hm0
          obtain ⟨k, hk⟩ : ∃ k : Nat, m.var = (k : Int) := ⟨m.var.toNat, by omega⟩
          have hkv : k < vals.length := by rw [hs0.1.1]; omega
          have hkx : k < RX.length := by omega
          obtain ⟨z, hz⟩ : ∃ z, vals[k]? = some z := ⟨vals[k], by rw [List.getElem?_eq_getElem hkv]⟩
          obtain ⟨y, hy⟩ : ∃ y, RX[k]? = some y := ⟨RX[k], by rw [List.getElem?_eq_getElem hkx]⟩
          have hvz : valAt vals m.var = z := by unfold valAt; rw [hk, Int.toNat_natCast, List.getD_eq_getElem?_getD, hz]; rfl
          have hvy : valAt RX m.var = y := by unfold valAt; rw [hk, Int.toNat_natCast, List.getD_eq_getElem?_getD, hy]; rfl
          rw [hvz, hvy] at b3 b4
          obtain ⟨bz, oz, ha, hlz, cz⟩ := HVR.out k z hz
          subst ha
          have dz := (HB4.out.cell (p := ⟨bz, oz + k, none⟩) hlz).trans cz
          have lz : bz < w4.heap.size := Nat.lt_of_lt_of_le hlz HB4.out.size
          obtain ⟨ax', cx', hxe, _, hxr⟩ := HX.out _ HB34.out
          cases hxe
          obtain ⟨bx, ox, hax, hlx, dx⟩ := hxr k y hy
          subst hax
          rw [hk] at k3
          have q1 : (k : Int) < (vals.length : Int) := by omega
          have q2 : (k : Int) < (RX.length : Int) := by omega
          have q3 : ((RX.length : Int) != (vals.length : Int)) = false := by rw [b2]; simp
          have B3 : Hid (m.goal = 1 → y ≤ z) := b3
          have B4 : Hid (m.goal = 2 → z ≤ y) := b4
          clear HBL b2 b3 b4 hvz hvy hz hy cz hxr h3 hm0 hs0 g1 g2 hlv hlm
          by_cases hg1 : m.goal = 1
          · have hyz := B3.out hg1
            rw [hg1] at k2
            have hyz' : decide (y ≤ z) = true := by simpa using hyz
            clear hg1 g3 B3 B4 hyz
            go_wp2_with fail
            go_quiet (fail)
            go_wp2
            go_ret
            exact ⟨rfl, below_drewN HB4.out _⟩
          · by_cases hg2 : m.goal = 2
            · have hyz := B4.out hg2
              rw [hg2] at k2
              have hyz' : decide (y ≥ z) = true := by simpa using hyz
              clear hg1 hg2 g3 B3 B4 hyz
              go_wp2_with fail
              go_quiet (fail)
              go_wp2
              go_ret
              exact ⟨rfl, below_drewN HB4.out _⟩
            · have hg0 : m.goal = 0 := by omega
              rw [hg0] at k2
              clear hg0 hg1 hg2 g3 B3 B4
              go_wp2
              go_ret
              exact ⟨rfl, HB4.out⟩
    · have he : (EA != 0) = true := by simpa using h2
      subst h1
      clear h2 HBL
      go_wp2
      go_ret
      exact ⟨rfl, HB4.out⟩
  · have he : (RE != 0) = true := by simpa using h1
    clear h1 HBL
    go_wp2
    go_ret
    exact ⟨rfl, HB4.out⟩
end Go.Proofs.YtdjbejlbmaiocagGreatDoor
/-
  WALK: ReportWhole.
-/
namespace Go.Proofs.YtdjbejlbmaiocagGreatDoor
open Go.RowKit

theorem verified_all (m : Mod) (vals : List Int) (l : List MStep) (h0 : vals.length ≠ 0) (hv : verifyM m vals l = (true, 0)) : allA m vals = (true, 0) := by
  unfold verifyM at hv
  rw [if_neg h0] at hv
  split at hv
  · cases hp : (pcheckA m [(betterA m vals).1] l).1
    · rw [hp] at hv
      simp only [Bool.false_eq_true, if_false] at hv
      rw [hv] at hp; cases hp
    · rw [hp] at hv
      simpa using hv
  · cases hv
/-- What ReportWhole needs of plain things, in one place. -/
structure WholeP (m : Mod) (A : Ans × Int) (V1 : Bool × Int) (vals : List Int) (V2 : Bool × Int) (others : List Int) (O : Bool × Int) : Prop where
  fst : A.2 = 0 → (A.1.verdict = 2 ∨ (A.1.verdict = 1 ∧ m.goal ≠ 0)) → V1 = (true, 0)
  snd : V2 = (true, 0) → O = (true, 0) → vals.length ≠ 0 ∧ (m.goal = 1 → valAt vals m.var ≤ valAt others m.var) ∧ (m.goal = 2 → valAt others m.var ≤ valAt vals m.var) ∧ 0 ≤ m.var ∧ m.var < (vals.length : Int) ∧ m.var < (others.length : Int)
theorem whole_plain (s : ByteArray) (m : Mod) (at0 : Int) (hp : parseA s = (m, at0, 0)) (fuel : Int) (vals : List Int) (l : List MStep) (others : List Int) :
    WholeP m (bestA m fuel) (verifyA s (bestA m fuel).1.values (bestA m fuel).1.proof) vals (verifyA s vals l) others (allA m others) := by
  have hva : ∀ x y, verifyA s x y = verifyM m x y := fun x y => by unfold verifyA; rw [hp, if_pos rfl]
  rw [hva, hva]
  refine ⟨fun h1 h2 => best_verified m fuel h1 h2, fun h1 h2 => ?_⟩
  obtain ⟨v1, v2, v3⟩ := verified_best m vals l others h1 h2
  obtain ⟨hm, hs⟩ := sol_of_all m others h2
  obtain ⟨_, hs2⟩ := sol_of_all m vals (verified_all m vals l v1 h1)
  obtain ⟨g1, g2, _⟩ := goal_var m hm
  have e1 := hs.1.1
  have e2 := hs2.1.1
  exact ⟨v1, v2, v3, g1, by omega, by omega⟩

set_option maxHeartbeats 6400000 in
set_option maxRecDepth 100000 in
theorem repwhole_any (N : Nat) (s : ByteArray) (fuel : Int) (vals : List Int) (l : List MStep) (others : List Int) (v u o : Value) (w : World) (hs : s.size ≤ maxLen) (hv : IArg w v vals) (hu : StArg w u l) (ho : IArg w o others) (hT : TabT w) (hN : TabN N w) (hNw : N ≤ w.heap.size) :
    Calls Tryz.prog 7 #[.string s, .int .i64 fuel, v, u, o] w fun e w' => e = .returned (.bool true) ∧ Below w.heap.size w w' := by
  have HV : Hid (∀ w', Below w.heap.size w w' → IArg w' v vals) := fun w' h => IArg.below h hv
  have HO : Hid (∀ w', Below w.heap.size w w' → IArg w' o others) := fun w' h => IArg.below h ho
  have HU : Hid (∀ w', Below w.heap.size w w' → StArg w' u l) := fun w' h => StArg.below h hu
  have HT : Hid (∀ w', Below w.heap.size w w' → TabT w') := fun w' h => hT.below h
  have HN : Hid (∀ w', Below w.heap.size w w' → TabN N w' ∧ N ≤ w'.heap.size) := fun w' h => ⟨hN.below h, Nat.le_trans hNw h.size⟩
  have HS : Hid (s.size ≤ maxLen) := hs
  have HVE : Hid (∀ (Y : World) (x : List Int) (y : List MStep) (vx vy : Value), Below w.heap.size w Y → IArg Y vx x → StArg Y vy y → Calls Tryz.prog 25 #[.string s, vx, vy] Y fun e w' => e = .returned (.tuple #[.bool (verifyA s x y).1, .int .i64 (verifyA s x y).2]) ∧ Below Y.heap.size Y w') := fun Y x y vx vy h1 h2 h3 =>
    verify_any s hs x y vx vy Y h2 h3 (hT.below h1)
  obtain ⟨av, cv, rfl, _, hvr⟩ := hv
  obtain ⟨ao, co, rfl, _, hor⟩ := ho
  obtain ⟨au, cu, rfl, _, _⟩ := hu
  have HVR : Hid (∀ (i : Nat) (z : Int), vals[i]? = some z → ∃ b off, av = some ⟨b, off, none⟩ ∧ b < w.heap.size ∧ w.cell? ⟨b, off + i, none⟩ = some (.int .i64 z)) := hvr
  have HOR : Hid (∀ (i : Nat) (z : Int), others[i]? = some z → ∃ b off, ao = some ⟨b, off, none⟩ ∧ b < w.heap.size ∧ w.cell? ⟨b, off + i, none⟩ = some (.int .i64 z)) := hor
  have HWP : Hid (∀ m at0, parseA s = (m, at0, 0) → WholeP m (bestA m fuel) (verifyA s (bestA m fuel).1.values (bestA m fuel).1.proof) vals (verifyA s vals l) others (allA m others)) := fun m at0 hp => whole_plain s m at0 hp fuel vals l others
  obtain ⟨⟨m, at0, er⟩, hp⟩ : ∃ P, parseA s = P := ⟨_, rfl⟩
  have HPA : Hid (parseA s = (m, at0, er)) := hp
  clear hvr hor hT hN hNw hs hp
  go_enter Tryz.func7, Tryz.ntmps7
  go_wp2_with fail
  refine (begun_report _ (HT.out _ (Below.refl _ _)) (HN.out _ (Below.refl _ _)).1.1).mono ?_
  rintro e w1 ⟨rfl, hb1⟩
  have HB1 : Hid (Below w.heap.size w w1) := hb1
  clear hb1
  go_wp2_with fail
  refine (begun_best _ (HT.out _ HB1.out)).mono ?_
  rintro e w2 ⟨rfl, hb2⟩
  have HB2 : Hid (Below w.heap.size w w2) := HB1.out.trans (hb2.mono HB1.out.size)
  clear hb2
  go_wp2_with fail
  refine (begun_text N _ (HN.out _ HB2.out).1 (HN.out _ HB2.out).2).mono ?_
  rintro e w3 ⟨rfl, hb3⟩
  have HB3 : Hid (Below w.heap.size w w3) := HB2.out.trans (hb3.mono HB2.out.size)
  clear hb3
  go_wp2_with fail
  refine (begun_model _).mono ?_
  rintro e w4 ⟨rfl, hb4⟩
  have HB4 : Hid (Below w.heap.size w w4) := HB3.out.trans (hb4.mono HB3.out.size)
  clear hb4
  go_wp2_with fail
  refine (parse_any s HS.out _).mono ?_
  rintro e w5 ⟨vs, cs, rfl, hm5, hb5⟩
  rw [HPA.out] at hm5 ⊢
  dsimp only at hm5 ⊢
  have HMA : Hid (∀ w', Below w5.heap.size w5 w' → MArg w' vs cs m) := fun w' h => MArg.below h hm5.marg
  have HB5 : Hid (Below w.heap.size w w5) := HB4.out.trans (hb5.mono HB4.out.size)
  obtain ⟨⟨a1, c1, rfl, _, _⟩, ⟨a2, c2, rfl, _, _⟩⟩ := hm5.marg
  unfold modV
  clear hm5 hb5
  by_cases he : er = 0
  · subst he
    have HW := (show Hid _ from HWP.out m at0 HPA.out)
    clear HWP
    obtain ⟨⟨⟨RV, RX, RP⟩, RE⟩, hB⟩ : ∃ B, bestA m fuel = B := ⟨_, rfl⟩
    have HBA : Hid (bestA m fuel = (⟨RV, RX, RP⟩, RE)) := hB
    rw [hB] at HW
    dsimp only at HW
    obtain ⟨⟨V1B, V1E⟩, hV1⟩ : ∃ V, verifyA s RX RP = V := ⟨_, rfl⟩
    have HV1 : Hid (verifyA s RX RP = (V1B, V1E)) := hV1
    rw [hV1] at HW
    obtain ⟨⟨V2B, V2E⟩, hV2⟩ : ∃ V, verifyA s vals l = V := ⟨_, rfl⟩
    have HV2 : Hid (verifyA s vals l = (V2B, V2E)) := hV2
    rw [hV2] at HW
    obtain ⟨⟨OB, OE⟩, hO⟩ : ∃ V, allA m others = V := ⟨_, rfl⟩
    have HOA : Hid (allA m others = (OB, OE)) := hO
    rw [hO] at HW
    clear hB hV1 hV2 hO
    go_wp2_with fail
    have hbY : Below w5.heap.size w5 (w5.alloc (.cells #[.slice a1 m.vars.length c1, .slice a2 m.cons.length c2, .int .i64 m.goal, .int .i64 m.var] 25)) := below_alloc _ _
    have hblY := heap_alloc_new w5 (.cells #[.slice a1 m.vars.length c1, .slice a2 m.cons.length c2, .int .i64 m.goal, .int .i64 m.var] 25)
    refine (best_any m fuel (.slice a1 m.vars.length c1) (.slice a2 m.cons.length c2) _ (HMA.out _ hbY) (HT.out _ (HB5.out.trans (hbY.mono HB5.out.size)))).mono ?_
    rintro e w6 ⟨vv, pp, rfl, hq, hb6⟩
    rw [HBA.out] at hq ⊢
    dsimp only at hq ⊢
    obtain ⟨L, hst, hLe⟩ := hq.prf
    simp only at hLe
    obtain ⟨ax, cx, rfl⟩ := own_form hq.val
    obtain ⟨ap, cp, rfl⟩ := own_form hst.1
    have HX : Hid (∀ Y, Below w6.heap.size w6 Y → IArg Y (.slice ax RX.length cx) RX) := fun Y hY => IArg.below hY (own_ilist hq.val)
    have HL : Hid (∀ Y, Below w6.heap.size w6 Y → StArg Y (.slice ap L.length cp) RP) := fun Y hY => by
      have h1 := (hst.below hY).starg
      rw [hLe] at h1
      exact h1
    have HQ6 : Hid (w6.heap[w5.heap.size]? = some (.cells #[.slice a1 m.vars.length c1, .slice a2 m.cons.length c2, .int .i64 m.goal, .int .i64 m.var] 25)) := (hb6.block _ (by simp)).trans hblY
    have HB56 : Hid (Below w5.heap.size w5 w6) := hbY.trans (hb6.mono (by simp))
    have HB6 : Hid (Below w.heap.size w w6) := HB5.out.trans (HB56.out.mono HB5.out.size)
    simp only
    clear hb6 hbY hblY hq hst hLe
    -- what holds of all worlds behind
    have hbZ : Below w6.heap.size w6 (w6.alloc (.cells #[.int .i64 RV, .slice ax RX.length cx, .slice ap L.length cp] 29)) := below_alloc _ _
    have hblZ := heap_alloc_new w6 (.cells #[.int .i64 RV, .slice ax RX.length cx, .slice ap L.length cp] 29)
    have HZQ : Hid (∀ Y, Below (w6.heap.size + 1) (w6.alloc (.cells #[.int .i64 RV, .slice ax RX.length cx, .slice ap L.length cp] 29)) Y → Y.heap[w6.heap.size]? = some (.cells #[.int .i64 RV, .slice ax RX.length cx, .slice ap L.length cp] 29) ∧ Below w6.heap.size w6 Y ∧ Y.heap[w5.heap.size]? = some (.cells #[.slice a1 m.vars.length c1, .slice a2 m.cons.length c2, .int .i64 m.goal, .int .i64 m.var] 25) ∧ Below w5.heap.size w5 Y ∧ Below w.heap.size w Y) := fun Y hY => by
      have h1 : Below w6.heap.size w6 Y := hbZ.trans (hY.mono (by omega))
      exact ⟨(hY.block _ (by omega)).trans hblZ, h1, (h1.block _ (Array.getElem?_eq_some_iff.1 HQ6.out).1).trans HQ6.out, HB56.out.trans (h1.mono HB56.out.size), HB6.out.trans (h1.mono HB6.out.size)⟩
    clear hbZ hblZ
    have k0 := blk9 HQ6.out 0 _ rfl
    have k1 := blk9 HQ6.out 1 _ rfl
    have k2 := blk9 HQ6.out 2 _ rfl
    have k3 := blk9 HQ6.out 3 _ rfl
    have kl := (Array.getElem?_eq_some_iff.1 HQ6.out).1
    have HFST : Hid (RE = 0 → (RV = 2 ∨ (RV = 1 ∧ m.goal ≠ 0)) → ((V1B, V1E) : Bool × Int) = (true, 0)) := HW.out.fst
    have HSND := (show Hid _ from HW.out.snd)
    by_cases hRE : RE = 0
    · subst hRE
      by_cases h2 : RV = 2
      · subst h2
        have hf := HFST.out rfl (.inl rfl)
        injection hf with hf1 hf2
        subst hf1 hf2
        clear HFST
        go_wp2_with fail
        refine (HVE.out _ RX RP _ _ (HZQ.out _ (Below.refl _ _)).2.2.2.2 (HX.out _ (HZQ.out _ (Below.refl _ _)).2.1) (HL.out _ (HZQ.out _ (Below.refl _ _)).2.1)).mono ?_
        rintro e w7 ⟨rfl, hb7⟩
        rw [HV1.out]
        dsimp only
        have HZ7 : Hid (Below (w6.heap.size + 1) (w6.alloc (.cells #[.int .i64 2, .slice ax RX.length cx, .slice ap L.length cp] 29)) w7) := hb7.mono (by simp)
        clear hb7
        go_wp2_with fail
        refine (HVE.out w7 vals l _ _ (HZQ.out _ HZ7.out).2.2.2.2 (HV.out _ (HZQ.out _ HZ7.out).2.2.2.2) (HU.out _ (HZQ.out _ HZ7.out).2.2.2.2)).mono ?_
        rintro e w8 ⟨rfl, hb8⟩
        have HZ8 : Hid (Below (w6.heap.size + 1) (w6.alloc (.cells #[.int .i64 2, .slice ax RX.length cx, .slice ap L.length cp] 29)) w8) := HZ7.out.trans (hb8.mono (Nat.le_trans (by simp) HZ7.out.size))
        clear hb8 HZ7
        obtain ⟨z1, z2, z3, z4, z5⟩ := HZQ.out _ HZ8.out
        rw [HV2.out]
        dsimp only
        clear k0 k1 k2 k3 kl
        have k0 := blk9 z3 0 _ rfl
        have k1 := blk9 z3 1 _ rfl
        have k2 := blk9 z3 2 _ rfl
        have k3 := blk9 z3 3 _ rfl
        have kl := (Array.getElem?_eq_some_iff.1 z3).1
        have HQ8 := (show Hid _ from z3)
        clear z1 z3
        have HB8 := (show Hid _ from z5)
        have HB58 := (show Hid _ from z4)
        clear z2 z4 z5
        go_wp2_with fail
        refine (mall_any m others (.slice a1 m.vars.length c1) (.slice a2 m.cons.length c2) _ _ (HMA.out _ HB58.out) (HO.out _ HB8.out)).mono ?_
        rintro e w9 ⟨rfl, hb9⟩
        rw [HOA.out]
        dsimp only
        have HQ9 := (show Hid _ from (hb9.block _ kl).trans HQ8.out)
        have HB9 : Hid (Below w.heap.size w w9) := HB8.out.trans (hb9.mono HB8.out.size)
        clear hb9 k0 k1 k2 k3 kl
        have k2 := blk9 HQ9.out 2 _ rfl
        have k3 := blk9 HQ9.out 3 _ rfl
        have kl := (Array.getElem?_eq_some_iff.1 HQ9.out).1
        clear HQ8 HB58 HB8 HZ8 HZQ HX HL HB56 HB6 HB5 HB4 HB3 HB2 HB1 HV1
        by_cases e1 : V2E = 0
        · subst e1
          cases V2B
          · clear HSND
            go_wp2
            go_ret
            exact ⟨rfl, HB9.out⟩
          · by_cases e2 : OE = 0
            · subst e2
              cases OB
              · clear HSND
                go_wp2
                go_ret
                exact ⟨rfl, HB9.out⟩
              · obtain ⟨b0, b3, b4, g1, g2, g3⟩ := HSND.out rfl rfl
                obtain ⟨k, hk⟩ : ∃ k : Nat, m.var = (k : Int) := ⟨m.var.toNat, by omega⟩
                have hkv : k < vals.length := by omega
                have hkx : k < others.length := by omega
                obtain ⟨z, hz⟩ : ∃ z, vals[k]? = some z := ⟨vals[k], by rw [List.getElem?_eq_getElem hkv]⟩
                obtain ⟨y, hy⟩ : ∃ y, others[k]? = some y := ⟨others[k], by rw [List.getElem?_eq_getElem hkx]⟩
                have hvz : valAt vals m.var = z := by unfold valAt; rw [hk, Int.toNat_natCast, List.getD_eq_getElem?_getD, hz]; rfl
                have hvy : valAt others m.var = y := by unfold valAt; rw [hk, Int.toNat_natCast, List.getD_eq_getElem?_getD, hy]; rfl
                rw [hvz, hvy] at b3 b4
                obtain ⟨bz, oz, ha, hlz, cz⟩ := HVR.out k z hz
                obtain ⟨bx, ox, hax, hlx, cx'⟩ := HOR.out k y hy
                subst ha hax
                have dz := (HB9.out.cell (p := ⟨bz, oz + k, none⟩) hlz).trans cz
                have lz : bz < w9.heap.size := Nat.lt_of_lt_of_le hlz HB9.out.size
                have dx := (HB9.out.cell (p := ⟨bx, ox + k, none⟩) hlx).trans cx'
                have lx : bx < w9.heap.size := Nat.lt_of_lt_of_le hlx HB9.out.size
                rw [hk] at k3
                have q1 : (k : Int) < (vals.length : Int) := by omega
                have q2 : (k : Int) < (others.length : Int) := by omega
                have q3 : ((vals.length : Int) == 0) = false := by simp only [beq_eq_false_iff_ne, ne_eq]; omega
                have B3 : Hid (m.goal = 1 → z ≤ y) := b3
                have B4 : Hid (m.goal = 2 → y ≤ z) := b4
                have HGO : Hid (m.goal ≠ 1 → m.goal ≠ 2 → True) := fun _ _ => trivial
                clear HSND b0 b3 b4 hvz hvy hz hy cz cx' g1 g2 g3 hk hlz hlx HVR HOR HW
                by_cases hg1 : m.goal = 1
                · have hyz := B3.out hg1
                  rw [hg1] at k2
                  have hyz' : decide (z ≤ y) = true := by simpa using hyz
                  clear hg1 B3 B4 hyz
                  go_wp2_with fail
                  go_quiet (fail)
                  go_wp2
                  go_ret
                  exact ⟨rfl, below_drewN HB9.out _⟩
                · by_cases hg2 : m.goal = 2
                  · have hyz := B4.out hg2
                    rw [hg2] at k2
                    have hyz' : decide (z ≥ y) = true := by simpa using hyz
                    clear hg1 hg2 B3 B4 hyz
                    go_wp2_with fail
                    go_quiet (fail)
                    go_wp2
                    go_ret
                    exact ⟨rfl, below_drewN HB9.out _⟩
                  · have hg1' : (m.goal == 1) = false := by simpa using hg1
                    have hg2' : (m.goal == 2) = false := by simpa using hg2
                    clear hg1 hg2 B3 B4
                    go_wp2
                    go_ret
                    exact ⟨rfl, HB9.out⟩
            · have he : (OE != 0) = true := by simpa using e2
              clear e2 HSND
              go_wp2
              go_ret
              exact ⟨rfl, HB9.out⟩
        · have he : (V2E != 0) = true := by simpa using e1
          clear e1 HSND
          go_wp2
          go_ret
          exact ⟨rfl, HB9.out⟩
      · have h2' : (RV == 2) = false := by simpa using h2
        by_cases h1 : RV = 1
        · subst h1
          clear h2'
          by_cases hg : m.goal = 0
          · have HG : Hid (m.goal = 0) := hg
            have hg' : (m.goal != 0) = false := by simpa using hg
            clear h2 hg
            clear HFST
            go_wp2_with fail
            refine (HVE.out _ vals l _ _ (HZQ.out _ (Below.refl _ _)).2.2.2.2 (HV.out _ (HZQ.out _ (Below.refl _ _)).2.2.2.2) (HU.out _ (HZQ.out _ (Below.refl _ _)).2.2.2.2)).mono ?_
            rintro e w8 ⟨rfl, hb8⟩
            have HZ8 : Hid (Below (w6.heap.size + 1) (w6.alloc (.cells #[.int .i64 1, .slice ax RX.length cx, .slice ap L.length cp] 29)) w8) := hb8.mono (by simp)
            clear hb8
            obtain ⟨z1, z2, z3, z4, z5⟩ := HZQ.out _ HZ8.out
            rw [HV2.out]
            dsimp only
            clear k0 k1 k2 k3 kl
            have k0 := blk9 z3 0 _ rfl
            have k1 := blk9 z3 1 _ rfl
            have k2 := blk9 z3 2 _ rfl
            have k3 := blk9 z3 3 _ rfl
            have kl := (Array.getElem?_eq_some_iff.1 z3).1
            have HQ8 := (show Hid _ from z3)
            clear z1 z3
            have HB8 := (show Hid _ from z5)
            have HB58 := (show Hid _ from z4)
            clear z2 z4 z5
            go_wp2_with fail
            refine (mall_any m others (.slice a1 m.vars.length c1) (.slice a2 m.cons.length c2) _ _ (HMA.out _ HB58.out) (HO.out _ HB8.out)).mono ?_
            rintro e w9 ⟨rfl, hb9⟩
            rw [HOA.out]
            dsimp only
            have HQ9 := (show Hid _ from (hb9.block _ kl).trans HQ8.out)
            have HB9 : Hid (Below w.heap.size w w9) := HB8.out.trans (hb9.mono HB8.out.size)
            clear hb9 k0 k1 k2 k3 kl
            have k2 := blk9 HQ9.out 2 _ rfl
            have k3 := blk9 HQ9.out 3 _ rfl
            have kl := (Array.getElem?_eq_some_iff.1 HQ9.out).1
            clear HQ8 HB58 HB8 HZ8 HZQ HX HL HB56 HB6 HB5 HB4 HB3 HB2 HB1 HV1
            by_cases e1 : V2E = 0
            · subst e1
              cases V2B
              · clear HSND
                go_wp2
                go_ret
                exact ⟨rfl, HB9.out⟩
              · by_cases e2 : OE = 0
                · subst e2
                  cases OB
                  · clear HSND
                    go_wp2
                    go_ret
                    exact ⟨rfl, HB9.out⟩
                  · obtain ⟨b0, b3, b4, g1, g2, g3⟩ := HSND.out rfl rfl
                    obtain ⟨k, hk⟩ : ∃ k : Nat, m.var = (k : Int) := ⟨m.var.toNat, by omega⟩
                    have hkv : k < vals.length := by omega
                    have hkx : k < others.length := by omega
                    obtain ⟨z, hz⟩ : ∃ z, vals[k]? = some z := ⟨vals[k], by rw [List.getElem?_eq_getElem hkv]⟩
                    obtain ⟨y, hy⟩ : ∃ y, others[k]? = some y := ⟨others[k], by rw [List.getElem?_eq_getElem hkx]⟩
                    have hvz : valAt vals m.var = z := by unfold valAt; rw [hk, Int.toNat_natCast, List.getD_eq_getElem?_getD, hz]; rfl
                    have hvy : valAt others m.var = y := by unfold valAt; rw [hk, Int.toNat_natCast, List.getD_eq_getElem?_getD, hy]; rfl
                    rw [hvz, hvy] at b3 b4
                    obtain ⟨bz, oz, ha, hlz, cz⟩ := HVR.out k z hz
                    obtain ⟨bx, ox, hax, hlx, cx'⟩ := HOR.out k y hy
                    subst ha hax
                    have dz := (HB9.out.cell (p := ⟨bz, oz + k, none⟩) hlz).trans cz
                    have lz : bz < w9.heap.size := Nat.lt_of_lt_of_le hlz HB9.out.size
                    have dx := (HB9.out.cell (p := ⟨bx, ox + k, none⟩) hlx).trans cx'
                    have lx : bx < w9.heap.size := Nat.lt_of_lt_of_le hlx HB9.out.size
                    rw [hk] at k3
                    have q1 : (k : Int) < (vals.length : Int) := by omega
                    have q2 : (k : Int) < (others.length : Int) := by omega
                    have q3 : ((vals.length : Int) == 0) = false := by simp only [beq_eq_false_iff_ne, ne_eq]; omega
                    have B3 : Hid (m.goal = 1 → z ≤ y) := b3
                    have B4 : Hid (m.goal = 2 → y ≤ z) := b4
                    have HGO : Hid (m.goal ≠ 1 → m.goal ≠ 2 → True) := fun _ _ => trivial
                    clear HSND b0 b3 b4 hvz hvy hz hy cz cx' g1 g2 g3 hk hlz hlx HVR HOR HW
                    by_cases hg1 : m.goal = 1
                    · have hyz := B3.out hg1
                      rw [hg1] at k2
                      have hyz' : decide (z ≤ y) = true := by simpa using hyz
                      clear hg1 B3 B4 hyz
                      go_wp2_with fail
                      go_quiet (fail)
                      go_wp2
                      go_ret
                      exact ⟨rfl, below_drewN HB9.out _⟩
                    · by_cases hg2 : m.goal = 2
                      · have hyz := B4.out hg2
                        rw [hg2] at k2
                        have hyz' : decide (z ≥ y) = true := by simpa using hyz
                        clear hg1 hg2 B3 B4 hyz
                        go_wp2_with fail
                        go_quiet (fail)
                        go_wp2
                        go_ret
                        exact ⟨rfl, below_drewN HB9.out _⟩
                      · have hg1' : (m.goal == 1) = false := by simpa using hg1
                        have hg2' : (m.goal == 2) = false := by simpa using hg2
                        clear hg1 hg2 B3 B4
                        go_wp2
                        go_ret
                        exact ⟨rfl, HB9.out⟩
                · have he : (OE != 0) = true := by simpa using e2
                  clear e2 HSND
                  go_wp2
                  go_ret
                  exact ⟨rfl, HB9.out⟩
            · have he : (V2E != 0) = true := by simpa using e1
              clear e1 HSND
              go_wp2
              go_ret
              exact ⟨rfl, HB9.out⟩
          · have hg' : (m.goal != 0) = true := by simpa using hg
            have hf := HFST.out rfl (.inr ⟨rfl, hg⟩)
            injection hf with hf1 hf2
            subst hf1 hf2
            clear HFST hg h2
            go_wp2_with fail
            refine (HVE.out _ RX RP _ _ (HZQ.out _ (Below.refl _ _)).2.2.2.2 (HX.out _ (HZQ.out _ (Below.refl _ _)).2.1) (HL.out _ (HZQ.out _ (Below.refl _ _)).2.1)).mono ?_
            rintro e w7 ⟨rfl, hb7⟩
            rw [HV1.out]
            dsimp only
            have HZ7 : Hid (Below (w6.heap.size + 1) (w6.alloc (.cells #[.int .i64 1, .slice ax RX.length cx, .slice ap L.length cp] 29)) w7) := hb7.mono (by simp)
            clear hb7
            go_wp2_with fail
            refine (HVE.out w7 vals l _ _ (HZQ.out _ HZ7.out).2.2.2.2 (HV.out _ (HZQ.out _ HZ7.out).2.2.2.2) (HU.out _ (HZQ.out _ HZ7.out).2.2.2.2)).mono ?_
            rintro e w8 ⟨rfl, hb8⟩
            have HZ8 : Hid (Below (w6.heap.size + 1) (w6.alloc (.cells #[.int .i64 1, .slice ax RX.length cx, .slice ap L.length cp] 29)) w8) := HZ7.out.trans (hb8.mono (Nat.le_trans (by simp) HZ7.out.size))
            clear hb8 HZ7
            obtain ⟨z1, z2, z3, z4, z5⟩ := HZQ.out _ HZ8.out
            rw [HV2.out]
            dsimp only
            clear k0 k1 k2 k3 kl
            have k0 := blk9 z3 0 _ rfl
            have k1 := blk9 z3 1 _ rfl
            have k2 := blk9 z3 2 _ rfl
            have k3 := blk9 z3 3 _ rfl
            have kl := (Array.getElem?_eq_some_iff.1 z3).1
            have HQ8 := (show Hid _ from z3)
            clear z1 z3
            have HB8 := (show Hid _ from z5)
            have HB58 := (show Hid _ from z4)
            clear z2 z4 z5
            go_wp2_with fail
            refine (mall_any m others (.slice a1 m.vars.length c1) (.slice a2 m.cons.length c2) _ _ (HMA.out _ HB58.out) (HO.out _ HB8.out)).mono ?_
            rintro e w9 ⟨rfl, hb9⟩
            rw [HOA.out]
            dsimp only
            have HQ9 := (show Hid _ from (hb9.block _ kl).trans HQ8.out)
            have HB9 : Hid (Below w.heap.size w w9) := HB8.out.trans (hb9.mono HB8.out.size)
            clear hb9 k0 k1 k2 k3 kl
            have k2 := blk9 HQ9.out 2 _ rfl
            have k3 := blk9 HQ9.out 3 _ rfl
            have kl := (Array.getElem?_eq_some_iff.1 HQ9.out).1
            clear HQ8 HB58 HB8 HZ8 HZQ HX HL HB56 HB6 HB5 HB4 HB3 HB2 HB1 HV1
            by_cases e1 : V2E = 0
            · subst e1
              cases V2B
              · clear HSND
                go_wp2
                go_ret
                exact ⟨rfl, HB9.out⟩
              · by_cases e2 : OE = 0
                · subst e2
                  cases OB
                  · clear HSND
                    go_wp2
                    go_ret
                    exact ⟨rfl, HB9.out⟩
                  · obtain ⟨b0, b3, b4, g1, g2, g3⟩ := HSND.out rfl rfl
                    obtain ⟨k, hk⟩ : ∃ k : Nat, m.var = (k : Int) := ⟨m.var.toNat, by omega⟩
                    have hkv : k < vals.length := by omega
                    have hkx : k < others.length := by omega
                    obtain ⟨z, hz⟩ : ∃ z, vals[k]? = some z := ⟨vals[k], by rw [List.getElem?_eq_getElem hkv]⟩
                    obtain ⟨y, hy⟩ : ∃ y, others[k]? = some y := ⟨others[k], by rw [List.getElem?_eq_getElem hkx]⟩
                    have hvz : valAt vals m.var = z := by unfold valAt; rw [hk, Int.toNat_natCast, List.getD_eq_getElem?_getD, hz]; rfl
                    have hvy : valAt others m.var = y := by unfold valAt; rw [hk, Int.toNat_natCast, List.getD_eq_getElem?_getD, hy]; rfl
                    rw [hvz, hvy] at b3 b4
                    obtain ⟨bz, oz, ha, hlz, cz⟩ := HVR.out k z hz
                    obtain ⟨bx, ox, hax, hlx, cx'⟩ := HOR.out k y hy
                    subst ha hax
                    have dz := (HB9.out.cell (p := ⟨bz, oz + k, none⟩) hlz).trans cz
                    have lz : bz < w9.heap.size := Nat.lt_of_lt_of_le hlz HB9.out.size
                    have dx := (HB9.out.cell (p := ⟨bx, ox + k, none⟩) hlx).trans cx'
                    have lx : bx < w9.heap.size := Nat.lt_of_lt_of_le hlx HB9.out.size
                    rw [hk] at k3
                    have q1 : (k : Int) < (vals.length : Int) := by omega
                    have q2 : (k : Int) < (others.length : Int) := by omega
                    have q3 : ((vals.length : Int) == 0) = false := by simp only [beq_eq_false_iff_ne, ne_eq]; omega
                    have B3 : Hid (m.goal = 1 → z ≤ y) := b3
                    have B4 : Hid (m.goal = 2 → y ≤ z) := b4
                    have HGO : Hid (m.goal ≠ 1 → m.goal ≠ 2 → True) := fun _ _ => trivial
                    clear HSND b0 b3 b4 hvz hvy hz hy cz cx' g1 g2 g3 hk hlz hlx HVR HOR HW
                    by_cases hg1 : m.goal = 1
                    · have hyz := B3.out hg1
                      rw [hg1] at k2
                      have hyz' : decide (z ≤ y) = true := by simpa using hyz
                      clear hg1 B3 B4 hyz
                      go_wp2_with fail
                      go_quiet (fail)
                      go_wp2
                      go_ret
                      exact ⟨rfl, below_drewN HB9.out _⟩
                    · by_cases hg2 : m.goal = 2
                      · have hyz := B4.out hg2
                        rw [hg2] at k2
                        have hyz' : decide (z ≥ y) = true := by simpa using hyz
                        clear hg1 hg2 B3 B4 hyz
                        go_wp2_with fail
                        go_quiet (fail)
                        go_wp2
                        go_ret
                        exact ⟨rfl, below_drewN HB9.out _⟩
                      · have hg1' : (m.goal == 1) = false := by simpa using hg1
                        have hg2' : (m.goal == 2) = false := by simpa using hg2
                        clear hg1 hg2 B3 B4
                        go_wp2
                        go_ret
                        exact ⟨rfl, HB9.out⟩
                · have he : (OE != 0) = true := by simpa using e2
                  clear e2 HSND
                  go_wp2
                  go_ret
                  exact ⟨rfl, HB9.out⟩
            · have he : (V2E != 0) = true := by simpa using e1
              clear e1 HSND
              go_wp2
              go_ret
              exact ⟨rfl, HB9.out⟩
        · have h1' : (RV == 1) = false := by simpa using h1
          clear h1 h2
          clear HFST
          go_wp2_with fail
          refine (HVE.out _ vals l _ _ (HZQ.out _ (Below.refl _ _)).2.2.2.2 (HV.out _ (HZQ.out _ (Below.refl _ _)).2.2.2.2) (HU.out _ (HZQ.out _ (Below.refl _ _)).2.2.2.2)).mono ?_
          rintro e w8 ⟨rfl, hb8⟩
          have HZ8 : Hid (Below (w6.heap.size + 1) (w6.alloc (.cells #[.int .i64 RV, .slice ax RX.length cx, .slice ap L.length cp] 29)) w8) := hb8.mono (by simp)
          clear hb8
          obtain ⟨z1, z2, z3, z4, z5⟩ := HZQ.out _ HZ8.out
          rw [HV2.out]
          dsimp only
          clear k0 k1 k2 k3 kl
          have k0 := blk9 z3 0 _ rfl
          have k1 := blk9 z3 1 _ rfl
          have k2 := blk9 z3 2 _ rfl
          have k3 := blk9 z3 3 _ rfl
          have kl := (Array.getElem?_eq_some_iff.1 z3).1
          have HQ8 := (show Hid _ from z3)
          clear z1 z3
          have HB8 := (show Hid _ from z5)
          have HB58 := (show Hid _ from z4)
          clear z2 z4 z5
          go_wp2_with fail
          refine (mall_any m others (.slice a1 m.vars.length c1) (.slice a2 m.cons.length c2) _ _ (HMA.out _ HB58.out) (HO.out _ HB8.out)).mono ?_
          rintro e w9 ⟨rfl, hb9⟩
          rw [HOA.out]
          dsimp only
          have HQ9 := (show Hid _ from (hb9.block _ kl).trans HQ8.out)
          have HB9 : Hid (Below w.heap.size w w9) := HB8.out.trans (hb9.mono HB8.out.size)
          clear hb9 k0 k1 k2 k3 kl
          have k2 := blk9 HQ9.out 2 _ rfl
          have k3 := blk9 HQ9.out 3 _ rfl
          have kl := (Array.getElem?_eq_some_iff.1 HQ9.out).1
          clear HQ8 HB58 HB8 HZ8 HZQ HX HL HB56 HB6 HB5 HB4 HB3 HB2 HB1 HV1
          by_cases e1 : V2E = 0
          · subst e1
            cases V2B
            · clear HSND
              go_wp2
              go_ret
              exact ⟨rfl, HB9.out⟩
            · by_cases e2 : OE = 0
              · subst e2
                cases OB
                · clear HSND
                  go_wp2
                  go_ret
                  exact ⟨rfl, HB9.out⟩
                · obtain ⟨b0, b3, b4, g1, g2, g3⟩ := HSND.out rfl rfl
                  obtain ⟨k, hk⟩ : ∃ k : Nat, m.var = (k : Int) := ⟨m.var.toNat, by omega⟩
                  have hkv : k < vals.length := by omega
                  have hkx : k < others.length := by omega
                  obtain ⟨z, hz⟩ : ∃ z, vals[k]? = some z := ⟨vals[k], by rw [List.getElem?_eq_getElem hkv]⟩
                  obtain ⟨y, hy⟩ : ∃ y, others[k]? = some y := ⟨others[k], by rw [List.getElem?_eq_getElem hkx]⟩
                  have hvz : valAt vals m.var = z := by unfold valAt; rw [hk, Int.toNat_natCast, List.getD_eq_getElem?_getD, hz]; rfl
                  have hvy : valAt others m.var = y := by unfold valAt; rw [hk, Int.toNat_natCast, List.getD_eq_getElem?_getD, hy]; rfl
                  rw [hvz, hvy] at b3 b4
                  obtain ⟨bz, oz, ha, hlz, cz⟩ := HVR.out k z hz
                  obtain ⟨bx, ox, hax, hlx, cx'⟩ := HOR.out k y hy
                  subst ha hax
                  have dz := (HB9.out.cell (p := ⟨bz, oz + k, none⟩) hlz).trans cz
                  have lz : bz < w9.heap.size := Nat.lt_of_lt_of_le hlz HB9.out.size
                  have dx := (HB9.out.cell (p := ⟨bx, ox + k, none⟩) hlx).trans cx'
                  have lx : bx < w9.heap.size := Nat.lt_of_lt_of_le hlx HB9.out.size
                  rw [hk] at k3
                  have q1 : (k : Int) < (vals.length : Int) := by omega
                  have q2 : (k : Int) < (others.length : Int) := by omega
                  have q3 : ((vals.length : Int) == 0) = false := by simp only [beq_eq_false_iff_ne, ne_eq]; omega
                  have B3 : Hid (m.goal = 1 → z ≤ y) := b3
                  have B4 : Hid (m.goal = 2 → y ≤ z) := b4
                  have HGO : Hid (m.goal ≠ 1 → m.goal ≠ 2 → True) := fun _ _ => trivial
                  clear HSND b0 b3 b4 hvz hvy hz hy cz cx' g1 g2 g3 hk hlz hlx HVR HOR HW
                  by_cases hg1 : m.goal = 1
                  · have hyz := B3.out hg1
                    rw [hg1] at k2
                    have hyz' : decide (z ≤ y) = true := by simpa using hyz
                    clear hg1 B3 B4 hyz
                    go_wp2_with fail
                    go_quiet (fail)
                    go_wp2
                    go_ret
                    exact ⟨rfl, below_drewN HB9.out _⟩
                  · by_cases hg2 : m.goal = 2
                    · have hyz := B4.out hg2
                      rw [hg2] at k2
                      have hyz' : decide (z ≥ y) = true := by simpa using hyz
                      clear hg1 hg2 B3 B4 hyz
                      go_wp2_with fail
                      go_quiet (fail)
                      go_wp2
                      go_ret
                      exact ⟨rfl, below_drewN HB9.out _⟩
                    · have hg1' : (m.goal == 1) = false := by simpa using hg1
                      have hg2' : (m.goal == 2) = false := by simpa using hg2
                      clear hg1 hg2 B3 B4
                      go_wp2
                      go_ret
                      exact ⟨rfl, HB9.out⟩
              · have he : (OE != 0) = true := by simpa using e2
                clear e2 HSND
                go_wp2
                go_ret
                exact ⟨rfl, HB9.out⟩
          · have he : (V2E != 0) = true := by simpa using e1
            clear e1 HSND
            go_wp2
            go_ret
            exact ⟨rfl, HB9.out⟩
    · have hRE' : (RE == 0) = false := by simpa using hRE
      clear hRE
      clear HFST
      go_wp2_with fail
      refine (HVE.out _ vals l _ _ (HZQ.out _ (Below.refl _ _)).2.2.2.2 (HV.out _ (HZQ.out _ (Below.refl _ _)).2.2.2.2) (HU.out _ (HZQ.out _ (Below.refl _ _)).2.2.2.2)).mono ?_
      rintro e w8 ⟨rfl, hb8⟩
      have HZ8 : Hid (Below (w6.heap.size + 1) (w6.alloc (.cells #[.int .i64 RV, .slice ax RX.length cx, .slice ap L.length cp] 29)) w8) := hb8.mono (by simp)
      clear hb8
      obtain ⟨z1, z2, z3, z4, z5⟩ := HZQ.out _ HZ8.out
      rw [HV2.out]
      dsimp only
      clear k0 k1 k2 k3 kl
      have k0 := blk9 z3 0 _ rfl
      have k1 := blk9 z3 1 _ rfl
      have k2 := blk9 z3 2 _ rfl
      have k3 := blk9 z3 3 _ rfl
      have kl := (Array.getElem?_eq_some_iff.1 z3).1
      have HQ8 := (show Hid _ from z3)
      clear z1 z3
      have HB8 := (show Hid _ from z5)
      have HB58 := (show Hid _ from z4)
      clear z2 z4 z5
      go_wp2_with fail
      refine (mall_any m others (.slice a1 m.vars.length c1) (.slice a2 m.cons.length c2) _ _ (HMA.out _ HB58.out) (HO.out _ HB8.out)).mono ?_
      rintro e w9 ⟨rfl, hb9⟩
      rw [HOA.out]
      dsimp only
      have HQ9 := (show Hid _ from (hb9.block _ kl).trans HQ8.out)
      have HB9 : Hid (Below w.heap.size w w9) := HB8.out.trans (hb9.mono HB8.out.size)
      clear hb9 k0 k1 k2 k3 kl
      have k2 := blk9 HQ9.out 2 _ rfl
      have k3 := blk9 HQ9.out 3 _ rfl
      have kl := (Array.getElem?_eq_some_iff.1 HQ9.out).1
      clear HQ8 HB58 HB8 HZ8 HZQ HX HL HB56 HB6 HB5 HB4 HB3 HB2 HB1 HV1
      by_cases e1 : V2E = 0
      · subst e1
        cases V2B
        · clear HSND
          go_wp2
          go_ret
          exact ⟨rfl, HB9.out⟩
        · by_cases e2 : OE = 0
          · subst e2
            cases OB
            · clear HSND
              go_wp2
              go_ret
              exact ⟨rfl, HB9.out⟩
            · obtain ⟨b0, b3, b4, g1, g2, g3⟩ := HSND.out rfl rfl
              obtain ⟨k, hk⟩ : ∃ k : Nat, m.var = (k : Int) := ⟨m.var.toNat, by omega⟩
              have hkv : k < vals.length := by omega
              have hkx : k < others.length := by omega
              obtain ⟨z, hz⟩ : ∃ z, vals[k]? = some z := ⟨vals[k], by rw [List.getElem?_eq_getElem hkv]⟩
              obtain ⟨y, hy⟩ : ∃ y, others[k]? = some y := ⟨others[k], by rw [List.getElem?_eq_getElem hkx]⟩
              have hvz : valAt vals m.var = z := by unfold valAt; rw [hk, Int.toNat_natCast, List.getD_eq_getElem?_getD, hz]; rfl
              have hvy : valAt others m.var = y := by unfold valAt; rw [hk, Int.toNat_natCast, List.getD_eq_getElem?_getD, hy]; rfl
              rw [hvz, hvy] at b3 b4
              obtain ⟨bz, oz, ha, hlz, cz⟩ := HVR.out k z hz
              obtain ⟨bx, ox, hax, hlx, cx'⟩ := HOR.out k y hy
              subst ha hax
              have dz := (HB9.out.cell (p := ⟨bz, oz + k, none⟩) hlz).trans cz
              have lz : bz < w9.heap.size := Nat.lt_of_lt_of_le hlz HB9.out.size
              have dx := (HB9.out.cell (p := ⟨bx, ox + k, none⟩) hlx).trans cx'
              have lx : bx < w9.heap.size := Nat.lt_of_lt_of_le hlx HB9.out.size
              rw [hk] at k3
              have q1 : (k : Int) < (vals.length : Int) := by omega
              have q2 : (k : Int) < (others.length : Int) := by omega
              have q3 : ((vals.length : Int) == 0) = false := by simp only [beq_eq_false_iff_ne, ne_eq]; omega
              have B3 : Hid (m.goal = 1 → z ≤ y) := b3
              have B4 : Hid (m.goal = 2 → y ≤ z) := b4
              have HGO : Hid (m.goal ≠ 1 → m.goal ≠ 2 → True) := fun _ _ => trivial
              clear HSND b0 b3 b4 hvz hvy hz hy cz cx' g1 g2 g3 hk hlz hlx HVR HOR HW
              by_cases hg1 : m.goal = 1
              · have hyz := B3.out hg1
                rw [hg1] at k2
                have hyz' : decide (z ≤ y) = true := by simpa using hyz
                clear hg1 B3 B4 hyz
                go_wp2_with fail
                go_quiet (fail)
                go_wp2
                go_ret
                exact ⟨rfl, below_drewN HB9.out _⟩
              · by_cases hg2 : m.goal = 2
                · have hyz := B4.out hg2
                  rw [hg2] at k2
                  have hyz' : decide (z ≥ y) = true := by simpa using hyz
                  clear hg1 hg2 B3 B4 hyz
                  go_wp2_with fail
                  go_quiet (fail)
                  go_wp2
                  go_ret
                  exact ⟨rfl, below_drewN HB9.out _⟩
                · have hg1' : (m.goal == 1) = false := by simpa using hg1
                  have hg2' : (m.goal == 2) = false := by simpa using hg2
                  clear hg1 hg2 B3 B4
                  go_wp2
                  go_ret
                  exact ⟨rfl, HB9.out⟩
          · have he : (OE != 0) = true := by simpa using e2
            clear e2 HSND
            go_wp2
            go_ret
            exact ⟨rfl, HB9.out⟩
      · have he : (V2E != 0) = true := by simpa using e1
        clear e1 HSND
        go_wp2
        go_ret
        exact ⟨rfl, HB9.out⟩
  · have he' : (er != 0) = true := by simpa using he
    clear he HWP
    go_wp2
    go_ret
    exact ⟨rfl, HB5.out.alloc HB5.out.size _⟩
end Go.Proofs.YtdjbejlbmaiocagGreatDoor
/-
  Stores and clauses that came in, opened.
-/
namespace Go.Proofs.YtdjbejlbmaiocagGreatDoor
open Go.ChangeShapes Go.WideShapes Go.ChangeAt Go.RowKit Go.Deep

theorem Tryz.underClause : Tryz.prog.underlying 38 = some (.slice 88) := by kernel_rfl
section
variable {H : Type} {enc : TypeId × Value → H} {w : World} {base : Nat} {spare : Nat → Bool} {held : Bool}
/-- A store that came in. -/
theorem open_store {fuel : Nat} {cs : List Value} {x : DataW H × List MemPlace} (h : DataW.trod enc Tryz.prog w base spare held fuel 188 cs = some x) :
    ∃ v l, cs = [v] ∧ RArg w v l := by
  obtain ⟨l, a, c, hcs, hm, hr⟩ := open_elems (α := Value × List Int) Tryz.underStore Tryz.cInts (by decide) (fun z => [z.1]) (fun z => IArg w z.1 z.2)
    (fun n cs' x' h' => by obtain ⟨v, r, hz, hi⟩ := open_ilist h'; exact ⟨(v, r), hz, hi⟩) h
  refine ⟨_, l.map (·.2), hcs, a, c, by simp, by simpa using hm, fun i r hr' => ?_⟩
  rw [List.getElem?_map] at hr'
  obtain ⟨⟨v, r2⟩, hz, rfl⟩ := Option.map_eq_some_iff.1 hr'
  obtain ⟨hg, b, off, ha, hb, hc⟩ := hr i _ hz
  have := hc 0 _ rfl
  exact ⟨b, off, v, ha, hb, by simpa using this, hg⟩
/-- A clause that came in. -/
theorem open_cla {fuel : Nat} {cs : List Value} {x : DataW H × List MemPlace} (h : DataW.trod enc Tryz.prog w base spare held fuel 38 cs = some x) :
    ∃ v l, cs = [v] ∧ LArg w v l := by
  have hinh : Inhabited MLit := ⟨⟨0, 0, 0⟩⟩
  obtain ⟨l, a, c, hcs, hm, hr⟩ := open_elems (α := MLit) Tryz.underClause Tryz.cLit (by decide) (fun t => [.int .i64 t.var, .int .i64 t.op, .int .i64 t.n]) (fun _ => True)
    (fun n cs' x' h' => by obtain ⟨t, ht⟩ := one_lit h'; exact ⟨t, ht, trivial⟩) h
  refine ⟨_, l, hcs, a, c, rfl, hm, fun i z hz => ?_⟩
  obtain ⟨_, b, off, ha, hb, hc⟩ := hr i z hz
  have e0 := hc 0 _ rfl
  have e1 := hc 1 _ rfl
  have e2 := hc 2 _ rfl
  rw [← Nat.add_assoc] at e0 e1 e2
  exact ⟨b, off, ha, hb, e0, e1, e2⟩
end
end Go.Proofs.YtdjbejlbmaiocagGreatDoor
/-
  A list of clauses that came in, opened.
-/
namespace Go.Proofs.YtdjbejlbmaiocagGreatDoor
open Go.ChangeShapes Go.WideShapes Go.ChangeAt Go.RowKit Go.Deep

theorem Tryz.underClauses : Tryz.prog.underlying 40 = some (.slice 38) := by kernel_rfl
theorem Tryz.cClause : Tryz.prog.cellsOf 38 = 1 := by kernel_rfl
section
variable {H : Type} {enc : TypeId × Value → H} {w : World} {base : Nat} {spare : Nat → Bool} {held : Bool}
theorem open_clas {fuel : Nat} {cs : List Value} {x : DataW H × List MemPlace} (h : DataW.trod enc Tryz.prog w base spare held fuel 40 cs = some x) :
    ∃ v l, cs = [v] ∧ LLArg w v l := by
  obtain ⟨l, a, c, hcs, hm, hr⟩ := open_elems (α := Value × Cla) Tryz.underClauses Tryz.cClause (by decide) (fun z => [z.1]) (fun z => LArg w z.1 z.2)
    (fun n cs' x' h' => by obtain ⟨v, r, hz, hi⟩ := open_cla h'; exact ⟨(v, r), hz, hi⟩) h
  refine ⟨_, l.map (·.2), hcs, a, c, by simp, by simpa using hm, fun i r hr' => ?_⟩
  rw [List.getElem?_map] at hr'
  obtain ⟨⟨v, r2⟩, hz, rfl⟩ := Option.map_eq_some_iff.1 hr'
  obtain ⟨hg, b, off, ha, hb, hc⟩ := hr i _ hz
  have := hc 0 _ rfl
  exact ⟨b, off, v, ha, hb, by simpa using this, hg⟩
end
end Go.Proofs.YtdjbejlbmaiocagGreatDoor
/-
  A list of steps that came in, opened.
-/
namespace Go.Proofs.YtdjbejlbmaiocagGreatDoor
open Go.ChangeShapes Go.WideShapes Go.ChangeAt Go.RowKit Go.Deep

theorem Tryz.underSteps : Tryz.prog.underlying 27 = some (.slice 93) := by kernel_rfl
theorem Tryz.cStep : Tryz.prog.cellsOf 93 = 3 := by kernel_rfl
section
variable {H : Type} {enc : TypeId × Value → H} {w : World} {base : Nat} {spare : Nat → Bool} {held : Bool}
set_option maxRecDepth 100000 in
theorem one_step {n : Nat} {cs : List Value} {x : DataW H × List MemPlace} (h : DataW.trod enc Tryz.prog w base spare held n 93 cs = some x) :
    ∃ (k c : Int) (v : Value) (l : Cla), cs = [.int .i64 k, .int .i64 c, v] ∧ LArg w v l := by
  obtain ⟨xs, k, _, _, hl, hxl, hf⟩ := DataW.trod_struct Tryz.underlying93 h
  rw [Tryz.cStep] at hl
  match cs, hl, xs, hxl with
  | [c0, c1, c2], _, [y0, y1, y2], _ =>
    have g0 := hf 0 _ rfl
    have g1 := hf 1 _ rfl
    have g2 := hf 2 _ rfl
    obtain ⟨k, hk, _, _⟩ := DataW.trod_int Tryz.underlying3 g0
    obtain ⟨p, hp, _, _⟩ := DataW.trod_int Tryz.underlying3 g1
    obtain ⟨v, l, hv, hi⟩ := open_cla g2
    change List.take (Tryz.prog.cellsOf 3) [c0, c1, c2] = _ at hk
    change List.take (Tryz.prog.cellsOf 3) [c1, c2] = _ at hp
    change List.take (Tryz.prog.cellsOf 38) [c2] = _ at hv
    rw [Tryz.cInt] at hk hp
    rw [Tryz.cClause] at hv
    simp at hk hp hv
    exact ⟨k, p, v, l, by rw [hk, hp, hv], hi⟩
theorem open_steps {fuel : Nat} {cs : List Value} {x : DataW H × List MemPlace} (h : DataW.trod enc Tryz.prog w base spare held fuel 27 cs = some x) :
    ∃ v l, cs = [v] ∧ StArg w v l := by
  have hinh : Inhabited (Value × MStep) := ⟨(.nilFunc, ⟨0, 0, []⟩)⟩
  obtain ⟨l, a, c, hcs, hm, hr⟩ := open_elems (α := Value × MStep) Tryz.underSteps Tryz.cStep (by decide) (fun z => [.int .i64 z.2.kind, .int .i64 z.2.con, z.1]) (fun z => LArg w z.1 z.2.cla)
    (fun n cs' x' h' => by obtain ⟨k, p, v, r, hz, hi⟩ := one_step h'; exact ⟨(v, ⟨k, p, r⟩), hz, hi⟩) h
  refine ⟨_, l.map (·.2), hcs, a, c, by simp, by simpa using hm, fun i r hr' => ?_⟩
  rw [List.getElem?_map] at hr'
  obtain ⟨⟨v, r2⟩, hz, rfl⟩ := Option.map_eq_some_iff.1 hr'
  obtain ⟨hg, b, off, ha, hb, hc⟩ := hr i _ hz
  have e0 := hc 0 _ rfl
  have e1 := hc 1 _ rfl
  have e2 := hc 2 _ rfl
  rw [← Nat.add_assoc] at e0 e1 e2
  exact ⟨b, off, v, ha, hb, e0, e1, e2, hg⟩
end
end Go.Proofs.YtdjbejlbmaiocagGreatDoor
