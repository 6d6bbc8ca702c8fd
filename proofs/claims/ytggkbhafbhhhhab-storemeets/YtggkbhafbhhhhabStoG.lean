/-
  WALK: storeBegun.
-/
import Derived.Test.YtggkbhafbhhhhabStoF
import Derived.Test.YtggkbhafbhhhhabRefA
namespace Go.Proofs.Ytggkbhafbhhhhab
open Go.RowKit

/-- A store of two rows, written out. -/
theorem lit2 {w : World} (a b : List Int) (B1 B2 B3 : Nat) (h1 : B1 = w.heap.size) (h2 : B2 = w.heap.size + 1) (h3 : B3 = w.heap.size + 2) (ha : a.length ≤ 100) (hb : b.length ≤ 100) :
    RArg (((w.alloc (.cells (a.map (Value.int .i64)).toArray 3)).alloc (.cells (b.map (Value.int .i64)).toArray 3)).alloc (.cells #[.slice (some ⟨B1, 0, none⟩) a.length a.length, .slice (some ⟨B2, 0, none⟩) b.length b.length] 62)) (.slice (some ⟨B3, 0, none⟩) 2 2) [a, b] := by
  subst h1; subst h2; subst h3
  refine ⟨_, 2, rfl, ⟨by simp, by unfold maxLen; omega⟩, fun i r hr => ?_⟩
  match i, hr with
  | 0, hr =>
    cases hr
    refine ⟨_, 0, _, rfl, by simp, World.cell?_alloc_at _ _ _ _ (by simp), ⟨_, _, rfl, ⟨Nat.le_refl _, by unfold maxLen; omega⟩, fun j z hz => ⟨_, 0, rfl, by simp; omega, ?_⟩⟩⟩
    rw [World.cell?_alloc_past _ _ _ (by simp; omega), World.cell?_alloc_past _ _ _ (by simp), World.cell?_alloc_at _ _ _ _ rfl]
    simp [hz]
  | 1, hr =>
    cases hr
    refine ⟨_, 0, _, rfl, by simp, World.cell?_alloc_at _ _ _ _ (by simp), ⟨_, _, rfl, ⟨Nat.le_refl _, by unfold maxLen; omega⟩, fun j z hz => ⟨_, 0, rfl, by simp, ?_⟩⟩⟩
    rw [World.cell?_alloc_past _ _ _ (by simp), World.cell?_alloc_at _ _ _ _ (by simp)]
    simp [hz]

theorem below3 (w : World) (o1 o2 o3 : Obj) : Below w.heap.size w (((w.alloc o1).alloc o2).alloc o3) := ((below_alloc _ _).alloc (by simp) _).alloc (by simp; omega) _
theorem two_begin : beginA twoM = ([[0, 1, 2], [0, 1, 2]], 0) := by unfold beginA; rw [if_pos two_checks]; rfl
theorem two_meet : meetA twoM [[0, 1, 2], [0, 1, 2]] [[1], [0, 2]] = ([[1], [0, 2]], 0) := by
  have h : checkL twoM [[[0, 1, 2], [0, 1, 2]], [[1], [0, 2]]] = 0 := by unfold checkL; rw [if_pos two_checks]; decide
  unfold meetA; rw [if_pos h]; rfl
theorem two_within : withinA twoM [[1], [0, 2]] [[0, 1, 2], [0, 1, 2]] = (true, 0) := by
  have h : checkL twoM [[[1], [0, 2]], [[0, 1, 2], [0, 1, 2]]] = 0 := by unfold checkL; rw [if_pos two_checks]; decide
  unfold withinA; rw [if_pos h]; decide
theorem two_failed : failedA twoM [[0, 1, 2], [0, 1, 2]] = (false, 0) := by
  have h : checkL twoM [[[0, 1, 2], [0, 1, 2]]] = 0 := by unfold checkL; rw [if_pos two_checks]; decide
  unfold failedA; rw [if_pos h]; decide
theorem two_check : checkL twoM [[[1], [0, 2]]] = 0 := by unfold checkL; rw [if_pos two_checks]; decide

set_option maxHeartbeats 1600000 in
set_option maxRecDepth 100000 in
theorem begun_store (w : World) :
    Calls Try.prog 17 #[] w fun e w' => e = .returned (.bool true) ∧ Below w.heap.size w w' := by
  go_enter Try.func17, Try.ntmps17
  go_wp2_with fail
  refine (two_any _).mono ?_
  rintro e w1 ⟨vs, cs, rfl, hm, hb1⟩
  go_wp2_with fail
  refine (sbegin_any twoM _ _ _ hm).mono ?_
  rintro e w2 ⟨xs, rfl, hxs, hb2⟩
  rw [two_begin] at hxs ⊢
  have hB2 : Below w.heap.size w w2 := hb1.trans (hb2.mono hb1.size)
  have HXS : Hid (∀ w' : World, Below w2.heap.size w2 w' → RArg w' xs [[0, 1, 2], [0, 1, 2]]) := fun w' h => RArg.below h hxs
  obtain ⟨a1, c1, rfl, _, _⟩ := hxs
  clear hm hb1 hb2
  go_wp2_with fail
  refine (two_any _).mono ?_
  rintro e w3 ⟨vs, cs, rfl, hm, hb3⟩
  have HM3 : Hid (∀ w' : World, Below w3.heap.size w3 w' → MArg w' vs cs twoM) := fun w' h => MArg.below h hm
  clear hm
  go_wp2_with fail
  have hs3 := hb3.size
  refine (smeet_any twoM [[0, 1, 2], [0, 1, 2]] [[1], [0, 2]] _ _ _ _ _ (HM3.out _ (below3 _ _ _ _)) (HXS.out _ (hb3.trans ((below3 _ _ _ _).mono hs3))) (lit2 [1] [0, 2] _ _ _ rfl rfl rfl (by decide) (by decide))).mono ?_
  rintro e w4 ⟨xt, rfl, hxt, hb4⟩
  rw [two_meet] at hxt ⊢
  have hB4 : Below w2.heap.size w2 w4 := (hb3.trans ((below3 _ _ _ _).mono hs3)).trans (hb4.mono (by simp; omega))
  have HXT : Hid (∀ w' : World, Below w4.heap.size w4 w' → RArg w' xt [[1], [0, 2]]) := fun w' h => RArg.below h hxt
  obtain ⟨a2, c2, rfl, _, _⟩ := hxt
  clear hb3 hb4 HM3 hs3
  have hs4 := hB4.size
  go_wp2_with fail
  refine (two_any _).mono ?_
  rintro e w5 ⟨vs, cs, rfl, hm, hb5⟩
  have hs5 := hb5.size
  go_wp2_with fail
  refine (swithin_any twoM [[1], [0, 2]] [[0, 1, 2], [0, 1, 2]] _ _ _ _ _ hm (HXT.out _ hb5) (HXS.out _ (hB4.trans (hb5.mono hs4)))).mono ?_
  rintro e w6 ⟨rfl, hb6⟩
  rw [two_within]
  have hB6 : Below w4.heap.size w4 w6 := hb5.trans (hb6.mono hs5)
  clear hb5 hb6 hm hs5
  have hs6 := hB6.size
  go_wp2_with fail
  refine (two_any _).mono ?_
  rintro e w7 ⟨vs, cs, rfl, hm, hb7⟩
  have hs7 := hb7.size
  go_wp2_with fail
  refine (sfailed_any twoM [[0, 1, 2], [0, 1, 2]] _ _ _ _ hm (HXS.out _ ((hB4.trans (hB6.mono hs4)).trans (hb7.mono (by omega))))).mono ?_
  rintro e w8 ⟨rfl, hb8⟩
  rw [two_failed]
  have hB8 : Below w4.heap.size w4 w8 := (hB6.trans (hb7.mono hs6)).trans (hb8.mono (by omega))
  clear hb7 hb8 hm hs7 hB6 hs6
  have hs8 := hB8.size
  go_wp2_with fail
  refine (samestore_any [[0, 1, 2], [0, 1, 2]] [[0, 1, 2], [0, 1, 2]] _ _ _ (HXS.out _ ((hB4.trans (hB8.mono hs4)).trans ((below3 _ _ _ _).mono (by omega)))) (lit2 [0, 1, 2] [0, 1, 2] _ _ _ rfl rfl rfl (by decide) (by decide))).mono ?_
  rintro e w9 ⟨rfl, n9, h9⟩
  rw [show decide (([[0, 1, 2], [0, 1, 2]] : Sto) = [[0, 1, 2], [0, 1, 2]]) = true from by decide]
  have hB9 : Below w4.heap.size w4 w9 := (hB8.trans ((below3 _ _ _ _).mono hs8)).trans ((draws_below h9).mono (by simp; omega))
  clear h9 hB8 hs8
  have hs9 := hB9.size
  go_wp2_with fail
  refine (samestore_any [[1], [0, 2]] [[1], [0, 2]] _ _ _ (HXT.out _ (hB9.trans ((below3 _ _ _ _).mono hs9))) (lit2 [1] [0, 2] _ _ _ rfl rfl rfl (by decide) (by decide))).mono ?_
  rintro e wa ⟨rfl, na, ha⟩
  rw [show decide (([[1], [0, 2]] : Sto) = [[1], [0, 2]]) = true from by decide]
  have hBa : Below w4.heap.size w4 wa := (hB9.trans ((below3 _ _ _ _).mono hs9)).trans ((draws_below ha).mono (by simp; omega))
  clear ha hB9 hs9
  have hsa := hBa.size
  go_wp2_with fail
  refine (two_any _).mono ?_
  rintro e wb ⟨vs, cs, rfl, hm, hbb⟩
  have hsb := hbb.size
  go_wp2_with fail
  refine (scheck_any twoM [[1], [0, 2]] _ _ _ _ hm (HXT.out _ (hBa.trans (hbb.mono hsa)))).mono ?_
  rintro e wc ⟨rfl, hbc⟩
  rw [two_check]
  have hBc : Below w.heap.size w wc := (hB2.trans ((hB4.trans ((hBa.trans ((hbb.mono hsa).trans (hbc.mono (by omega)))).mono hs4)).mono hB2.size))
  clear hbc hbb hm hBa hB4 hB2
  go_wp2
  go_ret
  exact ⟨rfl, hBc⟩
end Go.Proofs.Ytggkbhafbhhhhab
