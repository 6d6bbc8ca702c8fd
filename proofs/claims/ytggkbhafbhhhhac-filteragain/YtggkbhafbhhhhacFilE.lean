/-
  WALK: filterBegun.
-/
import Derived.Test.YtggkbhafbhhhhacFilD
import Derived.Test.YtggkbhafbhhhhacStoG
namespace Go.Proofs.Ytggkbhafbhhhhac
open Go.RowKit

def twoC : MCon := ⟨1, [0, 1], [1, -1], -1, [], []⟩
theorem sort_01 : sortI [0, 1] = [0, 1] := by
  unfold sortI
  exact List.mergeSort_of_pairwise (by decide)
theorem two_scopeC : scopeC twoC = [0, 1] := by
  have h1 : scopeL twoC = [0, 1] := by rfl
  unfold scopeC
  rw [h1, sort_01]
  decide
theorem two_filter : filterA twoM 0 [[0, 1, 2], [0, 1, 2]] = ([[0, 1], [1, 2]], 0) := by
  have h : checkL twoM [[[0, 1, 2], [0, 1, 2]]] = 0 := by unfold checkL; rw [if_pos two_checks]; decide
  have h0 : conCheck twoM 0 = 0 := by kernel_rfl
  have h1 : twoM.cons.getD (0 : Int).toNat noCon = twoC := by rfl
  unfold filterA
  rw [if_pos h, if_pos h0, h1]
  unfold filterS staysB metAll
  simp only [two_scopeC]
  decide +kernel

set_option maxHeartbeats 1600000 in
set_option maxRecDepth 100000 in
theorem begun_filter (w : World) :
    Calls Try.prog 14 #[] w fun e w' => e = .returned (.bool true) ∧ Below w.heap.size w w' := by
  go_enter Try.func14, Try.ntmps14
  go_wp2_with fail
  refine (two_any _).mono ?_
  rintro e w1 ⟨vs, cs, rfl, hm, hb1⟩
  have HM1 : Hid (∀ w' : World, Below w1.heap.size w1 w' → MArg w' vs cs twoM) := fun w' h => MArg.below h hm
  clear hm
  go_wp2_with fail
  refine (filter_any twoM 0 [[0, 1, 2], [0, 1, 2]] _ _ _ _ (HM1.out _ (below3 _ _ _ _)) (lit2 [0, 1, 2] [0, 1, 2] _ _ _ rfl rfl rfl (by decide) (by decide))).mono ?_
  rintro e w2 ⟨x, rfl, hx, hb2⟩
  rw [two_filter] at hx ⊢
  have hB2 : Below w.heap.size w w2 := hb1.trans (((below3 _ _ _ _).trans (hb2.mono (by simp; omega))).mono hb1.size)
  have HX : Hid (∀ w' : World, Below w2.heap.size w2 w' → RArg w' x [[0, 1], [1, 2]]) := fun w' h => RArg.below h hx
  obtain ⟨ax, cx, rfl, _, _⟩ := hx
  clear hb1 hb2 HM1
  go_wp2_with fail
  refine (samestore_any [[0, 1], [1, 2]] [[0, 1], [1, 2]] _ _ _ (HX.out _ (below3 _ _ _ _)) (lit2 [0, 1] [1, 2] _ _ _ rfl rfl rfl (by decide) (by decide))).mono ?_
  rintro e w3 ⟨rfl, n3, h3⟩
  rw [show decide (([[0, 1], [1, 2]] : Sto) = [[0, 1], [1, 2]]) = true from by decide]
  have hB3 : Below w.heap.size w w3 := hB2.trans ((((below3 _ _ _ _).trans ((draws_below h3).mono (by simp; omega)))).mono hB2.size)
  clear h3 hB2
  go_wp2
  go_ret
  exact ⟨rfl, hB3⟩
end Go.Proofs.Ytggkbhafbhhhhac
