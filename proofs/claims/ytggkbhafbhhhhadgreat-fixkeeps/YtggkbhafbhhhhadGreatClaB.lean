/-
  WALK: clauseBegun.
-/
import Derived.Test.YtggkbhafbhhhhadGreatClaA
import Derived.Test.YtggkbhafbhhhhadGreatStoG
namespace Go.Proofs.YtggkbhafbhhhhadGreat
open Go.RowKit

def begC : Cla := [⟨0, 3, 2⟩, ⟨1, 2, 1⟩]
theorem lits_new (w : World) : LArg (w.alloc (.cells #[.int .i64 0, .int .i64 3, .int .i64 2, .int .i64 1, .int .i64 2, .int .i64 1] 63)) (.slice (some ⟨w.heap.size, 0, none⟩) 2 2) begC := by
  refine ⟨_, 2, rfl, ⟨by simp [begC], by unfold maxLen; omega⟩, fun i t ht => ?_⟩
  match i, ht with
  | 0, ht =>
    cases ht
    exact ⟨_, 0, rfl, by simp, World.cell?_alloc_at _ _ _ 0 (by simp), World.cell?_alloc_at _ _ _ 1 (by simp), World.cell?_alloc_at _ _ _ 2 (by simp)⟩
  | 1, ht =>
    cases ht
    exact ⟨_, 0, rfl, by simp, World.cell?_alloc_at _ _ _ 3 (by simp), World.cell?_alloc_at _ _ _ 4 (by simp), World.cell?_alloc_at _ _ _ 5 (by simp)⟩
theorem beg_in : cinE twoM [[0, 1], [0, 1, 2]] begC = 0 := by
  have h : checkL twoM [[[0, 1], [0, 1, 2]]] = 0 := by unfold checkL; rw [if_pos two_checks]; decide
  unfold cinE; rw [if_pos h]; decide
theorem beg_check : ccheckA twoM begC = 0 := by unfold ccheckA; rw [if_pos two_checks]; decide
theorem beg_holds : choldsA twoM begC [0, 1] = (true, 0) := by unfold choldsA; rw [if_pos beg_check]; decide
theorem beg_unit : cunitA twoM [[0, 1], [0, 1, 2]] begC = ([[0, 1], [1, 2]], 0) := by unfold cunitA; rw [if_pos beg_in]; decide
theorem beg_deny : cdenyA twoM [[0, 1], [0, 1, 2]] begC = ([[0, 1], [0]], 0) := by unfold cdenyA; rw [if_pos beg_in]; decide
theorem ints2 (w : World) (a b : Int) : IArg (w.alloc (.cells #[.int .i64 a, .int .i64 b] 3)) (.slice (some ⟨w.heap.size, 0, none⟩) 2 2) [a, b] := by
  refine ⟨_, 2, rfl, ⟨by simp, by unfold maxLen; omega⟩, fun i z hz => ?_⟩
  match i, hz with
  | 0, hz => cases hz; exact ⟨_, 0, rfl, by simp, World.cell?_alloc_at _ _ _ 0 (by simp)⟩
  | 1, hz => cases hz; exact ⟨_, 0, rfl, by simp, World.cell?_alloc_at _ _ _ 1 (by simp)⟩

set_option maxHeartbeats 1600000 in
set_option maxRecDepth 100000 in
theorem begun_clause (w : World) :
    Calls Tryz.prog 15 #[] w fun e w' => e = .returned (.bool true) ∧ Below w.heap.size w w' := by
  go_enter Tryz.func15, Tryz.ntmps15
  go_wp2_with fail
  refine (two_any _).mono ?_
  rintro e w1 ⟨vs, cs, rfl, hm, hb1⟩
  have HL : Hid (∀ w' : World, Below w1.heap.size w1 w' → LArg w' (.slice (some ⟨w.heap.size, 0, none⟩) 2 2) begC) := fun w' h => LArg.below (hb1.trans (h.mono hb1.size)) (LArg.below (below3 _ _ _ _) (lits_new w))
  have HS : Hid (∀ w' : World, Below w1.heap.size w1 w' → RArg w' (.slice (some ⟨w.heap.size + 1 + 1 + 1, 0, none⟩) 2 2) [[0, 1], [0, 1, 2]]) := fun w' h => RArg.below (hb1.trans (h.mono hb1.size)) (lit2 [0, 1] [0, 1, 2] _ _ _ (by simp) (by simp) (by simp) (by decide) (by decide))
  have HM : Hid (∀ w' : World, Below w1.heap.size w1 w' → MArg w' vs cs twoM) := fun w' h => MArg.below h hm
  have HB1 : Hid (Below w.heap.size w w1) := (((below3 _ _ _ _).alloc (by simp; omega) _).trans (hb1.mono (by simp; omega)))
  clear hm hb1
  go_wp2_with fail
  refine (cholds_any twoM begC [0, 1] _ _ _ _ _ (HM.out _ (below_alloc _ _)) (HL.out _ (below_alloc _ _)) (ints2 _ 0 1)).mono ?_
  rintro e w2 ⟨rfl, hb2⟩
  rw [beg_holds]
  have HB2 : Hid (Below w1.heap.size w1 w2) := (below_alloc _ _).trans (hb2.mono (by simp))
  clear hb2 HM
  go_wp2_with fail
  refine (two_any _).mono ?_
  rintro e w3 ⟨vs, cs, rfl, hm, hb3⟩
  have HB3 : Hid (Below w1.heap.size w1 w3) := HB2.out.trans (hb3.mono HB2.out.size)
  have HM : Hid (MArg w3 vs cs twoM) := hm
  clear hm hb3 HB2
  go_wp2_with fail
  refine (cunit_any twoM [[0, 1], [0, 1, 2]] begC _ _ _ _ _ HM.out (HS.out _ HB3.out) (HL.out _ HB3.out)).mono ?_
  rintro e w4 ⟨x, rfl, hx, hb4⟩
  rw [beg_unit] at hx ⊢
  have HX : Hid (∀ w' : World, Below w4.heap.size w4 w' → RArg w' x [[0, 1], [1, 2]]) := fun w' h => RArg.below h hx
  obtain ⟨ax, cx, rfl, _, _⟩ := hx
  have HB4 : Hid (Below w1.heap.size w1 w4) := HB3.out.trans (hb4.mono HB3.out.size)
  clear hb4 HB3 HM
  go_wp2_with fail
  refine (two_any _).mono ?_
  rintro e w5 ⟨vs, cs, rfl, hm, hb5⟩
  have HB5 : Hid (Below w1.heap.size w1 w5) := HB4.out.trans (hb5.mono HB4.out.size)
  have HM : Hid (MArg w5 vs cs twoM) := hm
  have HB45 : Hid (Below w4.heap.size w4 w5) := hb5
  clear hm hb5 HB4
  go_wp2_with fail
  refine (cdeny_any twoM [[0, 1], [0, 1, 2]] begC _ _ _ _ _ HM.out (HS.out _ HB5.out) (HL.out _ HB5.out)).mono ?_
  rintro e w6 ⟨y, rfl, hy, hb6⟩
  rw [beg_deny] at hy ⊢
  have HY : Hid (∀ w' : World, Below w6.heap.size w6 w' → RArg w' y [[0, 1], [0]]) := fun w' h => RArg.below h hy
  obtain ⟨ay, cy, rfl, _, _⟩ := hy
  have HB6 : Hid (Below w1.heap.size w1 w6) := HB5.out.trans (hb6.mono HB5.out.size)
  have HB46 : Hid (Below w4.heap.size w4 w6) := HB45.out.trans (hb6.mono HB45.out.size)
  clear hb6 HB5 HM HB45
  go_wp2_with fail
  refine (two_any _).mono ?_
  rintro e w7 ⟨vs, cs, rfl, hm, hb7⟩
  have HB67 : Hid (Below w6.heap.size w6 w7) := hb7
  have HM : Hid (MArg w7 vs cs twoM) := hm
  clear hm hb7
  go_wp2_with fail
  refine (ccheck_any twoM begC _ _ _ _ HM.out (HL.out _ (HB6.out.trans (HB67.out.mono HB6.out.size)))).mono ?_
  rintro e w8 ⟨rfl, hb8⟩
  rw [beg_check]
  have HB68 : Hid (Below w6.heap.size w6 w8) := HB67.out.trans (hb8.mono HB67.out.size)
  clear hb8 HM HB67
  go_wp2_with fail
  refine (samestore_any [[0, 1], [1, 2]] [[0, 1], [1, 2]] _ _ _ (HX.out _ ?_) (lit2 [0, 1] [1, 2] _ _ _ rfl rfl rfl (by decide) (by decide))).mono ?_
  · exact HB46.out.trans ((HB68.out.trans ((below3 _ _ _ _).mono HB68.out.size)).mono HB46.out.size)
  rintro e w9 ⟨rfl, n9, h9⟩
  rw [show decide (([[0, 1], [1, 2]] : Sto) = [[0, 1], [1, 2]]) = true from by decide]
  have HB69 : Hid (Below w6.heap.size w6 w9) := HB68.out.trans (((below3 _ _ _ _).trans ((draws_below h9).mono (by simp; omega))).mono HB68.out.size)
  clear h9
  go_wp2_with fail
  refine (samestore_any [[0, 1], [0]] [[0, 1], [0]] _ _ _ (HY.out _ ?_) (lit2 [0, 1] [0] _ _ _ rfl rfl rfl (by decide) (by decide))).mono ?_
  · exact HB69.out.trans ((below3 _ _ _ _).mono HB69.out.size)
  rintro e wa ⟨rfl, na, ha⟩
  rw [show decide (([[0, 1], [0]] : Sto) = [[0, 1], [0]]) = true from by decide]
  have hBa : Below w.heap.size w wa := HB1.out.trans ((HB6.out.trans ((HB69.out.trans (((below3 _ _ _ _).trans ((draws_below ha).mono (by simp; omega))).mono HB69.out.size)).mono HB6.out.size)).mono HB1.out.size)
  clear ha
  go_wp2
  go_ret
  exact ⟨rfl, hBa⟩
end Go.Proofs.YtggkbhafbhhhhadGreat
