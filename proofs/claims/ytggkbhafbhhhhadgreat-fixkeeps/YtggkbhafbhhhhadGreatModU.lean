/-
  WALK: modelBegun.
-/
import Derived.Test.YtggkbhafbhhhhadGreatModT
import Derived.Test.YtggkbhafbhhhhadGreatModR
import Derived.Test.YtggkbhafbhhhhadGreatModH
import Derived.Test.YtggkbhafbhhhhadGreatRefI
namespace Go.Proofs.YtggkbhafbhhhhadGreat
open Go.RowKit

theorem two_holds : holdsA twoM 0 [0, 1] = (true, 0) := by kernel_rfl
theorem two_all : allA twoM [2, 1] = (false, 0) := by kernel_rfl
theorem sort01 : sortI [0, 1] = [0, 1] := by
  unfold sortI
  exact List.mergeSort_of_pairwise (by decide)
theorem two_scope : scopeA twoM 0 = ([0, 1], 0) := by
  have h0 : conCheck twoM 0 = 0 := by kernel_rfl
  unfold scopeA
  rw [if_pos h0]
  have h1 : scopeL (twoM.cons.getD (0 : Int).toNat noCon) = [0, 1] := by rfl
  unfold scopeC
  rw [h1, sort01]
  decide
/-- A list of two, written out. -/
theorem ilit2 {w : World} (a b : Int) (B : Nat) (h : B = w.heap.size) : IArg (w.alloc (.cells #[.int .i64 a, .int .i64 b] 3)) (.slice (some ⟨B, 0, none⟩) 2 2) [a, b] := by
  subst h
  refine ⟨_, 2, rfl, ⟨by simp, by unfold maxLen; omega⟩, fun i z hz => ?_⟩
  match i, hz with
  | 0, hz => cases hz; exact ⟨_, 0, rfl, by simp, by simp⟩
  | 1, hz => cases hz; exact ⟨_, 0, rfl, by simp, by simp⟩

set_option maxHeartbeats 1600000 in
set_option maxRecDepth 100000 in
theorem begun_model (w : World) :
    Calls Tryz.prog 14 #[] w fun e w' => e = .returned (.bool true) ∧ Below w.heap.size w w' := by
  go_enter Tryz.func14, Tryz.ntmps14
  go_wp2_with fail
  refine (two_any _).mono ?_
  rintro e w1 ⟨vs, cs, rfl, hm, hb1⟩
  have HM : Hid (MArg w1 vs cs twoM) := hm
  clear hm
  go_wp2_with fail
  refine (mholds_any twoM 0 [0, 1] vs cs _ _ (MArg.below (below_alloc _ _) HM.out) (ilit2 0 1 _ rfl)).mono ?_
  rintro e w2 ⟨rfl, hb2⟩
  rw [two_holds]
  have hs1 := hb1.size
  have hB2 : Below w.heap.size w w2 := (hb1.alloc hs1 _).trans (hb2.mono (by simp; omega))
  clear hb1 hb2 HM hs1
  go_wp2_with fail
  refine (two_any _).mono ?_
  rintro e w3 ⟨vs, cs, rfl, hm, hb3⟩
  have HM : Hid (MArg w3 vs cs twoM) := hm
  clear hm
  go_wp2_with fail
  refine (mall_any twoM [2, 1] vs cs _ _ (MArg.below (below_alloc _ _) HM.out) (ilit2 2 1 _ rfl)).mono ?_
  rintro e w4 ⟨rfl, hb4⟩
  rw [two_all]
  have hs2 := hB2.size
  have hs3 := hb3.size
  have hB4 : Below w.heap.size w w4 := hB2.trans ((((hb3.alloc hs3 _).trans (hb4.mono (by simp; omega)))).mono hs2)
  clear hb3 hb4 HM hs2 hs3 hB2
  go_wp2_with fail
  refine (two_any _).mono ?_
  rintro e w5 ⟨vs, cs, rfl, hm, hb5⟩
  go_wp2_with fail
  refine (mscope_any twoM 0 vs cs _ hm).mono ?_
  rintro e w6 ⟨x, rfl, hx, hb6⟩
  rw [two_scope] at hx ⊢
  have HX : Hid (∀ w' : World, Below w6.heap.size w6 w' → IArg w' x [0, 1]) := fun w' h => IArg.below h hx
  obtain ⟨a6, c6, rfl, _, _⟩ := hx
  have hs4 := hB4.size
  have hs5 := hb5.size
  have hB6 : Below w.heap.size w w6 := hB4.trans ((hb5.trans (hb6.mono hs5)).mono hs4)
  clear hb5 hb6 hm hs4 hs5 hB4
  go_wp2_with fail
  refine (two_any _).mono ?_
  rintro e w7 ⟨vs, cs, rfl, hm, hb7⟩
  go_wp2_with fail
  refine (check_model twoM vs cs _ hm).mono ?_
  rintro e w8 ⟨rfl, hb8⟩
  rw [two_checks]
  have hs7 := hb7.size
  have hB8 : Below w6.heap.size w6 w8 := hb7.trans (hb8.mono hs7)
  have hs8 := hB8.size
  clear hb7 hb8 hm hs7
  go_wp2_with fail
  refine (sameints_any [0, 1] [0, 1] _ _ _ (HX.out _ (hB8.alloc hs8 _)) (ilit2 0 1 _ rfl)).mono ?_
  rintro e w9 ⟨rfl, n, h9⟩
  rw [show decide (([0, 1] : List Int) = [0, 1]) = true from by decide]
  have hB9 : Below w.heap.size w w9 := hB6.trans (((hB8.alloc hs8 _).trans ((draws0 h9).mono (by simp; omega))).mono hB6.size)
  clear h9
  go_wp2
  go_ret
  exact ⟨rfl, hB9⟩
end Go.Proofs.YtggkbhafbhhhhadGreat
