/-
  PART 8 of what the proof leans on (ModU, StoF, RefA, StoG, ClaB, PrfI, OpnA, OpnB, OpnC).
-/
import Derived.Test.YtijohkhpigjbkadGreatDoorPartG
/-
  WALK: modelBegun.
-/
namespace Go.Proofs.YtijohkhpigjbkadGreatDoor
open Go.RowKit

theorem two_holds : holdsA twoM 0 [0, 1] = (true, 0) := by kernel_rfl
theorem two_all : allA twoM [2, 1] = (false, 0) := by kernel_rfl
theorem sort01 : sortI [0, 1] = [0, 1] := by
  unfold sortI
  exact List.mergeSort_of_pairwise (by decide)
theorem two_scope : scopeA twoM 0 = ([0, 1], 0) := by
  have h0 : conCheck twoM 0 = 0 := by kernel_rfl
  unfold scopeA
  rw [if_pos h0]
  have h1 : scopeL (twoM.cons.getD (0 : Int).toNat noCon) = [0, 1] := by rfl
  unfold scopeC
  rw [h1, sort01]
  decide
/-- A list of two, written out. -/
theorem ilit2 {w : World} (a b : Int) (B : Nat) (h : B = w.heap.size) : IArg (w.alloc (.cells #[.int .i64 a, .int .i64 b] 3)) (.slice (some ⟨B, 0, none⟩) 2 2) [a, b] := by
  subst h
  refine ⟨_, 2, rfl, ⟨by simp, by unfold maxLen; omega⟩, fun i z hz => ?_⟩
  match i, hz with
  | 0, hz => cases hz; exact ⟨_, 0, rfl, by simp, by simp⟩
  | 1, hz => cases hz; exact ⟨_, 0, rfl, by simp, by simp⟩

set_option maxHeartbeats 1600000 in
set_option maxRecDepth 100000 in
theorem begun_model (w : World) :
    Calls Tryz.prog 17 #[] w fun e w' => e = .returned (.bool true) ∧ Below w.heap.size w w' := by
  go_enter Tryz.func17, Tryz.ntmps17
  go_wp2_with fail
  refine (two_any _).mono ?_
  rintro e w1 ⟨vs, cs, rfl, hm, hb1⟩
  have HM : Hid (MArg w1 vs cs twoM) := hm
  clear hm
  go_wp2_with fail
  refine (mholds_any twoM 0 [0, 1] vs cs _ _ (MArg.below (below_alloc _ _) HM.out) (ilit2 0 1 _ rfl)).mono ?_
  rintro e w2 ⟨rfl, hb2⟩
  rw [two_holds]
  have hs1 := hb1.size
  have hB2 : Below w.heap.size w w2 := (hb1.alloc hs1 _).trans (hb2.mono (by simp; omega))
  clear hb1 hb2 HM hs1
  go_wp2_with fail
  refine (two_any _).mono ?_
  rintro e w3 ⟨vs, cs, rfl, hm, hb3⟩
  have HM : Hid (MArg w3 vs cs twoM) := hm
  clear hm
  go_wp2_with fail
  refine (mall_any twoM [2, 1] vs cs _ _ (MArg.below (below_alloc _ _) HM.out) (ilit2 2 1 _ rfl)).mono ?_
  rintro e w4 ⟨rfl, hb4⟩
  rw [two_all]
  have hs2 := hB2.size
  have hs3 := hb3.size
  have hB4 : Below w.heap.size w w4 := hB2.trans ((((hb3.alloc hs3 _).trans (hb4.mono (by simp; omega)))).mono hs2)
  clear hb3 hb4 HM hs2 hs3 hB2
  go_wp2_with fail
  refine (two_any _).mono ?_
  rintro e w5 ⟨vs, cs, rfl, hm, hb5⟩
  go_wp2_with fail
  refine (mscope_any twoM 0 vs cs _ hm).mono ?_
  rintro e w6 ⟨x, rfl, hx, hb6⟩
  rw [two_scope] at hx ⊢
  have HX : Hid (∀ w' : World, Below w6.heap.size w6 w' → IArg w' x [0, 1]) := fun w' h => IArg.below h hx
  obtain ⟨a6, c6, rfl, _, _⟩ := hx
  have hs4 := hB4.size
  have hs5 := hb5.size
  have hB6 : Below w.heap.size w w6 := hB4.trans ((hb5.trans (hb6.mono hs5)).mono hs4)
  clear hb5 hb6 hm hs4 hs5 hB4
  go_wp2_with fail
  refine (two_any _).mono ?_
  rintro e w7 ⟨vs, cs, rfl, hm, hb7⟩
  go_wp2_with fail
  refine (check_model twoM vs cs _ hm).mono ?_
  rintro e w8 ⟨rfl, hb8⟩
  rw [two_checks]
  have hs7 := hb7.size
  have hB8 : Below w6.heap.size w6 w8 := hb7.trans (hb8.mono hs7)
  have hs8 := hB8.size
  clear hb7 hb8 hm hs7
  go_wp2_with fail
  refine (sameints_any [0, 1] [0, 1] _ _ _ (HX.out _ (hB8.alloc hs8 _)) (ilit2 0 1 _ rfl)).mono ?_
  rintro e w9 ⟨rfl, n, h9⟩
  rw [show decide (([0, 1] : List Int) = [0, 1]) = true from by decide]
  have hB9 : Below w.heap.size w w9 := hB6.trans (((hB8.alloc hs8 _).trans ((draws0 h9).mono (by simp; omega))).mono hB6.size)
  clear h9
  go_wp2
  go_ret
  exact ⟨rfl, hB9⟩
end Go.Proofs.YtijohkhpigjbkadGreatDoor
/-
  WALKS: package store: Begin.
-/
namespace Go.Proofs.YtijohkhpigjbkadGreatDoor
open Go.RowKit

def spanN (lo : Int) (j : Nat) : List Int := (List.range j).map fun (k : Nat) => lo + (k : Int)
theorem spanN_next (lo : Int) (j : Nat) : spanN lo (j + 1) = spanN lo j ++ [lo + j] := by simp [spanN, List.range_succ]
theorem spanN_len (lo : Int) (j : Nat) : (spanN lo j).length = j := by simp [spanN]
theorem spanR_eq (lo hi : Int) : spanR lo hi = spanN lo (hi + 1 - lo).toNat := rfl
theorem checkL_nil (m : Mod) : checkL m [] = checkM m := by
  unfold checkL; simp only [List.map_nil, firstE]
  by_cases h : checkM m = 0
  · rw [if_pos h, h]
  · rw [if_neg h]
def beginA (m : Mod) : Sto × Int := if checkM m = 0 then (beginS m.vars, 0) else ([], checkM m)

end Go.Proofs.YtijohkhpigjbkadGreatDoor
/-
  WALK: the reference's SameStore.
-/
namespace Go.Proofs.YtijohkhpigjbkadGreatDoor
open Go.RowKit

set_option maxHeartbeats 800000 in
set_option maxRecDepth 100000 in
theorem samestore_any (s t : Sto) (v u : Value) (w : World) (hv : RArg w v s) (hu : RArg w u t) :
    Calls Tryz.prog 49 #[v, u] w fun e w' => e = .returned (.bool (decide (s = t))) ∧ ∃ n, w' = w.drewN n := by
  obtain ⟨a, c, rfl, hm, hr⟩ := hv
  obtain ⟨a', c', rfl, hm', hr'⟩ := hu
  have HV : Hid (∀ (i : Nat) (r : List Int), s[i]? = some r → ∃ b off x, a = some ⟨b, off, none⟩ ∧ b < w.heap.size ∧ w.cell? ⟨b, off + i, none⟩ = some x ∧ IArg w x r) := hr
  have HV' : Hid (∀ (i : Nat) (r : List Int), t[i]? = some r → ∃ b off x, a' = some ⟨b, off, none⟩ ∧ b < w.heap.size ∧ w.cell? ⟨b, off + i, none⟩ = some x ∧ IArg w x r) := hr'
  obtain ⟨R, hR⟩ : ∃ R, decide (s = t) = R := ⟨_, rfl⟩
  rw [hR]
  have HR : Hid (decide (s = t) = R) := hR
  unfold maxLen at hm hm'
  obtain ⟨hm1, hm⟩ := hm
  obtain ⟨hm1', hm'⟩ := hm'
  clear hr hr' hR
  by_cases hl : s.length = t.length
  · have HL : Hid (s.length = t.length) := hl
    have g0 : ((s.length : Int) != (t.length : Int)) = false := by simp [hl]
    clear hl
    go_enter Tryz.func49, Tryz.ntmps49
    go_wp2_with fail
    go_loopw [5] (fun i wr => ∃ m : Nat, m ≤ s.length ∧ i = .int .i64 m ∧ Hid (s.take m = t.take m) ∧ ∃ n, wr = w.drewN n) (fun i _ => s.length - (intOf i).toNat)
    case atStart => exact ⟨0, by omega, rfl, rfl, 0, rfl⟩
    case round =>
      obtain ⟨m, hml, rfl, hall, nq, rfl⟩ := hrel
      by_cases hlt : m < s.length
      · have hlt' : m < t.length := by rw [← HL.out]; exact hlt
        obtain ⟨x, hx⟩ : ∃ x, s[m]? = some x := ⟨s[m], by simp [hlt]⟩
        obtain ⟨y, hy⟩ : ∃ y, t[m]? = some y := ⟨t[m], by simp [hlt']⟩
        obtain ⟨b, off, vx, ha, hb, hc, hix⟩ := HV.out m x hx
        obtain ⟨b', off', vy, ha', hb', hd, hiy⟩ := HV'.out m y hy
        have HX : Hid (s[m]? = some x) := hx
        have HY : Hid (t[m]? = some y) := hy
        have HIX : Hid (IArg w vx x) := hix
        have HIY : Hid (IArg w vy y) := hiy
        obtain ⟨a5, c5, rfl, _, _⟩ := hix
        obtain ⟨a6, c6, rfl, _, _⟩ := hiy
        subst ha; subst ha'
        clear hx hy
        have HS : Hid (∀ p q, Calls Tryz.prog 45 #[.slice a5 x.length c5, .slice a6 y.length c6] (w.drewN (p + q)) fun e w' => e = .returned (.bool (decide (x = y))) ∧ ∃ n, w' = w.drewN (p + n)) := by
          intro p q
          refine (sameints_any x y _ _ (w.drewN (p + q)) HIX.out HIY.out).mono ?_
          rintro e w' ⟨rfl, n, rfl⟩
          exact ⟨rfl, q + n, by rw [drewN_drewN, Nat.add_assoc]⟩
        by_cases hq : x = y
        · have hq2 : decide (x = y) = true := decide_eq_true hq
          have HN : Hid (s.take (m + 1) = t.take (m + 1)) := take_same s t m x hall.out HX.out (by rw [hq]; exact HY.out)
          rw [hq2] at HS
          clear hq hq2
          go_wp2
          go_quiet ((go_at_call 45; exact HS.out _ _))
          go_wp2
          go_roundw
          case rel => exact ⟨m + 1, by omega, by go_num, HN, _, rfl⟩
          case measure => simp [intOf]; omega
        · have hq2 : decide (x = y) = false := decide_eq_false hq
          have HN : Hid (R = false) := by rw [← HR.out]; exact decide_eq_false (not_same s t m x y HX.out HY.out hq)
          rw [hq2] at HS
          clear hq hq2
          go_wp2
          go_quiet ((go_at_call 45; exact HS.out _ _))
          go_wp2
          go_ret
          exact ⟨ret_bool HN.out.symm, _, drewN_drewN _ _ _⟩
      · have HN : Hid (R = true) := by rw [← HR.out]; exact decide_eq_true (same_end s t m hall.out hlt HL.out)
        go_wp2
        go_ret
        exact ⟨ret_bool HN.out.symm, _, rfl⟩
  · have HN : Hid (R = false) := by rw [← HR.out]; exact decide_eq_false (fun h => hl (by rw [h]))
    have g0 : ((s.length : Int) != (t.length : Int)) = true := by simp; omega
    clear hl
    go_enter Tryz.func49, Tryz.ntmps49
    go_wp2
    go_ret
    exact ⟨ret_bool HN.out.symm, 0, rfl⟩
end Go.Proofs.YtijohkhpigjbkadGreatDoor
/-
  WALK: storeBegun.
-/
namespace Go.Proofs.YtijohkhpigjbkadGreatDoor
open Go.RowKit

/-- A store of two rows, written out. -/
theorem lit2 {w : World} (a b : List Int) (B1 B2 B3 : Nat) (h1 : B1 = w.heap.size) (h2 : B2 = w.heap.size + 1) (h3 : B3 = w.heap.size + 2) (ha : a.length ≤ 100) (hb : b.length ≤ 100) :
    RArg (((w.alloc (.cells (a.map (Value.int .i64)).toArray 3)).alloc (.cells (b.map (Value.int .i64)).toArray 3)).alloc (.cells #[.slice (some ⟨B1, 0, none⟩) a.length a.length, .slice (some ⟨B2, 0, none⟩) b.length b.length] 44)) (.slice (some ⟨B3, 0, none⟩) 2 2) [a, b] := by
  subst h1; subst h2; subst h3
  refine ⟨_, 2, rfl, ⟨by simp, by unfold maxLen; omega⟩, fun i r hr => ?_⟩
  match i, hr with
  | 0, hr =>
    cases hr
    refine ⟨_, 0, _, rfl, by simp, World.cell?_alloc_at _ _ _ _ (by simp), ⟨_, _, rfl, ⟨Nat.le_refl _, by unfold maxLen; omega⟩, fun j z hz => ⟨_, 0, rfl, by simp; omega, ?_⟩⟩⟩
    rw [World.cell?_alloc_past _ _ _ (by simp; omega), World.cell?_alloc_past _ _ _ (by simp), World.cell?_alloc_at _ _ _ _ rfl]
    simp [hz]
  | 1, hr =>
    cases hr
    refine ⟨_, 0, _, rfl, by simp, World.cell?_alloc_at _ _ _ _ (by simp), ⟨_, _, rfl, ⟨Nat.le_refl _, by unfold maxLen; omega⟩, fun j z hz => ⟨_, 0, rfl, by simp, ?_⟩⟩⟩
    rw [World.cell?_alloc_past _ _ _ (by simp), World.cell?_alloc_at _ _ _ _ (by simp)]
    simp [hz]

theorem below3 (w : World) (o1 o2 o3 : Obj) : Below w.heap.size w (((w.alloc o1).alloc o2).alloc o3) := ((below_alloc _ _).alloc (by simp) _).alloc (by simp; omega) _
theorem two_begin : beginA twoM = ([[0, 1, 2], [0, 1, 2]], 0) := by unfold beginA; rw [if_pos two_checks]; rfl
theorem two_meet : meetA twoM [[0, 1, 2], [0, 1, 2]] [[1], [0, 2]] = ([[1], [0, 2]], 0) := by
  have h : checkL twoM [[[0, 1, 2], [0, 1, 2]], [[1], [0, 2]]] = 0 := by unfold checkL; rw [if_pos two_checks]; decide
  unfold meetA; rw [if_pos h]; rfl
theorem two_within : withinA twoM [[1], [0, 2]] [[0, 1, 2], [0, 1, 2]] = (true, 0) := by
  have h : checkL twoM [[[1], [0, 2]], [[0, 1, 2], [0, 1, 2]]] = 0 := by unfold checkL; rw [if_pos two_checks]; decide
  unfold withinA; rw [if_pos h]; decide
theorem two_failed : failedA twoM [[0, 1, 2], [0, 1, 2]] = (false, 0) := by
  have h : checkL twoM [[[0, 1, 2], [0, 1, 2]]] = 0 := by unfold checkL; rw [if_pos two_checks]; decide
  unfold failedA; rw [if_pos h]; decide
theorem two_check : checkL twoM [[[1], [0, 2]]] = 0 := by unfold checkL; rw [if_pos two_checks]; decide

end Go.Proofs.YtijohkhpigjbkadGreatDoor
/-
  WALK: clauseBegun.
-/
namespace Go.Proofs.YtijohkhpigjbkadGreatDoor
open Go.RowKit

def begC : Cla := [⟨0, 3, 2⟩, ⟨1, 2, 1⟩]
theorem lits_new (w : World) : LArg (w.alloc (.cells #[.int .i64 0, .int .i64 3, .int .i64 2, .int .i64 1, .int .i64 2, .int .i64 1] 72)) (.slice (some ⟨w.heap.size, 0, none⟩) 2 2) begC := by
  refine ⟨_, 2, rfl, ⟨by simp [begC], by unfold maxLen; omega⟩, fun i t ht => ?_⟩
  match i, ht with
  | 0, ht =>
    cases ht
    exact ⟨_, 0, rfl, by simp, World.cell?_alloc_at _ _ _ 0 (by simp), World.cell?_alloc_at _ _ _ 1 (by simp), World.cell?_alloc_at _ _ _ 2 (by simp)⟩
  | 1, ht =>
    cases ht
    exact ⟨_, 0, rfl, by simp, World.cell?_alloc_at _ _ _ 3 (by simp), World.cell?_alloc_at _ _ _ 4 (by simp), World.cell?_alloc_at _ _ _ 5 (by simp)⟩
theorem beg_in : cinE twoM [[0, 1], [0, 1, 2]] begC = 0 := by
  have h : checkL twoM [[[0, 1], [0, 1, 2]]] = 0 := by unfold checkL; rw [if_pos two_checks]; decide
  unfold cinE; rw [if_pos h]; decide
theorem beg_check : ccheckA twoM begC = 0 := by unfold ccheckA; rw [if_pos two_checks]; decide
theorem beg_holds : choldsA twoM begC [0, 1] = (true, 0) := by unfold choldsA; rw [if_pos beg_check]; decide
theorem beg_unit : cunitA twoM [[0, 1], [0, 1, 2]] begC = ([[0, 1], [1, 2]], 0) := by unfold cunitA; rw [if_pos beg_in]; decide
theorem beg_deny : cdenyA twoM [[0, 1], [0, 1, 2]] begC = ([[0, 1], [0]], 0) := by unfold cdenyA; rw [if_pos beg_in]; decide
theorem ints2 (w : World) (a b : Int) : IArg (w.alloc (.cells #[.int .i64 a, .int .i64 b] 3)) (.slice (some ⟨w.heap.size, 0, none⟩) 2 2) [a, b] := by
  refine ⟨_, 2, rfl, ⟨by simp, by unfold maxLen; omega⟩, fun i z hz => ?_⟩
  match i, hz with
  | 0, hz => cases hz; exact ⟨_, 0, rfl, by simp, World.cell?_alloc_at _ _ _ 0 (by simp)⟩
  | 1, hz => cases hz; exact ⟨_, 0, rfl, by simp, World.cell?_alloc_at _ _ _ 1 (by simp)⟩

set_option maxHeartbeats 1600000 in
set_option maxRecDepth 100000 in
theorem begun_clause (w : World) :
    Calls Tryz.prog 18 #[] w fun e w' => e = .returned (.bool true) ∧ Below w.heap.size w w' := by
  go_enter Tryz.func18, Tryz.ntmps18
  go_wp2_with fail
  refine (two_any _).mono ?_
  rintro e w1 ⟨vs, cs, rfl, hm, hb1⟩
  have HL : Hid (∀ w' : World, Below w1.heap.size w1 w' → LArg w' (.slice (some ⟨w.heap.size, 0, none⟩) 2 2) begC) := fun w' h => LArg.below (hb1.trans (h.mono hb1.size)) (LArg.below (below3 _ _ _ _) (lits_new w))
  have HS : Hid (∀ w' : World, Below w1.heap.size w1 w' → RArg w' (.slice (some ⟨w.heap.size + 1 + 1 + 1, 0, none⟩) 2 2) [[0, 1], [0, 1, 2]]) := fun w' h => RArg.below (hb1.trans (h.mono hb1.size)) (lit2 [0, 1] [0, 1, 2] _ _ _ (by simp) (by simp) (by simp) (by decide) (by decide))
  have HM : Hid (∀ w' : World, Below w1.heap.size w1 w' → MArg w' vs cs twoM) := fun w' h => MArg.below h hm
  have HB1 : Hid (Below w.heap.size w w1) := (((below3 _ _ _ _).alloc (by simp; omega) _).trans (hb1.mono (by simp; omega)))
  clear hm hb1
  go_wp2_with fail
  refine (cholds_any twoM begC [0, 1] _ _ _ _ _ (HM.out _ (below_alloc _ _)) (HL.out _ (below_alloc _ _)) (ints2 _ 0 1)).mono ?_
  rintro e w2 ⟨rfl, hb2⟩
  rw [beg_holds]
  have HB2 : Hid (Below w1.heap.size w1 w2) := (below_alloc _ _).trans (hb2.mono (by simp))
  clear hb2 HM
  go_wp2_with fail
  refine (two_any _).mono ?_
  rintro e w3 ⟨vs, cs, rfl, hm, hb3⟩
  have HB3 : Hid (Below w1.heap.size w1 w3) := HB2.out.trans (hb3.mono HB2.out.size)
  have HM : Hid (MArg w3 vs cs twoM) := hm
  clear hm hb3 HB2
  go_wp2_with fail
  refine (cunit_any twoM [[0, 1], [0, 1, 2]] begC _ _ _ _ _ HM.out (HS.out _ HB3.out) (HL.out _ HB3.out)).mono ?_
  rintro e w4 ⟨x, rfl, hx, hb4⟩
  rw [beg_unit] at hx ⊢
  have HX : Hid (∀ w' : World, Below w4.heap.size w4 w' → RArg w' x [[0, 1], [1, 2]]) := fun w' h => RArg.below h hx
  obtain ⟨ax, cx, rfl, _, _⟩ := hx
  have HB4 : Hid (Below w1.heap.size w1 w4) := HB3.out.trans (hb4.mono HB3.out.size)
  clear hb4 HB3 HM
  go_wp2_with fail
  refine (two_any _).mono ?_
  rintro e w5 ⟨vs, cs, rfl, hm, hb5⟩
  have HB5 : Hid (Below w1.heap.size w1 w5) := HB4.out.trans (hb5.mono HB4.out.size)
  have HM : Hid (MArg w5 vs cs twoM) := hm
  have HB45 : Hid (Below w4.heap.size w4 w5) := hb5
  clear hm hb5 HB4
  go_wp2_with fail
  refine (cdeny_any twoM [[0, 1], [0, 1, 2]] begC _ _ _ _ _ HM.out (HS.out _ HB5.out) (HL.out _ HB5.out)).mono ?_
  rintro e w6 ⟨y, rfl, hy, hb6⟩
  rw [beg_deny] at hy ⊢
  have HY : Hid (∀ w' : World, Below w6.heap.size w6 w' → RArg w' y [[0, 1], [0]]) := fun w' h => RArg.below h hy
  obtain ⟨ay, cy, rfl, _, _⟩ := hy
  have HB6 : Hid (Below w1.heap.size w1 w6) := HB5.out.trans (hb6.mono HB5.out.size)
  have HB46 : Hid (Below w4.heap.size w4 w6) := HB45.out.trans (hb6.mono HB45.out.size)
  clear hb6 HB5 HM HB45
  go_wp2_with fail
  refine (two_any _).mono ?_
  rintro e w7 ⟨vs, cs, rfl, hm, hb7⟩
  have HB67 : Hid (Below w6.heap.size w6 w7) := hb7
  have HM : Hid (MArg w7 vs cs twoM) := hm
  clear hm hb7
  go_wp2_with fail
  refine (ccheck_any twoM begC _ _ _ _ HM.out (HL.out _ (HB6.out.trans (HB67.out.mono HB6.out.size)))).mono ?_
  rintro e w8 ⟨rfl, hb8⟩
  rw [beg_check]
  have HB68 : Hid (Below w6.heap.size w6 w8) := HB67.out.trans (hb8.mono HB67.out.size)
  clear hb8 HM HB67
  go_wp2_with fail
  refine (samestore_any [[0, 1], [1, 2]] [[0, 1], [1, 2]] _ _ _ (HX.out _ ?_) (lit2 [0, 1] [1, 2] _ _ _ rfl rfl rfl (by decide) (by decide))).mono ?_
  · exact HB46.out.trans ((HB68.out.trans ((below3 _ _ _ _).mono HB68.out.size)).mono HB46.out.size)
  rintro e w9 ⟨rfl, n9, h9⟩
  rw [show decide (([[0, 1], [1, 2]] : Sto) = [[0, 1], [1, 2]]) = true from by decide]
  have HB69 : Hid (Below w6.heap.size w6 w9) := HB68.out.trans (((below3 _ _ _ _).trans ((draws_below h9).mono (by simp; omega))).mono HB68.out.size)
  clear h9
  go_wp2_with fail
  refine (samestore_any [[0, 1], [0]] [[0, 1], [0]] _ _ _ (HY.out _ ?_) (lit2 [0, 1] [0] _ _ _ rfl rfl rfl (by decide) (by decide))).mono ?_
  · exact HB69.out.trans ((below3 _ _ _ _).mono HB69.out.size)
  rintro e wa ⟨rfl, na, ha⟩
  rw [show decide (([[0, 1], [0]] : Sto) = [[0, 1], [0]]) = true from by decide]
  have hBa : Below w.heap.size w wa := HB1.out.trans ((HB6.out.trans ((HB69.out.trans (((below3 _ _ _ _).trans ((draws_below ha).mono (by simp; omega))).mono HB69.out.size)).mono HB6.out.size)).mono HB1.out.size)
  clear ha
  go_wp2
  go_ret
  exact ⟨rfl, hBa⟩
end Go.Proofs.YtijohkhpigjbkadGreatDoor
/-
  WALK: ProofSound.
-/
namespace Go.Proofs.YtijohkhpigjbkadGreatDoor
open Go.RowKit

theorem allA_err (m : Mod) (vals : List Int) (h : (allA m vals).2 ≠ 0) : (allA m vals).1 = false := by
  unfold allA at *
  split
  · split
    · rename_i h1 h2
      rw [if_pos h1, if_pos h2] at h
      exact absurd rfl h
    · rfl
  · rfl
theorem sound_step (m : Mod) (con : Int) (c : Cla) (vals : List Int) (h1 : pconA m con c = (true, 0)) (h2 : allA m vals = (true, 0)) : choldsA m c vals = (true, 0) := by
  unfold pconA at h1
  by_cases h0 : conCheck m con = 0
  · rw [if_pos h0] at h1
    by_cases hc : claE m.vars c = 0
    · rw [if_pos hc] at h1
      obtain ⟨o1, o2, o3⟩ := conCheck_ok m con h0
      have hj : con.toNat < m.cons.length := by omega
      have e : m.cons[con.toNat]? = some (m.cons.getD con.toNat noCon) := by rw [List.getD_eq_getElem?_getD, List.getElem?_eq_getElem hj]; rfl
      have hh := con_holds m con.toNat _ e c hc vals h2 (congrArg Prod.fst h1)
      have hl : vals.length = m.vars.length := by
        have := (maybe_of m.vars vals (allA_parts m vals h2).2.1).1
        exact this
      unfold choldsA ccheckA
      rw [if_pos o1, hc, if_pos rfl, if_pos hl, hh]
    · rw [if_neg hc] at h1; cases h1
  · rw [if_neg h0] at h1; cases h1
theorem last_mem (l : List MStep) (h : lastB l = true) : ∃ s ∈ l, s.cla = [] := by
  unfold lastB at h
  match hq : l.getLast? with
  | none => rw [hq] at h; cases h
  | some s =>
    rw [hq] at h
    exact ⟨s, List.mem_of_getLast? hq, List.eq_nil_of_length_eq_zero (by simpa using h)⟩
theorem sound_all (m : Mod) (given : List Cla) (l : List MStep) (vals : List Int) (h1 : pcheckA m given l = (true, 0)) (h2 : allA m vals = (true, 0)) : given.all (okB m vals) = false := by
  cases hq : given.all (okB m vals)
  · rfl
  · exfalso
    unfold pcheckA at h1
    by_cases h0 : stepsE m given l = 0
    · rw [if_pos h0] at h1
      obtain ⟨o1, o2, o3, o4, o5⟩ := stepsE_ok m given l h0
      cases hl : lastB l
      · rw [hl] at h1; cases h1
      · rw [hl] at h1
        obtain ⟨s, hs, he⟩ := last_mem l hl
        exact proof_none m given l vals h2 (clasE_ok m.vars given o3).2 o4 o5 (fun d hd => okB_claB m vals d (List.all_eq_true.1 hq d hd)) (congrArg Prod.fst h1) s hs he
    · rw [if_neg h0] at h1; cases h1

set_option maxHeartbeats 3200000 in
set_option maxRecDepth 100000 in
theorem sound_any (m : Mod) (given : List Cla) (l : List MStep) (vals : List Int) (vs cs ul u v : Value) (w : World) (hma : MArg w vs cs m) (hul : LLArg w ul given) (hu : StArg w u l) (hv : IArg w v vals) (hT : TabT w) :
    Calls Tryz.prog 5 #[modV vs cs m, ul, u, v] w fun e w' => e = .returned (.bool true) ∧ Below w.heap.size w w' := by
  have HMA : Hid (∀ w', Below w.heap.size w w' → MArg w' vs cs m) := fun w' h => MArg.below h hma
  have HL : Hid (∀ w', Below w.heap.size w w' → LLArg w' ul given) := fun w' h => LLArg.below h hul
  have HSA : Hid (∀ w', Below w.heap.size w w' → StArg w' u l) := fun w' h => StArg.below h hu
  have HV : Hid (∀ w', Below w.heap.size w w' → IArg w' v vals) := fun w' h => IArg.below h hv
  have HT : Hid (∀ w', Below w.heap.size w w' → TabT w') := fun w' h => hT.below h
  obtain ⟨⟨a1, c1, rfl, _, _⟩, ⟨a2, c2, rfl, _, _⟩⟩ := hma
  obtain ⟨a3, c3, rfl, hm3, hr3⟩ := hu
  have HST : Hid (∀ (i : Nat) (t : MStep), l[i]? = some t → ∃ b off x, a3 = some ⟨b, off, none⟩ ∧ b < w.heap.size ∧
    w.cell? ⟨b, off + i * 3, none⟩ = some (.int .i64 t.kind) ∧ w.cell? ⟨b, off + i * 3 + 1, none⟩ = some (.int .i64 t.con) ∧ w.cell? ⟨b, off + i * 3 + 2, none⟩ = some x ∧ LArg w x t.cla) := hr3
  unfold maxLen at hm3
  obtain ⟨hm31, hm3⟩ := hm3
  obtain ⟨a4, c4, rfl, _, _⟩ := hul
  obtain ⟨a5, c5, rfl, _, _⟩ := hv
  unfold modV
  clear hr3 hT
  go_enter Tryz.func5, Tryz.ntmps5
  go_wp2_with fail
  refine (begun_proof _ (HT.out _ (below_alloc _ _))).mono ?_
  rintro e w1 ⟨rfl, hb1⟩
  go_wp2_with fail
  refine (begun_model _).mono ?_
  rintro e w2 ⟨rfl, hb2⟩
  go_wp2_with fail
  refine (begun_clause _).mono ?_
  rintro e w3 ⟨rfl, hb3⟩
  have hbx : Below (w.heap.size + 1) (w.alloc (.cells #[.slice a1 m.vars.length c1, .slice a2 m.cons.length c2, .int .i64 m.goal, .int .i64 m.var] 25)) w3 := by
    have e1 : (w.alloc (.cells #[.slice a1 m.vars.length c1, .slice a2 m.cons.length c2, .int .i64 m.goal, .int .i64 m.var] 25)).heap.size = w.heap.size + 1 := by simp
    rw [e1] at hb1
    exact (hb1.trans (hb2.mono (by have := hb1.size; rw [e1] at this; exact this))).trans (hb3.mono (by have h1 := hb1.size; have h2 := hb2.size; rw [e1] at h1; omega))
  have HB3 : Hid (Below w.heap.size w w3) := (below_alloc _ _).trans (hbx.mono (by omega))
  have HLW : Hid (w.heap.size < w3.heap.size) := by have := hbx.size; show _ < _; simp at this; omega
  have HQ : Hid (∀ Y, Below w3.heap.size w3 Y → Y.cell? ⟨w.heap.size, 0, none⟩ = some (.slice a1 m.vars.length c1) ∧ Y.cell? ⟨w.heap.size, 1, none⟩ = some (.slice a2 m.cons.length c2) ∧ Y.cell? ⟨w.heap.size, 2, none⟩ = some (.int .i64 m.goal) ∧ Y.cell? ⟨w.heap.size, 3, none⟩ = some (.int .i64 m.var) ∧ w.heap.size < Y.heap.size) := fun Y hY => by
    have hl := HLW.out
    exact ⟨(hY.cell (p := ⟨w.heap.size, 0, none⟩) hl).trans ((hbx.cell (p := ⟨w.heap.size, 0, none⟩) (by simp)).trans (World.cell?_alloc_at _ _ _ 0 (by simp))), (hY.cell (p := ⟨w.heap.size, 1, none⟩) hl).trans ((hbx.cell (p := ⟨w.heap.size, 1, none⟩) (by simp)).trans (World.cell?_alloc_at _ _ _ 1 (by simp))),
      (hY.cell (p := ⟨w.heap.size, 2, none⟩) hl).trans ((hbx.cell (p := ⟨w.heap.size, 2, none⟩) (by simp)).trans (World.cell?_alloc_at _ _ _ 2 (by simp))), (hY.cell (p := ⟨w.heap.size, 3, none⟩) hl).trans ((hbx.cell (p := ⟨w.heap.size, 3, none⟩) (by simp)).trans (World.cell?_alloc_at _ _ _ 3 (by simp))), Nat.lt_of_lt_of_le hl hY.size⟩
  have HTO : Hid (∀ Y, Below w3.heap.size w3 Y → Below w.heap.size w Y) := fun Y hY => HB3.out.trans (hY.mono HB3.out.size)
  clear hb1 hb2 hb3 hbx
  obtain ⟨k0, k1, k2, k3, k4⟩ := HQ.out _ (Below.refl _ _)
  go_wp2_with fail
  refine (mall_any m vals _ _ _ _ (HMA.out _ HB3.out) (HV.out _ HB3.out)).mono ?_
  rintro e w4 ⟨rfl, hb4⟩
  have HB4 : Hid (Below w3.heap.size w3 w4) := hb4
  have HAE : Hid ((allA m vals).2 ≠ 0 → (allA m vals).1 = false) := allA_err m vals
  obtain ⟨A, EA, hA⟩ : ∃ A EA, allA m vals = (A, EA) := ⟨_, _, rfl⟩
  have HA : Hid (allA m vals = (A, EA)) := hA
  rw [hA] at HAE ⊢
  clear hb4 k0 k1 k2 k3 k4 hA
  dsimp only
  by_cases hea : EA = 0
  · subst hea
    obtain ⟨k0, k1, k2, k3, k4⟩ := HQ.out _ HB4.out
    go_wp2_with fail
    refine (pcheck_any m given l _ _ _ _ _ (HMA.out _ (HTO.out _ HB4.out)) (HL.out _ (HTO.out _ HB4.out)) (HSA.out _ (HTO.out _ HB4.out)) (HT.out _ (HTO.out _ HB4.out))).mono ?_
    rintro e w5 ⟨rfl, hb5⟩
    have HB5 : Hid (Below w3.heap.size w3 w5) := HB4.out.trans (hb5.mono HB4.out.size)
    obtain ⟨P, EP, hP⟩ : ∃ P EP, pcheckA m given l = (P, EP) := ⟨_, _, rfl⟩
    have HP : Hid (pcheckA m given l = (P, EP)) := hP
    rw [hP]
    clear hb5 k0 k1 k2 k3 k4 hP
    obtain ⟨k0, k1, k2, k3, k4⟩ := HQ.out _ HB5.out
    dsimp only
    go_upto_region 7 with (fail)
    go_cut [57] (fun t wx => t = .bool false ∧ Hid (Below w3.heap.size w3 wx))
    case first =>
      by_cases hep : EP = 0
      · subst hep
        cases P
        · go_wp2_with fail
          go_meet
          exact ⟨rfl, HB5⟩
        · cases A
          · go_wp2_with fail
            go_meet
            exact ⟨rfl, HB5⟩
          · have HAC : Hid (given.all (okB m vals) = false) := sound_all m given l vals HP.out HA.out
            go_wp2_with fail
            refine (allcla_any m given vals _ _ _ _ _ (HMA.out _ (HTO.out _ HB5.out)) (HL.out _ (HTO.out _ HB5.out)) (HV.out _ (HTO.out _ HB5.out))).mono ?_
            rintro e w6 ⟨rfl, hb6⟩
            rw [HAC.out]
            have HB6 : Hid (Below w3.heap.size w3 w6) := HB5.out.trans (hb6.mono HB5.out.size)
            clear hb6
            go_wp2_with fail
            go_meet
            exact ⟨rfl, HB6⟩
      · have he2 : (EP == 0) = false := by simpa using hep
        clear hep
        go_wp2_with fail
        go_meet
        exact ⟨rfl, HB5⟩
    case rest =>
      obtain ⟨hv, hbc⟩ := hcut
      subst hv
      clear k0 k1 k2 k3 k4
      go_wp2_with fail
      go_loopw [12] (fun i wr => ∃ k : Nat, k ≤ l.length ∧ i = .int .i64 k ∧ Hid (Below w3.heap.size w3 wr)) (fun i _ => l.length - (intOf i).toNat)
      case atStart => exact ⟨0, by omega, rfl, hbc⟩
      case round =>
        obtain ⟨k, hk, rfl, HBW⟩ := hrel
        by_cases hlt : k < l.length
        · obtain ⟨t, ht⟩ : ∃ t, l[k]? = some t := ⟨l[k], by simp [hlt]⟩
          obtain ⟨b, off, x, hax, hb, q0, q1, q2, hxa⟩ := HST.out k t ht
          subst hax
          have HTW := HTO.out _ HBW.out
          have hc1 := (HTW.cell (p := ⟨b, off + k * 3 + 1, none⟩) hb).trans q1
          have hc2 := (HTW.cell (p := ⟨b, off + k * 3 + 2, none⟩) hb).trans q2
          have hbr : b < wr.heap.size := Nat.lt_of_lt_of_le hb HTW.size
          have HXA : Hid (∀ w', Below w.heap.size w w' → LArg w' x t.cla) := fun w' h => LArg.below h hxa
          obtain ⟨ax, cx, rfl, _, _⟩ := hxa
          obtain ⟨k0, k1, k2, k3, k4⟩ := HQ.out _ HBW.out
          obtain ⟨C, EC, hC⟩ : ∃ C EC, pconA m t.con t.cla = (C, EC) := ⟨_, _, rfl⟩
          have HCN : Hid (pconA m t.con t.cla = (C, EC)) := hC
          have HPC : Hid (∀ Y, Below wr.heap.size wr Y → Calls Tryz.prog 6 #[.agg #[.slice a1 m.vars.length c1, .slice a2 m.cons.length c2, .int .i64 m.goal, .int .i64 m.var], .int .i64 t.con, .slice ax (List.length t.cla) cx] Y fun e w' => e = .returned (.tuple #[.bool C, .int .i64 EC]) ∧ Below Y.heap.size Y w') := fun Y hY => by
            have h := pcon_any m t.con t.cla _ _ _ Y (HMA.out _ (HTO.out _ (HBW.out.trans (hY.mono HBW.out.size)))) (HXA.out _ (HTO.out _ (HBW.out.trans (hY.mono HBW.out.size))))
            rw [HCN.out] at h
            exact h
          obtain ⟨D, ED, hD⟩ : ∃ D ED, choldsA m t.cla vals = (D, ED) := ⟨_, _, rfl⟩
          have HDN : Hid (choldsA m t.cla vals = (D, ED)) := hD
          have HCH : Hid (∀ Y, Below wr.heap.size wr Y → Calls Tryz.prog 21 #[.agg #[.slice a1 m.vars.length c1, .slice a2 m.cons.length c2, .int .i64 m.goal, .int .i64 m.var], .slice ax (List.length t.cla) cx, .slice a5 vals.length c5] Y fun e w' => e = .returned (.tuple #[.bool D, .int .i64 ED]) ∧ Below Y.heap.size Y w') := fun Y hY => by
            have h := cholds_any m t.cla vals _ _ _ _ Y (HMA.out _ (HTO.out _ (HBW.out.trans (hY.mono HBW.out.size)))) (HXA.out _ (HTO.out _ (HBW.out.trans (hY.mono HBW.out.size)))) (HV.out _ (HTO.out _ (HBW.out.trans (hY.mono HBW.out.size))))
            rw [HDN.out] at h
            exact h
          clear ht q0 q1 q2 hb hC hD HTW
          go_wp2_with fail
          go_region_held3 (fun w' => Below wr.heap.size wr w' ∧ w'.cell? ⟨w.heap.size, 0, none⟩ = some (.slice a1 m.vars.length c1) ∧ w'.cell? ⟨w.heap.size, 1, none⟩ = some (.slice a2 m.cons.length c2) ∧ w'.cell? ⟨w.heap.size, 2, none⟩ = some (.int .i64 m.goal) ∧ w'.cell? ⟨w.heap.size, 3, none⟩ = some (.int .i64 m.var) ∧ w'.cell? ⟨b, off + k * 3 + 1, none⟩ = some (.int .i64 t.con) ∧ w'.cell? ⟨b, off + k * 3 + 2, none⟩ = some (.slice ax (List.length t.cla) cx))
            ((refine (fun (hB : Below wr.heap.size wr _) => ⟨hB, (hB.cell (p := ⟨w.heap.size, 0, none⟩) k4).trans k0, (hB.cell (p := ⟨w.heap.size, 1, none⟩) k4).trans k1, (hB.cell (p := ⟨w.heap.size, 2, none⟩) k4).trans k2, (hB.cell (p := ⟨w.heap.size, 3, none⟩) k4).trans k3, (hB.cell (p := ⟨b, off + k * 3 + 1, none⟩) hbr).trans hc1, (hB.cell (p := ⟨b, off + k * 3 + 2, none⟩) hbr).trans hc2⟩ : Below wr.heap.size wr _ → _) ?_; first | exact (Below.refl _ _).drew | exact fen_call (by assumption) hbq))
            (first
              | (go_at_call 6; refine (HPC.out _ (show Below wr.heap.size wr _ ∧ _ by assumption).1).mono ?_; rintro e w5 ⟨rfl, hbq⟩; have hB5 := fen_call (by assumption) hbq))
          have hb5r : b < w5.heap.size := Nat.lt_of_lt_of_le hbr hB5.size
          have j0 := (hB5.cell (p := ⟨w.heap.size, 0, none⟩) k4).trans k0
          have j1 := (hB5.cell (p := ⟨w.heap.size, 1, none⟩) k4).trans k1
          have j2 := (hB5.cell (p := ⟨w.heap.size, 2, none⟩) k4).trans k2
          have j3 := (hB5.cell (p := ⟨w.heap.size, 3, none⟩) k4).trans k3
          have j4 : w.heap.size < w5.heap.size := Nat.lt_of_lt_of_le k4 hB5.size
          have hd2 := (hB5.cell (p := ⟨b, off + k * 3 + 2, none⟩) hbr).trans hc2
          have HB5r : Hid (Below wr.heap.size wr w5) := hB5
          have HCH5 : Hid (∀ Y, Below w5.heap.size w5 Y → Calls Tryz.prog 21 #[.agg #[.slice a1 m.vars.length c1, .slice a2 m.cons.length c2, .int .i64 m.goal, .int .i64 m.var], .slice ax (List.length t.cla) cx, .slice a5 vals.length c5] Y fun e w' => e = .returned (.tuple #[.bool D, .int .i64 ED]) ∧ Below Y.heap.size Y w') := fun Y hY => HCH.out _ (HB5r.out.trans (hY.mono HB5r.out.size))
          clear hbq hB5 k0 k1 k2 k3 k4 hc1 hc2
          go_wp2_with fail
          go_region_held3 (fun w' => Below w5.heap.size w5 w' ∧ w'.cell? ⟨w.heap.size, 0, none⟩ = some (.slice a1 m.vars.length c1) ∧ w'.cell? ⟨w.heap.size, 1, none⟩ = some (.slice a2 m.cons.length c2) ∧ w'.cell? ⟨w.heap.size, 2, none⟩ = some (.int .i64 m.goal) ∧ w'.cell? ⟨w.heap.size, 3, none⟩ = some (.int .i64 m.var) ∧ w'.cell? ⟨b, off + k * 3 + 2, none⟩ = some (.slice ax (List.length t.cla) cx))
            ((refine (fun (hB : Below w5.heap.size w5 _) => ⟨hB, (hB.cell (p := ⟨w.heap.size, 0, none⟩) j4).trans j0, (hB.cell (p := ⟨w.heap.size, 1, none⟩) j4).trans j1, (hB.cell (p := ⟨w.heap.size, 2, none⟩) j4).trans j2, (hB.cell (p := ⟨w.heap.size, 3, none⟩) j4).trans j3, (hB.cell (p := ⟨b, off + k * 3 + 2, none⟩) hb5r).trans hd2⟩ : Below w5.heap.size w5 _ → _) ?_; first | exact (Below.refl _ _).drew | exact fen_call (by assumption) hbq))
            (first
              | (go_at_call 21; refine (HCH5.out _ (show Below w5.heap.size w5 _ ∧ _ by assumption).1).mono ?_; rintro e w6 ⟨rfl, hbq⟩; have hB6 := fen_call (by assumption) hbq))
          have HB6 : Hid (Below w3.heap.size w3 w6) := HBW.out.trans ((HB5r.out.trans (hB6.mono HB5r.out.size)).mono HBW.out.size)
          have HSND : Hid (C = true → EC = 0 → A = true → D = true ∧ ED = 0) := fun h1 h2 h3 => by
            have h4 := sound_step m t.con t.cla vals (by rw [HCN.out, h1, h2]) (by rw [HA.out, h3])
            rw [HDN.out] at h4
            exact ⟨congrArg Prod.fst h4, congrArg Prod.snd h4⟩
          clear hbq hB6 j0 j1 j2 j3 j4 hd2
          go_upto_region 14 with (fail)
          go_cut [105] (fun t wx => t = .bool false ∧ wx = w6)
          case first =>
            by_cases hec : EC = 0
            · subst hec
              cases C
              · go_wp2_with fail
                go_meet
                exact ⟨rfl, rfl⟩
              · cases A
                · go_wp2_with fail
                  go_meet
                  exact ⟨rfl, rfl⟩
                · obtain ⟨h1, h2⟩ := HSND.out rfl rfl rfl
                  subst h1
                  subst h2
                  go_wp2_with fail
                  go_meet
                  exact ⟨rfl, rfl⟩
            · have he2 : (EC == 0) = false := by simpa using hec
              clear hec
              go_wp2_with fail
              go_meet
              exact ⟨rfl, rfl⟩
          case rest =>
            obtain ⟨hv, hbc⟩ := hcut
            subst hv
            subst hbc
            go_wp2
            go_roundw
            case rel => exact ⟨k + 1, by omega, by go_num, HB6⟩
            case measure => simp [intOf]; omega
        · have HBF := HTO.out _ HBW.out
          go_wp2
          go_ret
          exact ⟨rfl, HBF⟩
  · have HAF : Hid (A = false) := HAE.out hea
    have he2 : (EA != 0) = true := by simpa using hea
    have HB6 := HTO.out _ HB4.out
    rw [HAF.out]
    clear hea
    go_wp2
    go_ret
    exact ⟨rfl, HB6⟩
end Go.Proofs.YtijohkhpigjbkadGreatDoor
/-
  Stores and clauses that came in, opened.
-/
namespace Go.Proofs.YtijohkhpigjbkadGreatDoor
open Go.ChangeShapes Go.WideShapes Go.ChangeAt Go.RowKit Go.Deep

theorem Tryz.underClause : Tryz.prog.underlying 28 = some (.slice 72) := by kernel_rfl
section
variable {H : Type} {enc : TypeId × Value → H} {w : World} {base : Nat} {spare : Nat → Bool} {held : Bool}
/-- A store that came in. -/
theorem open_store {fuel : Nat} {cs : List Value} {x : DataW H × List MemPlace} (h : DataW.trod enc Tryz.prog w base spare held fuel 75 cs = some x) :
    ∃ v l, cs = [v] ∧ RArg w v l := by
  obtain ⟨l, a, c, hcs, hm, hr⟩ := open_elems (α := Value × List Int) Tryz.underStore Tryz.cInts (by decide) (fun z => [z.1]) (fun z => IArg w z.1 z.2)
    (fun n cs' x' h' => by obtain ⟨v, r, hz, hi⟩ := open_ilist h'; exact ⟨(v, r), hz, hi⟩) h
  refine ⟨_, l.map (·.2), hcs, a, c, by simp, by simpa using hm, fun i r hr' => ?_⟩
  rw [List.getElem?_map] at hr'
  obtain ⟨⟨v, r2⟩, hz, rfl⟩ := Option.map_eq_some_iff.1 hr'
  obtain ⟨hg, b, off, ha, hb, hc⟩ := hr i _ hz
  have := hc 0 _ rfl
  exact ⟨b, off, v, ha, hb, by simpa using this, hg⟩
/-- A clause that came in. -/
theorem open_cla {fuel : Nat} {cs : List Value} {x : DataW H × List MemPlace} (h : DataW.trod enc Tryz.prog w base spare held fuel 28 cs = some x) :
    ∃ v l, cs = [v] ∧ LArg w v l := by
  have hinh : Inhabited MLit := ⟨⟨0, 0, 0⟩⟩
  obtain ⟨l, a, c, hcs, hm, hr⟩ := open_elems (α := MLit) Tryz.underClause Tryz.cLit (by decide) (fun t => [.int .i64 t.var, .int .i64 t.op, .int .i64 t.n]) (fun _ => True)
    (fun n cs' x' h' => by obtain ⟨t, ht⟩ := one_lit h'; exact ⟨t, ht, trivial⟩) h
  refine ⟨_, l, hcs, a, c, rfl, hm, fun i z hz => ?_⟩
  obtain ⟨_, b, off, ha, hb, hc⟩ := hr i z hz
  have e0 := hc 0 _ rfl
  have e1 := hc 1 _ rfl
  have e2 := hc 2 _ rfl
  rw [← Nat.add_assoc] at e0 e1 e2
  exact ⟨b, off, ha, hb, e0, e1, e2⟩
end
end Go.Proofs.YtijohkhpigjbkadGreatDoor
/-
  A list of clauses that came in, opened.
-/
namespace Go.Proofs.YtijohkhpigjbkadGreatDoor
open Go.ChangeShapes Go.WideShapes Go.ChangeAt Go.RowKit Go.Deep

theorem Tryz.underClauses : Tryz.prog.underlying 26 = some (.slice 28) := by kernel_rfl
theorem Tryz.cClause : Tryz.prog.cellsOf 28 = 1 := by kernel_rfl
section
variable {H : Type} {enc : TypeId × Value → H} {w : World} {base : Nat} {spare : Nat → Bool} {held : Bool}
theorem open_clas {fuel : Nat} {cs : List Value} {x : DataW H × List MemPlace} (h : DataW.trod enc Tryz.prog w base spare held fuel 26 cs = some x) :
    ∃ v l, cs = [v] ∧ LLArg w v l := by
  obtain ⟨l, a, c, hcs, hm, hr⟩ := open_elems (α := Value × Cla) Tryz.underClauses Tryz.cClause (by decide) (fun z => [z.1]) (fun z => LArg w z.1 z.2)
    (fun n cs' x' h' => by obtain ⟨v, r, hz, hi⟩ := open_cla h'; exact ⟨(v, r), hz, hi⟩) h
  refine ⟨_, l.map (·.2), hcs, a, c, by simp, by simpa using hm, fun i r hr' => ?_⟩
  rw [List.getElem?_map] at hr'
  obtain ⟨⟨v, r2⟩, hz, rfl⟩ := Option.map_eq_some_iff.1 hr'
  obtain ⟨hg, b, off, ha, hb, hc⟩ := hr i _ hz
  have := hc 0 _ rfl
  exact ⟨b, off, v, ha, hb, by simpa using this, hg⟩
end
end Go.Proofs.YtijohkhpigjbkadGreatDoor
/-
  A list of steps that came in, opened.
-/
namespace Go.Proofs.YtijohkhpigjbkadGreatDoor
open Go.ChangeShapes Go.WideShapes Go.ChangeAt Go.RowKit Go.Deep

theorem Tryz.underSteps : Tryz.prog.underlying 40 = some (.slice 48) := by kernel_rfl
theorem Tryz.cStep : Tryz.prog.cellsOf 48 = 3 := by kernel_rfl
section
variable {H : Type} {enc : TypeId × Value → H} {w : World} {base : Nat} {spare : Nat → Bool} {held : Bool}
set_option maxRecDepth 100000 in
theorem one_step {n : Nat} {cs : List Value} {x : DataW H × List MemPlace} (h : DataW.trod enc Tryz.prog w base spare held n 48 cs = some x) :
    ∃ (k c : Int) (v : Value) (l : Cla), cs = [.int .i64 k, .int .i64 c, v] ∧ LArg w v l := by
  obtain ⟨xs, k, _, _, hl, hxl, hf⟩ := DataW.trod_struct Tryz.underlying48 h
  rw [Tryz.cStep] at hl
  match cs, hl, xs, hxl with
  | [c0, c1, c2], _, [y0, y1, y2], _ =>
    have g0 := hf 0 _ rfl
    have g1 := hf 1 _ rfl
    have g2 := hf 2 _ rfl
    obtain ⟨k, hk, _, _⟩ := DataW.trod_int Tryz.underlying3 g0
    obtain ⟨p, hp, _, _⟩ := DataW.trod_int Tryz.underlying3 g1
    obtain ⟨v, l, hv, hi⟩ := open_cla g2
    change List.take (Tryz.prog.cellsOf 3) [c0, c1, c2] = _ at hk
    change List.take (Tryz.prog.cellsOf 3) [c1, c2] = _ at hp
    change List.take (Tryz.prog.cellsOf 28) [c2] = _ at hv
    rw [Tryz.cInt] at hk hp
    rw [Tryz.cClause] at hv
    simp at hk hp hv
    exact ⟨k, p, v, l, by rw [hk, hp, hv], hi⟩
theorem open_steps {fuel : Nat} {cs : List Value} {x : DataW H × List MemPlace} (h : DataW.trod enc Tryz.prog w base spare held fuel 40 cs = some x) :
    ∃ v l, cs = [v] ∧ StArg w v l := by
  have hinh : Inhabited (Value × MStep) := ⟨(.nilFunc, ⟨0, 0, []⟩)⟩
  obtain ⟨l, a, c, hcs, hm, hr⟩ := open_elems (α := Value × MStep) Tryz.underSteps Tryz.cStep (by decide) (fun z => [.int .i64 z.2.kind, .int .i64 z.2.con, z.1]) (fun z => LArg w z.1 z.2.cla)
    (fun n cs' x' h' => by obtain ⟨k, p, v, r, hz, hi⟩ := one_step h'; exact ⟨(v, ⟨k, p, r⟩), hz, hi⟩) h
  refine ⟨_, l.map (·.2), hcs, a, c, by simp, by simpa using hm, fun i r hr' => ?_⟩
  rw [List.getElem?_map] at hr'
  obtain ⟨⟨v, r2⟩, hz, rfl⟩ := Option.map_eq_some_iff.1 hr'
  obtain ⟨hg, b, off, ha, hb, hc⟩ := hr i _ hz
  have e0 := hc 0 _ rfl
  have e1 := hc 1 _ rfl
  have e2 := hc 2 _ rfl
  rw [← Nat.add_assoc] at e0 e1 e2
  exact ⟨b, off, v, ha, hb, e0, e1, e2, hg⟩
end
end Go.Proofs.YtijohkhpigjbkadGreatDoor
