/-
  WALK: litBegun.
-/
import Derived.Test.YtggkbhafbhhhhacLitC
import Derived.Test.YtggkbhafbhhhhacRefA
import Derived.Test.YtggkbhafbhhhhacStoG
import Derived.Deep.RegionHeld3
import Derived.Deep.DeepCutAuto
namespace Go.Proofs.Ytggkbhafbhhhhac
open Go.RowKit

def oneL : MLit := ⟨1, 1, 1⟩
theorem two_lholds : lholdsA twoM oneL 1 = (true, 0) := by kernel_rfl
theorem two_lnot : lnotA twoM oneL = (⟨1, 2, 2⟩, 0) := by kernel_rfl
theorem two_lcheck : lcheckA twoM oneL = 0 := by kernel_rfl
theorem two_ltold : ltoldA twoM [[0, 1, 2], [0, 1, 2]] oneL = (0, 0) := by kernel_rfl
theorem two_lput : lputA twoM [[0, 1, 2], [0, 1, 2]] oneL = ([[0, 1, 2], [0, 1]], 0) := by kernel_rfl
theorem two_lh (vs cs : Value) (w : World) (hm : MArg w vs cs twoM) : Calls Try.prog 10 #[modV vs cs twoM, .agg #[.int .i64 1, .int .i64 1, .int .i64 1], .int .i64 1] w fun e w' => e = .returned (.tuple #[.bool true, .int .i64 0]) ∧ Below w.heap.size w w' := by
  have h := lholds_any twoM oneL 1 vs cs w hm
  rw [two_lholds] at h
  exact h
theorem two_ln (vs cs : Value) (w : World) (hm : MArg w vs cs twoM) : Calls Try.prog 9 #[modV vs cs twoM, .agg #[.int .i64 1, .int .i64 1, .int .i64 1]] w fun e w' => e = .returned (.tuple #[.agg #[.int .i64 1, .int .i64 2, .int .i64 2], .int .i64 0]) ∧ Below w.heap.size w w' := by
  have h := lnot_any twoM oneL vs cs w hm
  rw [two_lnot] at h
  exact h
theorem two_lc (vs cs : Value) (w : World) (hm : MArg w vs cs twoM) : Calls Try.prog 33 #[modV vs cs twoM, .agg #[.int .i64 1, .int .i64 1, .int .i64 1]] w fun e w' => e = .returned (.int .i64 0) ∧ Below w.heap.size w w' := by
  have h := lcheck_any twoM oneL vs cs w hm
  rw [two_lcheck] at h
  exact h
theorem two_lt (vs cs v : Value) (w : World) (hm : MArg w vs cs twoM) (hv : RArg w v [[0, 1, 2], [0, 1, 2]]) : Calls Try.prog 12 #[modV vs cs twoM, v, .agg #[.int .i64 1, .int .i64 1, .int .i64 1]] w fun e w' => e = .returned (.tuple #[.int .i64 0, .int .i64 0]) ∧ Below w.heap.size w w' := by
  have h := ltold_any twoM [[0, 1, 2], [0, 1, 2]] oneL vs cs v w hm hv
  rw [two_ltold] at h
  exact h
theorem two_lp (vs cs v : Value) (w : World) (hm : MArg w vs cs twoM) (hv : RArg w v [[0, 1, 2], [0, 1, 2]]) : Calls Try.prog 11 #[modV vs cs twoM, v, .agg #[.int .i64 1, .int .i64 1, .int .i64 1]] w fun e w' => ∃ x, e = .returned (.tuple #[x, .int .i64 0]) ∧ RArg w' x [[0, 1, 2], [0, 1]] ∧ Below w.heap.size w w' := by
  have h := lput_any twoM [[0, 1, 2], [0, 1, 2]] oneL vs cs v w hm hv
  rw [two_lput] at h
  exact h

theorem call_below {w2 Y w3 : World} {A : Prop} (h : Below w2.heap.size w2 Y ∧ A) (hb : Below Y.heap.size Y w3) : Below w2.heap.size w2 w3 := h.1.trans (hb.mono h.1.size)
theorem alloc_below {w2 Y : World} {o : Obj} {A : Prop} (h : Below w2.heap.size w2 Y ∧ A) : Below w2.heap.size w2 (Y.alloc o) := h.1.alloc h.1.size o
theorem drew_below {w2 w3 : World} (h : Below w2.drew.heap.size w2.drew w3) : Below w2.heap.size w2 w3 := ⟨h.os, h.tape, h.output, h.size, h.block⟩
/-- Three cells of a block that may be written. -/
def Has3 (w : World) (g : Nat) (a b c : Value) : Prop := g < w.heap.size ∧ (w.cell? ⟨g, 0, none⟩ = some a ∧ w.cell? ⟨g, 1, none⟩ = some b ∧ w.cell? ⟨g, 2, none⟩ = some c) ∧ w.frozen? ⟨g, 0, none⟩ = false ∧ w.frozen? ⟨g, 1, none⟩ = false ∧ w.frozen? ⟨g, 2, none⟩ = false
theorem has3_new {X w4 : World} {a b c : Value} {t : TypeId} (hb : Below (X.alloc (.cells #[a, b, c] t)).heap.size (X.alloc (.cells #[a, b, c] t)) w4) : Has3 w4 X.heap.size a b c := by
  have h : w4.heap[X.heap.size]? = some (.cells #[a, b, c] t) := (hb.block _ (by simp)).trans (by show (X.heap.push _)[X.heap.size]? = _; simp)
  exact ⟨(Array.getElem?_eq_some_iff.1 h).1, ⟨blk_cell h 0 _ rfl, blk_cell h 1 _ rfl, blk_cell h 2 _ rfl⟩, blk_frozen h 0, blk_frozen h 1, blk_frozen h 2⟩
theorem has3_drew {X w4 : World} {a b c : Value} {t : TypeId} (hb : Below (X.alloc (.cells #[a, b, c] t)).drew.heap.size (X.alloc (.cells #[a, b, c] t)).drew w4) : Has3 w4 X.heap.size a b c := has3_new (drew_below hb)
theorem has3_old {w3 w4 : World} {g : Nat} {a b c : Value} (hb : Below w3.heap.size w3 w4) (h : Has3 w3 g a b c) : Has3 w4 g a b c := by
  obtain ⟨h0, ⟨h1, h2, h3⟩, h4, h5, h6⟩ := h
  exact ⟨Nat.lt_of_lt_of_le h0 hb.size, ⟨(hb.cell (p := ⟨g, 0, none⟩) h0).trans h1, (hb.cell (p := ⟨g, 1, none⟩) h0).trans h2, (hb.cell (p := ⟨g, 2, none⟩) h0).trans h3⟩, (hb.frozen (p := ⟨g, 0, none⟩) h0).trans h4, (hb.frozen (p := ⟨g, 1, none⟩) h0).trans h5, (hb.frozen (p := ⟨g, 2, none⟩) h0).trans h6⟩

theorem has3_set {w : World} {g : Nat} {a b c x y z : Value} (h0 : w.cell? ⟨g, 0, none⟩ = some a) (h1 : w.cell? ⟨g, 1, none⟩ = some b) (h2 : w.cell? ⟨g, 2, none⟩ = some c) :
    (((w.setCell ⟨g, 0, none⟩ x).setCell ⟨g, 1, none⟩ y).setCell ⟨g, 2, none⟩ z).cell? ⟨g, 0, none⟩ = some x ∧ (((w.setCell ⟨g, 0, none⟩ x).setCell ⟨g, 1, none⟩ y).setCell ⟨g, 2, none⟩ z).cell? ⟨g, 1, none⟩ = some y ∧
    (((w.setCell ⟨g, 0, none⟩ x).setCell ⟨g, 1, none⟩ y).setCell ⟨g, 2, none⟩ z).cell? ⟨g, 2, none⟩ = some z := by
  refine ⟨?_, ?_, ?_⟩
  · rw [World.cell?_setCell_other _ _ _ _ (by simp), World.cell?_setCell_other _ _ _ _ (by simp)]
    exact World.cell?_setCell_same _ _ _ h0
  · rw [World.cell?_setCell_other _ _ _ _ (by simp)]
    exact World.cell?_setCell_same _ _ _ ((World.cell?_setCell_other _ _ _ _ (by simp)).trans h1)
  · exact World.cell?_setCell_same _ _ _ ((World.cell?_setCell_other _ _ _ _ (by simp)).trans ((World.cell?_setCell_other _ _ _ _ (by simp)).trans h2))

/-- A store of two rows, written out, the second row first. -/
theorem lit2r {w : World} (a b : List Int) (B1 B2 B3 : Nat) (h1 : B1 = w.heap.size + 1) (h2 : B2 = w.heap.size) (h3 : B3 = w.heap.size + 2) (ha : a.length ≤ 100) (hb : b.length ≤ 100) :
    RArg (((w.alloc (.cells (b.map (Value.int .i64)).toArray 3)).alloc (.cells (a.map (Value.int .i64)).toArray 3)).alloc (.cells #[.slice (some ⟨B1, 0, none⟩) a.length a.length, .slice (some ⟨B2, 0, none⟩) b.length b.length] 40)) (.slice (some ⟨B3, 0, none⟩) 2 2) [a, b] := by
  subst h1; subst h2; subst h3
  refine ⟨_, 2, rfl, ⟨by simp, by unfold maxLen; omega⟩, fun i r hr => ?_⟩
  match i, hr with
  | 1, hr =>
    cases hr
    refine ⟨_, 0, _, rfl, by simp, World.cell?_alloc_at _ _ _ _ (by simp), ⟨_, _, rfl, ⟨Nat.le_refl _, by unfold maxLen; omega⟩, fun j z hz => ⟨_, 0, rfl, by simp; omega, ?_⟩⟩⟩
    rw [World.cell?_alloc_past _ _ _ (by simp; omega), World.cell?_alloc_past _ _ _ (by simp), World.cell?_alloc_at _ _ _ _ rfl]
    simp [hz]
  | 0, hr =>
    cases hr
    refine ⟨_, 0, _, rfl, by simp, World.cell?_alloc_at _ _ _ _ (by simp), ⟨_, _, rfl, ⟨Nat.le_refl _, by unfold maxLen; omega⟩, fun j z hz => ⟨_, 0, rfl, by simp, ?_⟩⟩⟩
    rw [World.cell?_alloc_past _ _ _ (by simp), World.cell?_alloc_at _ _ _ _ (by simp)]
    simp [hz]
theorem two_same (v u : Value) (w : World) (hv : RArg w v [[0, 1, 2], [0, 1]]) (hu : RArg w u [[0, 1, 2], [0, 1]]) : Calls Try.prog 15 #[v, u] w fun e w' => e = .returned (.bool true) ∧ Below w.heap.size w w' := by
  refine (samestore_any [[0, 1, 2], [0, 1]] [[0, 1, 2], [0, 1]] v u w hv hu).mono ?_
  rintro e w' ⟨rfl, n, hn⟩
  exact ⟨by rw [show decide (([[0, 1, 2], [0, 1]] : Sto) = [[0, 1, 2], [0, 1]]) = true from by decide], draws_below hn⟩

set_option maxHeartbeats 3200000 in
set_option maxRecDepth 100000 in
theorem begun_lit (w : World) :
    Calls Try.prog 7 #[] w fun e w' => e = .returned (.bool true) ∧ Below w.heap.size w w' := by
  obtain ⟨W, hW⟩ : ∃ W : World, W = w.alloc (.cells #[.int .i64 1, .int .i64 1, .int .i64 1] 29) := ⟨_, rfl⟩
  have HW : Hid (W = w.alloc (.cells #[.int .i64 1, .int .i64 1, .int .i64 1] 29)) := hW
  have HBW : Hid (Below w.heap.size w W) := by rw [hW]; exact below_alloc _ _
  have hlt : w.heap.size < W.heap.size := by rw [hW]; simp
  have k0 : W.cell? ⟨w.heap.size, 0, none⟩ = some (.int .i64 1) := by rw [hW]; simp
  have k1 : W.cell? ⟨w.heap.size, 1, none⟩ = some (.int .i64 1) := by rw [hW]; simp
  have k2 : W.cell? ⟨w.heap.size, 2, none⟩ = some (.int .i64 1) := by rw [hW]; simp
  clear hW
  go_enter Try.func7, Try.ntmps7
  go_wp2_with fail
  rw [← HW.out]
  go_region_held3 (fun w' => w'.cell? ⟨w.heap.size, 0, none⟩ = some (.int .i64 1) ∧ w'.cell? ⟨w.heap.size, 1, none⟩ = some (.int .i64 1) ∧ w'.cell? ⟨w.heap.size, 2, none⟩ = some (.int .i64 1)) (first | exact ⟨s0, s1, s2⟩ | go_keep)
    (first
      | (go_at_call 32; refine (two_any _).mono ?_; rintro e w1 ⟨vs, cs, rfl, hm, hb1⟩; have s0 := (hb1.cell (p := ⟨w.heap.size, 0, none⟩) hlt).trans k0; have s1 := (hb1.cell (p := ⟨w.heap.size, 1, none⟩) hlt).trans k1; have s2 := (hb1.cell (p := ⟨w.heap.size, 2, none⟩) hlt).trans k2)
      | (go_at_call 10; refine (two_lh _ _ _ hm).mono ?_; rintro e w2 ⟨rfl, hb2⟩; have s0 := (hb2.cell (p := ⟨w.heap.size, 0, none⟩) (Nat.lt_of_lt_of_le hlt hb1.size)).trans s0; have s1 := (hb2.cell (p := ⟨w.heap.size, 1, none⟩) (Nat.lt_of_lt_of_le hlt hb1.size)).trans s1; have s2 := (hb2.cell (p := ⟨w.heap.size, 2, none⟩) (Nat.lt_of_lt_of_le hlt hb1.size)).trans s2))
  have HB2 : Hid (Below w.heap.size w w2) := HBW.out.trans (((show Below W.heap.size W w1 from ⟨hb1.os, hb1.tape, hb1.output, hb1.size, hb1.block⟩).trans (hb2.mono hb1.size)).mono (Nat.le_of_lt hlt))
  have hlt2 : w.heap.size < w2.heap.size := Nat.lt_of_lt_of_le hlt (Nat.le_trans hb1.size hb2.size)
  clear hb1 hb2 hm k0 k1 k2 hlt HW HBW
  go_wp2_with fail
  go_cut [4, 5] (fun p f wx => ∃ Bn : Nat, p = .pointer (some ⟨Bn, 0, none⟩) ∧ f = .int .i64 0 ∧ wx.cell? ⟨Bn, 0, none⟩ = some (.int .i64 1) ∧ wx.cell? ⟨Bn, 1, none⟩ = some (.int .i64 2) ∧ wx.cell? ⟨Bn, 2, none⟩ = some (.int .i64 2) ∧ Bn < wx.heap.size ∧ Below w2.heap.size w2 wx)
  case first =>
    go_region_held3 (fun w' => Below w2.heap.size w2 w' ∧ w'.cell? ⟨w.heap.size, 0, none⟩ = some (.int .i64 1) ∧ w'.cell? ⟨w.heap.size, 1, none⟩ = some (.int .i64 1) ∧ w'.cell? ⟨w.heap.size, 2, none⟩ = some (.int .i64 1))
      ((refine (fun (hB : Below w2.heap.size w2 _) => ⟨hB, (hB.cell (p := ⟨w.heap.size, 0, none⟩) hlt2).trans s0, (hB.cell (p := ⟨w.heap.size, 1, none⟩) hlt2).trans s1, (hB.cell (p := ⟨w.heap.size, 2, none⟩) hlt2).trans s2⟩ : Below w2.heap.size w2 _ → _) ?_; first | exact (Below.refl _ _).drew | exact call_below (by assumption) hbq | exact alloc_below (by assumption) | exact hB4.alloc hB4.size _ | exact ((hB4.setCell hB3.size _).setCell hB3.size _).setCell hB3.size _ | exact ((hB4.setCell (Nat.le_refl _) _).setCell (Nat.le_refl _) _).setCell (Nat.le_refl _) _))
      (first
        | (go_at_call 32; refine (two_any _).mono ?_; rintro e w3 ⟨vs, cs, rfl, hm, hbq⟩; have hB3 := call_below (by assumption) hbq; (first | have hq3 := has3_drew hbq | have hq3 := has3_new hbq | skip))
        | (go_at_call 9; refine (two_ln vs cs _ ?_).mono ?_; (first | exact hm | exact MArg.below (below_alloc _ _) hm); rintro e w4 ⟨rfl, hbq⟩; have hB4 := call_below (by assumption) hbq; (first | have hq3 := has3_new hbq | have hq3 := has3_old hbq hq3 | skip); (try obtain ⟨hgl, ⟨hg0, hg1, hg2⟩, _, _, _⟩ := hq3)))
    all_goals (go_wp2_with fail; go_meet)
    all_goals (refine ⟨_, rfl, rfl, ?_, ?_, ?_, ?_, (show Below w2.heap.size w2 _ ∧ _ ∧ _ ∧ _ by assumption).1⟩)
    all_goals first | exact (has3_set hg0 hg1 hg2).1 | exact (has3_set hg0 hg1 hg2).2.1 | exact (has3_set hg0 hg1 hg2).2.2 | (simp; done) | (simp; omega) | (simpa using hgl)
  case rest =>
    obtain ⟨Bn, rfl, rfl, n0, n1, n2, hBn, hBx⟩ := hcut
    have k0 := (hBx.cell (p := ⟨w.heap.size, 0, none⟩) hlt2).trans s0
    have k1 := (hBx.cell (p := ⟨w.heap.size, 1, none⟩) hlt2).trans s1
    have k2 := (hBx.cell (p := ⟨w.heap.size, 2, none⟩) hlt2).trans s2
    have hltc : w.heap.size < wc.heap.size := Nat.lt_of_lt_of_le hlt2 hBx.size
    have HBC : Hid (Below w.heap.size w wc) := HB2.out.trans (hBx.mono HB2.out.size)
    clear s0 s1 s2 hBx hlt2 HB2
    obtain ⟨W5, hW5⟩ : ∃ W5 : World, W5 = ((wc.alloc (.cells #[.int .i64 0, .int .i64 1, .int .i64 2] 3)).alloc (.cells #[.int .i64 0, .int .i64 1, .int .i64 2] 3)).alloc (.cells #[.slice (some ⟨wc.heap.size, 0, none⟩) 3 3, .slice (some ⟨wc.heap.size + 1, 0, none⟩) 3 3] 40) := ⟨_, rfl⟩
    have HW5 : Hid (W5 = ((wc.alloc (.cells #[.int .i64 0, .int .i64 1, .int .i64 2] 3)).alloc (.cells #[.int .i64 0, .int .i64 1, .int .i64 2] 3)).alloc (.cells #[.slice (some ⟨wc.heap.size, 0, none⟩) 3 3, .slice (some ⟨wc.heap.size + 1, 0, none⟩) 3 3] 40)) := hW5
    have hB5 : Below wc.heap.size wc W5 := by rw [hW5]; exact below3 _ _ _ _
    have HR5 : Hid (∀ w' : World, Below W5.heap.size W5 w' → RArg w' (.slice (some ⟨wc.heap.size + 1 + 1, 0, none⟩) 2 2) [[0, 1, 2], [0, 1, 2]]) := by
      intro w' h
      refine RArg.below h ?_
      rw [hW5]
      exact lit2 [0, 1, 2] [0, 1, 2] _ _ _ rfl rfl rfl (by decide) (by decide)
    clear hW5
    have s0 := (hB5.cell (p := ⟨w.heap.size, 0, none⟩) hltc).trans k0
    have s1 := (hB5.cell (p := ⟨w.heap.size, 1, none⟩) hltc).trans k1
    have s2 := (hB5.cell (p := ⟨w.heap.size, 2, none⟩) hltc).trans k2
    have m0 := (hB5.cell (p := ⟨Bn, 0, none⟩) hBn).trans n0
    have m1 := (hB5.cell (p := ⟨Bn, 1, none⟩) hBn).trans n1
    have m2 := (hB5.cell (p := ⟨Bn, 2, none⟩) hBn).trans n2
    have hlt5 : w.heap.size < W5.heap.size := Nat.lt_of_lt_of_le hltc hB5.size
    have hBn5 : Bn < W5.heap.size := Nat.lt_of_lt_of_le hBn hB5.size
    have HB5 : Hid (Below w.heap.size w W5) := HBC.out.trans (hB5.mono HBC.out.size)
    go_wp2_with fail
    rw [← HW5.out]
    clear k0 k1 k2 n0 n1 n2 hBn hltc HBC hB5 HW5
    go_region_held3 (fun w' => Below W5.heap.size W5 w' ∧ w'.cell? ⟨w.heap.size, 0, none⟩ = some (.int .i64 1) ∧ w'.cell? ⟨w.heap.size, 1, none⟩ = some (.int .i64 1) ∧ w'.cell? ⟨w.heap.size, 2, none⟩ = some (.int .i64 1))
      ((refine (fun (hB : Below W5.heap.size W5 _) => ⟨hB, (hB.cell (p := ⟨w.heap.size, 0, none⟩) hlt5).trans s0, (hB.cell (p := ⟨w.heap.size, 1, none⟩) hlt5).trans s1, (hB.cell (p := ⟨w.heap.size, 2, none⟩) hlt5).trans s2⟩ : Below W5.heap.size W5 _ → _) ?_; first | exact (Below.refl _ _).drew | exact call_below (by assumption) hbq))
      (first
        | (go_at_call 32; refine (two_any _).mono ?_; rintro e w6 ⟨vs, cs, rfl, hm, hbq⟩; have hB6 := call_below (by assumption) hbq)
        | (go_at_call 12; refine (two_lt _ _ _ _ hm (HR5.out _ hB6)).mono ?_; rintro e w7 ⟨rfl, hbq⟩; have hB7 := call_below (by assumption) hbq))
    have t0 := (hB7.cell (p := ⟨w.heap.size, 0, none⟩) hlt5).trans s0
    have t1 := (hB7.cell (p := ⟨w.heap.size, 1, none⟩) hlt5).trans s1
    have t2 := (hB7.cell (p := ⟨w.heap.size, 2, none⟩) hlt5).trans s2
    have m0 := (hB7.cell (p := ⟨Bn, 0, none⟩) hBn5).trans m0
    have m1 := (hB7.cell (p := ⟨Bn, 1, none⟩) hBn5).trans m1
    have m2 := (hB7.cell (p := ⟨Bn, 2, none⟩) hBn5).trans m2
    have HR7 : Hid (∀ w' : World, Below w7.heap.size w7 w' → RArg w' (.slice (some ⟨wc.heap.size + 1 + 1, 0, none⟩) 2 2) [[0, 1, 2], [0, 1, 2]]) := fun w' h => HR5.out _ (hB7.trans (h.mono hB7.size))
    have hlt7 : w.heap.size < w7.heap.size := Nat.lt_of_lt_of_le hlt5 hB7.size
    have hBn7 : Bn < w7.heap.size := Nat.lt_of_lt_of_le hBn5 hB7.size
    have HB7 : Hid (Below w.heap.size w w7) := HB5.out.trans (hB7.mono HB5.out.size)
    clear s0 s1 s2 hlt5 hBn5 HB5 hB6 hB7 hm hbq HR5
    go_wp2_with fail
    go_region_held3 (fun w' => Below w7.heap.size w7 w' ∧ w'.cell? ⟨w.heap.size, 0, none⟩ = some (.int .i64 1) ∧ w'.cell? ⟨w.heap.size, 1, none⟩ = some (.int .i64 1) ∧ w'.cell? ⟨w.heap.size, 2, none⟩ = some (.int .i64 1))
      ((refine (fun (hB : Below w7.heap.size w7 _) => ⟨hB, (hB.cell (p := ⟨w.heap.size, 0, none⟩) hlt7).trans t0, (hB.cell (p := ⟨w.heap.size, 1, none⟩) hlt7).trans t1, (hB.cell (p := ⟨w.heap.size, 2, none⟩) hlt7).trans t2⟩ : Below w7.heap.size w7 _ → _) ?_; first | exact (Below.refl _ _).drew | exact call_below (by assumption) hbq))
      (first
        | (go_at_call 32; refine (two_any _).mono ?_; rintro e w8 ⟨vs, cs, rfl, hm, hbq⟩; have hB8 := call_below (by assumption) hbq)
        | (go_at_call 11; refine (two_lp _ _ _ _ hm (HR7.out _ hB8)).mono ?_; rintro e w9 ⟨xt, rfl, hxt, hbq⟩; have hB9 := call_below (by assumption) hbq))
    have s0 := (hB9.cell (p := ⟨w.heap.size, 0, none⟩) hlt7).trans t0
    have s1 := (hB9.cell (p := ⟨w.heap.size, 1, none⟩) hlt7).trans t1
    have s2 := (hB9.cell (p := ⟨w.heap.size, 2, none⟩) hlt7).trans t2
    have m0 := (hB9.cell (p := ⟨Bn, 0, none⟩) hBn7).trans m0
    have m1 := (hB9.cell (p := ⟨Bn, 1, none⟩) hBn7).trans m1
    have m2 := (hB9.cell (p := ⟨Bn, 2, none⟩) hBn7).trans m2
    have HXT : Hid (∀ w' : World, Below w9.heap.size w9 w' → RArg w' xt [[0, 1, 2], [0, 1]]) := fun w' h => RArg.below h hxt
    obtain ⟨ax, cx, rfl, _, _⟩ := hxt
    have hlt9 : w.heap.size < w9.heap.size := Nat.lt_of_lt_of_le hlt7 hB9.size
    have hBn9 : Bn < w9.heap.size := Nat.lt_of_lt_of_le hBn7 hB9.size
    have HB9 : Hid (Below w.heap.size w w9) := HB7.out.trans (hB9.mono HB7.out.size)
    clear t0 t1 t2 hlt7 hBn7 HB7 hB8 hB9 hm hbq HR7
    go_wp2_with fail
    go_region_held3 (fun w' => Below w9.heap.size w9 w' ∧ w'.cell? ⟨w.heap.size, 0, none⟩ = some (.int .i64 1) ∧ w'.cell? ⟨w.heap.size, 1, none⟩ = some (.int .i64 1) ∧ w'.cell? ⟨w.heap.size, 2, none⟩ = some (.int .i64 1) ∧ w'.cell? ⟨Bn, 0, none⟩ = some (.int .i64 1) ∧ w'.cell? ⟨Bn, 1, none⟩ = some (.int .i64 2) ∧ w'.cell? ⟨Bn, 2, none⟩ = some (.int .i64 2))
      ((refine (fun (hB : Below w9.heap.size w9 _) => ⟨hB, (hB.cell (p := ⟨w.heap.size, 0, none⟩) hlt9).trans s0, (hB.cell (p := ⟨w.heap.size, 1, none⟩) hlt9).trans s1, (hB.cell (p := ⟨w.heap.size, 2, none⟩) hlt9).trans s2, (hB.cell (p := ⟨Bn, 0, none⟩) hBn9).trans m0, (hB.cell (p := ⟨Bn, 1, none⟩) hBn9).trans m1, (hB.cell (p := ⟨Bn, 2, none⟩) hBn9).trans m2⟩ : Below w9.heap.size w9 _ → _) ?_; first | exact (Below.refl _ _).drew | exact call_below (by assumption) hbq | exact alloc_below (by assumption)))
      (first
        | (go_at_call 32; refine (two_any _).mono ?_; rintro e wa ⟨vs, cs, rfl, hm, hbq⟩; have hBa := call_below (by assumption) hbq)
        | (go_at_call 33; refine (two_lc _ _ _ hm).mono ?_; rintro e wb ⟨rfl, hbq⟩; have hBb := call_below (by assumption) hbq)
        | (go_at_call 15; refine (two_same _ _ _ (HXT.out _ ?_) ?_).mono ?_; exact (show Below w9.heap.size w9 _ ∧ _ ∧ _ ∧ _ ∧ _ ∧ _ ∧ _ by assumption).1; (first | exact lit2 [0, 1, 2] [0, 1] _ _ _ rfl rfl rfl (by decide) (by decide) | exact lit2r [0, 1, 2] [0, 1] _ _ _ rfl rfl rfl (by decide) (by decide)); rintro e wz ⟨rfl, hbq⟩; have hBz := call_below (by assumption) hbq))
    all_goals (have hBe := HB9.out.trans (hBz.mono HB9.out.size))
    all_goals (clear s0 s1 s2 m0 m1 m2 hlt9 hBn9 HB9 hbq hBz)
    all_goals go_wp2
    all_goals (go_ret; exact ⟨rfl, hBe⟩)
end Go.Proofs.Ytggkbhafbhhhhac
