/-
  WALKS: package lit: opposite, Check, Holds, Not.
-/
import Derived.Test.YtggkbhafbhhhhacFauA
import Derived.Test.YtggkbhafbhhhhacTruA
import Derived.Test.YtggkbhafbhhhhacStoC
namespace Go.Proofs.Ytggkbhafbhhhhac
open Go.RowKit

theorem ret_lit {a b : MLit} {x y : Int} (h : a = b) (k : x = y) : Ending.returned (.tuple #[.agg #[.int .i64 a.var, .int .i64 a.op, .int .i64 a.n], .int .i64 x]) = .returned (.tuple #[.agg #[.int .i64 b.var, .int .i64 b.op, .int .i64 b.n], .int .i64 y]) := by rw [h, k]
set_option maxHeartbeats 800000 in
set_option maxRecDepth 100000 in
theorem opp_any (l : MLit) (w : World) (h1 : 1 ≤ l.op ∧ l.op ≤ 4) (h2 : -1000 ≤ l.n ∧ l.n ≤ 1000) :
    Calls Try.prog 37 #[.agg #[.int .i64 l.var, .int .i64 l.op, .int .i64 l.n]] w fun e w' => e = .returned (.agg #[.int .i64 (oppL l).var, .int .i64 (oppL l).op, .int .i64 (oppL l).n]) ∧ Below w.heap.size w w' := by
  obtain ⟨v, op, n⟩ := l
  simp only at h1 h2
  obtain ⟨h21, h22⟩ := h2
  rcases (show op = 1 ∨ op = 2 ∨ op = 3 ∨ op = 4 by omega) with rfl | rfl | rfl | rfl
  all_goals
    clear h1
    go_enter Try.func37, Try.ntmps37
    go_wp2
    refine bodyPost_ret (by simp [results, Try.results37, go_sem]; exact ⟨rfl, rfl, rfl⟩) rfl ⟨rfl, ?_⟩
    exact (below_alloc _ _).alloc (by simp) _

set_option maxHeartbeats 800000 in
set_option maxRecDepth 100000 in
theorem lcheck_any (m : Mod) (l : MLit) (vs cs : Value) (w : World) (hm : MArg w vs cs m) :
    Calls Try.prog 33 #[modV vs cs m, .agg #[.int .i64 l.var, .int .i64 l.op, .int .i64 l.n]] w fun e w' => e = .returned (.int .i64 (lcheckA m l)) ∧ Below w.heap.size w w' := by
  have HMA : Hid (∀ w' : World, Below w.heap.size w w' → MArg w' vs cs m) := fun w' h => MArg.below h hm
  obtain ⟨⟨a1, c1, rfl, _, _⟩, ⟨a2, c2, rfl, _, _⟩⟩ := hm
  obtain ⟨R, hR⟩ : ∃ R, lcheckA m l = R := ⟨_, rfl⟩
  rw [hR]
  obtain ⟨er, her⟩ : ∃ er, checkM m = er := ⟨_, rfl⟩
  have HER : Hid (checkM m = er) := her
  have HE : Hid (R = if er = 0 then litE m.vars l else er) := by rw [← hR, ← her]; rfl
  clear hR her
  unfold modV
  go_enter Try.func33, Try.ntmps33
  go_wp2_with fail
  refine (check_model m (.slice a1 m.vars.length c1) (.slice a2 m.cons.length c2) _ ?_).mono ?_
  · exact HMA.out _ ((below_alloc _ _).alloc (by simp) _)
  rintro e w1 ⟨rfl, hb1⟩
  rw [HER.out]
  have g0 : w1.cell? ⟨w.heap.size, 0, none⟩ = some (.slice a1 m.vars.length c1) := (hb1.cell (by simp; omega)).trans (by simp)
  have d0 : w1.cell? ⟨w.heap.size + 1, 0, none⟩ = some (.int .i64 l.var) := (hb1.cell (by simp)).trans (World.cell?_alloc_at _ _ _ 0 (by simp))
  have d1 : w1.cell? ⟨w.heap.size + 1, 1, none⟩ = some (.int .i64 l.op) := (hb1.cell (by simp)).trans (World.cell?_alloc_at _ _ _ 1 (by simp))
  have d2 : w1.cell? ⟨w.heap.size + 1, 2, none⟩ = some (.int .i64 l.n) := (hb1.cell (by simp)).trans (World.cell?_alloc_at _ _ _ 2 (by simp))
  have HB1 : Hid (Below w.heap.size w w1) := ((below_alloc _ _).alloc (by simp) _).trans (hb1.mono (by simp; omega))
  clear hb1
  by_cases he : er = 0
  · subst he
    have HN : Hid (R = litE m.vars l) := by rw [HE.out, if_pos rfl]; rfl
    go_wp2_with fail
    refine (lit_check m.vars l _ _ (HMA.out _ HB1.out).1).mono ?_
    rintro e w2 ⟨rfl, hb2⟩
    have hb3 : Below w.heap.size w w2 := HB1.out.trans (hb2.mono HB1.out.size)
    clear hb2
    go_wp2
    go_ret
    exact ⟨ret_int HN.out.symm, hb3⟩
  · have HN : Hid (R = er) := by rw [HE.out, if_neg he]; rfl
    have he2 : (er != 0) = true := by simpa using he
    clear he
    go_wp2
    go_ret
    exact ⟨ret_int HN.out.symm, HB1.out⟩
end Go.Proofs.Ytggkbhafbhhhhac
