/-
  WALKS: package truth: OneOf.
-/
import Derived.Test.YtggkbhafbhhhhadGreatModN
import Derived.Test.YtggkbhafbhhhhadGreatClaPlain
namespace Go.Proofs.YtggkbhafbhhhhadGreat
open Go.RowKit

set_option maxHeartbeats 400000 in
set_option maxRecDepth 100000 in
theorem ofv_any (l : MLit) (x z : Int) (b1 b2 : Nat) (w : World) (h1 : w.cell? ⟨b1, 0, none⟩ = some (.int .i64 x)) (h2 : w.cell? ⟨b2, 0, none⟩ = some (.int .i64 z)) :
    Calls Tryz.prog 125 #[.agg #[.int .i64 l.var, .int .i64 l.op, .int .i64 l.n], .pointer (some ⟨b1, 0, none⟩), .pointer (some ⟨b2, 0, none⟩)] w fun e w' => e = .returned (.bool (decide (l.var = x) && litV z l)) ∧ Below w.heap.size w w' := by
  have l1 : b1 < w.heap.size := World.block_lt_of_cell? w _ h1
  have l2 : b2 < w.heap.size := World.block_lt_of_cell? w _ h2
  by_cases hq : l.var = x
  · have g0 : (l.var == x) = true := by simpa using hq
    have HN : Hid ((decide (l.var = x) && litV z l) = litV z l) := by show _ = _; rw [decide_eq_true hq]; rfl
    rw [HN.out]
    clear hq
    go_enter Tryz.func125, Tryz.ntmps125
    go_wp2_with fail
    refine (lit_true l z _).mono ?_
    rintro e w1 ⟨rfl, hb1⟩
    have hb2 : Below w.heap.size w w1 := (below_alloc _ _).trans (hb1.mono (by simp))
    clear hb1
    go_wp2
    go_ret
    exact ⟨rfl, hb2⟩
  · have g0 : (l.var == x) = false := by simpa using hq
    have HN : Hid ((decide (l.var = x) && litV z l) = false) := by show _ = _; rw [decide_eq_false hq]; rfl
    rw [HN.out]
    clear hq
    go_enter Tryz.func125, Tryz.ntmps125
    go_wp2
    go_ret
    exact ⟨rfl, below_alloc _ _⟩
theorem enters_ofv (args : Array Value) (w' : World) : Sem.run Tryz.prog (callFunc 125 args) w' = .ok (.enter 125 args) w' := by
  simp [callFunc, go_sem, Tryz.func125, Tryz.f125]

set_option maxHeartbeats 400000 in
set_option maxRecDepth 100000 in
theorem one_of (c : Cla) (k : Nat) (z : Int) (u : Value) (w : World) (hu : LArg w u c) :
    Calls Tryz.prog 83 #[u, .int .i64 k, .int .i64 z] w fun e w' => e = .returned (.bool (oneB c k z)) ∧ Below w.heap.size w w' := by
  have HUA : Hid (∀ w' : World, Below w.heap.size w w' → LArg w' u c) := fun w' h => LArg.below h hu
  obtain ⟨a1, c1, rfl, _, _⟩ := hu
  go_enter Tryz.func83, Tryz.ntmps83
  go_wp2_with fail
  refine (containsf_lits 125 _ (fun l => decide (l.var = (k : Int)) && litV z l) c _ _ (HUA.out _ ((below_alloc _ _).alloc (by simp) _)) ⟨enters_ofv, ?_⟩).mono ?_
  · intro l w' hl hb'
    refine ofv_any l k z w.heap.size (w.heap.size + 1) w' ?_ ?_
    · exact (hb'.cell (by simp; omega)).trans ((World.cell?_alloc_past _ _ _ (by simp)).trans (World.cell?_alloc_at _ _ _ 0 (by simp)))
    · exact (hb'.cell (by simp)).trans (World.cell?_alloc_at _ _ _ 0 (by simp))
  rintro e w3 ⟨rfl, hb3⟩
  have hb4 : Below w.heap.size w w3 := ((below_alloc _ _).alloc (by simp) _).trans (hb3.mono (by simp; omega))
  clear hb3
  go_wp2
  go_ret
  exact ⟨rfl, hb4⟩
end Go.Proofs.YtggkbhafbhhhhadGreat
