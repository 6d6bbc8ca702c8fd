/-
  WALK: package truth: Lit.
-/
import Derived.Test.YtggkbhafbhhhhadGreatModMem
namespace Go.Proofs.YtggkbhafbhhhhadGreat
open Go.RowKit

def litAgg (l : MLit) : Value := .agg #[.int .i64 l.var, .int .i64 l.op, .int .i64 l.n]
set_option maxHeartbeats 800000 in
set_option maxRecDepth 100000 in
theorem lit_true (l : MLit) (x : Int) (w : World) :
    Calls Tryz.prog 93 #[.agg #[.int .i64 l.var, .int .i64 l.op, .int .i64 l.n], .int .i64 x] w fun e w' => e = .returned (.bool (litV x l)) ∧ Below w.heap.size w w' := by
  obtain ⟨R, hR⟩ : ∃ R, litV x l = R := ⟨_, rfl⟩
  rw [hR]
  have hE : R = if l.op = 1 then decide (x ≤ l.n) else if l.op = 2 then decide (l.n ≤ x) else if l.op = 3 then x == l.n else if l.op = 4 then x != l.n else false := by
    rw [← hR]; rfl
  clear hR
  by_cases q1 : l.op = 1
  · have HE : Hid (R = decide (x ≤ l.n)) := by rw [hE, if_pos q1]; rfl
    rw [q1]; clear hE q1
    go_enter Tryz.func93, Tryz.ntmps93
    go_wp2
    go_ret
    exact ⟨ret_bool HE.out.symm, below_alloc _ _⟩
  · by_cases q2 : l.op = 2
    · have HE : Hid (R = decide (l.n ≤ x)) := by rw [hE, if_neg q1, if_pos q2]; rfl
      rw [q2]; clear hE q1 q2
      go_enter Tryz.func93, Tryz.ntmps93
      go_wp2
      go_ret
      exact ⟨ret_bool HE.out.symm, below_alloc _ _⟩
    · by_cases q3 : l.op = 3
      · have HE : Hid (R = (x == l.n)) := by rw [hE, if_neg q1, if_neg q2, if_pos q3]; rfl
        rw [q3]; clear hE q1 q2 q3
        go_enter Tryz.func93, Tryz.ntmps93
        go_wp2
        go_ret
        exact ⟨ret_bool HE.out.symm, below_alloc _ _⟩
      · by_cases q4 : l.op = 4
        · have HE : Hid (R = (x != l.n)) := by rw [hE, if_neg q1, if_neg q2, if_neg q3, if_pos q4]; rfl
          rw [q4]; clear hE q1 q2 q3 q4
          go_enter Tryz.func93, Tryz.ntmps93
          go_wp2
          go_ret
          exact ⟨ret_bool HE.out.symm, below_alloc _ _⟩
        · have HE : Hid (R = false) := by rw [hE, if_neg q1, if_neg q2, if_neg q3, if_neg q4]; rfl
          have g1 : (l.op == 1) = false := by simpa using q1
          have g2 : (l.op == 2) = false := by simpa using q2
          have g3 : (l.op == 3) = false := by simpa using q3
          have g4 : (l.op == 4) = false := by simpa using q4
          clear hE q1 q2 q3 q4
          go_enter Tryz.func93, Tryz.ntmps93
          go_wp2
          go_ret
          exact ⟨ret_bool HE.out.symm, below_alloc _ _⟩
end Go.Proofs.YtggkbhafbhhhhadGreat
