/-
  WALKS: package fault: what is wrong with a literal.
-/
import Derived.Test.YtggkbhafbhhhhadGreatLitPlain
import Derived.Test.YtggkbhafbhhhhadGreatTruA
namespace Go.Proofs.YtggkbhafbhhhhadGreat
open Go.RowKit

set_option maxHeartbeats 800000 in
set_option maxRecDepth 100000 in
theorem lit_check (vs : List MVar) (l : MLit) (v : Value) (w : World) (hv : VArg w v vs) :
    Calls Tryz.prog 126 #[v, .agg #[.int .i64 l.var, .int .i64 l.op, .int .i64 l.n]] w fun e w' => e = .returned (.int .i64 (litE vs l)) ∧ Below w.heap.size w w' := by
  obtain ⟨a, c, rfl, hm, _⟩ := hv
  unfold maxLen at hm
  obtain ⟨hm1, hm⟩ := hm
  obtain ⟨R, hR⟩ : ∃ R, litE vs l = R := ⟨_, rfl⟩
  rw [hR]
  unfold litE at hR
  by_cases q1 : l.var < 0
  · have HE : Hid (R = 5) := by rw [← hR, if_pos (Or.inl q1)]; rfl
    clear hR
    go_enter Tryz.func126, Tryz.ntmps126
    go_wp2
    go_ret
    exact ⟨ret_int HE.out.symm, below_alloc _ _⟩
  by_cases q2 : (vs.length : Int) ≤ l.var
  · have HE : Hid (R = 5) := by rw [← hR, if_pos (Or.inr q2)]; rfl
    clear hR
    go_enter Tryz.func126, Tryz.ntmps126
    go_wp2
    go_ret
    exact ⟨ret_int HE.out.symm, below_alloc _ _⟩
  rw [if_neg (by omega)] at hR
  by_cases q3 : l.op < 1
  · have HE : Hid (R = 7) := by rw [← hR, if_pos (Or.inl q3)]; rfl
    clear hR
    go_enter Tryz.func126, Tryz.ntmps126
    go_wp2
    go_ret
    exact ⟨ret_int HE.out.symm, below_alloc _ _⟩
  by_cases q4 : 4 < l.op
  · have HE : Hid (R = 7) := by rw [← hR, if_pos (Or.inr q4)]; rfl
    clear hR
    go_enter Tryz.func126, Tryz.ntmps126
    go_wp2
    go_ret
    exact ⟨ret_int HE.out.symm, below_alloc _ _⟩
  rw [if_neg (by omega)] at hR
  by_cases q5 : l.n < -1000
  · have HE : Hid (R = 3) := by rw [← hR, if_pos (Or.inl q5)]; rfl
    clear hR
    go_enter Tryz.func126, Tryz.ntmps126
    go_wp2
    go_ret
    exact ⟨ret_int HE.out.symm, below_alloc _ _⟩
  by_cases q6 : 1000 < l.n
  · have HE : Hid (R = 3) := by rw [← hR, if_pos (Or.inr q6)]; rfl
    clear hR
    go_enter Tryz.func126, Tryz.ntmps126
    go_wp2
    go_ret
    exact ⟨ret_int HE.out.symm, below_alloc _ _⟩
  have HE : Hid (R = 0) := by rw [← hR, if_neg (by omega)]; rfl
  clear hR
  go_enter Tryz.func126, Tryz.ntmps126
  go_wp2
  go_ret
  exact ⟨ret_int HE.out.symm, below_alloc _ _⟩

end Go.Proofs.YtggkbhafbhhhhadGreat
