/-
  WALKS: package sift: All, None.
-/
import Derived.Test.YtggkbhafbhhhhadGreatSifA
import Derived.Test.YtggkbhafbhhhhadGreatFixPlain
namespace Go.Proofs.YtggkbhafbhhhhadGreat
open Go.RowKit

set_option maxHeartbeats 400000 in
theorem yes_any (x y : Value) (w : World) : Calls Tryz.prog 97 #[x, y] w fun e w' => e = .returned (.bool true) ∧ Below w.heap.size w w' := by
  go_enter Tryz.func97, Tryz.ntmps97
  go_wp2
  go_ret
  exact ⟨rfl, Below.refl _ _⟩
theorem enters_yes (args : Array Value) (w' : World) : Sem.run Tryz.prog (callFunc 97 args) w' = .ok (.enter 97 args) w' := by
  simp [callFunc, go_sem, Tryz.func97, Tryz.f97]

set_option maxHeartbeats 400000 in
theorem all_any (s : Sto) (v : Value) (w : World) (hv : RArg w v s) (hn : s.length ≤ 6) (hr6 : ∀ r ∈ s, r.length ≤ 6) :
    Calls Tryz.prog 54 #[v] w fun e w' => ∃ x, e = .returned x ∧ RArg w' x s ∧ Below w.heap.size w w' := by
  have HV : Hid (RArg w v s) := hv
  have HR6 : Hid (∀ r ∈ s, r.length ≤ 6) := hr6
  obtain ⟨a, c, rfl, _, _⟩ := hv
  clear hr6
  go_enter Tryz.func54, Tryz.ntmps54
  go_wp2_with fail
  refine (sift_any 97 #[] s (fun _ _ => true) _ _ HV.out ⟨enters_yes, fun k r z w' _ _ _ => yes_any _ _ w'⟩ hn HR6.out).mono ?_
  rintro e w1 ⟨x, rfl, hx, hb1⟩
  rw [sift_same s _ (fun _ _ _ _ _ => rfl)] at hx
  have HX : Hid (RArg w1 x s) := hx
  obtain ⟨ax, cx, rfl, _, _⟩ := hx
  go_wp2
  go_ret
  exact ⟨_, rfl, HX.out, hb1⟩

set_option maxHeartbeats 400000 in
theorem none_any (s : Sto) (v : Value) (w : World) (hv : RArg w v s) (hn : s.length ≤ 6) :
    Calls Tryz.prog 57 #[v] w fun e w' => ∃ x, e = .returned x ∧ RArg w' x (clearS s) ∧ Below w.heap.size w w' := by
  obtain ⟨a, c, rfl, _, _⟩ := hv
  obtain ⟨wm, hrun, hrows, hbm⟩ := make_store s.length hn w
  have HX : Hid (RArg wm (.slice (some ⟨w.heap.size, 0, none⟩) s.length s.length) (clearS s)) := by
    obtain ⟨h1, _, _⟩ := hrows []
    have hB : w.heap.size < wm.heap.size := (h1.lt w.heap.size rfl).2
    refine ⟨_, s.length, by rw [clear_len], ⟨by rw [clear_len]; exact Nat.le_refl _, by unfold maxLen; omega⟩, fun i r hr => ?_⟩
    have hi : i < s.length := by rw [← clear_len s]; exact (List.getElem?_eq_some_iff.1 hr).1
    rw [clear_get s i r hr]
    refine ⟨w.heap.size, 0, .slice none 0 0, rfl, hB, ?_, ⟨none, 0, rfl, ⟨Nat.le_refl _, Nat.zero_le _⟩, fun j z hz => by simp at hz⟩⟩
    rw [Nat.zero_add, h1.cellAt i (by omega)]
    simp [hi]
  have HB : Hid (Below w.heap.size w wm) := hbm
  obtain ⟨B, hB⟩ : ∃ B, B = w.heap.size := ⟨_, rfl⟩
  rw [← hB] at hrun HX
  clear hrows hbm hB
  go_enter Tryz.func57, Tryz.ntmps57
  go_wp2
  go_ret
  exact ⟨_, rfl, HX.out, HB.out⟩
end Go.Proofs.YtggkbhafbhhhhadGreat
