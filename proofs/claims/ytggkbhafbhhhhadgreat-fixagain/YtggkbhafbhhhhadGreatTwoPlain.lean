/-
  PLAIN: the constraint of two(), and its scope.
-/
import Derived.Test.YtggkbhafbhhhhadGreatFilPlain
namespace Go.Proofs.YtggkbhafbhhhhadGreat

def twoC : MCon := ⟨1, [0, 1], [1, -1], -1, [], []⟩
theorem sort_01 : sortI [0, 1] = [0, 1] := by
  unfold sortI
  exact List.mergeSort_of_pairwise (by decide)
theorem two_scopeC : scopeC twoC = [0, 1] := by
  have h1 : scopeL twoC = [0, 1] := by rfl
  unfold scopeC
  rw [h1, sort_01]
  decide
end Go.Proofs.YtggkbhafbhhhhadGreat
