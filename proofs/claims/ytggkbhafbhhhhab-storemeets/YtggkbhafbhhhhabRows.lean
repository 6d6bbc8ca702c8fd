/-
  No cell of these rows narrows 'for every input' (looked for: loops, veiled, ifaces, maps, wideKeys, modest, calm, conditions, laid).
  DERIVED. THE GIVEN ROWS OF THIS SEAT. 3 by the template 'for every input the law returns true; each argument reads behind the call as it read before'; 0 by the template 'total and deterministic' (their statements: YtggkbhafbhhhhabTotals.lean).
  GIVEN WITH THE SEED: the statements are not yours to turn. If you find one false, say at which input.
  Laid BY PROGRAM, IN A SANDBOX (cutbox-rows.mjs): the forced cells as the released guide's own fill.sh prints them over the translation e37c99a677173824… (all of the seat's roots in one cut). By AI agents, Wed Nov 11 2026. No macro, syntax, notation, axiom, sorry.
-/
import Derived.Test.YtggkbhafbhhhhabChecked
import GoSem.Claim
import GoSem.ClaimJoined
import GoSem.ClaimMapViews
import Derived.JoinedTies
import Derived.KernelRfl
namespace Go.Proofs.Ytggkbhafbhhhhab
/- THE CELL 'sum', in the pinned program and in every row, IS THE sha256 OF THE DUMP (.gsa) THAT YtggkbhafbhhhhabProg.lean LOADS. Nothing in Lean hashes anything: it is a label: what it is worth is what the hold of that sum in a sandbox is worth. -/
noncomputable def Try.pinned : Pinned := { name := "ytggkbhafbhhhhab", sum := "e37c99a677173824bc5449e0ba3c6ca6d53e657a52b185601ae96cf48756a3d3", checked := Try.checked }
namespace Rows
def none {H : Type} : Left H := { results := [], args := [] }

/-- 'cordonlaw.StoreTells': WHATEVER THE INPUT: true; the input reads as it did. -/
def storeTellsSpec : ChangeSpec := { name := "storeTells", fn := fun _ => fun
  | [d1, d2, d3] => { results := [.lit (.bool true)], args := [d1, d2, d3] }
  | _ => none }
def storeTellsRow : OpenClaim := { program := "ytggkbhafbhhhhab", sum := "e37c99a677173824bc5449e0ba3c6ca6d53e657a52b185601ae96cf48756a3d3", func := "cordon/cordonlaw.StoreTells", spec := "storeTells", unfollowed := true, recurses := true, apart := false }
def StoreTellsSaid : Prop := storeTellsRow.holds Try.pinned (OpenSpec.ofChange storeTellsSpec)

/-- ITS FALSE NEIGHBOUR: 'it returns false'. Refute it at one input. -/
def storeTellsWrong : ChangeSpec := { name := "storeTells", fn := fun _ => fun
  | [d1, d2, d3] => { results := [.lit (.bool false)], args := [d1, d2, d3] }
  | _ => none }
def StoreTellsWrongFalsely : Prop := storeTellsRow.holds Try.pinned (OpenSpec.ofChange storeTellsWrong)

/-- 'cordonlaw.StoreMeets': WHATEVER THE INPUT: true; the input reads as it did. -/
def storeMeetsSpec : ChangeSpec := { name := "storeMeets", fn := fun _ => fun
  | [d1, d2, d3, d4] => { results := [.lit (.bool true)], args := [d1, d2, d3, d4] }
  | _ => none }
def storeMeetsRow : OpenClaim := { program := "ytggkbhafbhhhhab", sum := "e37c99a677173824bc5449e0ba3c6ca6d53e657a52b185601ae96cf48756a3d3", func := "cordon/cordonlaw.StoreMeets", spec := "storeMeets", unfollowed := true, recurses := true, apart := false }
def StoreMeetsSaid : Prop := storeMeetsRow.holds Try.pinned (OpenSpec.ofChange storeMeetsSpec)

/-- ITS FALSE NEIGHBOUR: 'it returns false'. Refute it at one input. -/
def storeMeetsWrong : ChangeSpec := { name := "storeMeets", fn := fun _ => fun
  | [d1, d2, d3, d4] => { results := [.lit (.bool false)], args := [d1, d2, d3, d4] }
  | _ => none }
def StoreMeetsWrongFalsely : Prop := storeMeetsRow.holds Try.pinned (OpenSpec.ofChange storeMeetsWrong)

/-- 'cordonlaw.LitTells': WHATEVER THE INPUT: true; the input reads as it did. -/
def litTellsSpec : ChangeSpec := { name := "litTells", fn := fun _ => fun
  | [d1, d2, d3, d4] => { results := [.lit (.bool true)], args := [d1, d2, d3, d4] }
  | _ => none }
def litTellsRow : OpenClaim := { program := "ytggkbhafbhhhhab", sum := "e37c99a677173824bc5449e0ba3c6ca6d53e657a52b185601ae96cf48756a3d3", func := "cordon/cordonlaw.LitTells", spec := "litTells", unfollowed := true, recurses := true, apart := false }
def LitTellsSaid : Prop := litTellsRow.holds Try.pinned (OpenSpec.ofChange litTellsSpec)

/-- ITS FALSE NEIGHBOUR: 'it returns false'. Refute it at one input. -/
def litTellsWrong : ChangeSpec := { name := "litTells", fn := fun _ => fun
  | [d1, d2, d3, d4] => { results := [.lit (.bool false)], args := [d1, d2, d3, d4] }
  | _ => none }
def LitTellsWrongFalsely : Prop := litTellsRow.holds Try.pinned (OpenSpec.ofChange litTellsWrong)

/- THE SECOND FORM. 'bulk': how many values and letters a reading holds, each counted each time it is reached (what is shared counts as often as it is met; a slice's spare places count too). A statement '..UptoSaid' is the law's where the arguments, and the package variables that the reading takes, are together of bulk at most 1048576: NARROWER than '..Said'. Prove '..Said' where nothing that the law and all that it calls make is longer than what came in: it says more and counts as full. Else prove '..UptoSaid'. A law counts once. -/
mutual
def uptoBulk {H : Type} : DataW H → Nat
  | .lit (.string bytes) => bytes.length + 1
  | .lit _ => 1
  | .nil => 1
  | .ptr d => uptoBulk d + 1
  | .slice elems spare => uptoBulkAll elems + uptoBulkAll spare + 1
  | .agg parts => uptoBulkAll parts + 1
  | .iface _ d => uptoBulk d + 1
  | .map entries => uptoBulkEntries entries + 1
  | .held _ => 1
def uptoBulkAll {H : Type} : List (DataW H) → Nat
  | [] => 0
  | d :: r => uptoBulk d + uptoBulkAll r
def uptoBulkEntries {H : Type} : List (Lit × DataW H) → Nat
  | [] => 0
  | x :: r => uptoBulkEntry x + uptoBulkEntries r
def uptoBulkEntry {H : Type} : Lit × DataW H → Nat
  | (.string bytes, d) => bytes.length + uptoBulk d + 1
  | (_, d) => uptoBulk d + 1
 end
def uptoSmall : (H : Type) → List (DataW H) → Bool := fun _ ds => decide (uptoBulkAll ds ≤ 1048576)
def OpenSpec.upto (s : _root_.Go.ChangeSpec) : _root_.Go.OpenSpec := { _root_.Go.OpenSpec.ofChange s with cond := some uptoSmall }

/-- 'cordonlaw.StoreTells', WHERE WHAT IT READS IS OF BULK AT MOST 1048576: true; the input reads as it did. -/
def storeTellsUptoRow : OpenClaim := { program := "ytggkbhafbhhhhab", sum := "e37c99a677173824bc5449e0ba3c6ca6d53e657a52b185601ae96cf48756a3d3", func := "cordon/cordonlaw.StoreTells", spec := "storeTells", unfollowed := true, recurses := true, apart := false, narrowed := true }
def StoreTellsUptoSaid : Prop := storeTellsUptoRow.holds Try.pinned (OpenSpec.upto storeTellsSpec)

/-- 'cordonlaw.StoreMeets', WHERE WHAT IT READS IS OF BULK AT MOST 1048576: true; the input reads as it did. -/
def storeMeetsUptoRow : OpenClaim := { program := "ytggkbhafbhhhhab", sum := "e37c99a677173824bc5449e0ba3c6ca6d53e657a52b185601ae96cf48756a3d3", func := "cordon/cordonlaw.StoreMeets", spec := "storeMeets", unfollowed := true, recurses := true, apart := false, narrowed := true }
def StoreMeetsUptoSaid : Prop := storeMeetsUptoRow.holds Try.pinned (OpenSpec.upto storeMeetsSpec)

/-- 'cordonlaw.LitTells', WHERE WHAT IT READS IS OF BULK AT MOST 1048576: true; the input reads as it did. -/
def litTellsUptoRow : OpenClaim := { program := "ytggkbhafbhhhhab", sum := "e37c99a677173824bc5449e0ba3c6ca6d53e657a52b185601ae96cf48756a3d3", func := "cordon/cordonlaw.LitTells", spec := "litTells", unfollowed := true, recurses := true, apart := false, narrowed := true }
def LitTellsUptoSaid : Prop := litTellsUptoRow.holds Try.pinned (OpenSpec.upto litTellsSpec)

end Rows
end Go.Proofs.Ytggkbhafbhhhhab
