/-
  No cell of these rows narrows 'for every input' (looked for: loops, veiled, ifaces, maps, wideKeys, modest, calm, conditions, laid).
  DERIVED. THE GIVEN ROWS OF THIS SEAT. 4 by the template 'for every input the law returns true; each argument reads behind the call as it read before'; 0 by the template 'total and deterministic' (their statements: YtggkbhafbhhhhacTotals.lean).
  GIVEN WITH THE SEED: the statements are not yours to turn. If you find one false, say at which input.
  Laid BY PROGRAM, IN A SANDBOX (cutbox-rows.mjs): the forced cells as the released guide's own fill.sh prints them over the translation 4f9b37f2cb9c7a83… (all of the seat's roots in one cut). By AI agents, Wed Nov 11 2026. No macro, syntax, notation, axiom, sorry.
-/
import Derived.Test.YtggkbhafbhhhhacChecked
import GoSem.Claim
import GoSem.ClaimJoined
import GoSem.ClaimMapViews
import Derived.JoinedTies
import Derived.KernelRfl
namespace Go.Proofs.Ytggkbhafbhhhhac
/- THE CELL 'sum', in the pinned program and in every row, IS THE sha256 OF THE DUMP (.gsa) THAT YtggkbhafbhhhhacProg.lean LOADS. Nothing in Lean hashes anything: it is a label: what it is worth is what the hold of that sum in a sandbox is worth. -/
noncomputable def Try.pinned : Pinned := { name := "ytggkbhafbhhhhac", sum := "4f9b37f2cb9c7a83bc2cc84c0953b44d1f8c53071b31bb609e2a72169e4c2962", checked := Try.checked }
namespace Rows
def none {H : Type} : Left H := { results := [], args := [] }

/-- 'cordonlaw.LitParts': WHATEVER THE INPUT: true; the input reads as it did. -/
def litPartsSpec : ChangeSpec := { name := "litParts", fn := fun _ => fun
  | [d1, d2, d3, d4] => { results := [.lit (.bool true)], args := [d1, d2, d3, d4] }
  | _ => none }
def litPartsRow : OpenClaim := { program := "ytggkbhafbhhhhac", sum := "4f9b37f2cb9c7a83bc2cc84c0953b44d1f8c53071b31bb609e2a72169e4c2962", func := "cordon/cordonlaw.LitParts", spec := "litParts", unfollowed := true, recurses := true, plainKeys := false, apart := false }
def LitPartsSaid : Prop := litPartsRow.holds Try.pinned (OpenSpec.ofChange litPartsSpec)

/-- ITS FALSE NEIGHBOUR: 'it returns false'. Refute it at one input. -/
def litPartsWrong : ChangeSpec := { name := "litParts", fn := fun _ => fun
  | [d1, d2, d3, d4] => { results := [.lit (.bool false)], args := [d1, d2, d3, d4] }
  | _ => none }
def LitPartsWrongFalsely : Prop := litPartsRow.holds Try.pinned (OpenSpec.ofChange litPartsWrong)

/-- 'cordonlaw.FilterAgain': WHATEVER THE INPUT: true; the input reads as it did. -/
def filterAgainSpec : ChangeSpec := { name := "filterAgain", fn := fun _ => fun
  | [d1, d2, d3, d4] => { results := [.lit (.bool true)], args := [d1, d2, d3, d4] }
  | _ => none }
def filterAgainRow : OpenClaim := { program := "ytggkbhafbhhhhac", sum := "4f9b37f2cb9c7a83bc2cc84c0953b44d1f8c53071b31bb609e2a72169e4c2962", func := "cordon/cordonlaw.FilterAgain", spec := "filterAgain", unfollowed := true, recurses := true, plainKeys := false, apart := false }
def FilterAgainSaid : Prop := filterAgainRow.holds Try.pinned (OpenSpec.ofChange filterAgainSpec)

/-- ITS FALSE NEIGHBOUR: 'it returns false'. Refute it at one input. -/
def filterAgainWrong : ChangeSpec := { name := "filterAgain", fn := fun _ => fun
  | [d1, d2, d3, d4] => { results := [.lit (.bool false)], args := [d1, d2, d3, d4] }
  | _ => none }
def FilterAgainWrongFalsely : Prop := filterAgainRow.holds Try.pinned (OpenSpec.ofChange filterAgainWrong)

/-- 'cordonlaw.ClauseTells': WHATEVER THE INPUT: true; the input reads as it did. -/
def clauseTellsSpec : ChangeSpec := { name := "clauseTells", fn := fun _ => fun
  | [d1, d2, d3, d4] => { results := [.lit (.bool true)], args := [d1, d2, d3, d4] }
  | _ => none }
def clauseTellsRow : OpenClaim := { program := "ytggkbhafbhhhhac", sum := "4f9b37f2cb9c7a83bc2cc84c0953b44d1f8c53071b31bb609e2a72169e4c2962", func := "cordon/cordonlaw.ClauseTells", spec := "clauseTells", unfollowed := true, recurses := true, plainKeys := false, apart := false }
def ClauseTellsSaid : Prop := clauseTellsRow.holds Try.pinned (OpenSpec.ofChange clauseTellsSpec)

/-- ITS FALSE NEIGHBOUR: 'it returns false'. Refute it at one input. -/
def clauseTellsWrong : ChangeSpec := { name := "clauseTells", fn := fun _ => fun
  | [d1, d2, d3, d4] => { results := [.lit (.bool false)], args := [d1, d2, d3, d4] }
  | _ => none }
def ClauseTellsWrongFalsely : Prop := clauseTellsRow.holds Try.pinned (OpenSpec.ofChange clauseTellsWrong)

/-- 'cordonlaw.ClauseKeeps': WHATEVER THE INPUT: true; the input reads as it did. -/
def clauseKeepsSpec : ChangeSpec := { name := "clauseKeeps", fn := fun _ => fun
  | [d1, d2, d3, d4] => { results := [.lit (.bool true)], args := [d1, d2, d3, d4] }
  | _ => none }
def clauseKeepsRow : OpenClaim := { program := "ytggkbhafbhhhhac", sum := "4f9b37f2cb9c7a83bc2cc84c0953b44d1f8c53071b31bb609e2a72169e4c2962", func := "cordon/cordonlaw.ClauseKeeps", spec := "clauseKeeps", unfollowed := true, recurses := true, plainKeys := false, apart := false }
def ClauseKeepsSaid : Prop := clauseKeepsRow.holds Try.pinned (OpenSpec.ofChange clauseKeepsSpec)

/-- ITS FALSE NEIGHBOUR: 'it returns false'. Refute it at one input. -/
def clauseKeepsWrong : ChangeSpec := { name := "clauseKeeps", fn := fun _ => fun
  | [d1, d2, d3, d4] => { results := [.lit (.bool false)], args := [d1, d2, d3, d4] }
  | _ => none }
def ClauseKeepsWrongFalsely : Prop := clauseKeepsRow.holds Try.pinned (OpenSpec.ofChange clauseKeepsWrong)

/- THE SECOND FORM. 'bulk': how many values and letters a reading holds, each counted each time it is reached (what is shared counts as often as it is met; a slice's spare places count too). A statement '..UptoSaid' is the law's where the arguments, and the package variables that the reading takes, are together of bulk at most 1048576: NARROWER than '..Said'. Prove '..Said' where nothing that the law and all that it calls make is longer than what came in: it says more and counts as full. Else prove '..UptoSaid'. A law counts once. -/
mutual
def uptoBulk {H : Type} : DataW H → Nat
  | .lit (.string bytes) => bytes.length + 1
  | .lit _ => 1
  | .nil => 1
  | .ptr d => uptoBulk d + 1
  | .slice elems spare => uptoBulkAll elems + uptoBulkAll spare + 1
  | .agg parts => uptoBulkAll parts + 1
  | .iface _ d => uptoBulk d + 1
  | .map entries => uptoBulkEntries entries + 1
  | .held _ => 1
def uptoBulkAll {H : Type} : List (DataW H) → Nat
  | [] => 0
  | d :: r => uptoBulk d + uptoBulkAll r
def uptoBulkEntries {H : Type} : List (Lit × DataW H) → Nat
  | [] => 0
  | x :: r => uptoBulkEntry x + uptoBulkEntries r
def uptoBulkEntry {H : Type} : Lit × DataW H → Nat
  | (.string bytes, d) => bytes.length + uptoBulk d + 1
  | (_, d) => uptoBulk d + 1
 end
def uptoSmall : (H : Type) → List (DataW H) → Bool := fun _ ds => decide (uptoBulkAll ds ≤ 1048576)
def OpenSpec.upto (s : _root_.Go.ChangeSpec) : _root_.Go.OpenSpec := { _root_.Go.OpenSpec.ofChange s with cond := some uptoSmall }

/-- 'cordonlaw.LitParts', WHERE WHAT IT READS IS OF BULK AT MOST 1048576: true; the input reads as it did. -/
def litPartsUptoRow : OpenClaim := { program := "ytggkbhafbhhhhac", sum := "4f9b37f2cb9c7a83bc2cc84c0953b44d1f8c53071b31bb609e2a72169e4c2962", func := "cordon/cordonlaw.LitParts", spec := "litParts", unfollowed := true, recurses := true, plainKeys := false, apart := false, narrowed := true }
def LitPartsUptoSaid : Prop := litPartsUptoRow.holds Try.pinned (OpenSpec.upto litPartsSpec)

/-- 'cordonlaw.FilterAgain', WHERE WHAT IT READS IS OF BULK AT MOST 1048576: true; the input reads as it did. -/
def filterAgainUptoRow : OpenClaim := { program := "ytggkbhafbhhhhac", sum := "4f9b37f2cb9c7a83bc2cc84c0953b44d1f8c53071b31bb609e2a72169e4c2962", func := "cordon/cordonlaw.FilterAgain", spec := "filterAgain", unfollowed := true, recurses := true, plainKeys := false, apart := false, narrowed := true }
def FilterAgainUptoSaid : Prop := filterAgainUptoRow.holds Try.pinned (OpenSpec.upto filterAgainSpec)

/-- 'cordonlaw.ClauseTells', WHERE WHAT IT READS IS OF BULK AT MOST 1048576: true; the input reads as it did. -/
def clauseTellsUptoRow : OpenClaim := { program := "ytggkbhafbhhhhac", sum := "4f9b37f2cb9c7a83bc2cc84c0953b44d1f8c53071b31bb609e2a72169e4c2962", func := "cordon/cordonlaw.ClauseTells", spec := "clauseTells", unfollowed := true, recurses := true, plainKeys := false, apart := false, narrowed := true }
def ClauseTellsUptoSaid : Prop := clauseTellsUptoRow.holds Try.pinned (OpenSpec.upto clauseTellsSpec)

/-- 'cordonlaw.ClauseKeeps', WHERE WHAT IT READS IS OF BULK AT MOST 1048576: true; the input reads as it did. -/
def clauseKeepsUptoRow : OpenClaim := { program := "ytggkbhafbhhhhac", sum := "4f9b37f2cb9c7a83bc2cc84c0953b44d1f8c53071b31bb609e2a72169e4c2962", func := "cordon/cordonlaw.ClauseKeeps", spec := "clauseKeeps", unfollowed := true, recurses := true, plainKeys := false, apart := false, narrowed := true }
def ClauseKeepsUptoSaid : Prop := clauseKeepsUptoRow.holds Try.pinned (OpenSpec.upto clauseKeepsSpec)

end Rows
end Go.Proofs.Ytggkbhafbhhhhac
