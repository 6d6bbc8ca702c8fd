/-
  NARROWER THAN 'FOR EVERY INPUT', by the rows' own cells (each row's printed sentence says how): ExplainReasons: laid · ExplainFailures: laid · ExplainHolds: laid · LearnLearns: laid · LearnSteps: laid · LearnHolds: laid.
  DERIVED. THE GIVEN ROWS OF THIS SEAT. 6 by the template 'for every input the law returns true; each argument reads behind the call as it read before'; 0 by the template 'total and deterministic' (their statements: YtijohkhpigjbkaeGreatDoorTotals.lean).
  GIVEN WITH THE SEED: the statements are not yours to turn. If you find one false, say at which input.
  Laid BY PROGRAM, IN A SANDBOX (cutbox-rows.mjs): the forced cells as the released guide's own fill.sh prints them over the translation ed43b4fc46bb083a… (all of the seat's roots in one cut). By AI agents, Wed Nov 11 2026. No macro, syntax, notation, axiom, sorry.
-/
import Derived.Test.YtijohkhpigjbkaeGreatDoorChecked
import GoSem.Claim
import GoSem.ClaimJoined
import GoSem.ClaimMapViews
import Derived.JoinedTies
import Derived.KernelRfl
namespace Go.Proofs.YtijohkhpigjbkaeGreatDoor
/- THE CELL 'sum', in the pinned program and in every row, IS THE sha256 OF THE DUMP (.gsa) THAT YtijohkhpigjbkaeGreatDoorProg.lean LOADS. Nothing in Lean hashes anything: it is a label: what it is worth is what the hold of that sum in a sandbox is worth. -/
noncomputable def Tryz.pinned : Pinned := { name := "ytijohkhpigjbkaegreatdoor", sum := "ed43b4fc46bb083a9d69d4b7ade3879b52049b6cb3ceeb0d05b721249c2220e9", checked := Tryz.checked }
namespace Rows
def none {H : Type} : Left H := { results := [], args := [] }

/- WHAT THE LISTED PACKAGE-LEVEL VARIABLES READ AS WHEN THE CALL BEGINS. Each datum BY PROGRAM (the guide's laid-datum.mjs) off the statement by which the dump's own 'gosem.cut.vars' lays the variable. In a bare row this is a premise. The card (YtijohkhpigjbkaeGreatDoorCards.lean) ties it to the program's text. -/
def laid_math_bits_deBruijn64tab {H : Type} : DataW H := .agg [.lit (.int .u8 0), .lit (.int .u8 1), .lit (.int .u8 56), .lit (.int .u8 2), .lit (.int .u8 57), .lit (.int .u8 49), .lit (.int .u8 28), .lit (.int .u8 3), .lit (.int .u8 61), .lit (.int .u8 58), .lit (.int .u8 42), .lit (.int .u8 50), .lit (.int .u8 38), .lit (.int .u8 29), .lit (.int .u8 17), .lit (.int .u8 4), .lit (.int .u8 62), .lit (.int .u8 47), .lit (.int .u8 59), .lit (.int .u8 36), .lit (.int .u8 45), .lit (.int .u8 43), .lit (.int .u8 51), .lit (.int .u8 22), .lit (.int .u8 53), .lit (.int .u8 39), .lit (.int .u8 33), .lit (.int .u8 30), .lit (.int .u8 24), .lit (.int .u8 18), .lit (.int .u8 12), .lit (.int .u8 5), .lit (.int .u8 63), .lit (.int .u8 55), .lit (.int .u8 48), .lit (.int .u8 27), .lit (.int .u8 60), .lit (.int .u8 41), .lit (.int .u8 37), .lit (.int .u8 16), .lit (.int .u8 46), .lit (.int .u8 35), .lit (.int .u8 44), .lit (.int .u8 21), .lit (.int .u8 52), .lit (.int .u8 32), .lit (.int .u8 23), .lit (.int .u8 11), .lit (.int .u8 54), .lit (.int .u8 26), .lit (.int .u8 40), .lit (.int .u8 15), .lit (.int .u8 34), .lit (.int .u8 20), .lit (.int .u8 31), .lit (.int .u8 10), .lit (.int .u8 25), .lit (.int .u8 14), .lit (.int .u8 19), .lit (.int .u8 9), .lit (.int .u8 13), .lit (.int .u8 8), .lit (.int .u8 7), .lit (.int .u8 6)]

/-- 'cordonlaw.ExplainReasons': WHATEVER THE INPUT: true; the input reads as it did. -/
def explainReasonsSpec : ChangeSpec := { name := "explainReasons", fn := fun _ => fun
  | [d1, d2, d3, d4, d5] => { results := [.lit (.bool true)], args := [d1, d2, d3, d4, d5] }
  | _ => none }
def explainReasonsRow : OpenClaim := { program := "ytijohkhpigjbkaegreatdoor", sum := "ed43b4fc46bb083a9d69d4b7ade3879b52049b6cb3ceeb0d05b721249c2220e9", func := "cordon/cordonlaw.ExplainReasons", spec := "explainReasons", unfollowed := true, recurses := true, named := ["math/bits.deBruijn64tab"], plainKeys := false, apart := false, laid := [("math/bits.deBruijn64tab", laid_math_bits_deBruijn64tab)] }
def ExplainReasonsSaid : Prop := explainReasonsRow.holds Tryz.pinned (OpenSpec.ofChange explainReasonsSpec)

/-- ITS FALSE NEIGHBOUR: 'it returns false'. Refute it at one input. -/
def explainReasonsWrong : ChangeSpec := { name := "explainReasons", fn := fun _ => fun
  | [d1, d2, d3, d4, d5] => { results := [.lit (.bool false)], args := [d1, d2, d3, d4, d5] }
  | _ => none }
def ExplainReasonsWrongFalsely : Prop := explainReasonsRow.holds Tryz.pinned (OpenSpec.ofChange explainReasonsWrong)

/-- 'cordonlaw.ExplainFailures': WHATEVER THE INPUT: true; the input reads as it did. -/
def explainFailuresSpec : ChangeSpec := { name := "explainFailures", fn := fun _ => fun
  | [d1, d2, d3] => { results := [.lit (.bool true)], args := [d1, d2, d3] }
  | _ => none }
def explainFailuresRow : OpenClaim := { program := "ytijohkhpigjbkaegreatdoor", sum := "ed43b4fc46bb083a9d69d4b7ade3879b52049b6cb3ceeb0d05b721249c2220e9", func := "cordon/cordonlaw.ExplainFailures", spec := "explainFailures", unfollowed := true, recurses := true, named := ["math/bits.deBruijn64tab"], plainKeys := false, apart := false, laid := [("math/bits.deBruijn64tab", laid_math_bits_deBruijn64tab)] }
def ExplainFailuresSaid : Prop := explainFailuresRow.holds Tryz.pinned (OpenSpec.ofChange explainFailuresSpec)

/-- ITS FALSE NEIGHBOUR: 'it returns false'. Refute it at one input. -/
def explainFailuresWrong : ChangeSpec := { name := "explainFailures", fn := fun _ => fun
  | [d1, d2, d3] => { results := [.lit (.bool false)], args := [d1, d2, d3] }
  | _ => none }
def ExplainFailuresWrongFalsely : Prop := explainFailuresRow.holds Tryz.pinned (OpenSpec.ofChange explainFailuresWrong)

/-- 'cordonlaw.ExplainHolds': WHATEVER THE INPUT: true; the input reads as it did. -/
def explainHoldsSpec : ChangeSpec := { name := "explainHolds", fn := fun _ => fun
  | [d1, d2, d3, d4, d5, d6] => { results := [.lit (.bool true)], args := [d1, d2, d3, d4, d5, d6] }
  | _ => none }
def explainHoldsRow : OpenClaim := { program := "ytijohkhpigjbkaegreatdoor", sum := "ed43b4fc46bb083a9d69d4b7ade3879b52049b6cb3ceeb0d05b721249c2220e9", func := "cordon/cordonlaw.ExplainHolds", spec := "explainHolds", unfollowed := true, recurses := true, named := ["math/bits.deBruijn64tab"], plainKeys := false, apart := false, laid := [("math/bits.deBruijn64tab", laid_math_bits_deBruijn64tab)] }
def ExplainHoldsSaid : Prop := explainHoldsRow.holds Tryz.pinned (OpenSpec.ofChange explainHoldsSpec)

/-- ITS FALSE NEIGHBOUR: 'it returns false'. Refute it at one input. -/
def explainHoldsWrong : ChangeSpec := { name := "explainHolds", fn := fun _ => fun
  | [d1, d2, d3, d4, d5, d6] => { results := [.lit (.bool false)], args := [d1, d2, d3, d4, d5, d6] }
  | _ => none }
def ExplainHoldsWrongFalsely : Prop := explainHoldsRow.holds Tryz.pinned (OpenSpec.ofChange explainHoldsWrong)

/-- 'cordonlaw.LearnLearns': WHATEVER THE INPUT: true; the input reads as it did. -/
def learnLearnsSpec : ChangeSpec := { name := "learnLearns", fn := fun _ => fun
  | [d1, d2, d3] => { results := [.lit (.bool true)], args := [d1, d2, d3] }
  | _ => none }
def learnLearnsRow : OpenClaim := { program := "ytijohkhpigjbkaegreatdoor", sum := "ed43b4fc46bb083a9d69d4b7ade3879b52049b6cb3ceeb0d05b721249c2220e9", func := "cordon/cordonlaw.LearnLearns", spec := "learnLearns", unfollowed := true, recurses := true, named := ["math/bits.deBruijn64tab"], plainKeys := false, apart := false, laid := [("math/bits.deBruijn64tab", laid_math_bits_deBruijn64tab)] }
def LearnLearnsSaid : Prop := learnLearnsRow.holds Tryz.pinned (OpenSpec.ofChange learnLearnsSpec)

/-- ITS FALSE NEIGHBOUR: 'it returns false'. Refute it at one input. -/
def learnLearnsWrong : ChangeSpec := { name := "learnLearns", fn := fun _ => fun
  | [d1, d2, d3] => { results := [.lit (.bool false)], args := [d1, d2, d3] }
  | _ => none }
def LearnLearnsWrongFalsely : Prop := learnLearnsRow.holds Tryz.pinned (OpenSpec.ofChange learnLearnsWrong)

/-- 'cordonlaw.LearnSteps': WHATEVER THE INPUT: true; the input reads as it did. -/
def learnStepsSpec : ChangeSpec := { name := "learnSteps", fn := fun _ => fun
  | [d1, d2, d3] => { results := [.lit (.bool true)], args := [d1, d2, d3] }
  | _ => none }
def learnStepsRow : OpenClaim := { program := "ytijohkhpigjbkaegreatdoor", sum := "ed43b4fc46bb083a9d69d4b7ade3879b52049b6cb3ceeb0d05b721249c2220e9", func := "cordon/cordonlaw.LearnSteps", spec := "learnSteps", unfollowed := true, recurses := true, named := ["math/bits.deBruijn64tab"], plainKeys := false, apart := false, laid := [("math/bits.deBruijn64tab", laid_math_bits_deBruijn64tab)] }
def LearnStepsSaid : Prop := learnStepsRow.holds Tryz.pinned (OpenSpec.ofChange learnStepsSpec)

/-- ITS FALSE NEIGHBOUR: 'it returns false'. Refute it at one input. -/
def learnStepsWrong : ChangeSpec := { name := "learnSteps", fn := fun _ => fun
  | [d1, d2, d3] => { results := [.lit (.bool false)], args := [d1, d2, d3] }
  | _ => none }
def LearnStepsWrongFalsely : Prop := learnStepsRow.holds Tryz.pinned (OpenSpec.ofChange learnStepsWrong)

/-- 'cordonlaw.LearnHolds': WHATEVER THE INPUT: true; the input reads as it did. -/
def learnHoldsSpec : ChangeSpec := { name := "learnHolds", fn := fun _ => fun
  | [d1, d2, d3, d4] => { results := [.lit (.bool true)], args := [d1, d2, d3, d4] }
  | _ => none }
def learnHoldsRow : OpenClaim := { program := "ytijohkhpigjbkaegreatdoor", sum := "ed43b4fc46bb083a9d69d4b7ade3879b52049b6cb3ceeb0d05b721249c2220e9", func := "cordon/cordonlaw.LearnHolds", spec := "learnHolds", unfollowed := true, recurses := true, named := ["math/bits.deBruijn64tab"], plainKeys := false, apart := false, laid := [("math/bits.deBruijn64tab", laid_math_bits_deBruijn64tab)] }
def LearnHoldsSaid : Prop := learnHoldsRow.holds Tryz.pinned (OpenSpec.ofChange learnHoldsSpec)

/-- ITS FALSE NEIGHBOUR: 'it returns false'. Refute it at one input. -/
def learnHoldsWrong : ChangeSpec := { name := "learnHolds", fn := fun _ => fun
  | [d1, d2, d3, d4] => { results := [.lit (.bool false)], args := [d1, d2, d3, d4] }
  | _ => none }
def LearnHoldsWrongFalsely : Prop := learnHoldsRow.holds Tryz.pinned (OpenSpec.ofChange learnHoldsWrong)

/- THE SECOND FORM. 'bulk': how many values and letters a reading holds, each counted each time it is reached (what is shared counts as often as it is met; a slice's spare places count too). A statement '..UptoSaid' is the law's where the arguments, and the package variables that the reading takes, are together of bulk at most 1048576: NARROWER than '..Said'. Prove '..Said' where nothing that the law and all that it calls make is longer than what came in: it says more and counts as full. Else prove '..UptoSaid'. A law counts once. -/
mutual
def uptoBulk {H : Type} : DataW H → Nat
  | .lit (.string bytes) => bytes.length + 1
  | .lit _ => 1
  | .nil => 1
  | .ptr d => uptoBulk d + 1
  | .slice elems spare => uptoBulkAll elems + uptoBulkAll spare + 1
  | .agg parts => uptoBulkAll parts + 1
  | .iface _ d => uptoBulk d + 1
  | .map entries => uptoBulkEntries entries + 1
  | .held _ => 1
def uptoBulkAll {H : Type} : List (DataW H) → Nat
  | [] => 0
  | d :: r => uptoBulk d + uptoBulkAll r
def uptoBulkEntries {H : Type} : List (Lit × DataW H) → Nat
  | [] => 0
  | x :: r => uptoBulkEntry x + uptoBulkEntries r
def uptoBulkEntry {H : Type} : Lit × DataW H → Nat
  | (.string bytes, d) => bytes.length + uptoBulk d + 1
  | (_, d) => uptoBulk d + 1
 end
def uptoSmall : (H : Type) → List (DataW H) → Bool := fun _ ds => decide (uptoBulkAll ds ≤ 1048576)
def OpenSpec.upto (s : _root_.Go.ChangeSpec) : _root_.Go.OpenSpec := { _root_.Go.OpenSpec.ofChange s with cond := some uptoSmall }

/-- 'cordonlaw.ExplainReasons', WHERE WHAT IT READS IS OF BULK AT MOST 1048576: true; the input reads as it did. -/
def explainReasonsUptoRow : OpenClaim := { program := "ytijohkhpigjbkaegreatdoor", sum := "ed43b4fc46bb083a9d69d4b7ade3879b52049b6cb3ceeb0d05b721249c2220e9", func := "cordon/cordonlaw.ExplainReasons", spec := "explainReasons", unfollowed := true, recurses := true, named := ["math/bits.deBruijn64tab"], plainKeys := false, apart := false, laid := [("math/bits.deBruijn64tab", laid_math_bits_deBruijn64tab)], narrowed := true }
def ExplainReasonsUptoSaid : Prop := explainReasonsUptoRow.holds Tryz.pinned (OpenSpec.upto explainReasonsSpec)

/-- 'cordonlaw.ExplainFailures', WHERE WHAT IT READS IS OF BULK AT MOST 1048576: true; the input reads as it did. -/
def explainFailuresUptoRow : OpenClaim := { program := "ytijohkhpigjbkaegreatdoor", sum := "ed43b4fc46bb083a9d69d4b7ade3879b52049b6cb3ceeb0d05b721249c2220e9", func := "cordon/cordonlaw.ExplainFailures", spec := "explainFailures", unfollowed := true, recurses := true, named := ["math/bits.deBruijn64tab"], plainKeys := false, apart := false, laid := [("math/bits.deBruijn64tab", laid_math_bits_deBruijn64tab)], narrowed := true }
def ExplainFailuresUptoSaid : Prop := explainFailuresUptoRow.holds Tryz.pinned (OpenSpec.upto explainFailuresSpec)

/-- 'cordonlaw.ExplainHolds', WHERE WHAT IT READS IS OF BULK AT MOST 1048576: true; the input reads as it did. -/
def explainHoldsUptoRow : OpenClaim := { program := "ytijohkhpigjbkaegreatdoor", sum := "ed43b4fc46bb083a9d69d4b7ade3879b52049b6cb3ceeb0d05b721249c2220e9", func := "cordon/cordonlaw.ExplainHolds", spec := "explainHolds", unfollowed := true, recurses := true, named := ["math/bits.deBruijn64tab"], plainKeys := false, apart := false, laid := [("math/bits.deBruijn64tab", laid_math_bits_deBruijn64tab)], narrowed := true }
def ExplainHoldsUptoSaid : Prop := explainHoldsUptoRow.holds Tryz.pinned (OpenSpec.upto explainHoldsSpec)

/-- 'cordonlaw.LearnLearns', WHERE WHAT IT READS IS OF BULK AT MOST 1048576: true; the input reads as it did. -/
def learnLearnsUptoRow : OpenClaim := { program := "ytijohkhpigjbkaegreatdoor", sum := "ed43b4fc46bb083a9d69d4b7ade3879b52049b6cb3ceeb0d05b721249c2220e9", func := "cordon/cordonlaw.LearnLearns", spec := "learnLearns", unfollowed := true, recurses := true, named := ["math/bits.deBruijn64tab"], plainKeys := false, apart := false, laid := [("math/bits.deBruijn64tab", laid_math_bits_deBruijn64tab)], narrowed := true }
def LearnLearnsUptoSaid : Prop := learnLearnsUptoRow.holds Tryz.pinned (OpenSpec.upto learnLearnsSpec)

/-- 'cordonlaw.LearnSteps', WHERE WHAT IT READS IS OF BULK AT MOST 1048576: true; the input reads as it did. -/
def learnStepsUptoRow : OpenClaim := { program := "ytijohkhpigjbkaegreatdoor", sum := "ed43b4fc46bb083a9d69d4b7ade3879b52049b6cb3ceeb0d05b721249c2220e9", func := "cordon/cordonlaw.LearnSteps", spec := "learnSteps", unfollowed := true, recurses := true, named := ["math/bits.deBruijn64tab"], plainKeys := false, apart := false, laid := [("math/bits.deBruijn64tab", laid_math_bits_deBruijn64tab)], narrowed := true }
def LearnStepsUptoSaid : Prop := learnStepsUptoRow.holds Tryz.pinned (OpenSpec.upto learnStepsSpec)

/-- 'cordonlaw.LearnHolds', WHERE WHAT IT READS IS OF BULK AT MOST 1048576: true; the input reads as it did. -/
def learnHoldsUptoRow : OpenClaim := { program := "ytijohkhpigjbkaegreatdoor", sum := "ed43b4fc46bb083a9d69d4b7ade3879b52049b6cb3ceeb0d05b721249c2220e9", func := "cordon/cordonlaw.LearnHolds", spec := "learnHolds", unfollowed := true, recurses := true, named := ["math/bits.deBruijn64tab"], plainKeys := false, apart := false, laid := [("math/bits.deBruijn64tab", laid_math_bits_deBruijn64tab)], narrowed := true }
def LearnHoldsUptoSaid : Prop := learnHoldsUptoRow.holds Tryz.pinned (OpenSpec.upto learnHoldsSpec)

end Rows
end Go.Proofs.YtijohkhpigjbkaeGreatDoor
