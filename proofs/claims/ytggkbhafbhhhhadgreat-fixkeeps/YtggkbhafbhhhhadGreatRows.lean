/-
  No cell of these rows narrows 'for every input' (looked for: loops, veiled, ifaces, maps, wideKeys, modest, calm, conditions, laid).
  DERIVED. THE GIVEN ROWS OF THIS SEAT. 3 by the template 'for every input the law returns true; each argument reads behind the call as it read before'; 0 by the template 'total and deterministic' (their statements: YtggkbhafbhhhhadGreatTotals.lean).
  GIVEN WITH THE SEED: the statements are not yours to turn. If you find one false, say at which input.
  Laid BY PROGRAM, IN A SANDBOX (cutbox-rows.mjs): the forced cells as the released guide's own fill.sh prints them over the translation 82b6f07d5f0a98fc… (all of the seat's roots in one cut). By AI agents, Wed Nov 11 2026. No macro, syntax, notation, axiom, sorry.
-/
import Derived.Test.YtggkbhafbhhhhadGreatChecked
import GoSem.Claim
import GoSem.ClaimJoined
import GoSem.ClaimMapViews
import Derived.JoinedTies
import Derived.KernelRfl
namespace Go.Proofs.YtggkbhafbhhhhadGreat
/- THE CELL 'sum', in the pinned program and in every row, IS THE sha256 OF THE DUMP (.gsa) THAT YtggkbhafbhhhhadGreatProg.lean LOADS. Nothing in Lean hashes anything: it is a label: what it is worth is what the hold of that sum in a sandbox is worth. -/
noncomputable def Tryz.pinned : Pinned := { name := "ytggkbhafbhhhhadgreat", sum := "82b6f07d5f0a98fc4da8ea0ddeaca6bbe8da8cbc1bc2fe3ce0fc03ee5003e8db", checked := Tryz.checked }
namespace Rows
def none {H : Type} : Left H := { results := [], args := [] }

/-- 'cordonlaw.FixTells': WHATEVER THE INPUT: true; the input reads as it did. -/
def fixTellsSpec : ChangeSpec := { name := "fixTells", fn := fun _ => fun
  | [d1, d2, d3] => { results := [.lit (.bool true)], args := [d1, d2, d3] }
  | _ => none }
def fixTellsRow : OpenClaim := { program := "ytggkbhafbhhhhadgreat", sum := "82b6f07d5f0a98fc4da8ea0ddeaca6bbe8da8cbc1bc2fe3ce0fc03ee5003e8db", func := "cordon/cordonlaw.FixTells", spec := "fixTells", unfollowed := true, recurses := true, plainKeys := false, apart := false }
def FixTellsSaid : Prop := fixTellsRow.holds Tryz.pinned (OpenSpec.ofChange fixTellsSpec)

/-- ITS FALSE NEIGHBOUR: 'it returns false'. Refute it at one input. -/
def fixTellsWrong : ChangeSpec := { name := "fixTells", fn := fun _ => fun
  | [d1, d2, d3] => { results := [.lit (.bool false)], args := [d1, d2, d3] }
  | _ => none }
def FixTellsWrongFalsely : Prop := fixTellsRow.holds Tryz.pinned (OpenSpec.ofChange fixTellsWrong)

/-- 'cordonlaw.FixKeeps': WHATEVER THE INPUT: true; the input reads as it did. -/
def fixKeepsSpec : ChangeSpec := { name := "fixKeeps", fn := fun _ => fun
  | [d1, d2, d3, d4] => { results := [.lit (.bool true)], args := [d1, d2, d3, d4] }
  | _ => none }
def fixKeepsRow : OpenClaim := { program := "ytggkbhafbhhhhadgreat", sum := "82b6f07d5f0a98fc4da8ea0ddeaca6bbe8da8cbc1bc2fe3ce0fc03ee5003e8db", func := "cordon/cordonlaw.FixKeeps", spec := "fixKeeps", unfollowed := true, recurses := true, plainKeys := false, apart := false }
def FixKeepsSaid : Prop := fixKeepsRow.holds Tryz.pinned (OpenSpec.ofChange fixKeepsSpec)

/-- ITS FALSE NEIGHBOUR: 'it returns false'. Refute it at one input. -/
def fixKeepsWrong : ChangeSpec := { name := "fixKeeps", fn := fun _ => fun
  | [d1, d2, d3, d4] => { results := [.lit (.bool false)], args := [d1, d2, d3, d4] }
  | _ => none }
def FixKeepsWrongFalsely : Prop := fixKeepsRow.holds Tryz.pinned (OpenSpec.ofChange fixKeepsWrong)

/-- 'cordonlaw.FixAgain': WHATEVER THE INPUT: true; the input reads as it did. -/
def fixAgainSpec : ChangeSpec := { name := "fixAgain", fn := fun _ => fun
  | [d1, d2, d3, d4] => { results := [.lit (.bool true)], args := [d1, d2, d3, d4] }
  | _ => none }
def fixAgainRow : OpenClaim := { program := "ytggkbhafbhhhhadgreat", sum := "82b6f07d5f0a98fc4da8ea0ddeaca6bbe8da8cbc1bc2fe3ce0fc03ee5003e8db", func := "cordon/cordonlaw.FixAgain", spec := "fixAgain", unfollowed := true, recurses := true, plainKeys := false, apart := false }
def FixAgainSaid : Prop := fixAgainRow.holds Tryz.pinned (OpenSpec.ofChange fixAgainSpec)

/-- ITS FALSE NEIGHBOUR: 'it returns false'. Refute it at one input. -/
def fixAgainWrong : ChangeSpec := { name := "fixAgain", fn := fun _ => fun
  | [d1, d2, d3, d4] => { results := [.lit (.bool false)], args := [d1, d2, d3, d4] }
  | _ => none }
def FixAgainWrongFalsely : Prop := fixAgainRow.holds Tryz.pinned (OpenSpec.ofChange fixAgainWrong)

/- THE SECOND FORM. 'bulk': how many values and letters a reading holds, each counted each time it is reached (what is shared counts as often as it is met; a slice's spare places count too). A statement '..UptoSaid' is the law's where the arguments, and the package variables that the reading takes, are together of bulk at most 1048576: NARROWER than '..Said'. Prove '..Said' where nothing that the law and all that it calls make is longer than what came in: it says more and counts as full. Else prove '..UptoSaid'. A law counts once. -/
mutual
def uptoBulk {H : Type} : DataW H → Nat
  | .lit (.string bytes) => bytes.length + 1
  | .lit _ => 1
  | .nil => 1
  | .ptr d => uptoBulk d + 1
  | .slice elems spare => uptoBulkAll elems + uptoBulkAll spare + 1
  | .agg parts => uptoBulkAll parts + 1
  | .iface _ d => uptoBulk d + 1
  | .map entries => uptoBulkEntries entries + 1
  | .held _ => 1
def uptoBulkAll {H : Type} : List (DataW H) → Nat
  | [] => 0
  | d :: r => uptoBulk d + uptoBulkAll r
def uptoBulkEntries {H : Type} : List (Lit × DataW H) → Nat
  | [] => 0
  | x :: r => uptoBulkEntry x + uptoBulkEntries r
def uptoBulkEntry {H : Type} : Lit × DataW H → Nat
  | (.string bytes, d) => bytes.length + uptoBulk d + 1
  | (_, d) => uptoBulk d + 1
 end
def uptoSmall : (H : Type) → List (DataW H) → Bool := fun _ ds => decide (uptoBulkAll ds ≤ 1048576)
def OpenSpec.upto (s : _root_.Go.ChangeSpec) : _root_.Go.OpenSpec := { _root_.Go.OpenSpec.ofChange s with cond := some uptoSmall }

/-- 'cordonlaw.FixTells', WHERE WHAT IT READS IS OF BULK AT MOST 1048576: true; the input reads as it did. -/
def fixTellsUptoRow : OpenClaim := { program := "ytggkbhafbhhhhadgreat", sum := "82b6f07d5f0a98fc4da8ea0ddeaca6bbe8da8cbc1bc2fe3ce0fc03ee5003e8db", func := "cordon/cordonlaw.FixTells", spec := "fixTells", unfollowed := true, recurses := true, plainKeys := false, apart := false, narrowed := true }
def FixTellsUptoSaid : Prop := fixTellsUptoRow.holds Tryz.pinned (OpenSpec.upto fixTellsSpec)

/-- 'cordonlaw.FixKeeps', WHERE WHAT IT READS IS OF BULK AT MOST 1048576: true; the input reads as it did. -/
def fixKeepsUptoRow : OpenClaim := { program := "ytggkbhafbhhhhadgreat", sum := "82b6f07d5f0a98fc4da8ea0ddeaca6bbe8da8cbc1bc2fe3ce0fc03ee5003e8db", func := "cordon/cordonlaw.FixKeeps", spec := "fixKeeps", unfollowed := true, recurses := true, plainKeys := false, apart := false, narrowed := true }
def FixKeepsUptoSaid : Prop := fixKeepsUptoRow.holds Tryz.pinned (OpenSpec.upto fixKeepsSpec)

/-- 'cordonlaw.FixAgain', WHERE WHAT IT READS IS OF BULK AT MOST 1048576: true; the input reads as it did. -/
def fixAgainUptoRow : OpenClaim := { program := "ytggkbhafbhhhhadgreat", sum := "82b6f07d5f0a98fc4da8ea0ddeaca6bbe8da8cbc1bc2fe3ce0fc03ee5003e8db", func := "cordon/cordonlaw.FixAgain", spec := "fixAgain", unfollowed := true, recurses := true, plainKeys := false, apart := false, narrowed := true }
def FixAgainUptoSaid : Prop := fixAgainUptoRow.holds Tryz.pinned (OpenSpec.upto fixAgainSpec)

end Rows
end Go.Proofs.YtggkbhafbhhhhadGreat
