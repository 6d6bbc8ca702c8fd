/-
  DERIVED. GIVEN WITH THE SEED: THE CARDS: each row of YtijohkhpigjbkaeGreatDoorRows.lean that lists a variable, with what it lists TIED to the program's text (the seventh form; the later family's looks); each row that meets fmt, with fmt's text TOLD by the authors' own Lean function (tested against real Go, not proved from fmt's source: count such statements apart). THE CARD IS WHAT COUNTS. Prove the row's statement (the work); the ties are given (YtijohkhpigjbkaeGreatDoorTie.lean); close each card by the builder's one call (the guide's Derived/Test/ToyasCard.lean, 'card_holds'). Laid BY PROGRAM, IN A SANDBOX (cutbox-door.mjs). By AI agents, Wed Nov 11 2026. No macro, syntax, notation, axiom, sorry.
-/
import Derived.Test.YtijohkhpigjbkaeGreatDoorRows
import GoSem.ClaimSeven
namespace Go.Proofs.YtijohkhpigjbkaeGreatDoor
namespace Rows

/-- THE TIED CARD OF 'cordonlaw.ExplainReasons'. -/
def explainReasonsCard : Claim7 := { stood := { row := explainReasonsRow, standIns := [], harness := (true, "f19ba10ad0f0c33d5decd35d8ee86b7f9b9f4fe8ae9f1a7330c5f5e68530be23"), looks := false }, kinds := [], alts := [], laidByText := true, laidKinds := [.data], laidTests := true, laidLooks := .later }
def ExplainReasonsCardSaid : Prop := Claim7.holds Tryz.pinned (.plain (OpenSpec.ofChange explainReasonsSpec)) explainReasonsCard

/-- THE TIED CARD OF 'cordonlaw.ExplainFailures'. -/
def explainFailuresCard : Claim7 := { stood := { row := explainFailuresRow, standIns := [], harness := (true, "f19ba10ad0f0c33d5decd35d8ee86b7f9b9f4fe8ae9f1a7330c5f5e68530be23"), looks := false }, kinds := [], alts := [], laidByText := true, laidKinds := [.data], laidTests := true, laidLooks := .later }
def ExplainFailuresCardSaid : Prop := Claim7.holds Tryz.pinned (.plain (OpenSpec.ofChange explainFailuresSpec)) explainFailuresCard

/-- THE TIED CARD OF 'cordonlaw.ExplainHolds'. -/
def explainHoldsCard : Claim7 := { stood := { row := explainHoldsRow, standIns := [], harness := (true, "f19ba10ad0f0c33d5decd35d8ee86b7f9b9f4fe8ae9f1a7330c5f5e68530be23"), looks := false }, kinds := [], alts := [], laidByText := true, laidKinds := [.data], laidTests := true, laidLooks := .later }
def ExplainHoldsCardSaid : Prop := Claim7.holds Tryz.pinned (.plain (OpenSpec.ofChange explainHoldsSpec)) explainHoldsCard

/-- THE TIED CARD OF 'cordonlaw.LearnLearns'. -/
def learnLearnsCard : Claim7 := { stood := { row := learnLearnsRow, standIns := [], harness := (true, "f19ba10ad0f0c33d5decd35d8ee86b7f9b9f4fe8ae9f1a7330c5f5e68530be23"), looks := false }, kinds := [], alts := [], laidByText := true, laidKinds := [.data], laidTests := true, laidLooks := .later }
def LearnLearnsCardSaid : Prop := Claim7.holds Tryz.pinned (.plain (OpenSpec.ofChange learnLearnsSpec)) learnLearnsCard

/-- THE TIED CARD OF 'cordonlaw.LearnSteps'. -/
def learnStepsCard : Claim7 := { stood := { row := learnStepsRow, standIns := [], harness := (true, "f19ba10ad0f0c33d5decd35d8ee86b7f9b9f4fe8ae9f1a7330c5f5e68530be23"), looks := false }, kinds := [], alts := [], laidByText := true, laidKinds := [.data], laidTests := true, laidLooks := .later }
def LearnStepsCardSaid : Prop := Claim7.holds Tryz.pinned (.plain (OpenSpec.ofChange learnStepsSpec)) learnStepsCard

/-- THE TIED CARD OF 'cordonlaw.LearnHolds'. -/
def learnHoldsCard : Claim7 := { stood := { row := learnHoldsRow, standIns := [], harness := (true, "f19ba10ad0f0c33d5decd35d8ee86b7f9b9f4fe8ae9f1a7330c5f5e68530be23"), looks := false }, kinds := [], alts := [], laidByText := true, laidKinds := [.data], laidTests := true, laidLooks := .later }
def LearnHoldsCardSaid : Prop := Claim7.holds Tryz.pinned (.plain (OpenSpec.ofChange learnHoldsSpec)) learnHoldsCard

/-- THE SECOND FORM's CARD OF 'cordonlaw.ExplainReasons'. -/
def explainReasonsUptoCard : Claim7 := { stood := { row := explainReasonsUptoRow, standIns := [], harness := (true, "f19ba10ad0f0c33d5decd35d8ee86b7f9b9f4fe8ae9f1a7330c5f5e68530be23"), looks := false }, kinds := [], alts := [], laidByText := true, laidKinds := [.data], laidTests := true, laidLooks := .later }
def ExplainReasonsUptoCardSaid : Prop := Claim7.holds Tryz.pinned (.plain (OpenSpec.upto explainReasonsSpec)) explainReasonsUptoCard

/-- THE SECOND FORM's CARD OF 'cordonlaw.ExplainFailures'. -/
def explainFailuresUptoCard : Claim7 := { stood := { row := explainFailuresUptoRow, standIns := [], harness := (true, "f19ba10ad0f0c33d5decd35d8ee86b7f9b9f4fe8ae9f1a7330c5f5e68530be23"), looks := false }, kinds := [], alts := [], laidByText := true, laidKinds := [.data], laidTests := true, laidLooks := .later }
def ExplainFailuresUptoCardSaid : Prop := Claim7.holds Tryz.pinned (.plain (OpenSpec.upto explainFailuresSpec)) explainFailuresUptoCard

/-- THE SECOND FORM's CARD OF 'cordonlaw.ExplainHolds'. -/
def explainHoldsUptoCard : Claim7 := { stood := { row := explainHoldsUptoRow, standIns := [], harness := (true, "f19ba10ad0f0c33d5decd35d8ee86b7f9b9f4fe8ae9f1a7330c5f5e68530be23"), looks := false }, kinds := [], alts := [], laidByText := true, laidKinds := [.data], laidTests := true, laidLooks := .later }
def ExplainHoldsUptoCardSaid : Prop := Claim7.holds Tryz.pinned (.plain (OpenSpec.upto explainHoldsSpec)) explainHoldsUptoCard

/-- THE SECOND FORM's CARD OF 'cordonlaw.LearnLearns'. -/
def learnLearnsUptoCard : Claim7 := { stood := { row := learnLearnsUptoRow, standIns := [], harness := (true, "f19ba10ad0f0c33d5decd35d8ee86b7f9b9f4fe8ae9f1a7330c5f5e68530be23"), looks := false }, kinds := [], alts := [], laidByText := true, laidKinds := [.data], laidTests := true, laidLooks := .later }
def LearnLearnsUptoCardSaid : Prop := Claim7.holds Tryz.pinned (.plain (OpenSpec.upto learnLearnsSpec)) learnLearnsUptoCard

/-- THE SECOND FORM's CARD OF 'cordonlaw.LearnSteps'. -/
def learnStepsUptoCard : Claim7 := { stood := { row := learnStepsUptoRow, standIns := [], harness := (true, "f19ba10ad0f0c33d5decd35d8ee86b7f9b9f4fe8ae9f1a7330c5f5e68530be23"), looks := false }, kinds := [], alts := [], laidByText := true, laidKinds := [.data], laidTests := true, laidLooks := .later }
def LearnStepsUptoCardSaid : Prop := Claim7.holds Tryz.pinned (.plain (OpenSpec.upto learnStepsSpec)) learnStepsUptoCard

/-- THE SECOND FORM's CARD OF 'cordonlaw.LearnHolds'. -/
def learnHoldsUptoCard : Claim7 := { stood := { row := learnHoldsUptoRow, standIns := [], harness := (true, "f19ba10ad0f0c33d5decd35d8ee86b7f9b9f4fe8ae9f1a7330c5f5e68530be23"), looks := false }, kinds := [], alts := [], laidByText := true, laidKinds := [.data], laidTests := true, laidLooks := .later }
def LearnHoldsUptoCardSaid : Prop := Claim7.holds Tryz.pinned (.plain (OpenSpec.upto learnHoldsSpec)) learnHoldsUptoCard
end Rows
end Go.Proofs.YtijohkhpigjbkaeGreatDoor
