/-
  DERIVED. GIVEN WITH THE SEED: THE CARDS: each row of YtndcpnlaadikoaaGreatDoorRows.lean that lists a variable, with what it lists TIED to the program's text (the seventh form; the later family's looks); each row that meets fmt, with fmt's text TOLD by the authors' own Lean function (tested against real Go, not proved from fmt's source: count such statements apart). THE CARD IS WHAT COUNTS. Prove the row's statement (the work); the ties are given (YtndcpnlaadikoaaGreatDoorTie.lean); close each card by the builder's one call (the guide's Derived/Test/ToyasCard.lean, 'card_holds'). Laid BY PROGRAM, IN A SANDBOX (cutbox-door.mjs). By AI agents, Wed Nov 11 2026. No macro, syntax, notation, axiom, sorry.
-/
import Derived.Test.YtndcpnlaadikoaaGreatDoorRows
import GoSem.ClaimSeven
namespace Go.Proofs.YtndcpnlaadikoaaGreatDoor
namespace Rows

/-- THE TIED CARD OF 'cordonlaw.LearnSteps'. -/
def learnStepsCard : Claim7 := { stood := { row := learnStepsRow, standIns := [], harness := (true, "023a6b47117de1f7971a87c6f0f99243e0e4b822cfe93f4736cb17ef44298768"), looks := true }, kinds := [], alts := [], laidByText := true, laidKinds := [.data], laidTests := true, laidLooks := .later }
def LearnStepsCardSaid : Prop := Claim7.holds Tryz.pinned (.plain (OpenSpec.ofChange learnStepsSpec)) learnStepsCard

/-- THE TIED CARD OF 'cordonlaw.ReportVerifies'. -/
def reportVerifiesCard : Claim7 := { stood := { row := reportVerifiesRow, standIns := [], harness := (true, "023a6b47117de1f7971a87c6f0f99243e0e4b822cfe93f4736cb17ef44298768"), looks := true }, kinds := [], alts := [], laidByText := true, laidKinds := [.data, .data, .data, .sentinel, .sentinel], laidTests := true, laidLooks := .later }
def ReportVerifiesCardSaid : Prop := Claim7.holds Tryz.pinned (.plain (OpenSpec.ofChange reportVerifiesSpec)) reportVerifiesCard

/-- THE TIED CARD OF 'cordonlaw.RestModels'. -/
def restModelsCard : Claim7 := { stood := { row := restModelsRow, standIns := [], harness := (true, "023a6b47117de1f7971a87c6f0f99243e0e4b822cfe93f4736cb17ef44298768"), looks := true }, kinds := [], alts := [], laidByText := true, laidKinds := [.data, .data, .data, .sentinel, .sentinel], laidTests := true, laidLooks := .later }
def RestModelsCardSaid : Prop := Claim7.holds Tryz.pinned (.plain (OpenSpec.ofChange restModelsSpec)) restModelsCard

/-- THE SECOND FORM's CARD OF 'cordonlaw.LearnSteps'. -/
def learnStepsUptoCard : Claim7 := { stood := { row := learnStepsUptoRow, standIns := [], harness := (true, "023a6b47117de1f7971a87c6f0f99243e0e4b822cfe93f4736cb17ef44298768"), looks := true }, kinds := [], alts := [], laidByText := true, laidKinds := [.data], laidTests := true, laidLooks := .later }
def LearnStepsUptoCardSaid : Prop := Claim7.holds Tryz.pinned (.plain (OpenSpec.upto learnStepsSpec)) learnStepsUptoCard

/-- THE SECOND FORM's CARD OF 'cordonlaw.ReportVerifies'. -/
def reportVerifiesUptoCard : Claim7 := { stood := { row := reportVerifiesUptoRow, standIns := [], harness := (true, "023a6b47117de1f7971a87c6f0f99243e0e4b822cfe93f4736cb17ef44298768"), looks := true }, kinds := [], alts := [], laidByText := true, laidKinds := [.data, .data, .data, .sentinel, .sentinel], laidTests := true, laidLooks := .later }
def ReportVerifiesUptoCardSaid : Prop := Claim7.holds Tryz.pinned (.plain (OpenSpec.upto reportVerifiesSpec)) reportVerifiesUptoCard

/-- THE SECOND FORM's CARD OF 'cordonlaw.RestModels'. -/
def restModelsUptoCard : Claim7 := { stood := { row := restModelsUptoRow, standIns := [], harness := (true, "023a6b47117de1f7971a87c6f0f99243e0e4b822cfe93f4736cb17ef44298768"), looks := true }, kinds := [], alts := [], laidByText := true, laidKinds := [.data, .data, .data, .sentinel, .sentinel], laidTests := true, laidLooks := .later }
def RestModelsUptoCardSaid : Prop := Claim7.holds Tryz.pinned (.plain (OpenSpec.upto restModelsSpec)) restModelsUptoCard
end Rows
end Go.Proofs.YtndcpnlaadikoaaGreatDoor
