/-
  DERIVED. GIVEN WITH THE SEED: THE CARDS: each row of YtddaebbllhiidaeGreatDoorRows.lean that lists a variable, with what it lists TIED to the program's text (the seventh form; the later family's looks); each row that meets fmt, with fmt's text TOLD by the authors' own Lean function (tested against real Go, not proved from fmt's source: count such statements apart). THE CARD IS WHAT COUNTS. Prove the row's statement (the work); the ties are given (YtddaebbllhiidaeGreatDoorTie.lean); close each card by the builder's one call (the guide's Derived/Test/ToyasCard.lean, 'card_holds'). Laid BY PROGRAM, IN A SANDBOX (cutbox-door.mjs). By AI agents, Wed Nov 11 2026. No macro, syntax, notation, axiom, sorry.
-/
import Derived.Test.YtddaebbllhiidaeGreatDoorRows
import GoSem.ClaimSeven
namespace Go.Proofs.YtddaebbllhiidaeGreatDoor
namespace Rows

/-- THE TIED CARD OF 'cordonlaw.ExplainReasons'. -/
def explainReasonsCard : Claim7 := { stood := { row := explainReasonsRow, standIns := [], harness := (true, "998452d840deb6b25c98648f0f7ec59f2f89184a1ee1e89cf7852957c7452382"), looks := false }, kinds := [], alts := [], laidByText := true, laidKinds := [.data], laidTests := true, laidLooks := .later }
def ExplainReasonsCardSaid : Prop := Claim7.holds Tryz.pinned (.plain (OpenSpec.ofChange explainReasonsSpec)) explainReasonsCard

/-- THE TIED CARD OF 'cordonlaw.ExplainFailures'. -/
def explainFailuresCard : Claim7 := { stood := { row := explainFailuresRow, standIns := [], harness := (true, "998452d840deb6b25c98648f0f7ec59f2f89184a1ee1e89cf7852957c7452382"), looks := false }, kinds := [], alts := [], laidByText := true, laidKinds := [.data], laidTests := true, laidLooks := .later }
def ExplainFailuresCardSaid : Prop := Claim7.holds Tryz.pinned (.plain (OpenSpec.ofChange explainFailuresSpec)) explainFailuresCard

/-- THE TIED CARD OF 'cordonlaw.ExplainHolds'. -/
def explainHoldsCard : Claim7 := { stood := { row := explainHoldsRow, standIns := [], harness := (true, "998452d840deb6b25c98648f0f7ec59f2f89184a1ee1e89cf7852957c7452382"), looks := false }, kinds := [], alts := [], laidByText := true, laidKinds := [.data], laidTests := true, laidLooks := .later }
def ExplainHoldsCardSaid : Prop := Claim7.holds Tryz.pinned (.plain (OpenSpec.ofChange explainHoldsSpec)) explainHoldsCard

/-- THE SECOND FORM's CARD OF 'cordonlaw.ExplainReasons'. -/
def explainReasonsUptoCard : Claim7 := { stood := { row := explainReasonsUptoRow, standIns := [], harness := (true, "998452d840deb6b25c98648f0f7ec59f2f89184a1ee1e89cf7852957c7452382"), looks := false }, kinds := [], alts := [], laidByText := true, laidKinds := [.data], laidTests := true, laidLooks := .later }
def ExplainReasonsUptoCardSaid : Prop := Claim7.holds Tryz.pinned (.plain (OpenSpec.upto explainReasonsSpec)) explainReasonsUptoCard

/-- THE SECOND FORM's CARD OF 'cordonlaw.ExplainFailures'. -/
def explainFailuresUptoCard : Claim7 := { stood := { row := explainFailuresUptoRow, standIns := [], harness := (true, "998452d840deb6b25c98648f0f7ec59f2f89184a1ee1e89cf7852957c7452382"), looks := false }, kinds := [], alts := [], laidByText := true, laidKinds := [.data], laidTests := true, laidLooks := .later }
def ExplainFailuresUptoCardSaid : Prop := Claim7.holds Tryz.pinned (.plain (OpenSpec.upto explainFailuresSpec)) explainFailuresUptoCard

/-- THE SECOND FORM's CARD OF 'cordonlaw.ExplainHolds'. -/
def explainHoldsUptoCard : Claim7 := { stood := { row := explainHoldsUptoRow, standIns := [], harness := (true, "998452d840deb6b25c98648f0f7ec59f2f89184a1ee1e89cf7852957c7452382"), looks := false }, kinds := [], alts := [], laidByText := true, laidKinds := [.data], laidTests := true, laidLooks := .later }
def ExplainHoldsUptoCardSaid : Prop := Claim7.holds Tryz.pinned (.plain (OpenSpec.upto explainHoldsSpec)) explainHoldsUptoCard
end Rows
end Go.Proofs.YtddaebbllhiidaeGreatDoor
