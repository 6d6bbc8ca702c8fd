/-
  DERIVED. GIVEN WITH THE SEED: THE CARDS: each row of YtdjbejlbmaiocagGreatDoorRows.lean that lists a variable, with what it lists TIED to the program's text (the seventh form; the later family's looks); each row that meets fmt, with fmt's text TOLD by the authors' own Lean function (tested against real Go, not proved from fmt's source: count such statements apart). THE CARD IS WHAT COUNTS. Prove the row's statement (the work); the ties are given (YtdjbejlbmaiocagGreatDoorTie.lean); close each card by the builder's one call (the guide's Derived/Test/ToyasCard.lean, 'card_holds'). Laid BY PROGRAM, IN A SANDBOX (cutbox-door.mjs). By AI agents, Wed Nov 11 2026. No macro, syntax, notation, axiom, sorry.
-/
import Derived.Test.YtdjbejlbmaiocagGreatDoorRows
import GoSem.ClaimSeven
namespace Go.Proofs.YtdjbejlbmaiocagGreatDoor
namespace Rows

/-- THE TIED CARD OF 'cordonlaw.BestTells'. -/
def bestTellsCard : Claim7 := { stood := { row := bestTellsRow, standIns := [], harness := (true, "73c36ac0ef82635f7bfdd26f848ae87d98b991ccade6ebcf433434b2cf58c3f7"), looks := true }, kinds := [], alts := [], laidByText := true, laidKinds := [.data], laidTests := true, laidLooks := .later }
def BestTellsCardSaid : Prop := Claim7.holds Tryz.pinned (.plain (OpenSpec.ofChange bestTellsSpec)) bestTellsCard

/-- THE TIED CARD OF 'cordonlaw.BestLeast'. -/
def bestLeastCard : Claim7 := { stood := { row := bestLeastRow, standIns := [], harness := (true, "73c36ac0ef82635f7bfdd26f848ae87d98b991ccade6ebcf433434b2cf58c3f7"), looks := true }, kinds := [], alts := [], laidByText := true, laidKinds := [.data], laidTests := true, laidLooks := .later }
def BestLeastCardSaid : Prop := Claim7.holds Tryz.pinned (.plain (OpenSpec.ofChange bestLeastSpec)) bestLeastCard

/-- THE TIED CARD OF 'cordonlaw.ReportAnswers'. -/
def reportAnswersCard : Claim7 := { stood := { row := reportAnswersRow, standIns := [], harness := (true, "73c36ac0ef82635f7bfdd26f848ae87d98b991ccade6ebcf433434b2cf58c3f7"), looks := true }, kinds := [], alts := [], laidByText := true, laidKinds := [.data, .data, .data, .sentinel, .sentinel], laidTests := true, laidLooks := .later }
def ReportAnswersCardSaid : Prop := Claim7.holds Tryz.pinned (.plain (OpenSpec.ofChange reportAnswersSpec)) reportAnswersCard

/-- THE TIED CARD OF 'cordonlaw.ReportVerifies'. -/
def reportVerifiesCard : Claim7 := { stood := { row := reportVerifiesRow, standIns := [], harness := (true, "73c36ac0ef82635f7bfdd26f848ae87d98b991ccade6ebcf433434b2cf58c3f7"), looks := true }, kinds := [], alts := [], laidByText := true, laidKinds := [.data, .data, .data, .sentinel, .sentinel], laidTests := true, laidLooks := .later }
def ReportVerifiesCardSaid : Prop := Claim7.holds Tryz.pinned (.plain (OpenSpec.ofChange reportVerifiesSpec)) reportVerifiesCard

/-- THE TIED CARD OF 'cordonlaw.ReportWhole'. -/
def reportWholeCard : Claim7 := { stood := { row := reportWholeRow, standIns := [], harness := (true, "73c36ac0ef82635f7bfdd26f848ae87d98b991ccade6ebcf433434b2cf58c3f7"), looks := true }, kinds := [], alts := [], laidByText := true, laidKinds := [.data, .data, .data, .sentinel, .sentinel], laidTests := true, laidLooks := .later }
def ReportWholeCardSaid : Prop := Claim7.holds Tryz.pinned (.plain (OpenSpec.ofChange reportWholeSpec)) reportWholeCard

/-- THE TIED CARD OF 'cordonlaw.RestModels'. -/
def restModelsCard : Claim7 := { stood := { row := restModelsRow, standIns := [], harness := (true, "73c36ac0ef82635f7bfdd26f848ae87d98b991ccade6ebcf433434b2cf58c3f7"), looks := true }, kinds := [], alts := [], laidByText := true, laidKinds := [.data, .data, .data, .sentinel, .sentinel], laidTests := true, laidLooks := .later }
def RestModelsCardSaid : Prop := Claim7.holds Tryz.pinned (.plain (OpenSpec.ofChange restModelsSpec)) restModelsCard

/-- THE SECOND FORM's CARD OF 'cordonlaw.BestTells'. -/
def bestTellsUptoCard : Claim7 := { stood := { row := bestTellsUptoRow, standIns := [], harness := (true, "73c36ac0ef82635f7bfdd26f848ae87d98b991ccade6ebcf433434b2cf58c3f7"), looks := true }, kinds := [], alts := [], laidByText := true, laidKinds := [.data], laidTests := true, laidLooks := .later }
def BestTellsUptoCardSaid : Prop := Claim7.holds Tryz.pinned (.plain (OpenSpec.upto bestTellsSpec)) bestTellsUptoCard

/-- THE SECOND FORM's CARD OF 'cordonlaw.BestLeast'. -/
def bestLeastUptoCard : Claim7 := { stood := { row := bestLeastUptoRow, standIns := [], harness := (true, "73c36ac0ef82635f7bfdd26f848ae87d98b991ccade6ebcf433434b2cf58c3f7"), looks := true }, kinds := [], alts := [], laidByText := true, laidKinds := [.data], laidTests := true, laidLooks := .later }
def BestLeastUptoCardSaid : Prop := Claim7.holds Tryz.pinned (.plain (OpenSpec.upto bestLeastSpec)) bestLeastUptoCard

/-- THE SECOND FORM's CARD OF 'cordonlaw.ReportAnswers'. -/
def reportAnswersUptoCard : Claim7 := { stood := { row := reportAnswersUptoRow, standIns := [], harness := (true, "73c36ac0ef82635f7bfdd26f848ae87d98b991ccade6ebcf433434b2cf58c3f7"), looks := true }, kinds := [], alts := [], laidByText := true, laidKinds := [.data, .data, .data, .sentinel, .sentinel], laidTests := true, laidLooks := .later }
def ReportAnswersUptoCardSaid : Prop := Claim7.holds Tryz.pinned (.plain (OpenSpec.upto reportAnswersSpec)) reportAnswersUptoCard

/-- THE SECOND FORM's CARD OF 'cordonlaw.ReportVerifies'. -/
def reportVerifiesUptoCard : Claim7 := { stood := { row := reportVerifiesUptoRow, standIns := [], harness := (true, "73c36ac0ef82635f7bfdd26f848ae87d98b991ccade6ebcf433434b2cf58c3f7"), looks := true }, kinds := [], alts := [], laidByText := true, laidKinds := [.data, .data, .data, .sentinel, .sentinel], laidTests := true, laidLooks := .later }
def ReportVerifiesUptoCardSaid : Prop := Claim7.holds Tryz.pinned (.plain (OpenSpec.upto reportVerifiesSpec)) reportVerifiesUptoCard

/-- THE SECOND FORM's CARD OF 'cordonlaw.ReportWhole'. -/
def reportWholeUptoCard : Claim7 := { stood := { row := reportWholeUptoRow, standIns := [], harness := (true, "73c36ac0ef82635f7bfdd26f848ae87d98b991ccade6ebcf433434b2cf58c3f7"), looks := true }, kinds := [], alts := [], laidByText := true, laidKinds := [.data, .data, .data, .sentinel, .sentinel], laidTests := true, laidLooks := .later }
def ReportWholeUptoCardSaid : Prop := Claim7.holds Tryz.pinned (.plain (OpenSpec.upto reportWholeSpec)) reportWholeUptoCard

/-- THE SECOND FORM's CARD OF 'cordonlaw.RestModels'. -/
def restModelsUptoCard : Claim7 := { stood := { row := restModelsUptoRow, standIns := [], harness := (true, "73c36ac0ef82635f7bfdd26f848ae87d98b991ccade6ebcf433434b2cf58c3f7"), looks := true }, kinds := [], alts := [], laidByText := true, laidKinds := [.data, .data, .data, .sentinel, .sentinel], laidTests := true, laidLooks := .later }
def RestModelsUptoCardSaid : Prop := Claim7.holds Tryz.pinned (.plain (OpenSpec.upto restModelsSpec)) restModelsUptoCard
end Rows
end Go.Proofs.YtdjbejlbmaiocagGreatDoor
