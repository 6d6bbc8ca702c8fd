/-
  DERIVED. GIVEN WITH THE SEED: THE CARDS: each row of YtdjbejlbmaiocafGreatDoorRows.lean that lists a variable, with what it lists TIED to the program's text (the seventh form; the later family's looks); each row that meets fmt, with fmt's text TOLD by the authors' own Lean function (tested against real Go, not proved from fmt's source: count such statements apart). THE CARD IS WHAT COUNTS. Prove the row's statement (the work); the ties are given (YtdjbejlbmaiocafGreatDoorTie.lean); close each card by the builder's one call (the guide's Derived/Test/ToyasCard.lean, 'card_holds'). Laid BY PROGRAM, IN A SANDBOX (cutbox-door.mjs). By AI agents, Wed Nov 11 2026. No macro, syntax, notation, axiom, sorry.
-/
import Derived.Test.YtdjbejlbmaiocafGreatDoorRows
import GoSem.ClaimSeven
namespace Go.Proofs.YtdjbejlbmaiocafGreatDoor
namespace Rows

/-- THE TIED CARD OF 'cordonlaw.SearchSolves'. -/
def searchSolvesCard : Claim7 := { stood := { row := searchSolvesRow, standIns := [], harness := (true, "8fb2f139b7f1f379c32e6c96313aab644042261cde95ee5e300ab5e914fd048d"), looks := false }, kinds := [], alts := [], laidByText := true, laidKinds := [.data], laidTests := true, laidLooks := .later }
def SearchSolvesCardSaid : Prop := Claim7.holds Tryz.pinned (.plain (OpenSpec.ofChange searchSolvesSpec)) searchSolvesCard

/-- THE TIED CARD OF 'cordonlaw.SearchMore'. -/
def searchMoreCard : Claim7 := { stood := { row := searchMoreRow, standIns := [], harness := (true, "8fb2f139b7f1f379c32e6c96313aab644042261cde95ee5e300ab5e914fd048d"), looks := false }, kinds := [], alts := [], laidByText := true, laidKinds := [.data], laidTests := true, laidLooks := .later }
def SearchMoreCardSaid : Prop := Claim7.holds Tryz.pinned (.plain (OpenSpec.ofChange searchMoreSpec)) searchMoreCard

/-- THE TIED CARD OF 'cordonlaw.SearchLists'. -/
def searchListsCard : Claim7 := { stood := { row := searchListsRow, standIns := [], harness := (true, "8fb2f139b7f1f379c32e6c96313aab644042261cde95ee5e300ab5e914fd048d"), looks := false }, kinds := [], alts := [], laidByText := true, laidKinds := [.data], laidTests := true, laidLooks := .later }
def SearchListsCardSaid : Prop := Claim7.holds Tryz.pinned (.plain (OpenSpec.ofChange searchListsSpec)) searchListsCard

/-- THE TIED CARD OF 'cordonlaw.SearchAgrees'. -/
def searchAgreesCard : Claim7 := { stood := { row := searchAgreesRow, standIns := [], harness := (true, "8fb2f139b7f1f379c32e6c96313aab644042261cde95ee5e300ab5e914fd048d"), looks := false }, kinds := [], alts := [], laidByText := true, laidKinds := [.data], laidTests := true, laidLooks := .later }
def SearchAgreesCardSaid : Prop := Claim7.holds Tryz.pinned (.plain (OpenSpec.ofChange searchAgreesSpec)) searchAgreesCard

/-- THE TIED CARD OF 'cordonlaw.RestStores'. -/
def restStoresCard : Claim7 := { stood := { row := restStoresRow, standIns := [], harness := (true, "8fb2f139b7f1f379c32e6c96313aab644042261cde95ee5e300ab5e914fd048d"), looks := false }, kinds := [], alts := [], laidByText := true, laidKinds := [.data], laidTests := true, laidLooks := .later }
def RestStoresCardSaid : Prop := Claim7.holds Tryz.pinned (.plain (OpenSpec.ofChange restStoresSpec)) restStoresCard

/-- THE TIED CARD OF 'cordonlaw.BestBetter'. -/
def bestBetterCard : Claim7 := { stood := { row := bestBetterRow, standIns := [], harness := (true, "8fb2f139b7f1f379c32e6c96313aab644042261cde95ee5e300ab5e914fd048d"), looks := false }, kinds := [], alts := [], laidByText := true, laidKinds := [.data], laidTests := true, laidLooks := .later }
def BestBetterCardSaid : Prop := Claim7.holds Tryz.pinned (.plain (OpenSpec.ofChange bestBetterSpec)) bestBetterCard

/-- THE SECOND FORM's CARD OF 'cordonlaw.SearchSolves'. -/
def searchSolvesUptoCard : Claim7 := { stood := { row := searchSolvesUptoRow, standIns := [], harness := (true, "8fb2f139b7f1f379c32e6c96313aab644042261cde95ee5e300ab5e914fd048d"), looks := false }, kinds := [], alts := [], laidByText := true, laidKinds := [.data], laidTests := true, laidLooks := .later }
def SearchSolvesUptoCardSaid : Prop := Claim7.holds Tryz.pinned (.plain (OpenSpec.upto searchSolvesSpec)) searchSolvesUptoCard

/-- THE SECOND FORM's CARD OF 'cordonlaw.SearchMore'. -/
def searchMoreUptoCard : Claim7 := { stood := { row := searchMoreUptoRow, standIns := [], harness := (true, "8fb2f139b7f1f379c32e6c96313aab644042261cde95ee5e300ab5e914fd048d"), looks := false }, kinds := [], alts := [], laidByText := true, laidKinds := [.data], laidTests := true, laidLooks := .later }
def SearchMoreUptoCardSaid : Prop := Claim7.holds Tryz.pinned (.plain (OpenSpec.upto searchMoreSpec)) searchMoreUptoCard

/-- THE SECOND FORM's CARD OF 'cordonlaw.SearchLists'. -/
def searchListsUptoCard : Claim7 := { stood := { row := searchListsUptoRow, standIns := [], harness := (true, "8fb2f139b7f1f379c32e6c96313aab644042261cde95ee5e300ab5e914fd048d"), looks := false }, kinds := [], alts := [], laidByText := true, laidKinds := [.data], laidTests := true, laidLooks := .later }
def SearchListsUptoCardSaid : Prop := Claim7.holds Tryz.pinned (.plain (OpenSpec.upto searchListsSpec)) searchListsUptoCard

/-- THE SECOND FORM's CARD OF 'cordonlaw.SearchAgrees'. -/
def searchAgreesUptoCard : Claim7 := { stood := { row := searchAgreesUptoRow, standIns := [], harness := (true, "8fb2f139b7f1f379c32e6c96313aab644042261cde95ee5e300ab5e914fd048d"), looks := false }, kinds := [], alts := [], laidByText := true, laidKinds := [.data], laidTests := true, laidLooks := .later }
def SearchAgreesUptoCardSaid : Prop := Claim7.holds Tryz.pinned (.plain (OpenSpec.upto searchAgreesSpec)) searchAgreesUptoCard

/-- THE SECOND FORM's CARD OF 'cordonlaw.RestStores'. -/
def restStoresUptoCard : Claim7 := { stood := { row := restStoresUptoRow, standIns := [], harness := (true, "8fb2f139b7f1f379c32e6c96313aab644042261cde95ee5e300ab5e914fd048d"), looks := false }, kinds := [], alts := [], laidByText := true, laidKinds := [.data], laidTests := true, laidLooks := .later }
def RestStoresUptoCardSaid : Prop := Claim7.holds Tryz.pinned (.plain (OpenSpec.upto restStoresSpec)) restStoresUptoCard

/-- THE SECOND FORM's CARD OF 'cordonlaw.BestBetter'. -/
def bestBetterUptoCard : Claim7 := { stood := { row := bestBetterUptoRow, standIns := [], harness := (true, "8fb2f139b7f1f379c32e6c96313aab644042261cde95ee5e300ab5e914fd048d"), looks := false }, kinds := [], alts := [], laidByText := true, laidKinds := [.data], laidTests := true, laidLooks := .later }
def BestBetterUptoCardSaid : Prop := Claim7.holds Tryz.pinned (.plain (OpenSpec.upto bestBetterSpec)) bestBetterUptoCard
end Rows
end Go.Proofs.YtdjbejlbmaiocafGreatDoor
