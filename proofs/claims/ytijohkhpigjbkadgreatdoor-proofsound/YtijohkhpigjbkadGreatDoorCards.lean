/-
  DERIVED. GIVEN WITH THE SEED: THE CARDS: each row of YtijohkhpigjbkadGreatDoorRows.lean that lists a variable, with what it lists TIED to the program's text (the seventh form; the later family's looks); each row that meets fmt, with fmt's text TOLD by the authors' own Lean function (tested against real Go, not proved from fmt's source: count such statements apart). THE CARD IS WHAT COUNTS. Prove the row's statement (the work); the ties are given (YtijohkhpigjbkadGreatDoorTie.lean); close each card by the builder's one call (the guide's Derived/Test/ToyasCard.lean, 'card_holds'). Laid BY PROGRAM, IN A SANDBOX (cutbox-door.mjs). By AI agents, Wed Nov 11 2026. No macro, syntax, notation, axiom, sorry.
-/
import Derived.Test.YtijohkhpigjbkadGreatDoorRows
import GoSem.ClaimSeven
namespace Go.Proofs.YtijohkhpigjbkadGreatDoor
namespace Rows

/-- THE TIED CARD OF 'cordonlaw.ProofSays'. -/
def proofSaysCard : Claim7 := { stood := { row := proofSaysRow, standIns := [], harness := (true, "50af03da8cf47fe50cf4c8515f3932b0bcdbc9f7342eaa4b4fa4e16e250b4cb0"), looks := false }, kinds := [], alts := [], laidByText := true, laidKinds := [.data], laidTests := true, laidLooks := .later }
def ProofSaysCardSaid : Prop := Claim7.holds Tryz.pinned (.plain (OpenSpec.ofChange proofSaysSpec)) proofSaysCard

/-- THE TIED CARD OF 'cordonlaw.ProofChecks'. -/
def proofChecksCard : Claim7 := { stood := { row := proofChecksRow, standIns := [], harness := (true, "50af03da8cf47fe50cf4c8515f3932b0bcdbc9f7342eaa4b4fa4e16e250b4cb0"), looks := false }, kinds := [], alts := [], laidByText := true, laidKinds := [.data], laidTests := true, laidLooks := .later }
def ProofChecksCardSaid : Prop := Claim7.holds Tryz.pinned (.plain (OpenSpec.ofChange proofChecksSpec)) proofChecksCard

/-- THE TIED CARD OF 'cordonlaw.ProofSound'. -/
def proofSoundCard : Claim7 := { stood := { row := proofSoundRow, standIns := [], harness := (true, "50af03da8cf47fe50cf4c8515f3932b0bcdbc9f7342eaa4b4fa4e16e250b4cb0"), looks := false }, kinds := [], alts := [], laidByText := true, laidKinds := [.data], laidTests := true, laidLooks := .later }
def ProofSoundCardSaid : Prop := Claim7.holds Tryz.pinned (.plain (OpenSpec.ofChange proofSoundSpec)) proofSoundCard

/-- THE SECOND FORM's CARD OF 'cordonlaw.ProofSays'. -/
def proofSaysUptoCard : Claim7 := { stood := { row := proofSaysUptoRow, standIns := [], harness := (true, "50af03da8cf47fe50cf4c8515f3932b0bcdbc9f7342eaa4b4fa4e16e250b4cb0"), looks := false }, kinds := [], alts := [], laidByText := true, laidKinds := [.data], laidTests := true, laidLooks := .later }
def ProofSaysUptoCardSaid : Prop := Claim7.holds Tryz.pinned (.plain (OpenSpec.upto proofSaysSpec)) proofSaysUptoCard

/-- THE SECOND FORM's CARD OF 'cordonlaw.ProofChecks'. -/
def proofChecksUptoCard : Claim7 := { stood := { row := proofChecksUptoRow, standIns := [], harness := (true, "50af03da8cf47fe50cf4c8515f3932b0bcdbc9f7342eaa4b4fa4e16e250b4cb0"), looks := false }, kinds := [], alts := [], laidByText := true, laidKinds := [.data], laidTests := true, laidLooks := .later }
def ProofChecksUptoCardSaid : Prop := Claim7.holds Tryz.pinned (.plain (OpenSpec.upto proofChecksSpec)) proofChecksUptoCard

/-- THE SECOND FORM's CARD OF 'cordonlaw.ProofSound'. -/
def proofSoundUptoCard : Claim7 := { stood := { row := proofSoundUptoRow, standIns := [], harness := (true, "50af03da8cf47fe50cf4c8515f3932b0bcdbc9f7342eaa4b4fa4e16e250b4cb0"), looks := false }, kinds := [], alts := [], laidByText := true, laidKinds := [.data], laidTests := true, laidLooks := .later }
def ProofSoundUptoCardSaid : Prop := Claim7.holds Tryz.pinned (.plain (OpenSpec.upto proofSoundSpec)) proofSoundUptoCard
end Rows
end Go.Proofs.YtijohkhpigjbkadGreatDoor
