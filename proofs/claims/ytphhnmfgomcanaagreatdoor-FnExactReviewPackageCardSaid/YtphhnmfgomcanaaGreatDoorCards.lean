/-
  DERIVED. GIVEN WITH THE SEED: THE CARDS: each row of YtphhnmfgomcanaaGreatDoorRows.lean that lists a variable, with what it lists TIED to the program's text (the seventh form; the later family's looks); each row that meets fmt, with fmt's text TOLD by the authors' own Lean function (tested against real Go, not proved from fmt's source: count such statements apart). THE CARD IS WHAT COUNTS. Prove the row's statement (the work); the ties are given (YtphhnmfgomcanaaGreatDoorTie.lean); close each card by the builder's one call (the guide's Derived/Test/ToyasCard.lean, 'card_holds'). Laid BY PROGRAM, IN A SANDBOX (cutbox-door.mjs). By AI agents, Wed Nov 11 2026. No macro, syntax, notation, axiom, sorry.
-/
import Derived.Test.YtphhnmfgomcanaaGreatDoorRows
import GoSem.ClaimSeven
namespace Go.Proofs.YtphhnmfgomcanaaGreatDoor
namespace Rows

/-- THE TIED CARD OF 'laws.FnExactReviewPackage'. -/
def fnExactReviewPackageCard : Claim7 := { stood := { row := fnExactReviewPackageRow, standIns := [], harness := (true, "856b234c811a01e52e0ab513ba3bb92bf21ba76a44ec56225c5834b120d0abb6"), looks := true }, kinds := [], alts := [], laidByText := true, laidKinds := [.sentinel], laidTests := true, laidLooks := .later }
def FnExactReviewPackageCardSaid : Prop := Claim7.holds Tryz.pinned (.plain (OpenSpec.ofChange fnExactReviewPackageSpec)) fnExactReviewPackageCard

/-- THE TIED CARD OF 'laws.FnExactCanRollBack'. -/
def fnExactCanRollBackCard : Claim7 := { stood := { row := fnExactCanRollBackRow, standIns := [], harness := (true, "856b234c811a01e52e0ab513ba3bb92bf21ba76a44ec56225c5834b120d0abb6"), looks := true }, kinds := [], alts := [], laidByText := true, laidKinds := [.sentinel], laidTests := true, laidLooks := .later }
def FnExactCanRollBackCardSaid : Prop := Claim7.holds Tryz.pinned (.plain (OpenSpec.ofChange fnExactCanRollBackSpec)) fnExactCanRollBackCard

/-- THE TIED CARD OF 'laws.FnExactIsReviewed'. -/
def fnExactIsReviewedCard : Claim7 := { stood := { row := fnExactIsReviewedRow, standIns := [], harness := (true, "856b234c811a01e52e0ab513ba3bb92bf21ba76a44ec56225c5834b120d0abb6"), looks := true }, kinds := [], alts := [], laidByText := true, laidKinds := [.sentinel], laidTests := true, laidLooks := .later }
def FnExactIsReviewedCardSaid : Prop := Claim7.holds Tryz.pinned (.plain (OpenSpec.ofChange fnExactIsReviewedSpec)) fnExactIsReviewedCard

/-- THE TIED CARD OF 'laws.FnExactUpdateCode'. -/
def fnExactUpdateCodeCard : Claim7 := { stood := { row := fnExactUpdateCodeRow, standIns := [], harness := (true, "856b234c811a01e52e0ab513ba3bb92bf21ba76a44ec56225c5834b120d0abb6"), looks := true }, kinds := [], alts := [], laidByText := true, laidKinds := [.sentinel], laidTests := true, laidLooks := .later }
def FnExactUpdateCodeCardSaid : Prop := Claim7.holds Tryz.pinned (.plain (OpenSpec.ofChange fnExactUpdateCodeSpec)) fnExactUpdateCodeCard

/-- THE SECOND FORM's CARD OF 'laws.FnExactReviewPackage'. -/
def fnExactReviewPackageUptoCard : Claim7 := { stood := { row := fnExactReviewPackageUptoRow, standIns := [], harness := (true, "856b234c811a01e52e0ab513ba3bb92bf21ba76a44ec56225c5834b120d0abb6"), looks := true }, kinds := [], alts := [], laidByText := true, laidKinds := [.sentinel], laidTests := true, laidLooks := .later }
def FnExactReviewPackageUptoCardSaid : Prop := Claim7.holds Tryz.pinned (.plain (OpenSpec.upto fnExactReviewPackageSpec)) fnExactReviewPackageUptoCard

/-- THE SECOND FORM's CARD OF 'laws.FnExactCanRollBack'. -/
def fnExactCanRollBackUptoCard : Claim7 := { stood := { row := fnExactCanRollBackUptoRow, standIns := [], harness := (true, "856b234c811a01e52e0ab513ba3bb92bf21ba76a44ec56225c5834b120d0abb6"), looks := true }, kinds := [], alts := [], laidByText := true, laidKinds := [.sentinel], laidTests := true, laidLooks := .later }
def FnExactCanRollBackUptoCardSaid : Prop := Claim7.holds Tryz.pinned (.plain (OpenSpec.upto fnExactCanRollBackSpec)) fnExactCanRollBackUptoCard

/-- THE SECOND FORM's CARD OF 'laws.FnExactIsReviewed'. -/
def fnExactIsReviewedUptoCard : Claim7 := { stood := { row := fnExactIsReviewedUptoRow, standIns := [], harness := (true, "856b234c811a01e52e0ab513ba3bb92bf21ba76a44ec56225c5834b120d0abb6"), looks := true }, kinds := [], alts := [], laidByText := true, laidKinds := [.sentinel], laidTests := true, laidLooks := .later }
def FnExactIsReviewedUptoCardSaid : Prop := Claim7.holds Tryz.pinned (.plain (OpenSpec.upto fnExactIsReviewedSpec)) fnExactIsReviewedUptoCard

/-- THE SECOND FORM's CARD OF 'laws.FnExactUpdateCode'. -/
def fnExactUpdateCodeUptoCard : Claim7 := { stood := { row := fnExactUpdateCodeUptoRow, standIns := [], harness := (true, "856b234c811a01e52e0ab513ba3bb92bf21ba76a44ec56225c5834b120d0abb6"), looks := true }, kinds := [], alts := [], laidByText := true, laidKinds := [.sentinel], laidTests := true, laidLooks := .later }
def FnExactUpdateCodeUptoCardSaid : Prop := Claim7.holds Tryz.pinned (.plain (OpenSpec.upto fnExactUpdateCodeSpec)) fnExactUpdateCodeUptoCard
end Rows
end Go.Proofs.YtphhnmfgomcanaaGreatDoor
