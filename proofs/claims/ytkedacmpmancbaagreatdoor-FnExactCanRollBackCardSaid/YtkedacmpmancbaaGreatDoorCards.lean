/-
  DERIVED. GIVEN WITH THE SEED: THE CARDS: each row of YtkedacmpmancbaaGreatDoorRows.lean that lists a variable, with what it lists TIED to the program's text (the seventh form; the later family's looks); each row that meets fmt, with fmt's text TOLD by the authors' own Lean function (tested against real Go, not proved from fmt's source: count such statements apart). THE CARD IS WHAT COUNTS. Prove the row's statement (the work); the ties are given (YtkedacmpmancbaaGreatDoorTie.lean); close each card by the builder's one call (the guide's Derived/Test/ToyasCard.lean, 'card_holds'). Laid BY PROGRAM, IN A SANDBOX (cutbox-door.mjs). By AI agents, Wed Nov 11 2026. No macro, syntax, notation, axiom, sorry.
-/
import Derived.Test.YtkedacmpmancbaaGreatDoorRows
import GoSem.ClaimSeven
namespace Go.Proofs.YtkedacmpmancbaaGreatDoor
namespace Rows

/-- THE TIED CARD OF 'laws.FnExactUpdateCode'. -/
def fnExactUpdateCodeCard : Claim7 := { stood := { row := fnExactUpdateCodeRow, standIns := [], harness := (true, "5ba408b22242a664e26dd14be357d2702c6ed214330b6493c1e0eadd224f9c3d"), looks := true }, kinds := [], alts := [], laidByText := true, laidKinds := [.sentinel], laidTests := true, laidLooks := .later }
def FnExactUpdateCodeCardSaid : Prop := Claim7.holds Tryz.pinned (.plain (OpenSpec.ofChange fnExactUpdateCodeSpec)) fnExactUpdateCodeCard

/-- THE TIED CARD OF 'laws.FnExactCanRollBack'. -/
def fnExactCanRollBackCard : Claim7 := { stood := { row := fnExactCanRollBackRow, standIns := [], harness := (true, "5ba408b22242a664e26dd14be357d2702c6ed214330b6493c1e0eadd224f9c3d"), looks := true }, kinds := [], alts := [], laidByText := true, laidKinds := [.sentinel], laidTests := true, laidLooks := .later }
def FnExactCanRollBackCardSaid : Prop := Claim7.holds Tryz.pinned (.plain (OpenSpec.ofChange fnExactCanRollBackSpec)) fnExactCanRollBackCard

/-- THE TIED CARD OF 'laws.FnExactUpdatePackage'. -/
def fnExactUpdatePackageCard : Claim7 := { stood := { row := fnExactUpdatePackageRow, standIns := [], harness := (true, "5ba408b22242a664e26dd14be357d2702c6ed214330b6493c1e0eadd224f9c3d"), looks := true }, kinds := [], alts := [], laidByText := true, laidKinds := [.sentinel], laidTests := true, laidLooks := .later }
def FnExactUpdatePackageCardSaid : Prop := Claim7.holds Tryz.pinned (.plain (OpenSpec.ofChange fnExactUpdatePackageSpec)) fnExactUpdatePackageCard

/-- THE TIED CARD OF 'laws.FnExactIsReviewed'. -/
def fnExactIsReviewedCard : Claim7 := { stood := { row := fnExactIsReviewedRow, standIns := [], harness := (true, "5ba408b22242a664e26dd14be357d2702c6ed214330b6493c1e0eadd224f9c3d"), looks := true }, kinds := [], alts := [], laidByText := true, laidKinds := [.sentinel], laidTests := true, laidLooks := .later }
def FnExactIsReviewedCardSaid : Prop := Claim7.holds Tryz.pinned (.plain (OpenSpec.ofChange fnExactIsReviewedSpec)) fnExactIsReviewedCard

/-- THE SECOND FORM's CARD OF 'laws.FnExactUpdateCode'. -/
def fnExactUpdateCodeUptoCard : Claim7 := { stood := { row := fnExactUpdateCodeUptoRow, standIns := [], harness := (true, "5ba408b22242a664e26dd14be357d2702c6ed214330b6493c1e0eadd224f9c3d"), looks := true }, kinds := [], alts := [], laidByText := true, laidKinds := [.sentinel], laidTests := true, laidLooks := .later }
def FnExactUpdateCodeUptoCardSaid : Prop := Claim7.holds Tryz.pinned (.plain (OpenSpec.upto fnExactUpdateCodeSpec)) fnExactUpdateCodeUptoCard

/-- THE SECOND FORM's CARD OF 'laws.FnExactCanRollBack'. -/
def fnExactCanRollBackUptoCard : Claim7 := { stood := { row := fnExactCanRollBackUptoRow, standIns := [], harness := (true, "5ba408b22242a664e26dd14be357d2702c6ed214330b6493c1e0eadd224f9c3d"), looks := true }, kinds := [], alts := [], laidByText := true, laidKinds := [.sentinel], laidTests := true, laidLooks := .later }
def FnExactCanRollBackUptoCardSaid : Prop := Claim7.holds Tryz.pinned (.plain (OpenSpec.upto fnExactCanRollBackSpec)) fnExactCanRollBackUptoCard

/-- THE SECOND FORM's CARD OF 'laws.FnExactUpdatePackage'. -/
def fnExactUpdatePackageUptoCard : Claim7 := { stood := { row := fnExactUpdatePackageUptoRow, standIns := [], harness := (true, "5ba408b22242a664e26dd14be357d2702c6ed214330b6493c1e0eadd224f9c3d"), looks := true }, kinds := [], alts := [], laidByText := true, laidKinds := [.sentinel], laidTests := true, laidLooks := .later }
def FnExactUpdatePackageUptoCardSaid : Prop := Claim7.holds Tryz.pinned (.plain (OpenSpec.upto fnExactUpdatePackageSpec)) fnExactUpdatePackageUptoCard

/-- THE SECOND FORM's CARD OF 'laws.FnExactIsReviewed'. -/
def fnExactIsReviewedUptoCard : Claim7 := { stood := { row := fnExactIsReviewedUptoRow, standIns := [], harness := (true, "5ba408b22242a664e26dd14be357d2702c6ed214330b6493c1e0eadd224f9c3d"), looks := true }, kinds := [], alts := [], laidByText := true, laidKinds := [.sentinel], laidTests := true, laidLooks := .later }
def FnExactIsReviewedUptoCardSaid : Prop := Claim7.holds Tryz.pinned (.plain (OpenSpec.upto fnExactIsReviewedSpec)) fnExactIsReviewedUptoCard
end Rows
end Go.Proofs.YtkedacmpmancbaaGreatDoor
