/-
  DERIVED. GIVEN WITH THE SEED: THE CARDS: each row of YtmelfgimhilhbaaGreatDoorRows.lean that lists a variable, with what it lists TIED to the program's text (the seventh form; the later family's looks); each row that meets fmt, with fmt's text TOLD by the authors' own Lean function (tested against real Go, not proved from fmt's source: count such statements apart). THE CARD IS WHAT COUNTS. Prove the row's statement (the work); the ties are given (YtmelfgimhilhbaaGreatDoorTie.lean); close each card by the builder's one call (the guide's Derived/Test/ToyasCard.lean, 'card_holds'). Laid BY PROGRAM, IN A SANDBOX (cutbox-door.mjs). By AI agents, Wed Nov 11 2026. No macro, syntax, notation, axiom, sorry.
-/
import Derived.Test.YtmelfgimhilhbaaGreatDoorRows
import GoSem.ClaimSeven
namespace Go.Proofs.YtmelfgimhilhbaaGreatDoor
namespace Rows

/-- THE TIED CARD OF 'laws.FnExactCanRollBack'. -/
def fnExactCanRollBackCard : Claim7 := { stood := { row := fnExactCanRollBackRow, standIns := [], harness := (true, "883e917e4d5ebe917fdd66c8ed2e538932dbb2b997bf4fb54e8188ba8f025a28"), looks := true }, kinds := [], alts := [], laidByText := true, laidKinds := [.sentinel], laidTests := true, laidLooks := .later }
def FnExactCanRollBackCardSaid : Prop := Claim7.holds Tryz.pinned (.plain (OpenSpec.ofChange fnExactCanRollBackSpec)) fnExactCanRollBackCard

/-- THE TIED CARD OF 'laws.FnExactSealPackage'. -/
def fnExactSealPackageCard : Claim7 := { stood := { row := fnExactSealPackageRow, standIns := [], harness := (true, "883e917e4d5ebe917fdd66c8ed2e538932dbb2b997bf4fb54e8188ba8f025a28"), looks := true }, kinds := [], alts := [], laidByText := true, laidKinds := [.sentinel], laidTests := true, laidLooks := .later }
def FnExactSealPackageCardSaid : Prop := Claim7.holds Tryz.pinned (.plain (OpenSpec.ofChange fnExactSealPackageSpec)) fnExactSealPackageCard

/-- THE TIED CARD OF 'laws.FnExactIsSealed'. -/
def fnExactIsSealedCard : Claim7 := { stood := { row := fnExactIsSealedRow, standIns := [], harness := (true, "883e917e4d5ebe917fdd66c8ed2e538932dbb2b997bf4fb54e8188ba8f025a28"), looks := true }, kinds := [], alts := [], laidByText := true, laidKinds := [.sentinel], laidTests := true, laidLooks := .later }
def FnExactIsSealedCardSaid : Prop := Claim7.holds Tryz.pinned (.plain (OpenSpec.ofChange fnExactIsSealedSpec)) fnExactIsSealedCard

/-- THE SECOND FORM's CARD OF 'laws.FnExactCanRollBack'. -/
def fnExactCanRollBackUptoCard : Claim7 := { stood := { row := fnExactCanRollBackUptoRow, standIns := [], harness := (true, "883e917e4d5ebe917fdd66c8ed2e538932dbb2b997bf4fb54e8188ba8f025a28"), looks := true }, kinds := [], alts := [], laidByText := true, laidKinds := [.sentinel], laidTests := true, laidLooks := .later }
def FnExactCanRollBackUptoCardSaid : Prop := Claim7.holds Tryz.pinned (.plain (OpenSpec.upto fnExactCanRollBackSpec)) fnExactCanRollBackUptoCard

/-- THE SECOND FORM's CARD OF 'laws.FnExactSealPackage'. -/
def fnExactSealPackageUptoCard : Claim7 := { stood := { row := fnExactSealPackageUptoRow, standIns := [], harness := (true, "883e917e4d5ebe917fdd66c8ed2e538932dbb2b997bf4fb54e8188ba8f025a28"), looks := true }, kinds := [], alts := [], laidByText := true, laidKinds := [.sentinel], laidTests := true, laidLooks := .later }
def FnExactSealPackageUptoCardSaid : Prop := Claim7.holds Tryz.pinned (.plain (OpenSpec.upto fnExactSealPackageSpec)) fnExactSealPackageUptoCard

/-- THE SECOND FORM's CARD OF 'laws.FnExactIsSealed'. -/
def fnExactIsSealedUptoCard : Claim7 := { stood := { row := fnExactIsSealedUptoRow, standIns := [], harness := (true, "883e917e4d5ebe917fdd66c8ed2e538932dbb2b997bf4fb54e8188ba8f025a28"), looks := true }, kinds := [], alts := [], laidByText := true, laidKinds := [.sentinel], laidTests := true, laidLooks := .later }
def FnExactIsSealedUptoCardSaid : Prop := Claim7.holds Tryz.pinned (.plain (OpenSpec.upto fnExactIsSealedSpec)) fnExactIsSealedUptoCard
end Rows
end Go.Proofs.YtmelfgimhilhbaaGreatDoor
