/-
  DERIVED. GIVEN WITH THE SEED: THE CARDS: each row of YtdfmlmmfkieeoaaDoorRows.lean that lists a variable, with what it lists TIED to the program's text (the seventh form; the later family's looks); each row that meets fmt, with fmt's text TOLD by the authors' own Lean function (tested against real Go, not proved from fmt's source: count such statements apart). THE CARD IS WHAT COUNTS. Prove the row's statement (the work); the ties are given (YtdfmlmmfkieeoaaDoorTie.lean); close each card by the builder's one call (the guide's Derived/Test/ToyasCard.lean, 'card_holds'). Laid BY PROGRAM, IN A SANDBOX (cutbox-door.mjs). By AI agents, Wed Nov 11 2026. No macro, syntax, notation, axiom, sorry.
-/
import Derived.Test.YtdfmlmmfkieeoaaDoorRows
import GoSem.ClaimSeven
namespace Go.Proofs.YtdfmlmmfkieeoaaDoor
namespace Rows

/-- THE TIED CARD OF 'laws.FnExactIsValidKey'. -/
def fnExactIsValidKeyCard : Claim7 := { stood := { row := fnExactIsValidKeyRow, standIns := [], harness := (true, "a4f4e73ca969139fb279204cfc205b3d41b55e8a77744b911baa9bcaf17fcefa"), looks := true }, kinds := [], alts := [], laidByText := true, laidKinds := [.sentinel], laidTests := true, laidLooks := .later }
def FnExactIsValidKeyCardSaid : Prop := Claim7.holds Tryd.pinned (.plain (OpenSpec.ofChange fnExactIsValidKeySpec)) fnExactIsValidKeyCard

/-- THE TIED CARD OF 'laws.FnExactDeriveFromString'. -/
def fnExactDeriveFromStringCard : Claim7 := { stood := { row := fnExactDeriveFromStringRow, standIns := [], harness := (true, "a4f4e73ca969139fb279204cfc205b3d41b55e8a77744b911baa9bcaf17fcefa"), looks := true }, kinds := [], alts := [], laidByText := true, laidKinds := [.sentinel], laidTests := true, laidLooks := .later }
def FnExactDeriveFromStringCardSaid : Prop := Claim7.holds Tryd.pinned (.plain (OpenSpec.ofChange fnExactDeriveFromStringSpec)) fnExactDeriveFromStringCard

/-- THE SECOND FORM's CARD OF 'laws.FnExactIsValidKey'. -/
def fnExactIsValidKeyUptoCard : Claim7 := { stood := { row := fnExactIsValidKeyUptoRow, standIns := [], harness := (true, "a4f4e73ca969139fb279204cfc205b3d41b55e8a77744b911baa9bcaf17fcefa"), looks := true }, kinds := [], alts := [], laidByText := true, laidKinds := [.sentinel], laidTests := true, laidLooks := .later }
def FnExactIsValidKeyUptoCardSaid : Prop := Claim7.holds Tryd.pinned (.plain (OpenSpec.upto fnExactIsValidKeySpec)) fnExactIsValidKeyUptoCard

/-- THE SECOND FORM's CARD OF 'laws.FnExactDeriveFromString'. -/
def fnExactDeriveFromStringUptoCard : Claim7 := { stood := { row := fnExactDeriveFromStringUptoRow, standIns := [], harness := (true, "a4f4e73ca969139fb279204cfc205b3d41b55e8a77744b911baa9bcaf17fcefa"), looks := true }, kinds := [], alts := [], laidByText := true, laidKinds := [.sentinel], laidTests := true, laidLooks := .later }
def FnExactDeriveFromStringUptoCardSaid : Prop := Claim7.holds Tryd.pinned (.plain (OpenSpec.upto fnExactDeriveFromStringSpec)) fnExactDeriveFromStringUptoCard
end Rows
end Go.Proofs.YtdfmlmmfkieeoaaDoor
