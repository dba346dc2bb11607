/-
  DERIVED. GIVEN WITH THE SEED: THE CARDS: each row of YtjkkflgbjafjaaaDoorRows.lean that lists a variable, with what it lists TIED to the program's text (the seventh form; the later family's looks); each row that meets fmt, with fmt's text TOLD by the authors' own Lean function (tested against real Go, not proved from fmt's source: count such statements apart). THE CARD IS WHAT COUNTS. Prove the row's statement (the work); the ties are given (YtjkkflgbjafjaaaDoorTie.lean); close each card by the builder's one call (the guide's Derived/Test/ToyasCard.lean, 'card_holds'). Laid BY PROGRAM, IN A SANDBOX (cutbox-door.mjs). By AI agents, Wed Nov 11 2026. No macro, syntax, notation, axiom, sorry.
-/
import Derived.Test.YtjkkflgbjafjaaaDoorRows
import GoSem.ClaimSeven
namespace Go.Proofs.YtjkkflgbjafjaaaDoor
namespace Rows

/-- THE TIED CARD OF 'laws.FnExactSealLetter'. -/
def fnExactSealLetterCard : Claim7 := { stood := { row := fnExactSealLetterRow, standIns := [], harness := (true, "bb5edafe8fd5a37be221ab906db80eacec5bd77816df35cd1cddf2b735b4ccaf"), looks := true }, kinds := [], alts := [], laidByText := true, laidKinds := [.sentinel], laidTests := true, laidLooks := .later }
def FnExactSealLetterCardSaid : Prop := Claim7.holds Tryd.pinned (.plain (OpenSpec.ofChange fnExactSealLetterSpec)) fnExactSealLetterCard

/-- THE TIED CARD OF 'laws.FnExactIsGenuine'. -/
def fnExactIsGenuineCard : Claim7 := { stood := { row := fnExactIsGenuineRow, standIns := [], harness := (true, "bb5edafe8fd5a37be221ab906db80eacec5bd77816df35cd1cddf2b735b4ccaf"), looks := true }, kinds := [], alts := [], laidByText := true, laidKinds := [.sentinel], laidTests := true, laidLooks := .later }
def FnExactIsGenuineCardSaid : Prop := Claim7.holds Tryd.pinned (.plain (OpenSpec.ofChange fnExactIsGenuineSpec)) fnExactIsGenuineCard

/-- THE TIED CARD OF 'laws.FnExactDeliver'. -/
def fnExactDeliverCard : Claim7 := { stood := { row := fnExactDeliverRow, standIns := [], harness := (true, "bb5edafe8fd5a37be221ab906db80eacec5bd77816df35cd1cddf2b735b4ccaf"), looks := true }, kinds := [], alts := [], laidByText := true, laidKinds := [.sentinel], laidTests := true, laidLooks := .later }
def FnExactDeliverCardSaid : Prop := Claim7.holds Tryd.pinned (.plain (OpenSpec.ofChange fnExactDeliverSpec)) fnExactDeliverCard

/-- THE TIED CARD OF 'laws.FnExactForged'. -/
def fnExactForgedCard : Claim7 := { stood := { row := fnExactForgedRow, standIns := [], harness := (true, "bb5edafe8fd5a37be221ab906db80eacec5bd77816df35cd1cddf2b735b4ccaf"), looks := true }, kinds := [], alts := [], laidByText := true, laidKinds := [.sentinel], laidTests := true, laidLooks := .later }
def FnExactForgedCardSaid : Prop := Claim7.holds Tryd.pinned (.plain (OpenSpec.ofChange fnExactForgedSpec)) fnExactForgedCard

/-- THE SECOND FORM's CARD OF 'laws.FnExactSealLetter'. -/
def fnExactSealLetterUptoCard : Claim7 := { stood := { row := fnExactSealLetterUptoRow, standIns := [], harness := (true, "bb5edafe8fd5a37be221ab906db80eacec5bd77816df35cd1cddf2b735b4ccaf"), looks := true }, kinds := [], alts := [], laidByText := true, laidKinds := [.sentinel], laidTests := true, laidLooks := .later }
def FnExactSealLetterUptoCardSaid : Prop := Claim7.holds Tryd.pinned (.plain (OpenSpec.upto fnExactSealLetterSpec)) fnExactSealLetterUptoCard

/-- THE SECOND FORM's CARD OF 'laws.FnExactIsGenuine'. -/
def fnExactIsGenuineUptoCard : Claim7 := { stood := { row := fnExactIsGenuineUptoRow, standIns := [], harness := (true, "bb5edafe8fd5a37be221ab906db80eacec5bd77816df35cd1cddf2b735b4ccaf"), looks := true }, kinds := [], alts := [], laidByText := true, laidKinds := [.sentinel], laidTests := true, laidLooks := .later }
def FnExactIsGenuineUptoCardSaid : Prop := Claim7.holds Tryd.pinned (.plain (OpenSpec.upto fnExactIsGenuineSpec)) fnExactIsGenuineUptoCard

/-- THE SECOND FORM's CARD OF 'laws.FnExactDeliver'. -/
def fnExactDeliverUptoCard : Claim7 := { stood := { row := fnExactDeliverUptoRow, standIns := [], harness := (true, "bb5edafe8fd5a37be221ab906db80eacec5bd77816df35cd1cddf2b735b4ccaf"), looks := true }, kinds := [], alts := [], laidByText := true, laidKinds := [.sentinel], laidTests := true, laidLooks := .later }
def FnExactDeliverUptoCardSaid : Prop := Claim7.holds Tryd.pinned (.plain (OpenSpec.upto fnExactDeliverSpec)) fnExactDeliverUptoCard

/-- THE SECOND FORM's CARD OF 'laws.FnExactForged'. -/
def fnExactForgedUptoCard : Claim7 := { stood := { row := fnExactForgedUptoRow, standIns := [], harness := (true, "bb5edafe8fd5a37be221ab906db80eacec5bd77816df35cd1cddf2b735b4ccaf"), looks := true }, kinds := [], alts := [], laidByText := true, laidKinds := [.sentinel], laidTests := true, laidLooks := .later }
def FnExactForgedUptoCardSaid : Prop := Claim7.holds Tryd.pinned (.plain (OpenSpec.upto fnExactForgedSpec)) fnExactForgedUptoCard
end Rows
end Go.Proofs.YtjkkflgbjafjaaaDoor
