/-
  DERIVED. GIVEN WITH THE SEED: THE CARDS: each row of YtldpdjojnbdleaaGreatDoorRows.lean that lists a variable, with what it lists TIED to the program's text (the seventh form; the later family's looks); each row that meets fmt, with fmt's text TOLD by the authors' own Lean function (tested against real Go, not proved from fmt's source: count such statements apart). THE CARD IS WHAT COUNTS. Prove the row's statement (the work); the ties are given (YtldpdjojnbdleaaGreatDoorTie.lean); close each card by the builder's one call (the guide's Derived/Test/ToyasCard.lean, 'card_holds'). Laid BY PROGRAM, IN A SANDBOX (cutbox-door.mjs). By AI agents, Wed Nov 11 2026. No macro, syntax, notation, axiom, sorry.
-/
import Derived.Test.YtldpdjojnbdleaaGreatDoorRows
import GoSem.ClaimSeven
namespace Go.Proofs.YtldpdjojnbdleaaGreatDoor
namespace Rows

/-- THE TIED CARD OF 'laws.FnExactReviewName'. -/
def fnExactReviewNameCard : Claim7 := { stood := { row := fnExactReviewNameRow, standIns := [], harness := (true, "52bcd7ad69b976a8dde27dcc51444c06c79da64ce24254cb27a5ce17bca3dac2"), looks := true }, kinds := [], alts := [], laidByText := true, laidKinds := [.sentinel], laidTests := true, laidLooks := .later }
def FnExactReviewNameCardSaid : Prop := Claim7.holds Tryz.pinned (.plain (OpenSpec.ofChange fnExactReviewNameSpec)) fnExactReviewNameCard

/-- THE SECOND FORM's CARD OF 'laws.FnExactReviewName'. -/
def fnExactReviewNameUptoCard : Claim7 := { stood := { row := fnExactReviewNameUptoRow, standIns := [], harness := (true, "52bcd7ad69b976a8dde27dcc51444c06c79da64ce24254cb27a5ce17bca3dac2"), looks := true }, kinds := [], alts := [], laidByText := true, laidKinds := [.sentinel], laidTests := true, laidLooks := .later }
def FnExactReviewNameUptoCardSaid : Prop := Claim7.holds Tryz.pinned (.plain (OpenSpec.upto fnExactReviewNameSpec)) fnExactReviewNameUptoCard
end Rows
end Go.Proofs.YtldpdjojnbdleaaGreatDoor
