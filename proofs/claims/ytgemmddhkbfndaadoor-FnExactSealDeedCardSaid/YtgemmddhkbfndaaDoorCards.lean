/-
  DERIVED. GIVEN WITH THE SEED: THE CARDS: each row of YtgemmddhkbfndaaDoorRows.lean that lists a variable, with what it lists TIED to the program's text (the seventh form; the later family's looks); each row that meets fmt, with fmt's text TOLD by the authors' own Lean function (tested against real Go, not proved from fmt's source: count such statements apart). THE CARD IS WHAT COUNTS. Prove the row's statement (the work); the ties are given (YtgemmddhkbfndaaDoorTie.lean); close each card by the builder's one call (the guide's Derived/Test/ToyasCard.lean, 'card_holds'). Laid BY PROGRAM, IN A SANDBOX (cutbox-door.mjs). By AI agents, Wed Nov 11 2026. No macro, syntax, notation, axiom, sorry.
-/
import Derived.Test.YtgemmddhkbfndaaDoorRows
import GoSem.ClaimSeven
namespace Go.Proofs.YtgemmddhkbfndaaDoor
namespace Rows

/-- THE TIED CARD OF 'laws.FnExactSealDeed'. -/
def fnExactSealDeedCard : Claim7 := { stood := { row := fnExactSealDeedRow, standIns := [], harness := (true, "5c8cf973f26d1fba7cb978c3cb2f2698aa8f467e6a9b91bda82fbf718fd17181"), looks := true }, kinds := [], alts := [], laidByText := true, laidKinds := [.sentinel], laidTests := true, laidLooks := .later }
def FnExactSealDeedCardSaid : Prop := Claim7.holds Tryd.pinned (.plain (OpenSpec.ofChange fnExactSealDeedSpec)) fnExactSealDeedCard

/-- THE SECOND FORM's CARD OF 'laws.FnExactSealDeed'. -/
def fnExactSealDeedUptoCard : Claim7 := { stood := { row := fnExactSealDeedUptoRow, standIns := [], harness := (true, "5c8cf973f26d1fba7cb978c3cb2f2698aa8f467e6a9b91bda82fbf718fd17181"), looks := true }, kinds := [], alts := [], laidByText := true, laidKinds := [.sentinel], laidTests := true, laidLooks := .later }
def FnExactSealDeedUptoCardSaid : Prop := Claim7.holds Tryd.pinned (.plain (OpenSpec.upto fnExactSealDeedSpec)) fnExactSealDeedUptoCard
end Rows
end Go.Proofs.YtgemmddhkbfndaaDoor
