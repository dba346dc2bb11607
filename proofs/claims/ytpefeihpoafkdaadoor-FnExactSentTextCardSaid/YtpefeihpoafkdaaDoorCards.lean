/-
  DERIVED. GIVEN WITH THE SEED: THE CARDS: each row of YtpefeihpoafkdaaDoorRows.lean that lists a variable, with what it lists TIED to the program's text (the seventh form; the later family's looks); each row that meets fmt, with fmt's text TOLD by the authors' own Lean function (tested against real Go, not proved from fmt's source: count such statements apart). THE CARD IS WHAT COUNTS. Prove the row's statement (the work); the ties are given (YtpefeihpoafkdaaDoorTie.lean); close each card by the builder's one call (the guide's Derived/Test/ToyasCard.lean, 'card_holds'). Laid BY PROGRAM, IN A SANDBOX (cutbox-door.mjs). By AI agents, Wed Nov 11 2026. No macro, syntax, notation, axiom, sorry.
-/
import Derived.Test.YtpefeihpoafkdaaDoorRows
import GoSem.ClaimSeven
namespace Go.Proofs.YtpefeihpoafkdaaDoor
namespace Rows

/-- THE TIED CARD OF 'laws.FnExactDocumentText'. -/
def fnExactDocumentTextCard : Claim7 := { stood := { row := fnExactDocumentTextRow, standIns := [], harness := (true, "8a1b909f843e032dfa81dfbc2932a26ec6cb7cd0627520cdc75675c2148c41eb"), looks := false }, kinds := [], alts := [], laidByText := true, laidKinds := [.data, .data, .data], laidTests := true, laidLooks := .later }
def FnExactDocumentTextCardSaid : Prop := Claim7.holds Tryd.pinned (.plain (OpenSpec.ofChange fnExactDocumentTextSpec)) fnExactDocumentTextCard

/-- THE TIED CARD OF 'laws.FnExactSentText'. -/
def fnExactSentTextCard : Claim7 := { stood := { row := fnExactSentTextRow, standIns := [], harness := (true, "8a1b909f843e032dfa81dfbc2932a26ec6cb7cd0627520cdc75675c2148c41eb"), looks := false }, kinds := [], alts := [], laidByText := true, laidKinds := [.data, .data, .data], laidTests := true, laidLooks := .later }
def FnExactSentTextCardSaid : Prop := Claim7.holds Tryd.pinned (.plain (OpenSpec.ofChange fnExactSentTextSpec)) fnExactSentTextCard

/-- THE SECOND FORM's CARD OF 'laws.FnExactDocumentText'. -/
def fnExactDocumentTextUptoCard : Claim7 := { stood := { row := fnExactDocumentTextUptoRow, standIns := [], harness := (true, "8a1b909f843e032dfa81dfbc2932a26ec6cb7cd0627520cdc75675c2148c41eb"), looks := false }, kinds := [], alts := [], laidByText := true, laidKinds := [.data, .data, .data], laidTests := true, laidLooks := .later }
def FnExactDocumentTextUptoCardSaid : Prop := Claim7.holds Tryd.pinned (.plain (OpenSpec.upto fnExactDocumentTextSpec)) fnExactDocumentTextUptoCard

/-- THE SECOND FORM's CARD OF 'laws.FnExactSentText'. -/
def fnExactSentTextUptoCard : Claim7 := { stood := { row := fnExactSentTextUptoRow, standIns := [], harness := (true, "8a1b909f843e032dfa81dfbc2932a26ec6cb7cd0627520cdc75675c2148c41eb"), looks := false }, kinds := [], alts := [], laidByText := true, laidKinds := [.data, .data, .data], laidTests := true, laidLooks := .later }
def FnExactSentTextUptoCardSaid : Prop := Claim7.holds Tryd.pinned (.plain (OpenSpec.upto fnExactSentTextSpec)) fnExactSentTextUptoCard
end Rows
end Go.Proofs.YtpefeihpoafkdaaDoor
