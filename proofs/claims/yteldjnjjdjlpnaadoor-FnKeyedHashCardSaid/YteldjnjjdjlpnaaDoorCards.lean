/-
  DERIVED. GIVEN WITH THE SEED: THE CARDS: each row of YteldjnjjdjlpnaaDoorRows.lean that lists a variable, with what it lists TIED to the program's text (the seventh form; the later family's looks); each row that meets fmt, with fmt's text TOLD by the authors' own Lean function (tested against real Go, not proved from fmt's source: count such statements apart). THE CARD IS WHAT COUNTS. Prove the row's statement (the work); the ties are given (YteldjnjjdjlpnaaDoorTie.lean); close each card by the builder's one call (the guide's Derived/Test/ToyasCard.lean, 'card_holds'). Laid BY PROGRAM, IN A SANDBOX (cutbox-door.mjs). By AI agents, Wed Nov 11 2026. No macro, syntax, notation, axiom, sorry.
-/
import Derived.Test.YteldjnjjdjlpnaaDoorRows
import GoSem.ClaimSeven
namespace Go.Proofs.YteldjnjjdjlpnaaDoor
namespace Rows

/-- THE TIED CARD OF 'laws.FnIntegers'. -/
def fnIntegersCard : Claim7 := { stood := { row := fnIntegersRow, standIns := [], harness := (true, "f105eb37fe7053a24c5601337f5ed61c88524ee65c24f316c80b193e189f7846"), looks := true }, kinds := [], alts := [], laidByText := true, laidKinds := [.data, .data, .data], laidTests := true, laidLooks := .later }
def FnIntegersCardSaid : Prop := Claim7.holds Tryd.pinned (.plain (OpenSpec.ofChange fnIntegersSpec)) fnIntegersCard

/-- THE TIED CARD OF 'laws.FnKeyedHash'. -/
def fnKeyedHashCard : Claim7 := { stood := { row := fnKeyedHashRow, standIns := [], harness := (true, "f105eb37fe7053a24c5601337f5ed61c88524ee65c24f316c80b193e189f7846"), looks := true }, kinds := [], alts := [], laidByText := true, laidKinds := [.sentinel], laidTests := true, laidLooks := .later }
def FnKeyedHashCardSaid : Prop := Claim7.holds Tryd.pinned (.plain (OpenSpec.ofChange fnKeyedHashSpec)) fnKeyedHashCard

/-- THE TIED CARD OF 'laws.FnDocuments'. -/
def fnDocumentsCard : Claim7 := { stood := { row := fnDocumentsRow, standIns := [], harness := (true, "f105eb37fe7053a24c5601337f5ed61c88524ee65c24f316c80b193e189f7846"), looks := true }, kinds := [], alts := [], laidByText := true, laidKinds := [.data, .data, .data], laidTests := true, laidLooks := .later }
def FnDocumentsCardSaid : Prop := Claim7.holds Tryd.pinned (.plain (OpenSpec.ofChange fnDocumentsSpec)) fnDocumentsCard

/-- THE TIED CARD OF 'laws.FnLabels'. -/
def fnLabelsCard : Claim7 := { stood := { row := fnLabelsRow, standIns := [], harness := (true, "f105eb37fe7053a24c5601337f5ed61c88524ee65c24f316c80b193e189f7846"), looks := true }, kinds := [], alts := [], laidByText := true, laidKinds := [.data, .data, .data], laidTests := true, laidLooks := .later }
def FnLabelsCardSaid : Prop := Claim7.holds Tryd.pinned (.plain (OpenSpec.ofChange fnLabelsSpec)) fnLabelsCard

/-- THE TIED CARD OF 'laws.FnSites'. -/
def fnSitesCard : Claim7 := { stood := { row := fnSitesRow, standIns := [], harness := (true, "f105eb37fe7053a24c5601337f5ed61c88524ee65c24f316c80b193e189f7846"), looks := true }, kinds := [], alts := [], laidByText := true, laidKinds := [.data, .data, .data], laidTests := true, laidLooks := .later }
def FnSitesCardSaid : Prop := Claim7.holds Tryd.pinned (.plain (OpenSpec.ofChange fnSitesSpec)) fnSitesCard

/-- THE TIED CARD OF 'laws.FnLetters'. -/
def fnLettersCard : Claim7 := { stood := { row := fnLettersRow, standIns := [], harness := (true, "f105eb37fe7053a24c5601337f5ed61c88524ee65c24f316c80b193e189f7846"), looks := true }, kinds := [], alts := [], laidByText := true, laidKinds := [.sentinel], laidTests := true, laidLooks := .later }
def FnLettersCardSaid : Prop := Claim7.holds Tryd.pinned (.plain (OpenSpec.ofChange fnLettersSpec)) fnLettersCard

/-- THE SECOND FORM's CARD OF 'laws.FnIntegers'. -/
def fnIntegersUptoCard : Claim7 := { stood := { row := fnIntegersUptoRow, standIns := [], harness := (true, "f105eb37fe7053a24c5601337f5ed61c88524ee65c24f316c80b193e189f7846"), looks := true }, kinds := [], alts := [], laidByText := true, laidKinds := [.data, .data, .data], laidTests := true, laidLooks := .later }
def FnIntegersUptoCardSaid : Prop := Claim7.holds Tryd.pinned (.plain (OpenSpec.upto fnIntegersSpec)) fnIntegersUptoCard

/-- THE SECOND FORM's CARD OF 'laws.FnKeyedHash'. -/
def fnKeyedHashUptoCard : Claim7 := { stood := { row := fnKeyedHashUptoRow, standIns := [], harness := (true, "f105eb37fe7053a24c5601337f5ed61c88524ee65c24f316c80b193e189f7846"), looks := true }, kinds := [], alts := [], laidByText := true, laidKinds := [.sentinel], laidTests := true, laidLooks := .later }
def FnKeyedHashUptoCardSaid : Prop := Claim7.holds Tryd.pinned (.plain (OpenSpec.upto fnKeyedHashSpec)) fnKeyedHashUptoCard

/-- THE SECOND FORM's CARD OF 'laws.FnDocuments'. -/
def fnDocumentsUptoCard : Claim7 := { stood := { row := fnDocumentsUptoRow, standIns := [], harness := (true, "f105eb37fe7053a24c5601337f5ed61c88524ee65c24f316c80b193e189f7846"), looks := true }, kinds := [], alts := [], laidByText := true, laidKinds := [.data, .data, .data], laidTests := true, laidLooks := .later }
def FnDocumentsUptoCardSaid : Prop := Claim7.holds Tryd.pinned (.plain (OpenSpec.upto fnDocumentsSpec)) fnDocumentsUptoCard

/-- THE SECOND FORM's CARD OF 'laws.FnLabels'. -/
def fnLabelsUptoCard : Claim7 := { stood := { row := fnLabelsUptoRow, standIns := [], harness := (true, "f105eb37fe7053a24c5601337f5ed61c88524ee65c24f316c80b193e189f7846"), looks := true }, kinds := [], alts := [], laidByText := true, laidKinds := [.data, .data, .data], laidTests := true, laidLooks := .later }
def FnLabelsUptoCardSaid : Prop := Claim7.holds Tryd.pinned (.plain (OpenSpec.upto fnLabelsSpec)) fnLabelsUptoCard

/-- THE SECOND FORM's CARD OF 'laws.FnSites'. -/
def fnSitesUptoCard : Claim7 := { stood := { row := fnSitesUptoRow, standIns := [], harness := (true, "f105eb37fe7053a24c5601337f5ed61c88524ee65c24f316c80b193e189f7846"), looks := true }, kinds := [], alts := [], laidByText := true, laidKinds := [.data, .data, .data], laidTests := true, laidLooks := .later }
def FnSitesUptoCardSaid : Prop := Claim7.holds Tryd.pinned (.plain (OpenSpec.upto fnSitesSpec)) fnSitesUptoCard

/-- THE SECOND FORM's CARD OF 'laws.FnLetters'. -/
def fnLettersUptoCard : Claim7 := { stood := { row := fnLettersUptoRow, standIns := [], harness := (true, "f105eb37fe7053a24c5601337f5ed61c88524ee65c24f316c80b193e189f7846"), looks := true }, kinds := [], alts := [], laidByText := true, laidKinds := [.sentinel], laidTests := true, laidLooks := .later }
def FnLettersUptoCardSaid : Prop := Claim7.holds Tryd.pinned (.plain (OpenSpec.upto fnLettersSpec)) fnLettersUptoCard
end Rows
end Go.Proofs.YteldjnjjdjlpnaaDoor
