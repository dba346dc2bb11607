/-
  No cell of these rows narrows 'for every input' (looked for: loops, veiled, ifaces, maps, wideKeys, modest, calm, conditions, laid).
  DERIVED. THE GIVEN ROWS OF THIS SEAT. 8 by the template 'for every input the law returns true; each argument reads behind the call as it read before'; 0 by the template 'total and deterministic' (their statements: YtdpokonkpndlcaaTotals.lean).
  GIVEN WITH THE SEED: the statements are not yours to turn. If you find one false, say at which input.
  Laid BY PROGRAM, IN A SANDBOX (cutbox-rows.mjs): the forced cells as the released guide's own fill.sh prints them over the translation 7fe6fac23de9931b… (all of the seat's roots in one cut). By AI agents, Wed Nov 11 2026. No macro, syntax, notation, axiom, sorry.
-/
import Derived.Test.YtdpokonkpndlcaaChecked
import GoSem.Claim
import GoSem.ClaimJoined
import GoSem.ClaimMapViews
import Derived.JoinedTies
import Derived.KernelRfl
namespace Go.Proofs.Ytdpokonkpndlcaa
/- THE CELL 'sum', in the pinned program and in every row, IS THE sha256 OF THE DUMP (.gsa) THAT YtdpokonkpndlcaaProg.lean LOADS. Nothing in Lean hashes anything: it is a label: what it is worth is what the hold of that sum in a sandbox is worth. -/
noncomputable def Try.pinned : Pinned := { name := "ytdpokonkpndlcaa", sum := "7fe6fac23de9931bf7f46303c66054c9c0e21a40e431f64e9f6a2539c16fd5de", checked := Try.checked }
namespace Rows
def none {H : Type} : Left H := { results := [], args := [] }

/-- 'laws.FnExactIsDocument': WHATEVER THE INPUT: true; the input reads as it did. -/
def fnExactIsDocumentSpec : ChangeSpec := { name := "fnExactIsDocument", fn := fun _ => fun
  | [d] => { results := [.lit (.bool true)], args := [d] }
  | _ => none }
def fnExactIsDocumentRow : OpenClaim := { program := "ytdpokonkpndlcaa", sum := "7fe6fac23de9931bf7f46303c66054c9c0e21a40e431f64e9f6a2539c16fd5de", func := "loop.example/g03001/laws.FnExactIsDocument", spec := "fnExactIsDocument", apart := false }
def FnExactIsDocumentSaid : Prop := fnExactIsDocumentRow.holds Try.pinned (OpenSpec.ofChange fnExactIsDocumentSpec)

/-- ITS FALSE NEIGHBOUR: 'it returns false'. Refute it at one input. -/
def fnExactIsDocumentWrong : ChangeSpec := { name := "fnExactIsDocument", fn := fun _ => fun
  | [d] => { results := [.lit (.bool false)], args := [d] }
  | _ => none }
def FnExactIsDocumentWrongFalsely : Prop := fnExactIsDocumentRow.holds Try.pinned (OpenSpec.ofChange fnExactIsDocumentWrong)

/-- 'laws.FnExactNodeOf': WHATEVER THE INPUT: true; the input reads as it did. -/
def fnExactNodeOfSpec : ChangeSpec := { name := "fnExactNodeOf", fn := fun _ => fun
  | [d1, d2] => { results := [.lit (.bool true)], args := [d1, d2] }
  | _ => none }
def fnExactNodeOfRow : OpenClaim := { program := "ytdpokonkpndlcaa", sum := "7fe6fac23de9931bf7f46303c66054c9c0e21a40e431f64e9f6a2539c16fd5de", func := "loop.example/g03001/laws.FnExactNodeOf", spec := "fnExactNodeOf", apart := false }
def FnExactNodeOfSaid : Prop := fnExactNodeOfRow.holds Try.pinned (OpenSpec.ofChange fnExactNodeOfSpec)

/-- ITS FALSE NEIGHBOUR: 'it returns false'. Refute it at one input. -/
def fnExactNodeOfWrong : ChangeSpec := { name := "fnExactNodeOf", fn := fun _ => fun
  | [d1, d2] => { results := [.lit (.bool false)], args := [d1, d2] }
  | _ => none }
def FnExactNodeOfWrongFalsely : Prop := fnExactNodeOfRow.holds Try.pinned (OpenSpec.ofChange fnExactNodeOfWrong)

/-- 'laws.FnExactChildrenOf': WHATEVER THE INPUT: true; the input reads as it did. -/
def fnExactChildrenOfSpec : ChangeSpec := { name := "fnExactChildrenOf", fn := fun _ => fun
  | [d1, d2] => { results := [.lit (.bool true)], args := [d1, d2] }
  | _ => none }
def fnExactChildrenOfRow : OpenClaim := { program := "ytdpokonkpndlcaa", sum := "7fe6fac23de9931bf7f46303c66054c9c0e21a40e431f64e9f6a2539c16fd5de", func := "loop.example/g03001/laws.FnExactChildrenOf", spec := "fnExactChildrenOf", apart := false }
def FnExactChildrenOfSaid : Prop := fnExactChildrenOfRow.holds Try.pinned (OpenSpec.ofChange fnExactChildrenOfSpec)

/-- ITS FALSE NEIGHBOUR: 'it returns false'. Refute it at one input. -/
def fnExactChildrenOfWrong : ChangeSpec := { name := "fnExactChildrenOf", fn := fun _ => fun
  | [d1, d2] => { results := [.lit (.bool false)], args := [d1, d2] }
  | _ => none }
def FnExactChildrenOfWrongFalsely : Prop := fnExactChildrenOfRow.holds Try.pinned (OpenSpec.ofChange fnExactChildrenOfWrong)

/-- 'laws.FnExactIsUnder': WHATEVER THE INPUT: true; the input reads as it did. -/
def fnExactIsUnderSpec : ChangeSpec := { name := "fnExactIsUnder", fn := fun _ => fun
  | [d1, d2, d3] => { results := [.lit (.bool true)], args := [d1, d2, d3] }
  | _ => none }
def fnExactIsUnderRow : OpenClaim := { program := "ytdpokonkpndlcaa", sum := "7fe6fac23de9931bf7f46303c66054c9c0e21a40e431f64e9f6a2539c16fd5de", func := "loop.example/g03001/laws.FnExactIsUnder", spec := "fnExactIsUnder", apart := false }
def FnExactIsUnderSaid : Prop := fnExactIsUnderRow.holds Try.pinned (OpenSpec.ofChange fnExactIsUnderSpec)

/-- ITS FALSE NEIGHBOUR: 'it returns false'. Refute it at one input. -/
def fnExactIsUnderWrong : ChangeSpec := { name := "fnExactIsUnder", fn := fun _ => fun
  | [d1, d2, d3] => { results := [.lit (.bool false)], args := [d1, d2, d3] }
  | _ => none }
def FnExactIsUnderWrongFalsely : Prop := fnExactIsUnderRow.holds Try.pinned (OpenSpec.ofChange fnExactIsUnderWrong)

/-- 'laws.FnExactEqualDocuments': WHATEVER THE INPUT: true; the input reads as it did. -/
def fnExactEqualDocumentsSpec : ChangeSpec := { name := "fnExactEqualDocuments", fn := fun _ => fun
  | [d1, d2] => { results := [.lit (.bool true)], args := [d1, d2] }
  | _ => none }
def fnExactEqualDocumentsRow : OpenClaim := { program := "ytdpokonkpndlcaa", sum := "7fe6fac23de9931bf7f46303c66054c9c0e21a40e431f64e9f6a2539c16fd5de", func := "loop.example/g03001/laws.FnExactEqualDocuments", spec := "fnExactEqualDocuments", apart := false }
def FnExactEqualDocumentsSaid : Prop := fnExactEqualDocumentsRow.holds Try.pinned (OpenSpec.ofChange fnExactEqualDocumentsSpec)

/-- ITS FALSE NEIGHBOUR: 'it returns false'. Refute it at one input. -/
def fnExactEqualDocumentsWrong : ChangeSpec := { name := "fnExactEqualDocuments", fn := fun _ => fun
  | [d1, d2] => { results := [.lit (.bool false)], args := [d1, d2] }
  | _ => none }
def FnExactEqualDocumentsWrongFalsely : Prop := fnExactEqualDocumentsRow.holds Try.pinned (OpenSpec.ofChange fnExactEqualDocumentsWrong)

/-- 'laws.FnExactIsEdit': WHATEVER THE INPUT: true; the input reads as it did. -/
def fnExactIsEditSpec : ChangeSpec := { name := "fnExactIsEdit", fn := fun _ => fun
  | [d] => { results := [.lit (.bool true)], args := [d] }
  | _ => none }
def fnExactIsEditRow : OpenClaim := { program := "ytdpokonkpndlcaa", sum := "7fe6fac23de9931bf7f46303c66054c9c0e21a40e431f64e9f6a2539c16fd5de", func := "loop.example/g03001/laws.FnExactIsEdit", spec := "fnExactIsEdit", apart := false }
def FnExactIsEditSaid : Prop := fnExactIsEditRow.holds Try.pinned (OpenSpec.ofChange fnExactIsEditSpec)

/-- ITS FALSE NEIGHBOUR: 'it returns false'. Refute it at one input. -/
def fnExactIsEditWrong : ChangeSpec := { name := "fnExactIsEdit", fn := fun _ => fun
  | [d] => { results := [.lit (.bool false)], args := [d] }
  | _ => none }
def FnExactIsEditWrongFalsely : Prop := fnExactIsEditRow.holds Try.pinned (OpenSpec.ofChange fnExactIsEditWrong)

/-- 'laws.FnExactApplyEdit': WHATEVER THE INPUT: true; the input reads as it did. -/
def fnExactApplyEditSpec : ChangeSpec := { name := "fnExactApplyEdit", fn := fun _ => fun
  | [d1, d2] => { results := [.lit (.bool true)], args := [d1, d2] }
  | _ => none }
def fnExactApplyEditRow : OpenClaim := { program := "ytdpokonkpndlcaa", sum := "7fe6fac23de9931bf7f46303c66054c9c0e21a40e431f64e9f6a2539c16fd5de", func := "loop.example/g03001/laws.FnExactApplyEdit", spec := "fnExactApplyEdit", unfollowed := true, recurses := true, apart := false }
def FnExactApplyEditSaid : Prop := fnExactApplyEditRow.holds Try.pinned (OpenSpec.ofChange fnExactApplyEditSpec)

/-- ITS FALSE NEIGHBOUR: 'it returns false'. Refute it at one input. -/
def fnExactApplyEditWrong : ChangeSpec := { name := "fnExactApplyEdit", fn := fun _ => fun
  | [d1, d2] => { results := [.lit (.bool false)], args := [d1, d2] }
  | _ => none }
def FnExactApplyEditWrongFalsely : Prop := fnExactApplyEditRow.holds Try.pinned (OpenSpec.ofChange fnExactApplyEditWrong)

/-- 'laws.FnExactRunEdits': WHATEVER THE INPUT: true; the input reads as it did. -/
def fnExactRunEditsSpec : ChangeSpec := { name := "fnExactRunEdits", fn := fun _ => fun
  | [d1, d2] => { results := [.lit (.bool true)], args := [d1, d2] }
  | _ => none }
def fnExactRunEditsRow : OpenClaim := { program := "ytdpokonkpndlcaa", sum := "7fe6fac23de9931bf7f46303c66054c9c0e21a40e431f64e9f6a2539c16fd5de", func := "loop.example/g03001/laws.FnExactRunEdits", spec := "fnExactRunEdits", unfollowed := true, recurses := true, apart := false }
def FnExactRunEditsSaid : Prop := fnExactRunEditsRow.holds Try.pinned (OpenSpec.ofChange fnExactRunEditsSpec)

/-- ITS FALSE NEIGHBOUR: 'it returns false'. Refute it at one input. -/
def fnExactRunEditsWrong : ChangeSpec := { name := "fnExactRunEdits", fn := fun _ => fun
  | [d1, d2] => { results := [.lit (.bool false)], args := [d1, d2] }
  | _ => none }
def FnExactRunEditsWrongFalsely : Prop := fnExactRunEditsRow.holds Try.pinned (OpenSpec.ofChange fnExactRunEditsWrong)

/- THE SECOND FORM. 'bulk': how many values and letters a reading holds, each counted each time it is reached (what is shared counts as often as it is met; a slice's spare places count too). A statement '..UptoSaid' is the law's where the arguments, and the package variables that the reading takes, are together of bulk at most 1048576: NARROWER than '..Said'. Prove '..Said' where nothing that the law and all that it calls make is longer than what came in: it says more and counts as full. Else prove '..UptoSaid'. A law counts once. -/
mutual
def uptoBulk {H : Type} : DataW H → Nat
  | .lit (.string bytes) => bytes.length + 1
  | .lit _ => 1
  | .nil => 1
  | .ptr d => uptoBulk d + 1
  | .slice elems spare => uptoBulkAll elems + uptoBulkAll spare + 1
  | .agg parts => uptoBulkAll parts + 1
  | .iface _ d => uptoBulk d + 1
  | .map entries => uptoBulkEntries entries + 1
  | .held _ => 1
def uptoBulkAll {H : Type} : List (DataW H) → Nat
  | [] => 0
  | d :: r => uptoBulk d + uptoBulkAll r
def uptoBulkEntries {H : Type} : List (Lit × DataW H) → Nat
  | [] => 0
  | x :: r => uptoBulkEntry x + uptoBulkEntries r
def uptoBulkEntry {H : Type} : Lit × DataW H → Nat
  | (.string bytes, d) => bytes.length + uptoBulk d + 1
  | (_, d) => uptoBulk d + 1
 end
def uptoSmall : (H : Type) → List (DataW H) → Bool := fun _ ds => decide (uptoBulkAll ds ≤ 1048576)
def OpenSpec.upto (s : _root_.Go.ChangeSpec) : _root_.Go.OpenSpec := { _root_.Go.OpenSpec.ofChange s with cond := some uptoSmall }

/-- 'laws.FnExactIsDocument', WHERE WHAT IT READS IS OF BULK AT MOST 1048576: true; the input reads as it did. -/
def fnExactIsDocumentUptoRow : OpenClaim := { program := "ytdpokonkpndlcaa", sum := "7fe6fac23de9931bf7f46303c66054c9c0e21a40e431f64e9f6a2539c16fd5de", func := "loop.example/g03001/laws.FnExactIsDocument", spec := "fnExactIsDocument", apart := false, narrowed := true }
def FnExactIsDocumentUptoSaid : Prop := fnExactIsDocumentUptoRow.holds Try.pinned (OpenSpec.upto fnExactIsDocumentSpec)

/-- 'laws.FnExactNodeOf', WHERE WHAT IT READS IS OF BULK AT MOST 1048576: true; the input reads as it did. -/
def fnExactNodeOfUptoRow : OpenClaim := { program := "ytdpokonkpndlcaa", sum := "7fe6fac23de9931bf7f46303c66054c9c0e21a40e431f64e9f6a2539c16fd5de", func := "loop.example/g03001/laws.FnExactNodeOf", spec := "fnExactNodeOf", apart := false, narrowed := true }
def FnExactNodeOfUptoSaid : Prop := fnExactNodeOfUptoRow.holds Try.pinned (OpenSpec.upto fnExactNodeOfSpec)

/-- 'laws.FnExactChildrenOf', WHERE WHAT IT READS IS OF BULK AT MOST 1048576: true; the input reads as it did. -/
def fnExactChildrenOfUptoRow : OpenClaim := { program := "ytdpokonkpndlcaa", sum := "7fe6fac23de9931bf7f46303c66054c9c0e21a40e431f64e9f6a2539c16fd5de", func := "loop.example/g03001/laws.FnExactChildrenOf", spec := "fnExactChildrenOf", apart := false, narrowed := true }
def FnExactChildrenOfUptoSaid : Prop := fnExactChildrenOfUptoRow.holds Try.pinned (OpenSpec.upto fnExactChildrenOfSpec)

/-- 'laws.FnExactIsUnder', WHERE WHAT IT READS IS OF BULK AT MOST 1048576: true; the input reads as it did. -/
def fnExactIsUnderUptoRow : OpenClaim := { program := "ytdpokonkpndlcaa", sum := "7fe6fac23de9931bf7f46303c66054c9c0e21a40e431f64e9f6a2539c16fd5de", func := "loop.example/g03001/laws.FnExactIsUnder", spec := "fnExactIsUnder", apart := false, narrowed := true }
def FnExactIsUnderUptoSaid : Prop := fnExactIsUnderUptoRow.holds Try.pinned (OpenSpec.upto fnExactIsUnderSpec)

/-- 'laws.FnExactEqualDocuments', WHERE WHAT IT READS IS OF BULK AT MOST 1048576: true; the input reads as it did. -/
def fnExactEqualDocumentsUptoRow : OpenClaim := { program := "ytdpokonkpndlcaa", sum := "7fe6fac23de9931bf7f46303c66054c9c0e21a40e431f64e9f6a2539c16fd5de", func := "loop.example/g03001/laws.FnExactEqualDocuments", spec := "fnExactEqualDocuments", apart := false, narrowed := true }
def FnExactEqualDocumentsUptoSaid : Prop := fnExactEqualDocumentsUptoRow.holds Try.pinned (OpenSpec.upto fnExactEqualDocumentsSpec)

/-- 'laws.FnExactIsEdit', WHERE WHAT IT READS IS OF BULK AT MOST 1048576: true; the input reads as it did. -/
def fnExactIsEditUptoRow : OpenClaim := { program := "ytdpokonkpndlcaa", sum := "7fe6fac23de9931bf7f46303c66054c9c0e21a40e431f64e9f6a2539c16fd5de", func := "loop.example/g03001/laws.FnExactIsEdit", spec := "fnExactIsEdit", apart := false, narrowed := true }
def FnExactIsEditUptoSaid : Prop := fnExactIsEditUptoRow.holds Try.pinned (OpenSpec.upto fnExactIsEditSpec)

/-- 'laws.FnExactApplyEdit', WHERE WHAT IT READS IS OF BULK AT MOST 1048576: true; the input reads as it did. -/
def fnExactApplyEditUptoRow : OpenClaim := { program := "ytdpokonkpndlcaa", sum := "7fe6fac23de9931bf7f46303c66054c9c0e21a40e431f64e9f6a2539c16fd5de", func := "loop.example/g03001/laws.FnExactApplyEdit", spec := "fnExactApplyEdit", unfollowed := true, recurses := true, apart := false, narrowed := true }
def FnExactApplyEditUptoSaid : Prop := fnExactApplyEditUptoRow.holds Try.pinned (OpenSpec.upto fnExactApplyEditSpec)

/-- 'laws.FnExactRunEdits', WHERE WHAT IT READS IS OF BULK AT MOST 1048576: true; the input reads as it did. -/
def fnExactRunEditsUptoRow : OpenClaim := { program := "ytdpokonkpndlcaa", sum := "7fe6fac23de9931bf7f46303c66054c9c0e21a40e431f64e9f6a2539c16fd5de", func := "loop.example/g03001/laws.FnExactRunEdits", spec := "fnExactRunEdits", unfollowed := true, recurses := true, apart := false, narrowed := true }
def FnExactRunEditsUptoSaid : Prop := fnExactRunEditsUptoRow.holds Try.pinned (OpenSpec.upto fnExactRunEditsSpec)

end Rows
end Go.Proofs.Ytdpokonkpndlcaa
