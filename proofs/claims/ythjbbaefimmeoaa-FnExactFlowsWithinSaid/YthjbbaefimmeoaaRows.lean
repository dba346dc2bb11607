/-
  No cell of these rows narrows 'for every input' (looked for: loops, veiled, ifaces, maps, wideKeys, modest, calm, conditions, laid).
  DERIVED. THE GIVEN ROWS OF THIS SEAT. 11 by the template 'for every input the law returns true; each argument reads behind the call as it read before'; 0 by the template 'total and deterministic' (their statements: YthjbbaefimmeoaaTotals.lean).
  GIVEN WITH THE SEED: the statements are not yours to turn. If you find one false, say at which input.
  Laid BY PROGRAM, IN A SANDBOX (cutbox-rows.mjs): the forced cells as the released guide's own fill.sh prints them over the translation 5cb09db26547ebc0… (all of the seat's roots in one cut). By AI agents, Wed Nov 11 2026. No macro, syntax, notation, axiom, sorry.
-/
import Derived.Test.YthjbbaefimmeoaaChecked
import GoSem.Claim
import GoSem.ClaimJoined
import GoSem.ClaimMapViews
import Derived.JoinedTies
import Derived.KernelRfl
namespace Go.Proofs.Ythjbbaefimmeoaa
/- THE CELL 'sum', in the pinned program and in every row, IS THE sha256 OF THE DUMP (.gsa) THAT YthjbbaefimmeoaaProg.lean LOADS. Nothing in Lean hashes anything: it is a label: what it is worth is what the hold of that sum in a sandbox is worth. -/
noncomputable def Try.pinned : Pinned := { name := "ythjbbaefimmeoaa", sum := "5cb09db26547ebc0e9264c8b2e654078f2516e679b1fc170d791d5a107c41e30", checked := Try.checked }
namespace Rows
def none {H : Type} : Left H := { results := [], args := [] }

/-- 'laws.FnExactIsLabel': WHATEVER THE INPUT: true; the input reads as it did. -/
def fnExactIsLabelSpec : ChangeSpec := { name := "fnExactIsLabel", fn := fun _ => fun
  | [d] => { results := [.lit (.bool true)], args := [d] }
  | _ => none }
def fnExactIsLabelRow : OpenClaim := { program := "ythjbbaefimmeoaa", sum := "5cb09db26547ebc0e9264c8b2e654078f2516e679b1fc170d791d5a107c41e30", func := "loop.example/g03001/laws.FnExactIsLabel", spec := "fnExactIsLabel", apart := false }
def FnExactIsLabelSaid : Prop := fnExactIsLabelRow.holds Try.pinned (OpenSpec.ofChange fnExactIsLabelSpec)

/-- ITS FALSE NEIGHBOUR: 'it returns false'. Refute it at one input. -/
def fnExactIsLabelWrong : ChangeSpec := { name := "fnExactIsLabel", fn := fun _ => fun
  | [d] => { results := [.lit (.bool false)], args := [d] }
  | _ => none }
def FnExactIsLabelWrongFalsely : Prop := fnExactIsLabelRow.holds Try.pinned (OpenSpec.ofChange fnExactIsLabelWrong)

/-- 'laws.FnExactLabelOf': WHATEVER THE INPUT: true; the input reads as it did. -/
def fnExactLabelOfSpec : ChangeSpec := { name := "fnExactLabelOf", fn := fun _ => fun
  | [d] => { results := [.lit (.bool true)], args := [d] }
  | _ => none }
def fnExactLabelOfRow : OpenClaim := { program := "ythjbbaefimmeoaa", sum := "5cb09db26547ebc0e9264c8b2e654078f2516e679b1fc170d791d5a107c41e30", func := "loop.example/g03001/laws.FnExactLabelOf", spec := "fnExactLabelOf", apart := false }
def FnExactLabelOfSaid : Prop := fnExactLabelOfRow.holds Try.pinned (OpenSpec.ofChange fnExactLabelOfSpec)

/-- ITS FALSE NEIGHBOUR: 'it returns false'. Refute it at one input. -/
def fnExactLabelOfWrong : ChangeSpec := { name := "fnExactLabelOf", fn := fun _ => fun
  | [d] => { results := [.lit (.bool false)], args := [d] }
  | _ => none }
def FnExactLabelOfWrongFalsely : Prop := fnExactLabelOfRow.holds Try.pinned (OpenSpec.ofChange fnExactLabelOfWrong)

/-- 'laws.FnExactOwnersIn': WHATEVER THE INPUT: true; the input reads as it did. -/
def fnExactOwnersInSpec : ChangeSpec := { name := "fnExactOwnersIn", fn := fun _ => fun
  | [d] => { results := [.lit (.bool true)], args := [d] }
  | _ => none }
def fnExactOwnersInRow : OpenClaim := { program := "ythjbbaefimmeoaa", sum := "5cb09db26547ebc0e9264c8b2e654078f2516e679b1fc170d791d5a107c41e30", func := "loop.example/g03001/laws.FnExactOwnersIn", spec := "fnExactOwnersIn", unfollowed := true, recurses := true, apart := false }
def FnExactOwnersInSaid : Prop := fnExactOwnersInRow.holds Try.pinned (OpenSpec.ofChange fnExactOwnersInSpec)

/-- ITS FALSE NEIGHBOUR: 'it returns false'. Refute it at one input. -/
def fnExactOwnersInWrong : ChangeSpec := { name := "fnExactOwnersIn", fn := fun _ => fun
  | [d] => { results := [.lit (.bool false)], args := [d] }
  | _ => none }
def FnExactOwnersInWrongFalsely : Prop := fnExactOwnersInRow.holds Try.pinned (OpenSpec.ofChange fnExactOwnersInWrong)

/-- 'laws.FnExactJoinLabels': WHATEVER THE INPUT: true; the input reads as it did. -/
def fnExactJoinLabelsSpec : ChangeSpec := { name := "fnExactJoinLabels", fn := fun _ => fun
  | [d1, d2] => { results := [.lit (.bool true)], args := [d1, d2] }
  | _ => none }
def fnExactJoinLabelsRow : OpenClaim := { program := "ythjbbaefimmeoaa", sum := "5cb09db26547ebc0e9264c8b2e654078f2516e679b1fc170d791d5a107c41e30", func := "loop.example/g03001/laws.FnExactJoinLabels", spec := "fnExactJoinLabels", apart := false }
def FnExactJoinLabelsSaid : Prop := fnExactJoinLabelsRow.holds Try.pinned (OpenSpec.ofChange fnExactJoinLabelsSpec)

/-- ITS FALSE NEIGHBOUR: 'it returns false'. Refute it at one input. -/
def fnExactJoinLabelsWrong : ChangeSpec := { name := "fnExactJoinLabels", fn := fun _ => fun
  | [d1, d2] => { results := [.lit (.bool false)], args := [d1, d2] }
  | _ => none }
def FnExactJoinLabelsWrongFalsely : Prop := fnExactJoinLabelsRow.holds Try.pinned (OpenSpec.ofChange fnExactJoinLabelsWrong)

/-- 'laws.FnExactLabelWithin': WHATEVER THE INPUT: true; the input reads as it did. -/
def fnExactLabelWithinSpec : ChangeSpec := { name := "fnExactLabelWithin", fn := fun _ => fun
  | [d1, d2] => { results := [.lit (.bool true)], args := [d1, d2] }
  | _ => none }
def fnExactLabelWithinRow : OpenClaim := { program := "ythjbbaefimmeoaa", sum := "5cb09db26547ebc0e9264c8b2e654078f2516e679b1fc170d791d5a107c41e30", func := "loop.example/g03001/laws.FnExactLabelWithin", spec := "fnExactLabelWithin", apart := false }
def FnExactLabelWithinSaid : Prop := fnExactLabelWithinRow.holds Try.pinned (OpenSpec.ofChange fnExactLabelWithinSpec)

/-- ITS FALSE NEIGHBOUR: 'it returns false'. Refute it at one input. -/
def fnExactLabelWithinWrong : ChangeSpec := { name := "fnExactLabelWithin", fn := fun _ => fun
  | [d1, d2] => { results := [.lit (.bool false)], args := [d1, d2] }
  | _ => none }
def FnExactLabelWithinWrongFalsely : Prop := fnExactLabelWithinRow.holds Try.pinned (OpenSpec.ofChange fnExactLabelWithinWrong)

/-- 'laws.FnExactIsFlow': WHATEVER THE INPUT: true; the input reads as it did. -/
def fnExactIsFlowSpec : ChangeSpec := { name := "fnExactIsFlow", fn := fun _ => fun
  | [d] => { results := [.lit (.bool true)], args := [d] }
  | _ => none }
def fnExactIsFlowRow : OpenClaim := { program := "ythjbbaefimmeoaa", sum := "5cb09db26547ebc0e9264c8b2e654078f2516e679b1fc170d791d5a107c41e30", func := "loop.example/g03001/laws.FnExactIsFlow", spec := "fnExactIsFlow", apart := false }
def FnExactIsFlowSaid : Prop := fnExactIsFlowRow.holds Try.pinned (OpenSpec.ofChange fnExactIsFlowSpec)

/-- ITS FALSE NEIGHBOUR: 'it returns false'. Refute it at one input. -/
def fnExactIsFlowWrong : ChangeSpec := { name := "fnExactIsFlow", fn := fun _ => fun
  | [d] => { results := [.lit (.bool false)], args := [d] }
  | _ => none }
def FnExactIsFlowWrongFalsely : Prop := fnExactIsFlowRow.holds Try.pinned (OpenSpec.ofChange fnExactIsFlowWrong)

/-- 'laws.FnExactMayFlow': WHATEVER THE INPUT: true; the input reads as it did. -/
def fnExactMayFlowSpec : ChangeSpec := { name := "fnExactMayFlow", fn := fun _ => fun
  | [d1, d2, d3, d4] => { results := [.lit (.bool true)], args := [d1, d2, d3, d4] }
  | _ => none }
def fnExactMayFlowRow : OpenClaim := { program := "ythjbbaefimmeoaa", sum := "5cb09db26547ebc0e9264c8b2e654078f2516e679b1fc170d791d5a107c41e30", func := "loop.example/g03001/laws.FnExactMayFlow", spec := "fnExactMayFlow", apart := false }
def FnExactMayFlowSaid : Prop := fnExactMayFlowRow.holds Try.pinned (OpenSpec.ofChange fnExactMayFlowSpec)

/-- ITS FALSE NEIGHBOUR: 'it returns false'. Refute it at one input. -/
def fnExactMayFlowWrong : ChangeSpec := { name := "fnExactMayFlow", fn := fun _ => fun
  | [d1, d2, d3, d4] => { results := [.lit (.bool false)], args := [d1, d2, d3, d4] }
  | _ => none }
def FnExactMayFlowWrongFalsely : Prop := fnExactMayFlowRow.holds Try.pinned (OpenSpec.ofChange fnExactMayFlowWrong)

/-- 'laws.FnExactFlowsWithin': WHATEVER THE INPUT: true; the input reads as it did. -/
def fnExactFlowsWithinSpec : ChangeSpec := { name := "fnExactFlowsWithin", fn := fun _ => fun
  | [d1, d2] => { results := [.lit (.bool true)], args := [d1, d2] }
  | _ => none }
def fnExactFlowsWithinRow : OpenClaim := { program := "ythjbbaefimmeoaa", sum := "5cb09db26547ebc0e9264c8b2e654078f2516e679b1fc170d791d5a107c41e30", func := "loop.example/g03001/laws.FnExactFlowsWithin", spec := "fnExactFlowsWithin", unfollowed := true, recurses := true, apart := false }
def FnExactFlowsWithinSaid : Prop := fnExactFlowsWithinRow.holds Try.pinned (OpenSpec.ofChange fnExactFlowsWithinSpec)

/-- ITS FALSE NEIGHBOUR: 'it returns false'. Refute it at one input. -/
def fnExactFlowsWithinWrong : ChangeSpec := { name := "fnExactFlowsWithin", fn := fun _ => fun
  | [d1, d2] => { results := [.lit (.bool false)], args := [d1, d2] }
  | _ => none }
def FnExactFlowsWithinWrongFalsely : Prop := fnExactFlowsWithinRow.holds Try.pinned (OpenSpec.ofChange fnExactFlowsWithinWrong)

/-- 'laws.FnExactFlowsOf': WHATEVER THE INPUT: true; the input reads as it did. -/
def fnExactFlowsOfSpec : ChangeSpec := { name := "fnExactFlowsOf", fn := fun _ => fun
  | [d1, d2] => { results := [.lit (.bool true)], args := [d1, d2] }
  | _ => none }
def fnExactFlowsOfRow : OpenClaim := { program := "ythjbbaefimmeoaa", sum := "5cb09db26547ebc0e9264c8b2e654078f2516e679b1fc170d791d5a107c41e30", func := "loop.example/g03001/laws.FnExactFlowsOf", spec := "fnExactFlowsOf", unfollowed := true, recurses := true, apart := false }
def FnExactFlowsOfSaid : Prop := fnExactFlowsOfRow.holds Try.pinned (OpenSpec.ofChange fnExactFlowsOfSpec)

/-- ITS FALSE NEIGHBOUR: 'it returns false'. Refute it at one input. -/
def fnExactFlowsOfWrong : ChangeSpec := { name := "fnExactFlowsOf", fn := fun _ => fun
  | [d1, d2] => { results := [.lit (.bool false)], args := [d1, d2] }
  | _ => none }
def FnExactFlowsOfWrongFalsely : Prop := fnExactFlowsOfRow.holds Try.pinned (OpenSpec.ofChange fnExactFlowsOfWrong)

/-- 'laws.FnExactTargetsOf': WHATEVER THE INPUT: true; the input reads as it did. -/
def fnExactTargetsOfSpec : ChangeSpec := { name := "fnExactTargetsOf", fn := fun _ => fun
  | [d1, d2, d3] => { results := [.lit (.bool true)], args := [d1, d2, d3] }
  | _ => none }
def fnExactTargetsOfRow : OpenClaim := { program := "ythjbbaefimmeoaa", sum := "5cb09db26547ebc0e9264c8b2e654078f2516e679b1fc170d791d5a107c41e30", func := "loop.example/g03001/laws.FnExactTargetsOf", spec := "fnExactTargetsOf", unfollowed := true, recurses := true, apart := false }
def FnExactTargetsOfSaid : Prop := fnExactTargetsOfRow.holds Try.pinned (OpenSpec.ofChange fnExactTargetsOfSpec)

/-- ITS FALSE NEIGHBOUR: 'it returns false'. Refute it at one input. -/
def fnExactTargetsOfWrong : ChangeSpec := { name := "fnExactTargetsOf", fn := fun _ => fun
  | [d1, d2, d3] => { results := [.lit (.bool false)], args := [d1, d2, d3] }
  | _ => none }
def FnExactTargetsOfWrongFalsely : Prop := fnExactTargetsOfRow.holds Try.pinned (OpenSpec.ofChange fnExactTargetsOfWrong)

/-- 'laws.FnExactOutcomeName': WHATEVER THE INPUT: true; the input reads as it did. -/
def fnExactOutcomeNameSpec : ChangeSpec := { name := "fnExactOutcomeName", fn := fun _ => fun
  | [d] => { results := [.lit (.bool true)], args := [d] }
  | _ => none }
def fnExactOutcomeNameRow : OpenClaim := { program := "ythjbbaefimmeoaa", sum := "5cb09db26547ebc0e9264c8b2e654078f2516e679b1fc170d791d5a107c41e30", func := "loop.example/g03001/laws.FnExactOutcomeName", spec := "fnExactOutcomeName", apart := false }
def FnExactOutcomeNameSaid : Prop := fnExactOutcomeNameRow.holds Try.pinned (OpenSpec.ofChange fnExactOutcomeNameSpec)

/-- ITS FALSE NEIGHBOUR: 'it returns false'. Refute it at one input. -/
def fnExactOutcomeNameWrong : ChangeSpec := { name := "fnExactOutcomeName", fn := fun _ => fun
  | [d] => { results := [.lit (.bool false)], args := [d] }
  | _ => none }
def FnExactOutcomeNameWrongFalsely : Prop := fnExactOutcomeNameRow.holds Try.pinned (OpenSpec.ofChange fnExactOutcomeNameWrong)

/- THE SECOND FORM. 'bulk': how many values and letters a reading holds, each counted each time it is reached (what is shared counts as often as it is met; a slice's spare places count too). A statement '..UptoSaid' is the law's where the arguments, and the package variables that the reading takes, are together of bulk at most 1048576: NARROWER than '..Said'. Prove '..Said' where nothing that the law and all that it calls make is longer than what came in: it says more and counts as full. Else prove '..UptoSaid'. A law counts once. -/
mutual
def uptoBulk {H : Type} : DataW H → Nat
  | .lit (.string bytes) => bytes.length + 1
  | .lit _ => 1
  | .nil => 1
  | .ptr d => uptoBulk d + 1
  | .slice elems spare => uptoBulkAll elems + uptoBulkAll spare + 1
  | .agg parts => uptoBulkAll parts + 1
  | .iface _ d => uptoBulk d + 1
  | .map entries => uptoBulkEntries entries + 1
  | .held _ => 1
def uptoBulkAll {H : Type} : List (DataW H) → Nat
  | [] => 0
  | d :: r => uptoBulk d + uptoBulkAll r
def uptoBulkEntries {H : Type} : List (Lit × DataW H) → Nat
  | [] => 0
  | x :: r => uptoBulkEntry x + uptoBulkEntries r
def uptoBulkEntry {H : Type} : Lit × DataW H → Nat
  | (.string bytes, d) => bytes.length + uptoBulk d + 1
  | (_, d) => uptoBulk d + 1
 end
def uptoSmall : (H : Type) → List (DataW H) → Bool := fun _ ds => decide (uptoBulkAll ds ≤ 1048576)
def OpenSpec.upto (s : _root_.Go.ChangeSpec) : _root_.Go.OpenSpec := { _root_.Go.OpenSpec.ofChange s with cond := some uptoSmall }

/-- 'laws.FnExactIsLabel', WHERE WHAT IT READS IS OF BULK AT MOST 1048576: true; the input reads as it did. -/
def fnExactIsLabelUptoRow : OpenClaim := { program := "ythjbbaefimmeoaa", sum := "5cb09db26547ebc0e9264c8b2e654078f2516e679b1fc170d791d5a107c41e30", func := "loop.example/g03001/laws.FnExactIsLabel", spec := "fnExactIsLabel", apart := false, narrowed := true }
def FnExactIsLabelUptoSaid : Prop := fnExactIsLabelUptoRow.holds Try.pinned (OpenSpec.upto fnExactIsLabelSpec)

/-- 'laws.FnExactLabelOf', WHERE WHAT IT READS IS OF BULK AT MOST 1048576: true; the input reads as it did. -/
def fnExactLabelOfUptoRow : OpenClaim := { program := "ythjbbaefimmeoaa", sum := "5cb09db26547ebc0e9264c8b2e654078f2516e679b1fc170d791d5a107c41e30", func := "loop.example/g03001/laws.FnExactLabelOf", spec := "fnExactLabelOf", apart := false, narrowed := true }
def FnExactLabelOfUptoSaid : Prop := fnExactLabelOfUptoRow.holds Try.pinned (OpenSpec.upto fnExactLabelOfSpec)

/-- 'laws.FnExactOwnersIn', WHERE WHAT IT READS IS OF BULK AT MOST 1048576: true; the input reads as it did. -/
def fnExactOwnersInUptoRow : OpenClaim := { program := "ythjbbaefimmeoaa", sum := "5cb09db26547ebc0e9264c8b2e654078f2516e679b1fc170d791d5a107c41e30", func := "loop.example/g03001/laws.FnExactOwnersIn", spec := "fnExactOwnersIn", unfollowed := true, recurses := true, apart := false, narrowed := true }
def FnExactOwnersInUptoSaid : Prop := fnExactOwnersInUptoRow.holds Try.pinned (OpenSpec.upto fnExactOwnersInSpec)

/-- 'laws.FnExactJoinLabels', WHERE WHAT IT READS IS OF BULK AT MOST 1048576: true; the input reads as it did. -/
def fnExactJoinLabelsUptoRow : OpenClaim := { program := "ythjbbaefimmeoaa", sum := "5cb09db26547ebc0e9264c8b2e654078f2516e679b1fc170d791d5a107c41e30", func := "loop.example/g03001/laws.FnExactJoinLabels", spec := "fnExactJoinLabels", apart := false, narrowed := true }
def FnExactJoinLabelsUptoSaid : Prop := fnExactJoinLabelsUptoRow.holds Try.pinned (OpenSpec.upto fnExactJoinLabelsSpec)

/-- 'laws.FnExactLabelWithin', WHERE WHAT IT READS IS OF BULK AT MOST 1048576: true; the input reads as it did. -/
def fnExactLabelWithinUptoRow : OpenClaim := { program := "ythjbbaefimmeoaa", sum := "5cb09db26547ebc0e9264c8b2e654078f2516e679b1fc170d791d5a107c41e30", func := "loop.example/g03001/laws.FnExactLabelWithin", spec := "fnExactLabelWithin", apart := false, narrowed := true }
def FnExactLabelWithinUptoSaid : Prop := fnExactLabelWithinUptoRow.holds Try.pinned (OpenSpec.upto fnExactLabelWithinSpec)

/-- 'laws.FnExactIsFlow', WHERE WHAT IT READS IS OF BULK AT MOST 1048576: true; the input reads as it did. -/
def fnExactIsFlowUptoRow : OpenClaim := { program := "ythjbbaefimmeoaa", sum := "5cb09db26547ebc0e9264c8b2e654078f2516e679b1fc170d791d5a107c41e30", func := "loop.example/g03001/laws.FnExactIsFlow", spec := "fnExactIsFlow", apart := false, narrowed := true }
def FnExactIsFlowUptoSaid : Prop := fnExactIsFlowUptoRow.holds Try.pinned (OpenSpec.upto fnExactIsFlowSpec)

/-- 'laws.FnExactMayFlow', WHERE WHAT IT READS IS OF BULK AT MOST 1048576: true; the input reads as it did. -/
def fnExactMayFlowUptoRow : OpenClaim := { program := "ythjbbaefimmeoaa", sum := "5cb09db26547ebc0e9264c8b2e654078f2516e679b1fc170d791d5a107c41e30", func := "loop.example/g03001/laws.FnExactMayFlow", spec := "fnExactMayFlow", apart := false, narrowed := true }
def FnExactMayFlowUptoSaid : Prop := fnExactMayFlowUptoRow.holds Try.pinned (OpenSpec.upto fnExactMayFlowSpec)

/-- 'laws.FnExactFlowsWithin', WHERE WHAT IT READS IS OF BULK AT MOST 1048576: true; the input reads as it did. -/
def fnExactFlowsWithinUptoRow : OpenClaim := { program := "ythjbbaefimmeoaa", sum := "5cb09db26547ebc0e9264c8b2e654078f2516e679b1fc170d791d5a107c41e30", func := "loop.example/g03001/laws.FnExactFlowsWithin", spec := "fnExactFlowsWithin", unfollowed := true, recurses := true, apart := false, narrowed := true }
def FnExactFlowsWithinUptoSaid : Prop := fnExactFlowsWithinUptoRow.holds Try.pinned (OpenSpec.upto fnExactFlowsWithinSpec)

/-- 'laws.FnExactFlowsOf', WHERE WHAT IT READS IS OF BULK AT MOST 1048576: true; the input reads as it did. -/
def fnExactFlowsOfUptoRow : OpenClaim := { program := "ythjbbaefimmeoaa", sum := "5cb09db26547ebc0e9264c8b2e654078f2516e679b1fc170d791d5a107c41e30", func := "loop.example/g03001/laws.FnExactFlowsOf", spec := "fnExactFlowsOf", unfollowed := true, recurses := true, apart := false, narrowed := true }
def FnExactFlowsOfUptoSaid : Prop := fnExactFlowsOfUptoRow.holds Try.pinned (OpenSpec.upto fnExactFlowsOfSpec)

/-- 'laws.FnExactTargetsOf', WHERE WHAT IT READS IS OF BULK AT MOST 1048576: true; the input reads as it did. -/
def fnExactTargetsOfUptoRow : OpenClaim := { program := "ythjbbaefimmeoaa", sum := "5cb09db26547ebc0e9264c8b2e654078f2516e679b1fc170d791d5a107c41e30", func := "loop.example/g03001/laws.FnExactTargetsOf", spec := "fnExactTargetsOf", unfollowed := true, recurses := true, apart := false, narrowed := true }
def FnExactTargetsOfUptoSaid : Prop := fnExactTargetsOfUptoRow.holds Try.pinned (OpenSpec.upto fnExactTargetsOfSpec)

/-- 'laws.FnExactOutcomeName', WHERE WHAT IT READS IS OF BULK AT MOST 1048576: true; the input reads as it did. -/
def fnExactOutcomeNameUptoRow : OpenClaim := { program := "ythjbbaefimmeoaa", sum := "5cb09db26547ebc0e9264c8b2e654078f2516e679b1fc170d791d5a107c41e30", func := "loop.example/g03001/laws.FnExactOutcomeName", spec := "fnExactOutcomeName", apart := false, narrowed := true }
def FnExactOutcomeNameUptoSaid : Prop := fnExactOutcomeNameUptoRow.holds Try.pinned (OpenSpec.upto fnExactOutcomeNameSpec)

end Rows
end Go.Proofs.Ythjbbaefimmeoaa
