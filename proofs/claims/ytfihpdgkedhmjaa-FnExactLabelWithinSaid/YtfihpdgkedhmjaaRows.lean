/-
  No cell of these rows narrows 'for every input' (looked for: loops, veiled, ifaces, maps, wideKeys, modest, calm, conditions, laid).
  DERIVED. THE GIVEN ROWS OF THIS SEAT. 12 by the template 'for every input the law returns true; each argument reads behind the call as it read before'; 0 by the template 'total and deterministic' (their statements: YtfihpdgkedhmjaaTotals.lean).
  GIVEN WITH THE SEED: the statements are not yours to turn. If you find one false, say at which input.
  Laid BY PROGRAM, IN A SANDBOX (cutbox-rows.mjs): the forced cells as the released guide's own fill.sh prints them over the translation de00537bd0ab8933… (all of the seat's roots in one cut). By AI agents, Wed Nov 11 2026. No macro, syntax, notation, axiom, sorry.
-/
import Derived.Test.YtfihpdgkedhmjaaChecked
import GoSem.Claim
import GoSem.ClaimJoined
import GoSem.ClaimMapViews
import Derived.JoinedTies
import Derived.KernelRfl
namespace Go.Proofs.Ytfihpdgkedhmjaa
/- THE CELL 'sum', in the pinned program and in every row, IS THE sha256 OF THE DUMP (.gsa) THAT YtfihpdgkedhmjaaProg.lean LOADS. Nothing in Lean hashes anything: it is a label: what it is worth is what the hold of that sum in a sandbox is worth. -/
noncomputable def Try.pinned : Pinned := { name := "ytfihpdgkedhmjaa", sum := "de00537bd0ab8933647fbcddfa944c34f85115634fc219c89558c912c39a9263", checked := Try.checked }
namespace Rows
def none {H : Type} : Left H := { results := [], args := [] }

/-- 'laws.FnExactLabelOf': WHATEVER THE INPUT: true; the input reads as it did. -/
def fnExactLabelOfSpec : ChangeSpec := { name := "fnExactLabelOf", fn := fun _ => fun
  | [d] => { results := [.lit (.bool true)], args := [d] }
  | _ => none }
def fnExactLabelOfRow : OpenClaim := { program := "ytfihpdgkedhmjaa", sum := "de00537bd0ab8933647fbcddfa944c34f85115634fc219c89558c912c39a9263", func := "loop.example/g03001/laws.FnExactLabelOf", spec := "fnExactLabelOf", apart := false }
def FnExactLabelOfSaid : Prop := fnExactLabelOfRow.holds Try.pinned (OpenSpec.ofChange fnExactLabelOfSpec)

/-- ITS FALSE NEIGHBOUR: 'it returns false'. Refute it at one input. -/
def fnExactLabelOfWrong : ChangeSpec := { name := "fnExactLabelOf", fn := fun _ => fun
  | [d] => { results := [.lit (.bool false)], args := [d] }
  | _ => none }
def FnExactLabelOfWrongFalsely : Prop := fnExactLabelOfRow.holds Try.pinned (OpenSpec.ofChange fnExactLabelOfWrong)

/-- 'laws.FnExactOwnersIn': WHATEVER THE INPUT: true; the input reads as it did. -/
def fnExactOwnersInSpec : ChangeSpec := { name := "fnExactOwnersIn", fn := fun _ => fun
  | [d] => { results := [.lit (.bool true)], args := [d] }
  | _ => none }
def fnExactOwnersInRow : OpenClaim := { program := "ytfihpdgkedhmjaa", sum := "de00537bd0ab8933647fbcddfa944c34f85115634fc219c89558c912c39a9263", func := "loop.example/g03001/laws.FnExactOwnersIn", spec := "fnExactOwnersIn", unfollowed := true, recurses := true, apart := false }
def FnExactOwnersInSaid : Prop := fnExactOwnersInRow.holds Try.pinned (OpenSpec.ofChange fnExactOwnersInSpec)

/-- ITS FALSE NEIGHBOUR: 'it returns false'. Refute it at one input. -/
def fnExactOwnersInWrong : ChangeSpec := { name := "fnExactOwnersIn", fn := fun _ => fun
  | [d] => { results := [.lit (.bool false)], args := [d] }
  | _ => none }
def FnExactOwnersInWrongFalsely : Prop := fnExactOwnersInRow.holds Try.pinned (OpenSpec.ofChange fnExactOwnersInWrong)

/-- 'laws.FnExactJoinLabels': WHATEVER THE INPUT: true; the input reads as it did. -/
def fnExactJoinLabelsSpec : ChangeSpec := { name := "fnExactJoinLabels", fn := fun _ => fun
  | [d1, d2] => { results := [.lit (.bool true)], args := [d1, d2] }
  | _ => none }
def fnExactJoinLabelsRow : OpenClaim := { program := "ytfihpdgkedhmjaa", sum := "de00537bd0ab8933647fbcddfa944c34f85115634fc219c89558c912c39a9263", func := "loop.example/g03001/laws.FnExactJoinLabels", spec := "fnExactJoinLabels", apart := false }
def FnExactJoinLabelsSaid : Prop := fnExactJoinLabelsRow.holds Try.pinned (OpenSpec.ofChange fnExactJoinLabelsSpec)

/-- ITS FALSE NEIGHBOUR: 'it returns false'. Refute it at one input. -/
def fnExactJoinLabelsWrong : ChangeSpec := { name := "fnExactJoinLabels", fn := fun _ => fun
  | [d1, d2] => { results := [.lit (.bool false)], args := [d1, d2] }
  | _ => none }
def FnExactJoinLabelsWrongFalsely : Prop := fnExactJoinLabelsRow.holds Try.pinned (OpenSpec.ofChange fnExactJoinLabelsWrong)

/-- 'laws.FnExactLabelWithin': WHATEVER THE INPUT: true; the input reads as it did. -/
def fnExactLabelWithinSpec : ChangeSpec := { name := "fnExactLabelWithin", fn := fun _ => fun
  | [d1, d2] => { results := [.lit (.bool true)], args := [d1, d2] }
  | _ => none }
def fnExactLabelWithinRow : OpenClaim := { program := "ytfihpdgkedhmjaa", sum := "de00537bd0ab8933647fbcddfa944c34f85115634fc219c89558c912c39a9263", func := "loop.example/g03001/laws.FnExactLabelWithin", spec := "fnExactLabelWithin", apart := false }
def FnExactLabelWithinSaid : Prop := fnExactLabelWithinRow.holds Try.pinned (OpenSpec.ofChange fnExactLabelWithinSpec)

/-- ITS FALSE NEIGHBOUR: 'it returns false'. Refute it at one input. -/
def fnExactLabelWithinWrong : ChangeSpec := { name := "fnExactLabelWithin", fn := fun _ => fun
  | [d1, d2] => { results := [.lit (.bool false)], args := [d1, d2] }
  | _ => none }
def FnExactLabelWithinWrongFalsely : Prop := fnExactLabelWithinRow.holds Try.pinned (OpenSpec.ofChange fnExactLabelWithinWrong)

/-- 'laws.FnExactMayFlow': WHATEVER THE INPUT: true; the input reads as it did. -/
def fnExactMayFlowSpec : ChangeSpec := { name := "fnExactMayFlow", fn := fun _ => fun
  | [d1, d2, d3, d4] => { results := [.lit (.bool true)], args := [d1, d2, d3, d4] }
  | _ => none }
def fnExactMayFlowRow : OpenClaim := { program := "ytfihpdgkedhmjaa", sum := "de00537bd0ab8933647fbcddfa944c34f85115634fc219c89558c912c39a9263", func := "loop.example/g03001/laws.FnExactMayFlow", spec := "fnExactMayFlow", apart := false }
def FnExactMayFlowSaid : Prop := fnExactMayFlowRow.holds Try.pinned (OpenSpec.ofChange fnExactMayFlowSpec)

/-- ITS FALSE NEIGHBOUR: 'it returns false'. Refute it at one input. -/
def fnExactMayFlowWrong : ChangeSpec := { name := "fnExactMayFlow", fn := fun _ => fun
  | [d1, d2, d3, d4] => { results := [.lit (.bool false)], args := [d1, d2, d3, d4] }
  | _ => none }
def FnExactMayFlowWrongFalsely : Prop := fnExactMayFlowRow.holds Try.pinned (OpenSpec.ofChange fnExactMayFlowWrong)

/-- 'laws.FnExactTargetsOf': WHATEVER THE INPUT: true; the input reads as it did. -/
def fnExactTargetsOfSpec : ChangeSpec := { name := "fnExactTargetsOf", fn := fun _ => fun
  | [d1, d2, d3] => { results := [.lit (.bool true)], args := [d1, d2, d3] }
  | _ => none }
def fnExactTargetsOfRow : OpenClaim := { program := "ytfihpdgkedhmjaa", sum := "de00537bd0ab8933647fbcddfa944c34f85115634fc219c89558c912c39a9263", func := "loop.example/g03001/laws.FnExactTargetsOf", spec := "fnExactTargetsOf", unfollowed := true, recurses := true, apart := false }
def FnExactTargetsOfSaid : Prop := fnExactTargetsOfRow.holds Try.pinned (OpenSpec.ofChange fnExactTargetsOfSpec)

/-- ITS FALSE NEIGHBOUR: 'it returns false'. Refute it at one input. -/
def fnExactTargetsOfWrong : ChangeSpec := { name := "fnExactTargetsOf", fn := fun _ => fun
  | [d1, d2, d3] => { results := [.lit (.bool false)], args := [d1, d2, d3] }
  | _ => none }
def FnExactTargetsOfWrongFalsely : Prop := fnExactTargetsOfRow.holds Try.pinned (OpenSpec.ofChange fnExactTargetsOfWrong)

/-- 'laws.FnExactAreOps': WHATEVER THE INPUT: true; the input reads as it did. -/
def fnExactAreOpsSpec : ChangeSpec := { name := "fnExactAreOps", fn := fun _ => fun
  | [d] => { results := [.lit (.bool true)], args := [d] }
  | _ => none }
def fnExactAreOpsRow : OpenClaim := { program := "ytfihpdgkedhmjaa", sum := "de00537bd0ab8933647fbcddfa944c34f85115634fc219c89558c912c39a9263", func := "loop.example/g03001/laws.FnExactAreOps", spec := "fnExactAreOps", unfollowed := true, recurses := true, apart := false }
def FnExactAreOpsSaid : Prop := fnExactAreOpsRow.holds Try.pinned (OpenSpec.ofChange fnExactAreOpsSpec)

/-- ITS FALSE NEIGHBOUR: 'it returns false'. Refute it at one input. -/
def fnExactAreOpsWrong : ChangeSpec := { name := "fnExactAreOps", fn := fun _ => fun
  | [d] => { results := [.lit (.bool false)], args := [d] }
  | _ => none }
def FnExactAreOpsWrongFalsely : Prop := fnExactAreOpsRow.holds Try.pinned (OpenSpec.ofChange fnExactAreOpsWrong)

/-- 'laws.FnExactRunOps': WHATEVER THE INPUT: true; the input reads as it did. -/
def fnExactRunOpsSpec : ChangeSpec := { name := "fnExactRunOps", fn := fun _ => fun
  | [d1, d2, d3, d4] => { results := [.lit (.bool true)], args := [d1, d2, d3, d4] }
  | _ => none }
def fnExactRunOpsRow : OpenClaim := { program := "ytfihpdgkedhmjaa", sum := "de00537bd0ab8933647fbcddfa944c34f85115634fc219c89558c912c39a9263", func := "loop.example/g03001/laws.FnExactRunOps", spec := "fnExactRunOps", unfollowed := true, recurses := true, apart := false }
def FnExactRunOpsSaid : Prop := fnExactRunOpsRow.holds Try.pinned (OpenSpec.ofChange fnExactRunOpsSpec)

/-- ITS FALSE NEIGHBOUR: 'it returns false'. Refute it at one input. -/
def fnExactRunOpsWrong : ChangeSpec := { name := "fnExactRunOps", fn := fun _ => fun
  | [d1, d2, d3, d4] => { results := [.lit (.bool false)], args := [d1, d2, d3, d4] }
  | _ => none }
def FnExactRunOpsWrongFalsely : Prop := fnExactRunOpsRow.holds Try.pinned (OpenSpec.ofChange fnExactRunOpsWrong)

/-- 'laws.FnExactLabelsAfter': WHATEVER THE INPUT: true; the input reads as it did. -/
def fnExactLabelsAfterSpec : ChangeSpec := { name := "fnExactLabelsAfter", fn := fun _ => fun
  | [d] => { results := [.lit (.bool true)], args := [d] }
  | _ => none }
def fnExactLabelsAfterRow : OpenClaim := { program := "ytfihpdgkedhmjaa", sum := "de00537bd0ab8933647fbcddfa944c34f85115634fc219c89558c912c39a9263", func := "loop.example/g03001/laws.FnExactLabelsAfter", spec := "fnExactLabelsAfter", unfollowed := true, recurses := true, apart := false }
def FnExactLabelsAfterSaid : Prop := fnExactLabelsAfterRow.holds Try.pinned (OpenSpec.ofChange fnExactLabelsAfterSpec)

/-- ITS FALSE NEIGHBOUR: 'it returns false'. Refute it at one input. -/
def fnExactLabelsAfterWrong : ChangeSpec := { name := "fnExactLabelsAfter", fn := fun _ => fun
  | [d] => { results := [.lit (.bool false)], args := [d] }
  | _ => none }
def FnExactLabelsAfterWrongFalsely : Prop := fnExactLabelsAfterRow.holds Try.pinned (OpenSpec.ofChange fnExactLabelsAfterWrong)

/-- 'laws.FnExactNeedsFlows': WHATEVER THE INPUT: true; the input reads as it did. -/
def fnExactNeedsFlowsSpec : ChangeSpec := { name := "fnExactNeedsFlows", fn := fun _ => fun
  | [d1, d2] => { results := [.lit (.bool true)], args := [d1, d2] }
  | _ => none }
def fnExactNeedsFlowsRow : OpenClaim := { program := "ytfihpdgkedhmjaa", sum := "de00537bd0ab8933647fbcddfa944c34f85115634fc219c89558c912c39a9263", func := "loop.example/g03001/laws.FnExactNeedsFlows", spec := "fnExactNeedsFlows", unfollowed := true, recurses := true, apart := false }
def FnExactNeedsFlowsSaid : Prop := fnExactNeedsFlowsRow.holds Try.pinned (OpenSpec.ofChange fnExactNeedsFlowsSpec)

/-- ITS FALSE NEIGHBOUR: 'it returns false'. Refute it at one input. -/
def fnExactNeedsFlowsWrong : ChangeSpec := { name := "fnExactNeedsFlows", fn := fun _ => fun
  | [d1, d2] => { results := [.lit (.bool false)], args := [d1, d2] }
  | _ => none }
def FnExactNeedsFlowsWrongFalsely : Prop := fnExactNeedsFlowsRow.holds Try.pinned (OpenSpec.ofChange fnExactNeedsFlowsWrong)

/-- 'laws.FnExactChangeValue': WHATEVER THE INPUT: true; the input reads as it did. -/
def fnExactChangeValueSpec : ChangeSpec := { name := "fnExactChangeValue", fn := fun _ => fun
  | [d1, d2, d3] => { results := [.lit (.bool true)], args := [d1, d2, d3] }
  | _ => none }
def fnExactChangeValueRow : OpenClaim := { program := "ytfihpdgkedhmjaa", sum := "de00537bd0ab8933647fbcddfa944c34f85115634fc219c89558c912c39a9263", func := "loop.example/g03001/laws.FnExactChangeValue", spec := "fnExactChangeValue", apart := false }
def FnExactChangeValueSaid : Prop := fnExactChangeValueRow.holds Try.pinned (OpenSpec.ofChange fnExactChangeValueSpec)

/-- ITS FALSE NEIGHBOUR: 'it returns false'. Refute it at one input. -/
def fnExactChangeValueWrong : ChangeSpec := { name := "fnExactChangeValue", fn := fun _ => fun
  | [d1, d2, d3] => { results := [.lit (.bool false)], args := [d1, d2, d3] }
  | _ => none }
def FnExactChangeValueWrongFalsely : Prop := fnExactChangeValueRow.holds Try.pinned (OpenSpec.ofChange fnExactChangeValueWrong)

/-- 'laws.FnExactSameSent': WHATEVER THE INPUT: true; the input reads as it did. -/
def fnExactSameSentSpec : ChangeSpec := { name := "fnExactSameSent", fn := fun _ => fun
  | [d1, d2, d3] => { results := [.lit (.bool true)], args := [d1, d2, d3] }
  | _ => none }
def fnExactSameSentRow : OpenClaim := { program := "ytfihpdgkedhmjaa", sum := "de00537bd0ab8933647fbcddfa944c34f85115634fc219c89558c912c39a9263", func := "loop.example/g03001/laws.FnExactSameSent", spec := "fnExactSameSent", unfollowed := true, recurses := true, apart := false }
def FnExactSameSentSaid : Prop := fnExactSameSentRow.holds Try.pinned (OpenSpec.ofChange fnExactSameSentSpec)

/-- ITS FALSE NEIGHBOUR: 'it returns false'. Refute it at one input. -/
def fnExactSameSentWrong : ChangeSpec := { name := "fnExactSameSent", fn := fun _ => fun
  | [d1, d2, d3] => { results := [.lit (.bool false)], args := [d1, d2, d3] }
  | _ => none }
def FnExactSameSentWrongFalsely : Prop := fnExactSameSentRow.holds Try.pinned (OpenSpec.ofChange fnExactSameSentWrong)

/- THE SECOND FORM. 'bulk': how many values and letters a reading holds, each counted each time it is reached (what is shared counts as often as it is met; a slice's spare places count too). A statement '..UptoSaid' is the law's where the arguments, and the package variables that the reading takes, are together of bulk at most 1048576: NARROWER than '..Said'. Prove '..Said' where nothing that the law and all that it calls make is longer than what came in: it says more and counts as full. Else prove '..UptoSaid'. A law counts once. -/
mutual
def uptoBulk {H : Type} : DataW H → Nat
  | .lit (.string bytes) => bytes.length + 1
  | .lit _ => 1
  | .nil => 1
  | .ptr d => uptoBulk d + 1
  | .slice elems spare => uptoBulkAll elems + uptoBulkAll spare + 1
  | .agg parts => uptoBulkAll parts + 1
  | .iface _ d => uptoBulk d + 1
  | .map entries => uptoBulkEntries entries + 1
  | .held _ => 1
def uptoBulkAll {H : Type} : List (DataW H) → Nat
  | [] => 0
  | d :: r => uptoBulk d + uptoBulkAll r
def uptoBulkEntries {H : Type} : List (Lit × DataW H) → Nat
  | [] => 0
  | x :: r => uptoBulkEntry x + uptoBulkEntries r
def uptoBulkEntry {H : Type} : Lit × DataW H → Nat
  | (.string bytes, d) => bytes.length + uptoBulk d + 1
  | (_, d) => uptoBulk d + 1
 end
def uptoSmall : (H : Type) → List (DataW H) → Bool := fun _ ds => decide (uptoBulkAll ds ≤ 1048576)
def OpenSpec.upto (s : _root_.Go.ChangeSpec) : _root_.Go.OpenSpec := { _root_.Go.OpenSpec.ofChange s with cond := some uptoSmall }

/-- 'laws.FnExactLabelOf', WHERE WHAT IT READS IS OF BULK AT MOST 1048576: true; the input reads as it did. -/
def fnExactLabelOfUptoRow : OpenClaim := { program := "ytfihpdgkedhmjaa", sum := "de00537bd0ab8933647fbcddfa944c34f85115634fc219c89558c912c39a9263", func := "loop.example/g03001/laws.FnExactLabelOf", spec := "fnExactLabelOf", apart := false, narrowed := true }
def FnExactLabelOfUptoSaid : Prop := fnExactLabelOfUptoRow.holds Try.pinned (OpenSpec.upto fnExactLabelOfSpec)

/-- 'laws.FnExactOwnersIn', WHERE WHAT IT READS IS OF BULK AT MOST 1048576: true; the input reads as it did. -/
def fnExactOwnersInUptoRow : OpenClaim := { program := "ytfihpdgkedhmjaa", sum := "de00537bd0ab8933647fbcddfa944c34f85115634fc219c89558c912c39a9263", func := "loop.example/g03001/laws.FnExactOwnersIn", spec := "fnExactOwnersIn", unfollowed := true, recurses := true, apart := false, narrowed := true }
def FnExactOwnersInUptoSaid : Prop := fnExactOwnersInUptoRow.holds Try.pinned (OpenSpec.upto fnExactOwnersInSpec)

/-- 'laws.FnExactJoinLabels', WHERE WHAT IT READS IS OF BULK AT MOST 1048576: true; the input reads as it did. -/
def fnExactJoinLabelsUptoRow : OpenClaim := { program := "ytfihpdgkedhmjaa", sum := "de00537bd0ab8933647fbcddfa944c34f85115634fc219c89558c912c39a9263", func := "loop.example/g03001/laws.FnExactJoinLabels", spec := "fnExactJoinLabels", apart := false, narrowed := true }
def FnExactJoinLabelsUptoSaid : Prop := fnExactJoinLabelsUptoRow.holds Try.pinned (OpenSpec.upto fnExactJoinLabelsSpec)

/-- 'laws.FnExactLabelWithin', WHERE WHAT IT READS IS OF BULK AT MOST 1048576: true; the input reads as it did. -/
def fnExactLabelWithinUptoRow : OpenClaim := { program := "ytfihpdgkedhmjaa", sum := "de00537bd0ab8933647fbcddfa944c34f85115634fc219c89558c912c39a9263", func := "loop.example/g03001/laws.FnExactLabelWithin", spec := "fnExactLabelWithin", apart := false, narrowed := true }
def FnExactLabelWithinUptoSaid : Prop := fnExactLabelWithinUptoRow.holds Try.pinned (OpenSpec.upto fnExactLabelWithinSpec)

/-- 'laws.FnExactMayFlow', WHERE WHAT IT READS IS OF BULK AT MOST 1048576: true; the input reads as it did. -/
def fnExactMayFlowUptoRow : OpenClaim := { program := "ytfihpdgkedhmjaa", sum := "de00537bd0ab8933647fbcddfa944c34f85115634fc219c89558c912c39a9263", func := "loop.example/g03001/laws.FnExactMayFlow", spec := "fnExactMayFlow", apart := false, narrowed := true }
def FnExactMayFlowUptoSaid : Prop := fnExactMayFlowUptoRow.holds Try.pinned (OpenSpec.upto fnExactMayFlowSpec)

/-- 'laws.FnExactTargetsOf', WHERE WHAT IT READS IS OF BULK AT MOST 1048576: true; the input reads as it did. -/
def fnExactTargetsOfUptoRow : OpenClaim := { program := "ytfihpdgkedhmjaa", sum := "de00537bd0ab8933647fbcddfa944c34f85115634fc219c89558c912c39a9263", func := "loop.example/g03001/laws.FnExactTargetsOf", spec := "fnExactTargetsOf", unfollowed := true, recurses := true, apart := false, narrowed := true }
def FnExactTargetsOfUptoSaid : Prop := fnExactTargetsOfUptoRow.holds Try.pinned (OpenSpec.upto fnExactTargetsOfSpec)

/-- 'laws.FnExactAreOps', WHERE WHAT IT READS IS OF BULK AT MOST 1048576: true; the input reads as it did. -/
def fnExactAreOpsUptoRow : OpenClaim := { program := "ytfihpdgkedhmjaa", sum := "de00537bd0ab8933647fbcddfa944c34f85115634fc219c89558c912c39a9263", func := "loop.example/g03001/laws.FnExactAreOps", spec := "fnExactAreOps", unfollowed := true, recurses := true, apart := false, narrowed := true }
def FnExactAreOpsUptoSaid : Prop := fnExactAreOpsUptoRow.holds Try.pinned (OpenSpec.upto fnExactAreOpsSpec)

/-- 'laws.FnExactRunOps', WHERE WHAT IT READS IS OF BULK AT MOST 1048576: true; the input reads as it did. -/
def fnExactRunOpsUptoRow : OpenClaim := { program := "ytfihpdgkedhmjaa", sum := "de00537bd0ab8933647fbcddfa944c34f85115634fc219c89558c912c39a9263", func := "loop.example/g03001/laws.FnExactRunOps", spec := "fnExactRunOps", unfollowed := true, recurses := true, apart := false, narrowed := true }
def FnExactRunOpsUptoSaid : Prop := fnExactRunOpsUptoRow.holds Try.pinned (OpenSpec.upto fnExactRunOpsSpec)

/-- 'laws.FnExactLabelsAfter', WHERE WHAT IT READS IS OF BULK AT MOST 1048576: true; the input reads as it did. -/
def fnExactLabelsAfterUptoRow : OpenClaim := { program := "ytfihpdgkedhmjaa", sum := "de00537bd0ab8933647fbcddfa944c34f85115634fc219c89558c912c39a9263", func := "loop.example/g03001/laws.FnExactLabelsAfter", spec := "fnExactLabelsAfter", unfollowed := true, recurses := true, apart := false, narrowed := true }
def FnExactLabelsAfterUptoSaid : Prop := fnExactLabelsAfterUptoRow.holds Try.pinned (OpenSpec.upto fnExactLabelsAfterSpec)

/-- 'laws.FnExactNeedsFlows', WHERE WHAT IT READS IS OF BULK AT MOST 1048576: true; the input reads as it did. -/
def fnExactNeedsFlowsUptoRow : OpenClaim := { program := "ytfihpdgkedhmjaa", sum := "de00537bd0ab8933647fbcddfa944c34f85115634fc219c89558c912c39a9263", func := "loop.example/g03001/laws.FnExactNeedsFlows", spec := "fnExactNeedsFlows", unfollowed := true, recurses := true, apart := false, narrowed := true }
def FnExactNeedsFlowsUptoSaid : Prop := fnExactNeedsFlowsUptoRow.holds Try.pinned (OpenSpec.upto fnExactNeedsFlowsSpec)

/-- 'laws.FnExactChangeValue', WHERE WHAT IT READS IS OF BULK AT MOST 1048576: true; the input reads as it did. -/
def fnExactChangeValueUptoRow : OpenClaim := { program := "ytfihpdgkedhmjaa", sum := "de00537bd0ab8933647fbcddfa944c34f85115634fc219c89558c912c39a9263", func := "loop.example/g03001/laws.FnExactChangeValue", spec := "fnExactChangeValue", apart := false, narrowed := true }
def FnExactChangeValueUptoSaid : Prop := fnExactChangeValueUptoRow.holds Try.pinned (OpenSpec.upto fnExactChangeValueSpec)

/-- 'laws.FnExactSameSent', WHERE WHAT IT READS IS OF BULK AT MOST 1048576: true; the input reads as it did. -/
def fnExactSameSentUptoRow : OpenClaim := { program := "ytfihpdgkedhmjaa", sum := "de00537bd0ab8933647fbcddfa944c34f85115634fc219c89558c912c39a9263", func := "loop.example/g03001/laws.FnExactSameSent", spec := "fnExactSameSent", unfollowed := true, recurses := true, apart := false, narrowed := true }
def FnExactSameSentUptoSaid : Prop := fnExactSameSentUptoRow.holds Try.pinned (OpenSpec.upto fnExactSameSentSpec)

end Rows
end Go.Proofs.Ytfihpdgkedhmjaa
