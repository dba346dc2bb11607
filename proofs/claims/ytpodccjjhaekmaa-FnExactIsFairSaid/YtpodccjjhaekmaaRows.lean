/-
  No cell of these rows narrows 'for every input' (looked for: loops, veiled, ifaces, maps, wideKeys, modest, calm, conditions, laid).
  DERIVED. THE GIVEN ROWS OF THIS SEAT. 11 by the template 'for every input the law returns true; each argument reads behind the call as it read before'; 0 by the template 'total and deterministic' (their statements: YtpodccjjhaekmaaTotals.lean).
  GIVEN WITH THE SEED: the statements are not yours to turn. If you find one false, say at which input.
  Laid BY PROGRAM, IN A SANDBOX (cutbox-rows.mjs): the forced cells as the released guide's own fill.sh prints them over the translation bd45237b8afd623d… (all of the seat's roots in one cut). By AI agents, Wed Nov 11 2026. No macro, syntax, notation, axiom, sorry.
-/
import Derived.Test.YtpodccjjhaekmaaChecked
import GoSem.Claim
import GoSem.ClaimJoined
import GoSem.ClaimMapViews
import Derived.JoinedTies
import Derived.KernelRfl
namespace Go.Proofs.Ytpodccjjhaekmaa
/- THE CELL 'sum', in the pinned program and in every row, IS THE sha256 OF THE DUMP (.gsa) THAT YtpodccjjhaekmaaProg.lean LOADS. Nothing in Lean hashes anything: it is a label: what it is worth is what the hold of that sum in a sandbox is worth. -/
noncomputable def Try.pinned : Pinned := { name := "ytpodccjjhaekmaa", sum := "bd45237b8afd623d5db399c3f98a526bfdd511220ac87478f62a7d590ebccab5", checked := Try.checked }
namespace Rows
def none {H : Type} : Left H := { results := [], args := [] }

/-- 'laws.FnExactDecideRule': WHATEVER THE INPUT: true; the input reads as it did. -/
def fnExactDecideRuleSpec : ChangeSpec := { name := "fnExactDecideRule", fn := fun _ => fun
  | [d1, d2] => { results := [.lit (.bool true)], args := [d1, d2] }
  | _ => none }
def fnExactDecideRuleRow : OpenClaim := { program := "ytpodccjjhaekmaa", sum := "bd45237b8afd623d5db399c3f98a526bfdd511220ac87478f62a7d590ebccab5", func := "loop.example/g03001/laws.FnExactDecideRule", spec := "fnExactDecideRule", unfollowed := true, recurses := true, apart := false }
def FnExactDecideRuleSaid : Prop := fnExactDecideRuleRow.holds Try.pinned (OpenSpec.ofChange fnExactDecideRuleSpec)

/-- ITS FALSE NEIGHBOUR: 'it returns false'. Refute it at one input. -/
def fnExactDecideRuleWrong : ChangeSpec := { name := "fnExactDecideRule", fn := fun _ => fun
  | [d1, d2] => { results := [.lit (.bool false)], args := [d1, d2] }
  | _ => none }
def FnExactDecideRuleWrongFalsely : Prop := fnExactDecideRuleRow.holds Try.pinned (OpenSpec.ofChange fnExactDecideRuleWrong)

/-- 'laws.FnExactActionFor': WHATEVER THE INPUT: true; the input reads as it did. -/
def fnExactActionForSpec : ChangeSpec := { name := "fnExactActionFor", fn := fun _ => fun
  | [d1, d2] => { results := [.lit (.bool true)], args := [d1, d2] }
  | _ => none }
def fnExactActionForRow : OpenClaim := { program := "ytpodccjjhaekmaa", sum := "bd45237b8afd623d5db399c3f98a526bfdd511220ac87478f62a7d590ebccab5", func := "loop.example/g03001/laws.FnExactActionFor", spec := "fnExactActionFor", unfollowed := true, recurses := true, apart := false }
def FnExactActionForSaid : Prop := fnExactActionForRow.holds Try.pinned (OpenSpec.ofChange fnExactActionForSpec)

/-- ITS FALSE NEIGHBOUR: 'it returns false'. Refute it at one input. -/
def fnExactActionForWrong : ChangeSpec := { name := "fnExactActionFor", fn := fun _ => fun
  | [d1, d2] => { results := [.lit (.bool false)], args := [d1, d2] }
  | _ => none }
def FnExactActionForWrongFalsely : Prop := fnExactActionForRow.holds Try.pinned (OpenSpec.ofChange fnExactActionForWrong)

/-- 'laws.FnExactSortRules': WHATEVER THE INPUT: true; the input reads as it did. -/
def fnExactSortRulesSpec : ChangeSpec := { name := "fnExactSortRules", fn := fun _ => fun
  | [d] => { results := [.lit (.bool true)], args := [d] }
  | _ => none }
def fnExactSortRulesRow : OpenClaim := { program := "ytpodccjjhaekmaa", sum := "bd45237b8afd623d5db399c3f98a526bfdd511220ac87478f62a7d590ebccab5", func := "loop.example/g03001/laws.FnExactSortRules", spec := "fnExactSortRules", unfollowed := true, recurses := true, apart := false }
def FnExactSortRulesSaid : Prop := fnExactSortRulesRow.holds Try.pinned (OpenSpec.ofChange fnExactSortRulesSpec)

/-- ITS FALSE NEIGHBOUR: 'it returns false'. Refute it at one input. -/
def fnExactSortRulesWrong : ChangeSpec := { name := "fnExactSortRules", fn := fun _ => fun
  | [d] => { results := [.lit (.bool false)], args := [d] }
  | _ => none }
def FnExactSortRulesWrongFalsely : Prop := fnExactSortRulesRow.holds Try.pinned (OpenSpec.ofChange fnExactSortRulesWrong)

/-- 'laws.FnExactCanAddRule': WHATEVER THE INPUT: true; the input reads as it did. -/
def fnExactCanAddRuleSpec : ChangeSpec := { name := "fnExactCanAddRule", fn := fun _ => fun
  | [d1, d2] => { results := [.lit (.bool true)], args := [d1, d2] }
  | _ => none }
def fnExactCanAddRuleRow : OpenClaim := { program := "ytpodccjjhaekmaa", sum := "bd45237b8afd623d5db399c3f98a526bfdd511220ac87478f62a7d590ebccab5", func := "loop.example/g03001/laws.FnExactCanAddRule", spec := "fnExactCanAddRule", apart := false }
def FnExactCanAddRuleSaid : Prop := fnExactCanAddRuleRow.holds Try.pinned (OpenSpec.ofChange fnExactCanAddRuleSpec)

/-- ITS FALSE NEIGHBOUR: 'it returns false'. Refute it at one input. -/
def fnExactCanAddRuleWrong : ChangeSpec := { name := "fnExactCanAddRule", fn := fun _ => fun
  | [d1, d2] => { results := [.lit (.bool false)], args := [d1, d2] }
  | _ => none }
def FnExactCanAddRuleWrongFalsely : Prop := fnExactCanAddRuleRow.holds Try.pinned (OpenSpec.ofChange fnExactCanAddRuleWrong)

/-- 'laws.FnExactAddRule': WHATEVER THE INPUT: true; the input reads as it did. -/
def fnExactAddRuleSpec : ChangeSpec := { name := "fnExactAddRule", fn := fun _ => fun
  | [d1, d2] => { results := [.lit (.bool true)], args := [d1, d2] }
  | _ => none }
def fnExactAddRuleRow : OpenClaim := { program := "ytpodccjjhaekmaa", sum := "bd45237b8afd623d5db399c3f98a526bfdd511220ac87478f62a7d590ebccab5", func := "loop.example/g03001/laws.FnExactAddRule", spec := "fnExactAddRule", apart := false }
def FnExactAddRuleSaid : Prop := fnExactAddRuleRow.holds Try.pinned (OpenSpec.ofChange fnExactAddRuleSpec)

/-- ITS FALSE NEIGHBOUR: 'it returns false'. Refute it at one input. -/
def fnExactAddRuleWrong : ChangeSpec := { name := "fnExactAddRule", fn := fun _ => fun
  | [d1, d2] => { results := [.lit (.bool false)], args := [d1, d2] }
  | _ => none }
def FnExactAddRuleWrongFalsely : Prop := fnExactAddRuleRow.holds Try.pinned (OpenSpec.ofChange fnExactAddRuleWrong)

/-- 'laws.FnExactRoomFor': WHATEVER THE INPUT: true; the input reads as it did. -/
def fnExactRoomForSpec : ChangeSpec := { name := "fnExactRoomFor", fn := fun _ => fun
  | [d1, d2] => { results := [.lit (.bool true)], args := [d1, d2] }
  | _ => none }
def fnExactRoomForRow : OpenClaim := { program := "ytpodccjjhaekmaa", sum := "bd45237b8afd623d5db399c3f98a526bfdd511220ac87478f62a7d590ebccab5", func := "loop.example/g03001/laws.FnExactRoomFor", spec := "fnExactRoomFor", apart := false }
def FnExactRoomForSaid : Prop := fnExactRoomForRow.holds Try.pinned (OpenSpec.ofChange fnExactRoomForSpec)

/-- ITS FALSE NEIGHBOUR: 'it returns false'. Refute it at one input. -/
def fnExactRoomForWrong : ChangeSpec := { name := "fnExactRoomFor", fn := fun _ => fun
  | [d1, d2] => { results := [.lit (.bool false)], args := [d1, d2] }
  | _ => none }
def FnExactRoomForWrongFalsely : Prop := fnExactRoomForRow.holds Try.pinned (OpenSpec.ofChange fnExactRoomForWrong)

/-- 'laws.FnExactIsFair': WHATEVER THE INPUT: true; the input reads as it did. -/
def fnExactIsFairSpec : ChangeSpec := { name := "fnExactIsFair", fn := fun _ => fun
  | [d] => { results := [.lit (.bool true)], args := [d] }
  | _ => none }
def fnExactIsFairRow : OpenClaim := { program := "ytpodccjjhaekmaa", sum := "bd45237b8afd623d5db399c3f98a526bfdd511220ac87478f62a7d590ebccab5", func := "loop.example/g03001/laws.FnExactIsFair", spec := "fnExactIsFair", unfollowed := true, recurses := true, apart := false }
def FnExactIsFairSaid : Prop := fnExactIsFairRow.holds Try.pinned (OpenSpec.ofChange fnExactIsFairSpec)

/-- ITS FALSE NEIGHBOUR: 'it returns false'. Refute it at one input. -/
def fnExactIsFairWrong : ChangeSpec := { name := "fnExactIsFair", fn := fun _ => fun
  | [d] => { results := [.lit (.bool false)], args := [d] }
  | _ => none }
def FnExactIsFairWrongFalsely : Prop := fnExactIsFairRow.holds Try.pinned (OpenSpec.ofChange fnExactIsFairWrong)

/-- 'laws.FnExactCountTable': WHATEVER THE INPUT: true; the input reads as it did. -/
def fnExactCountTableSpec : ChangeSpec := { name := "fnExactCountTable", fn := fun _ => fun
  | [d] => { results := [.lit (.bool true)], args := [d] }
  | _ => none }
def fnExactCountTableRow : OpenClaim := { program := "ytpodccjjhaekmaa", sum := "bd45237b8afd623d5db399c3f98a526bfdd511220ac87478f62a7d590ebccab5", func := "loop.example/g03001/laws.FnExactCountTable", spec := "fnExactCountTable", apart := false }
def FnExactCountTableSaid : Prop := fnExactCountTableRow.holds Try.pinned (OpenSpec.ofChange fnExactCountTableSpec)

/-- ITS FALSE NEIGHBOUR: 'it returns false'. Refute it at one input. -/
def fnExactCountTableWrong : ChangeSpec := { name := "fnExactCountTable", fn := fun _ => fun
  | [d] => { results := [.lit (.bool false)], args := [d] }
  | _ => none }
def FnExactCountTableWrongFalsely : Prop := fnExactCountTableRow.holds Try.pinned (OpenSpec.ofChange fnExactCountTableWrong)

/-- 'laws.FnExactLongestBucket': WHATEVER THE INPUT: true; the input reads as it did. -/
def fnExactLongestBucketSpec : ChangeSpec := { name := "fnExactLongestBucket", fn := fun _ => fun
  | [d] => { results := [.lit (.bool true)], args := [d] }
  | _ => none }
def fnExactLongestBucketRow : OpenClaim := { program := "ytpodccjjhaekmaa", sum := "bd45237b8afd623d5db399c3f98a526bfdd511220ac87478f62a7d590ebccab5", func := "loop.example/g03001/laws.FnExactLongestBucket", spec := "fnExactLongestBucket", apart := false }
def FnExactLongestBucketSaid : Prop := fnExactLongestBucketRow.holds Try.pinned (OpenSpec.ofChange fnExactLongestBucketSpec)

/-- ITS FALSE NEIGHBOUR: 'it returns false'. Refute it at one input. -/
def fnExactLongestBucketWrong : ChangeSpec := { name := "fnExactLongestBucket", fn := fun _ => fun
  | [d] => { results := [.lit (.bool false)], args := [d] }
  | _ => none }
def FnExactLongestBucketWrongFalsely : Prop := fnExactLongestBucketRow.holds Try.pinned (OpenSpec.ofChange fnExactLongestBucketWrong)

/-- 'laws.FnExactCompileRules': WHATEVER THE INPUT: true; the input reads as it did. -/
def fnExactCompileRulesSpec : ChangeSpec := { name := "fnExactCompileRules", fn := fun _ => fun
  | [d] => { results := [.lit (.bool true)], args := [d] }
  | _ => none }
def fnExactCompileRulesRow : OpenClaim := { program := "ytpodccjjhaekmaa", sum := "bd45237b8afd623d5db399c3f98a526bfdd511220ac87478f62a7d590ebccab5", func := "loop.example/g03001/laws.FnExactCompileRules", spec := "fnExactCompileRules", unfollowed := true, recurses := true, apart := false }
def FnExactCompileRulesSaid : Prop := fnExactCompileRulesRow.holds Try.pinned (OpenSpec.ofChange fnExactCompileRulesSpec)

/-- ITS FALSE NEIGHBOUR: 'it returns false'. Refute it at one input. -/
def fnExactCompileRulesWrong : ChangeSpec := { name := "fnExactCompileRules", fn := fun _ => fun
  | [d] => { results := [.lit (.bool false)], args := [d] }
  | _ => none }
def FnExactCompileRulesWrongFalsely : Prop := fnExactCompileRulesRow.holds Try.pinned (OpenSpec.ofChange fnExactCompileRulesWrong)

/-- 'laws.FnExactIsShadowed': WHATEVER THE INPUT: true; the input reads as it did. -/
def fnExactIsShadowedSpec : ChangeSpec := { name := "fnExactIsShadowed", fn := fun _ => fun
  | [d1, d2] => { results := [.lit (.bool true)], args := [d1, d2] }
  | _ => none }
def fnExactIsShadowedRow : OpenClaim := { program := "ytpodccjjhaekmaa", sum := "bd45237b8afd623d5db399c3f98a526bfdd511220ac87478f62a7d590ebccab5", func := "loop.example/g03001/laws.FnExactIsShadowed", spec := "fnExactIsShadowed", apart := false }
def FnExactIsShadowedSaid : Prop := fnExactIsShadowedRow.holds Try.pinned (OpenSpec.ofChange fnExactIsShadowedSpec)

/-- ITS FALSE NEIGHBOUR: 'it returns false'. Refute it at one input. -/
def fnExactIsShadowedWrong : ChangeSpec := { name := "fnExactIsShadowed", fn := fun _ => fun
  | [d1, d2] => { results := [.lit (.bool false)], args := [d1, d2] }
  | _ => none }
def FnExactIsShadowedWrongFalsely : Prop := fnExactIsShadowedRow.holds Try.pinned (OpenSpec.ofChange fnExactIsShadowedWrong)

/- THE SECOND FORM. 'bulk': how many values and letters a reading holds, each counted each time it is reached (what is shared counts as often as it is met; a slice's spare places count too). A statement '..UptoSaid' is the law's where the arguments, and the package variables that the reading takes, are together of bulk at most 1048576: NARROWER than '..Said'. Prove '..Said' where nothing that the law and all that it calls make is longer than what came in: it says more and counts as full. Else prove '..UptoSaid'. A law counts once. -/
mutual
def uptoBulk {H : Type} : DataW H → Nat
  | .lit (.string bytes) => bytes.length + 1
  | .lit _ => 1
  | .nil => 1
  | .ptr d => uptoBulk d + 1
  | .slice elems spare => uptoBulkAll elems + uptoBulkAll spare + 1
  | .agg parts => uptoBulkAll parts + 1
  | .iface _ d => uptoBulk d + 1
  | .map entries => uptoBulkEntries entries + 1
  | .held _ => 1
def uptoBulkAll {H : Type} : List (DataW H) → Nat
  | [] => 0
  | d :: r => uptoBulk d + uptoBulkAll r
def uptoBulkEntries {H : Type} : List (Lit × DataW H) → Nat
  | [] => 0
  | x :: r => uptoBulkEntry x + uptoBulkEntries r
def uptoBulkEntry {H : Type} : Lit × DataW H → Nat
  | (.string bytes, d) => bytes.length + uptoBulk d + 1
  | (_, d) => uptoBulk d + 1
 end
def uptoSmall : (H : Type) → List (DataW H) → Bool := fun _ ds => decide (uptoBulkAll ds ≤ 1048576)
def OpenSpec.upto (s : _root_.Go.ChangeSpec) : _root_.Go.OpenSpec := { _root_.Go.OpenSpec.ofChange s with cond := some uptoSmall }

/-- 'laws.FnExactDecideRule', WHERE WHAT IT READS IS OF BULK AT MOST 1048576: true; the input reads as it did. -/
def fnExactDecideRuleUptoRow : OpenClaim := { program := "ytpodccjjhaekmaa", sum := "bd45237b8afd623d5db399c3f98a526bfdd511220ac87478f62a7d590ebccab5", func := "loop.example/g03001/laws.FnExactDecideRule", spec := "fnExactDecideRule", unfollowed := true, recurses := true, apart := false, narrowed := true }
def FnExactDecideRuleUptoSaid : Prop := fnExactDecideRuleUptoRow.holds Try.pinned (OpenSpec.upto fnExactDecideRuleSpec)

/-- 'laws.FnExactActionFor', WHERE WHAT IT READS IS OF BULK AT MOST 1048576: true; the input reads as it did. -/
def fnExactActionForUptoRow : OpenClaim := { program := "ytpodccjjhaekmaa", sum := "bd45237b8afd623d5db399c3f98a526bfdd511220ac87478f62a7d590ebccab5", func := "loop.example/g03001/laws.FnExactActionFor", spec := "fnExactActionFor", unfollowed := true, recurses := true, apart := false, narrowed := true }
def FnExactActionForUptoSaid : Prop := fnExactActionForUptoRow.holds Try.pinned (OpenSpec.upto fnExactActionForSpec)

/-- 'laws.FnExactSortRules', WHERE WHAT IT READS IS OF BULK AT MOST 1048576: true; the input reads as it did. -/
def fnExactSortRulesUptoRow : OpenClaim := { program := "ytpodccjjhaekmaa", sum := "bd45237b8afd623d5db399c3f98a526bfdd511220ac87478f62a7d590ebccab5", func := "loop.example/g03001/laws.FnExactSortRules", spec := "fnExactSortRules", unfollowed := true, recurses := true, apart := false, narrowed := true }
def FnExactSortRulesUptoSaid : Prop := fnExactSortRulesUptoRow.holds Try.pinned (OpenSpec.upto fnExactSortRulesSpec)

/-- 'laws.FnExactCanAddRule', WHERE WHAT IT READS IS OF BULK AT MOST 1048576: true; the input reads as it did. -/
def fnExactCanAddRuleUptoRow : OpenClaim := { program := "ytpodccjjhaekmaa", sum := "bd45237b8afd623d5db399c3f98a526bfdd511220ac87478f62a7d590ebccab5", func := "loop.example/g03001/laws.FnExactCanAddRule", spec := "fnExactCanAddRule", apart := false, narrowed := true }
def FnExactCanAddRuleUptoSaid : Prop := fnExactCanAddRuleUptoRow.holds Try.pinned (OpenSpec.upto fnExactCanAddRuleSpec)

/-- 'laws.FnExactAddRule', WHERE WHAT IT READS IS OF BULK AT MOST 1048576: true; the input reads as it did. -/
def fnExactAddRuleUptoRow : OpenClaim := { program := "ytpodccjjhaekmaa", sum := "bd45237b8afd623d5db399c3f98a526bfdd511220ac87478f62a7d590ebccab5", func := "loop.example/g03001/laws.FnExactAddRule", spec := "fnExactAddRule", apart := false, narrowed := true }
def FnExactAddRuleUptoSaid : Prop := fnExactAddRuleUptoRow.holds Try.pinned (OpenSpec.upto fnExactAddRuleSpec)

/-- 'laws.FnExactRoomFor', WHERE WHAT IT READS IS OF BULK AT MOST 1048576: true; the input reads as it did. -/
def fnExactRoomForUptoRow : OpenClaim := { program := "ytpodccjjhaekmaa", sum := "bd45237b8afd623d5db399c3f98a526bfdd511220ac87478f62a7d590ebccab5", func := "loop.example/g03001/laws.FnExactRoomFor", spec := "fnExactRoomFor", apart := false, narrowed := true }
def FnExactRoomForUptoSaid : Prop := fnExactRoomForUptoRow.holds Try.pinned (OpenSpec.upto fnExactRoomForSpec)

/-- 'laws.FnExactIsFair', WHERE WHAT IT READS IS OF BULK AT MOST 1048576: true; the input reads as it did. -/
def fnExactIsFairUptoRow : OpenClaim := { program := "ytpodccjjhaekmaa", sum := "bd45237b8afd623d5db399c3f98a526bfdd511220ac87478f62a7d590ebccab5", func := "loop.example/g03001/laws.FnExactIsFair", spec := "fnExactIsFair", unfollowed := true, recurses := true, apart := false, narrowed := true }
def FnExactIsFairUptoSaid : Prop := fnExactIsFairUptoRow.holds Try.pinned (OpenSpec.upto fnExactIsFairSpec)

/-- 'laws.FnExactCountTable', WHERE WHAT IT READS IS OF BULK AT MOST 1048576: true; the input reads as it did. -/
def fnExactCountTableUptoRow : OpenClaim := { program := "ytpodccjjhaekmaa", sum := "bd45237b8afd623d5db399c3f98a526bfdd511220ac87478f62a7d590ebccab5", func := "loop.example/g03001/laws.FnExactCountTable", spec := "fnExactCountTable", apart := false, narrowed := true }
def FnExactCountTableUptoSaid : Prop := fnExactCountTableUptoRow.holds Try.pinned (OpenSpec.upto fnExactCountTableSpec)

/-- 'laws.FnExactLongestBucket', WHERE WHAT IT READS IS OF BULK AT MOST 1048576: true; the input reads as it did. -/
def fnExactLongestBucketUptoRow : OpenClaim := { program := "ytpodccjjhaekmaa", sum := "bd45237b8afd623d5db399c3f98a526bfdd511220ac87478f62a7d590ebccab5", func := "loop.example/g03001/laws.FnExactLongestBucket", spec := "fnExactLongestBucket", apart := false, narrowed := true }
def FnExactLongestBucketUptoSaid : Prop := fnExactLongestBucketUptoRow.holds Try.pinned (OpenSpec.upto fnExactLongestBucketSpec)

/-- 'laws.FnExactCompileRules', WHERE WHAT IT READS IS OF BULK AT MOST 1048576: true; the input reads as it did. -/
def fnExactCompileRulesUptoRow : OpenClaim := { program := "ytpodccjjhaekmaa", sum := "bd45237b8afd623d5db399c3f98a526bfdd511220ac87478f62a7d590ebccab5", func := "loop.example/g03001/laws.FnExactCompileRules", spec := "fnExactCompileRules", unfollowed := true, recurses := true, apart := false, narrowed := true }
def FnExactCompileRulesUptoSaid : Prop := fnExactCompileRulesUptoRow.holds Try.pinned (OpenSpec.upto fnExactCompileRulesSpec)

/-- 'laws.FnExactIsShadowed', WHERE WHAT IT READS IS OF BULK AT MOST 1048576: true; the input reads as it did. -/
def fnExactIsShadowedUptoRow : OpenClaim := { program := "ytpodccjjhaekmaa", sum := "bd45237b8afd623d5db399c3f98a526bfdd511220ac87478f62a7d590ebccab5", func := "loop.example/g03001/laws.FnExactIsShadowed", spec := "fnExactIsShadowed", apart := false, narrowed := true }
def FnExactIsShadowedUptoSaid : Prop := fnExactIsShadowedUptoRow.holds Try.pinned (OpenSpec.upto fnExactIsShadowedSpec)

end Rows
end Go.Proofs.Ytpodccjjhaekmaa
