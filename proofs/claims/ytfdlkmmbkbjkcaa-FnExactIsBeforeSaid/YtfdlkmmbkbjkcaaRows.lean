/-
  No cell of these rows narrows 'for every input' (looked for: loops, veiled, ifaces, maps, wideKeys, modest, calm, conditions, laid).
  DERIVED. THE GIVEN ROWS OF THIS SEAT. 12 by the template 'for every input the law returns true; each argument reads behind the call as it read before'; 0 by the template 'total and deterministic' (their statements: YtfdlkmmbkbjkcaaTotals.lean).
  GIVEN WITH THE SEED: the statements are not yours to turn. If you find one false, say at which input.
  Laid BY PROGRAM, IN A SANDBOX (cutbox-rows.mjs): the forced cells as the released guide's own fill.sh prints them over the translation d43645d55c84cd87… (all of the seat's roots in one cut). By AI agents, Wed Nov 11 2026. No macro, syntax, notation, axiom, sorry.
-/
import Derived.Test.YtfdlkmmbkbjkcaaChecked
import GoSem.Claim
import GoSem.ClaimJoined
import GoSem.ClaimMapViews
import Derived.JoinedTies
import Derived.KernelRfl
namespace Go.Proofs.Ytfdlkmmbkbjkcaa
/- THE CELL 'sum', in the pinned program and in every row, IS THE sha256 OF THE DUMP (.gsa) THAT YtfdlkmmbkbjkcaaProg.lean LOADS. Nothing in Lean hashes anything: it is a label: what it is worth is what the hold of that sum in a sandbox is worth. -/
noncomputable def Try.pinned : Pinned := { name := "ytfdlkmmbkbjkcaa", sum := "d43645d55c84cd8775e2b79eb45c2ce90af5dee4eeacf9feec2859ab5edcb68a", checked := Try.checked }
namespace Rows
def none {H : Type} : Left H := { results := [], args := [] }

/-- 'laws.FnExactIsRule': WHATEVER THE INPUT: true; the input reads as it did. -/
def fnExactIsRuleSpec : ChangeSpec := { name := "fnExactIsRule", fn := fun _ => fun
  | [d] => { results := [.lit (.bool true)], args := [d] }
  | _ => none }
def fnExactIsRuleRow : OpenClaim := { program := "ytfdlkmmbkbjkcaa", sum := "d43645d55c84cd8775e2b79eb45c2ce90af5dee4eeacf9feec2859ab5edcb68a", func := "loop.example/g03001/laws.FnExactIsRule", spec := "fnExactIsRule", apart := false }
def FnExactIsRuleSaid : Prop := fnExactIsRuleRow.holds Try.pinned (OpenSpec.ofChange fnExactIsRuleSpec)

/-- ITS FALSE NEIGHBOUR: 'it returns false'. Refute it at one input. -/
def fnExactIsRuleWrong : ChangeSpec := { name := "fnExactIsRule", fn := fun _ => fun
  | [d] => { results := [.lit (.bool false)], args := [d] }
  | _ => none }
def FnExactIsRuleWrongFalsely : Prop := fnExactIsRuleRow.holds Try.pinned (OpenSpec.ofChange fnExactIsRuleWrong)

/-- 'laws.FnExactIsRequest': WHATEVER THE INPUT: true; the input reads as it did. -/
def fnExactIsRequestSpec : ChangeSpec := { name := "fnExactIsRequest", fn := fun _ => fun
  | [d] => { results := [.lit (.bool true)], args := [d] }
  | _ => none }
def fnExactIsRequestRow : OpenClaim := { program := "ytfdlkmmbkbjkcaa", sum := "d43645d55c84cd8775e2b79eb45c2ce90af5dee4eeacf9feec2859ab5edcb68a", func := "loop.example/g03001/laws.FnExactIsRequest", spec := "fnExactIsRequest", apart := false }
def FnExactIsRequestSaid : Prop := fnExactIsRequestRow.holds Try.pinned (OpenSpec.ofChange fnExactIsRequestSpec)

/-- ITS FALSE NEIGHBOUR: 'it returns false'. Refute it at one input. -/
def fnExactIsRequestWrong : ChangeSpec := { name := "fnExactIsRequest", fn := fun _ => fun
  | [d] => { results := [.lit (.bool false)], args := [d] }
  | _ => none }
def FnExactIsRequestWrongFalsely : Prop := fnExactIsRequestRow.holds Try.pinned (OpenSpec.ofChange fnExactIsRequestWrong)

/-- 'laws.FnExactApplies': WHATEVER THE INPUT: true; the input reads as it did. -/
def fnExactAppliesSpec : ChangeSpec := { name := "fnExactApplies", fn := fun _ => fun
  | [d1, d2] => { results := [.lit (.bool true)], args := [d1, d2] }
  | _ => none }
def fnExactAppliesRow : OpenClaim := { program := "ytfdlkmmbkbjkcaa", sum := "d43645d55c84cd8775e2b79eb45c2ce90af5dee4eeacf9feec2859ab5edcb68a", func := "loop.example/g03001/laws.FnExactApplies", spec := "fnExactApplies", apart := false }
def FnExactAppliesSaid : Prop := fnExactAppliesRow.holds Try.pinned (OpenSpec.ofChange fnExactAppliesSpec)

/-- ITS FALSE NEIGHBOUR: 'it returns false'. Refute it at one input. -/
def fnExactAppliesWrong : ChangeSpec := { name := "fnExactApplies", fn := fun _ => fun
  | [d1, d2] => { results := [.lit (.bool false)], args := [d1, d2] }
  | _ => none }
def FnExactAppliesWrongFalsely : Prop := fnExactAppliesRow.holds Try.pinned (OpenSpec.ofChange fnExactAppliesWrong)

/-- 'laws.FnExactIsBefore': WHATEVER THE INPUT: true; the input reads as it did. -/
def fnExactIsBeforeSpec : ChangeSpec := { name := "fnExactIsBefore", fn := fun _ => fun
  | [d1, d2] => { results := [.lit (.bool true)], args := [d1, d2] }
  | _ => none }
def fnExactIsBeforeRow : OpenClaim := { program := "ytfdlkmmbkbjkcaa", sum := "d43645d55c84cd8775e2b79eb45c2ce90af5dee4eeacf9feec2859ab5edcb68a", func := "loop.example/g03001/laws.FnExactIsBefore", spec := "fnExactIsBefore", apart := false }
def FnExactIsBeforeSaid : Prop := fnExactIsBeforeRow.holds Try.pinned (OpenSpec.ofChange fnExactIsBeforeSpec)

/-- ITS FALSE NEIGHBOUR: 'it returns false'. Refute it at one input. -/
def fnExactIsBeforeWrong : ChangeSpec := { name := "fnExactIsBefore", fn := fun _ => fun
  | [d1, d2] => { results := [.lit (.bool false)], args := [d1, d2] }
  | _ => none }
def FnExactIsBeforeWrongFalsely : Prop := fnExactIsBeforeRow.holds Try.pinned (OpenSpec.ofChange fnExactIsBeforeWrong)

/-- 'laws.FnExactActionName': WHATEVER THE INPUT: true; the input reads as it did. -/
def fnExactActionNameSpec : ChangeSpec := { name := "fnExactActionName", fn := fun _ => fun
  | [d] => { results := [.lit (.bool true)], args := [d] }
  | _ => none }
def fnExactActionNameRow : OpenClaim := { program := "ytfdlkmmbkbjkcaa", sum := "d43645d55c84cd8775e2b79eb45c2ce90af5dee4eeacf9feec2859ab5edcb68a", func := "loop.example/g03001/laws.FnExactActionName", spec := "fnExactActionName", apart := false }
def FnExactActionNameSaid : Prop := fnExactActionNameRow.holds Try.pinned (OpenSpec.ofChange fnExactActionNameSpec)

/-- ITS FALSE NEIGHBOUR: 'it returns false'. Refute it at one input. -/
def fnExactActionNameWrong : ChangeSpec := { name := "fnExactActionName", fn := fun _ => fun
  | [d] => { results := [.lit (.bool false)], args := [d] }
  | _ => none }
def FnExactActionNameWrongFalsely : Prop := fnExactActionNameRow.holds Try.pinned (OpenSpec.ofChange fnExactActionNameWrong)

/-- 'laws.FnExactRulesOf': WHATEVER THE INPUT: true; the input reads as it did. -/
def fnExactRulesOfSpec : ChangeSpec := { name := "fnExactRulesOf", fn := fun _ => fun
  | [d1, d2] => { results := [.lit (.bool true)], args := [d1, d2] }
  | _ => none }
def fnExactRulesOfRow : OpenClaim := { program := "ytfdlkmmbkbjkcaa", sum := "d43645d55c84cd8775e2b79eb45c2ce90af5dee4eeacf9feec2859ab5edcb68a", func := "loop.example/g03001/laws.FnExactRulesOf", spec := "fnExactRulesOf", unfollowed := true, recurses := true, apart := false }
def FnExactRulesOfSaid : Prop := fnExactRulesOfRow.holds Try.pinned (OpenSpec.ofChange fnExactRulesOfSpec)

/-- ITS FALSE NEIGHBOUR: 'it returns false'. Refute it at one input. -/
def fnExactRulesOfWrong : ChangeSpec := { name := "fnExactRulesOf", fn := fun _ => fun
  | [d1, d2] => { results := [.lit (.bool false)], args := [d1, d2] }
  | _ => none }
def FnExactRulesOfWrongFalsely : Prop := fnExactRulesOfRow.holds Try.pinned (OpenSpec.ofChange fnExactRulesOfWrong)

/-- 'laws.FnExactDecideRule': WHATEVER THE INPUT: true; the input reads as it did. -/
def fnExactDecideRuleSpec : ChangeSpec := { name := "fnExactDecideRule", fn := fun _ => fun
  | [d1, d2] => { results := [.lit (.bool true)], args := [d1, d2] }
  | _ => none }
def fnExactDecideRuleRow : OpenClaim := { program := "ytfdlkmmbkbjkcaa", sum := "d43645d55c84cd8775e2b79eb45c2ce90af5dee4eeacf9feec2859ab5edcb68a", func := "loop.example/g03001/laws.FnExactDecideRule", spec := "fnExactDecideRule", unfollowed := true, recurses := true, apart := false }
def FnExactDecideRuleSaid : Prop := fnExactDecideRuleRow.holds Try.pinned (OpenSpec.ofChange fnExactDecideRuleSpec)

/-- ITS FALSE NEIGHBOUR: 'it returns false'. Refute it at one input. -/
def fnExactDecideRuleWrong : ChangeSpec := { name := "fnExactDecideRule", fn := fun _ => fun
  | [d1, d2] => { results := [.lit (.bool false)], args := [d1, d2] }
  | _ => none }
def FnExactDecideRuleWrongFalsely : Prop := fnExactDecideRuleRow.holds Try.pinned (OpenSpec.ofChange fnExactDecideRuleWrong)

/-- 'laws.FnExactActionFor': WHATEVER THE INPUT: true; the input reads as it did. -/
def fnExactActionForSpec : ChangeSpec := { name := "fnExactActionFor", fn := fun _ => fun
  | [d1, d2] => { results := [.lit (.bool true)], args := [d1, d2] }
  | _ => none }
def fnExactActionForRow : OpenClaim := { program := "ytfdlkmmbkbjkcaa", sum := "d43645d55c84cd8775e2b79eb45c2ce90af5dee4eeacf9feec2859ab5edcb68a", func := "loop.example/g03001/laws.FnExactActionFor", spec := "fnExactActionFor", unfollowed := true, recurses := true, apart := false }
def FnExactActionForSaid : Prop := fnExactActionForRow.holds Try.pinned (OpenSpec.ofChange fnExactActionForSpec)

/-- ITS FALSE NEIGHBOUR: 'it returns false'. Refute it at one input. -/
def fnExactActionForWrong : ChangeSpec := { name := "fnExactActionFor", fn := fun _ => fun
  | [d1, d2] => { results := [.lit (.bool false)], args := [d1, d2] }
  | _ => none }
def FnExactActionForWrongFalsely : Prop := fnExactActionForRow.holds Try.pinned (OpenSpec.ofChange fnExactActionForWrong)

/-- 'laws.FnExactSortRules': WHATEVER THE INPUT: true; the input reads as it did. -/
def fnExactSortRulesSpec : ChangeSpec := { name := "fnExactSortRules", fn := fun _ => fun
  | [d] => { results := [.lit (.bool true)], args := [d] }
  | _ => none }
def fnExactSortRulesRow : OpenClaim := { program := "ytfdlkmmbkbjkcaa", sum := "d43645d55c84cd8775e2b79eb45c2ce90af5dee4eeacf9feec2859ab5edcb68a", func := "loop.example/g03001/laws.FnExactSortRules", spec := "fnExactSortRules", unfollowed := true, recurses := true, apart := false }
def FnExactSortRulesSaid : Prop := fnExactSortRulesRow.holds Try.pinned (OpenSpec.ofChange fnExactSortRulesSpec)

/-- ITS FALSE NEIGHBOUR: 'it returns false'. Refute it at one input. -/
def fnExactSortRulesWrong : ChangeSpec := { name := "fnExactSortRules", fn := fun _ => fun
  | [d] => { results := [.lit (.bool false)], args := [d] }
  | _ => none }
def FnExactSortRulesWrongFalsely : Prop := fnExactSortRulesRow.holds Try.pinned (OpenSpec.ofChange fnExactSortRulesWrong)

/-- 'laws.FnExactAppliesTo': WHATEVER THE INPUT: true; the input reads as it did. -/
def fnExactAppliesToSpec : ChangeSpec := { name := "fnExactAppliesTo", fn := fun _ => fun
  | [d1, d2] => { results := [.lit (.bool true)], args := [d1, d2] }
  | _ => none }
def fnExactAppliesToRow : OpenClaim := { program := "ytfdlkmmbkbjkcaa", sum := "d43645d55c84cd8775e2b79eb45c2ce90af5dee4eeacf9feec2859ab5edcb68a", func := "loop.example/g03001/laws.FnExactAppliesTo", spec := "fnExactAppliesTo", unfollowed := true, recurses := true, apart := false }
def FnExactAppliesToSaid : Prop := fnExactAppliesToRow.holds Try.pinned (OpenSpec.ofChange fnExactAppliesToSpec)

/-- ITS FALSE NEIGHBOUR: 'it returns false'. Refute it at one input. -/
def fnExactAppliesToWrong : ChangeSpec := { name := "fnExactAppliesTo", fn := fun _ => fun
  | [d1, d2] => { results := [.lit (.bool false)], args := [d1, d2] }
  | _ => none }
def FnExactAppliesToWrongFalsely : Prop := fnExactAppliesToRow.holds Try.pinned (OpenSpec.ofChange fnExactAppliesToWrong)

/-- 'laws.FnExactWhoDecides': WHATEVER THE INPUT: true; the input reads as it did. -/
def fnExactWhoDecidesSpec : ChangeSpec := { name := "fnExactWhoDecides", fn := fun _ => fun
  | [d1, d2] => { results := [.lit (.bool true)], args := [d1, d2] }
  | _ => none }
def fnExactWhoDecidesRow : OpenClaim := { program := "ytfdlkmmbkbjkcaa", sum := "d43645d55c84cd8775e2b79eb45c2ce90af5dee4eeacf9feec2859ab5edcb68a", func := "loop.example/g03001/laws.FnExactWhoDecides", spec := "fnExactWhoDecides", unfollowed := true, recurses := true, apart := false }
def FnExactWhoDecidesSaid : Prop := fnExactWhoDecidesRow.holds Try.pinned (OpenSpec.ofChange fnExactWhoDecidesSpec)

/-- ITS FALSE NEIGHBOUR: 'it returns false'. Refute it at one input. -/
def fnExactWhoDecidesWrong : ChangeSpec := { name := "fnExactWhoDecides", fn := fun _ => fun
  | [d1, d2] => { results := [.lit (.bool false)], args := [d1, d2] }
  | _ => none }
def FnExactWhoDecidesWrongFalsely : Prop := fnExactWhoDecidesRow.holds Try.pinned (OpenSpec.ofChange fnExactWhoDecidesWrong)

/-- 'laws.FnExactEqualRules': WHATEVER THE INPUT: true; the input reads as it did. -/
def fnExactEqualRulesSpec : ChangeSpec := { name := "fnExactEqualRules", fn := fun _ => fun
  | [d1, d2] => { results := [.lit (.bool true)], args := [d1, d2] }
  | _ => none }
def fnExactEqualRulesRow : OpenClaim := { program := "ytfdlkmmbkbjkcaa", sum := "d43645d55c84cd8775e2b79eb45c2ce90af5dee4eeacf9feec2859ab5edcb68a", func := "loop.example/g03001/laws.FnExactEqualRules", spec := "fnExactEqualRules", apart := false }
def FnExactEqualRulesSaid : Prop := fnExactEqualRulesRow.holds Try.pinned (OpenSpec.ofChange fnExactEqualRulesSpec)

/-- ITS FALSE NEIGHBOUR: 'it returns false'. Refute it at one input. -/
def fnExactEqualRulesWrong : ChangeSpec := { name := "fnExactEqualRules", fn := fun _ => fun
  | [d1, d2] => { results := [.lit (.bool false)], args := [d1, d2] }
  | _ => none }
def FnExactEqualRulesWrongFalsely : Prop := fnExactEqualRulesRow.holds Try.pinned (OpenSpec.ofChange fnExactEqualRulesWrong)

/- THE SECOND FORM. 'bulk': how many values and letters a reading holds, each counted each time it is reached (what is shared counts as often as it is met; a slice's spare places count too). A statement '..UptoSaid' is the law's where the arguments, and the package variables that the reading takes, are together of bulk at most 1048576: NARROWER than '..Said'. Prove '..Said' where nothing that the law and all that it calls make is longer than what came in: it says more and counts as full. Else prove '..UptoSaid'. A law counts once. -/
mutual
def uptoBulk {H : Type} : DataW H → Nat
  | .lit (.string bytes) => bytes.length + 1
  | .lit _ => 1
  | .nil => 1
  | .ptr d => uptoBulk d + 1
  | .slice elems spare => uptoBulkAll elems + uptoBulkAll spare + 1
  | .agg parts => uptoBulkAll parts + 1
  | .iface _ d => uptoBulk d + 1
  | .map entries => uptoBulkEntries entries + 1
  | .held _ => 1
def uptoBulkAll {H : Type} : List (DataW H) → Nat
  | [] => 0
  | d :: r => uptoBulk d + uptoBulkAll r
def uptoBulkEntries {H : Type} : List (Lit × DataW H) → Nat
  | [] => 0
  | x :: r => uptoBulkEntry x + uptoBulkEntries r
def uptoBulkEntry {H : Type} : Lit × DataW H → Nat
  | (.string bytes, d) => bytes.length + uptoBulk d + 1
  | (_, d) => uptoBulk d + 1
 end
def uptoSmall : (H : Type) → List (DataW H) → Bool := fun _ ds => decide (uptoBulkAll ds ≤ 1048576)
def OpenSpec.upto (s : _root_.Go.ChangeSpec) : _root_.Go.OpenSpec := { _root_.Go.OpenSpec.ofChange s with cond := some uptoSmall }

/-- 'laws.FnExactIsRule', WHERE WHAT IT READS IS OF BULK AT MOST 1048576: true; the input reads as it did. -/
def fnExactIsRuleUptoRow : OpenClaim := { program := "ytfdlkmmbkbjkcaa", sum := "d43645d55c84cd8775e2b79eb45c2ce90af5dee4eeacf9feec2859ab5edcb68a", func := "loop.example/g03001/laws.FnExactIsRule", spec := "fnExactIsRule", apart := false, narrowed := true }
def FnExactIsRuleUptoSaid : Prop := fnExactIsRuleUptoRow.holds Try.pinned (OpenSpec.upto fnExactIsRuleSpec)

/-- 'laws.FnExactIsRequest', WHERE WHAT IT READS IS OF BULK AT MOST 1048576: true; the input reads as it did. -/
def fnExactIsRequestUptoRow : OpenClaim := { program := "ytfdlkmmbkbjkcaa", sum := "d43645d55c84cd8775e2b79eb45c2ce90af5dee4eeacf9feec2859ab5edcb68a", func := "loop.example/g03001/laws.FnExactIsRequest", spec := "fnExactIsRequest", apart := false, narrowed := true }
def FnExactIsRequestUptoSaid : Prop := fnExactIsRequestUptoRow.holds Try.pinned (OpenSpec.upto fnExactIsRequestSpec)

/-- 'laws.FnExactApplies', WHERE WHAT IT READS IS OF BULK AT MOST 1048576: true; the input reads as it did. -/
def fnExactAppliesUptoRow : OpenClaim := { program := "ytfdlkmmbkbjkcaa", sum := "d43645d55c84cd8775e2b79eb45c2ce90af5dee4eeacf9feec2859ab5edcb68a", func := "loop.example/g03001/laws.FnExactApplies", spec := "fnExactApplies", apart := false, narrowed := true }
def FnExactAppliesUptoSaid : Prop := fnExactAppliesUptoRow.holds Try.pinned (OpenSpec.upto fnExactAppliesSpec)

/-- 'laws.FnExactIsBefore', WHERE WHAT IT READS IS OF BULK AT MOST 1048576: true; the input reads as it did. -/
def fnExactIsBeforeUptoRow : OpenClaim := { program := "ytfdlkmmbkbjkcaa", sum := "d43645d55c84cd8775e2b79eb45c2ce90af5dee4eeacf9feec2859ab5edcb68a", func := "loop.example/g03001/laws.FnExactIsBefore", spec := "fnExactIsBefore", apart := false, narrowed := true }
def FnExactIsBeforeUptoSaid : Prop := fnExactIsBeforeUptoRow.holds Try.pinned (OpenSpec.upto fnExactIsBeforeSpec)

/-- 'laws.FnExactActionName', WHERE WHAT IT READS IS OF BULK AT MOST 1048576: true; the input reads as it did. -/
def fnExactActionNameUptoRow : OpenClaim := { program := "ytfdlkmmbkbjkcaa", sum := "d43645d55c84cd8775e2b79eb45c2ce90af5dee4eeacf9feec2859ab5edcb68a", func := "loop.example/g03001/laws.FnExactActionName", spec := "fnExactActionName", apart := false, narrowed := true }
def FnExactActionNameUptoSaid : Prop := fnExactActionNameUptoRow.holds Try.pinned (OpenSpec.upto fnExactActionNameSpec)

/-- 'laws.FnExactRulesOf', WHERE WHAT IT READS IS OF BULK AT MOST 1048576: true; the input reads as it did. -/
def fnExactRulesOfUptoRow : OpenClaim := { program := "ytfdlkmmbkbjkcaa", sum := "d43645d55c84cd8775e2b79eb45c2ce90af5dee4eeacf9feec2859ab5edcb68a", func := "loop.example/g03001/laws.FnExactRulesOf", spec := "fnExactRulesOf", unfollowed := true, recurses := true, apart := false, narrowed := true }
def FnExactRulesOfUptoSaid : Prop := fnExactRulesOfUptoRow.holds Try.pinned (OpenSpec.upto fnExactRulesOfSpec)

/-- 'laws.FnExactDecideRule', WHERE WHAT IT READS IS OF BULK AT MOST 1048576: true; the input reads as it did. -/
def fnExactDecideRuleUptoRow : OpenClaim := { program := "ytfdlkmmbkbjkcaa", sum := "d43645d55c84cd8775e2b79eb45c2ce90af5dee4eeacf9feec2859ab5edcb68a", func := "loop.example/g03001/laws.FnExactDecideRule", spec := "fnExactDecideRule", unfollowed := true, recurses := true, apart := false, narrowed := true }
def FnExactDecideRuleUptoSaid : Prop := fnExactDecideRuleUptoRow.holds Try.pinned (OpenSpec.upto fnExactDecideRuleSpec)

/-- 'laws.FnExactActionFor', WHERE WHAT IT READS IS OF BULK AT MOST 1048576: true; the input reads as it did. -/
def fnExactActionForUptoRow : OpenClaim := { program := "ytfdlkmmbkbjkcaa", sum := "d43645d55c84cd8775e2b79eb45c2ce90af5dee4eeacf9feec2859ab5edcb68a", func := "loop.example/g03001/laws.FnExactActionFor", spec := "fnExactActionFor", unfollowed := true, recurses := true, apart := false, narrowed := true }
def FnExactActionForUptoSaid : Prop := fnExactActionForUptoRow.holds Try.pinned (OpenSpec.upto fnExactActionForSpec)

/-- 'laws.FnExactSortRules', WHERE WHAT IT READS IS OF BULK AT MOST 1048576: true; the input reads as it did. -/
def fnExactSortRulesUptoRow : OpenClaim := { program := "ytfdlkmmbkbjkcaa", sum := "d43645d55c84cd8775e2b79eb45c2ce90af5dee4eeacf9feec2859ab5edcb68a", func := "loop.example/g03001/laws.FnExactSortRules", spec := "fnExactSortRules", unfollowed := true, recurses := true, apart := false, narrowed := true }
def FnExactSortRulesUptoSaid : Prop := fnExactSortRulesUptoRow.holds Try.pinned (OpenSpec.upto fnExactSortRulesSpec)

/-- 'laws.FnExactAppliesTo', WHERE WHAT IT READS IS OF BULK AT MOST 1048576: true; the input reads as it did. -/
def fnExactAppliesToUptoRow : OpenClaim := { program := "ytfdlkmmbkbjkcaa", sum := "d43645d55c84cd8775e2b79eb45c2ce90af5dee4eeacf9feec2859ab5edcb68a", func := "loop.example/g03001/laws.FnExactAppliesTo", spec := "fnExactAppliesTo", unfollowed := true, recurses := true, apart := false, narrowed := true }
def FnExactAppliesToUptoSaid : Prop := fnExactAppliesToUptoRow.holds Try.pinned (OpenSpec.upto fnExactAppliesToSpec)

/-- 'laws.FnExactWhoDecides', WHERE WHAT IT READS IS OF BULK AT MOST 1048576: true; the input reads as it did. -/
def fnExactWhoDecidesUptoRow : OpenClaim := { program := "ytfdlkmmbkbjkcaa", sum := "d43645d55c84cd8775e2b79eb45c2ce90af5dee4eeacf9feec2859ab5edcb68a", func := "loop.example/g03001/laws.FnExactWhoDecides", spec := "fnExactWhoDecides", unfollowed := true, recurses := true, apart := false, narrowed := true }
def FnExactWhoDecidesUptoSaid : Prop := fnExactWhoDecidesUptoRow.holds Try.pinned (OpenSpec.upto fnExactWhoDecidesSpec)

/-- 'laws.FnExactEqualRules', WHERE WHAT IT READS IS OF BULK AT MOST 1048576: true; the input reads as it did. -/
def fnExactEqualRulesUptoRow : OpenClaim := { program := "ytfdlkmmbkbjkcaa", sum := "d43645d55c84cd8775e2b79eb45c2ce90af5dee4eeacf9feec2859ab5edcb68a", func := "loop.example/g03001/laws.FnExactEqualRules", spec := "fnExactEqualRules", apart := false, narrowed := true }
def FnExactEqualRulesUptoSaid : Prop := fnExactEqualRulesUptoRow.holds Try.pinned (OpenSpec.upto fnExactEqualRulesSpec)

end Rows
end Go.Proofs.Ytfdlkmmbkbjkcaa
