/-
  No cell of these rows narrows 'for every input' (looked for: loops, veiled, ifaces, maps, wideKeys, modest, calm, conditions, laid).
  DERIVED. THE GIVEN ROWS OF THIS SEAT. 10 by the template 'for every input the law returns true; each argument reads behind the call as it read before'; 0 by the template 'total and deterministic' (their statements: YtajacohfmpkpaaaTotals.lean).
  GIVEN WITH THE SEED: the statements are not yours to turn. If you find one false, say at which input.
  Laid BY PROGRAM, IN A SANDBOX (cutbox-rows.mjs): the forced cells as the released guide's own fill.sh prints them over the translation 470fe1b3b5bca311… (all of the seat's roots in one cut). By AI agents, Wed Nov 11 2026. No macro, syntax, notation, axiom, sorry.
-/
import Derived.Test.YtajacohfmpkpaaaChecked
import GoSem.Claim
import GoSem.ClaimJoined
import GoSem.ClaimMapViews
import Derived.JoinedTies
import Derived.KernelRfl
namespace Go.Proofs.Ytajacohfmpkpaaa
/- THE CELL 'sum', in the pinned program and in every row, IS THE sha256 OF THE DUMP (.gsa) THAT YtajacohfmpkpaaaProg.lean LOADS. Nothing in Lean hashes anything: it is a label: what it is worth is what the hold of that sum in a sandbox is worth. -/
noncomputable def Try.pinned : Pinned := { name := "ytajacohfmpkpaaa", sum := "470fe1b3b5bca31186cf2c5f2125502f6befdd20391e92c27e06373d3f0f5388", checked := Try.checked }
namespace Rows
def none {H : Type} : Left H := { results := [], args := [] }

/-- 'laws.FnExactIsShadowed': WHATEVER THE INPUT: true; the input reads as it did. -/
def fnExactIsShadowedSpec : ChangeSpec := { name := "fnExactIsShadowed", fn := fun _ => fun
  | [d1, d2] => { results := [.lit (.bool true)], args := [d1, d2] }
  | _ => none }
def fnExactIsShadowedRow : OpenClaim := { program := "ytajacohfmpkpaaa", sum := "470fe1b3b5bca31186cf2c5f2125502f6befdd20391e92c27e06373d3f0f5388", func := "loop.example/g03001/laws.FnExactIsShadowed", spec := "fnExactIsShadowed", apart := false }
def FnExactIsShadowedSaid : Prop := fnExactIsShadowedRow.holds Try.pinned (OpenSpec.ofChange fnExactIsShadowedSpec)

/-- ITS FALSE NEIGHBOUR: 'it returns false'. Refute it at one input. -/
def fnExactIsShadowedWrong : ChangeSpec := { name := "fnExactIsShadowed", fn := fun _ => fun
  | [d1, d2] => { results := [.lit (.bool false)], args := [d1, d2] }
  | _ => none }
def FnExactIsShadowedWrongFalsely : Prop := fnExactIsShadowedRow.holds Try.pinned (OpenSpec.ofChange fnExactIsShadowedWrong)

/-- 'laws.FnExactShadowedRules': WHATEVER THE INPUT: true; the input reads as it did. -/
def fnExactShadowedRulesSpec : ChangeSpec := { name := "fnExactShadowedRules", fn := fun _ => fun
  | [d] => { results := [.lit (.bool true)], args := [d] }
  | _ => none }
def fnExactShadowedRulesRow : OpenClaim := { program := "ytajacohfmpkpaaa", sum := "470fe1b3b5bca31186cf2c5f2125502f6befdd20391e92c27e06373d3f0f5388", func := "loop.example/g03001/laws.FnExactShadowedRules", spec := "fnExactShadowedRules", apart := false }
def FnExactShadowedRulesSaid : Prop := fnExactShadowedRulesRow.holds Try.pinned (OpenSpec.ofChange fnExactShadowedRulesSpec)

/-- ITS FALSE NEIGHBOUR: 'it returns false'. Refute it at one input. -/
def fnExactShadowedRulesWrong : ChangeSpec := { name := "fnExactShadowedRules", fn := fun _ => fun
  | [d] => { results := [.lit (.bool false)], args := [d] }
  | _ => none }
def FnExactShadowedRulesWrongFalsely : Prop := fnExactShadowedRulesRow.holds Try.pinned (OpenSpec.ofChange fnExactShadowedRulesWrong)

/-- 'laws.FnExactNeverChosen': WHATEVER THE INPUT: true; the input reads as it did. -/
def fnExactNeverChosenSpec : ChangeSpec := { name := "fnExactNeverChosen", fn := fun _ => fun
  | [d] => { results := [.lit (.bool true)], args := [d] }
  | _ => none }
def fnExactNeverChosenRow : OpenClaim := { program := "ytajacohfmpkpaaa", sum := "470fe1b3b5bca31186cf2c5f2125502f6befdd20391e92c27e06373d3f0f5388", func := "loop.example/g03001/laws.FnExactNeverChosen", spec := "fnExactNeverChosen", unfollowed := true, recurses := true, apart := false }
def FnExactNeverChosenSaid : Prop := fnExactNeverChosenRow.holds Try.pinned (OpenSpec.ofChange fnExactNeverChosenSpec)

/-- ITS FALSE NEIGHBOUR: 'it returns false'. Refute it at one input. -/
def fnExactNeverChosenWrong : ChangeSpec := { name := "fnExactNeverChosen", fn := fun _ => fun
  | [d] => { results := [.lit (.bool false)], args := [d] }
  | _ => none }
def FnExactNeverChosenWrongFalsely : Prop := fnExactNeverChosenRow.holds Try.pinned (OpenSpec.ofChange fnExactNeverChosenWrong)

/-- 'laws.FnExactClashOf': WHATEVER THE INPUT: true; the input reads as it did. -/
def fnExactClashOfSpec : ChangeSpec := { name := "fnExactClashOf", fn := fun _ => fun
  | [d1, d2] => { results := [.lit (.bool true)], args := [d1, d2] }
  | _ => none }
def fnExactClashOfRow : OpenClaim := { program := "ytajacohfmpkpaaa", sum := "470fe1b3b5bca31186cf2c5f2125502f6befdd20391e92c27e06373d3f0f5388", func := "loop.example/g03001/laws.FnExactClashOf", spec := "fnExactClashOf", unfollowed := true, recurses := true, apart := false }
def FnExactClashOfSaid : Prop := fnExactClashOfRow.holds Try.pinned (OpenSpec.ofChange fnExactClashOfSpec)

/-- ITS FALSE NEIGHBOUR: 'it returns false'. Refute it at one input. -/
def fnExactClashOfWrong : ChangeSpec := { name := "fnExactClashOf", fn := fun _ => fun
  | [d1, d2] => { results := [.lit (.bool false)], args := [d1, d2] }
  | _ => none }
def FnExactClashOfWrongFalsely : Prop := fnExactClashOfRow.holds Try.pinned (OpenSpec.ofChange fnExactClashOfWrong)

/-- 'laws.FnExactClashCount': WHATEVER THE INPUT: true; the input reads as it did. -/
def fnExactClashCountSpec : ChangeSpec := { name := "fnExactClashCount", fn := fun _ => fun
  | [d1, d2] => { results := [.lit (.bool true)], args := [d1, d2] }
  | _ => none }
def fnExactClashCountRow : OpenClaim := { program := "ytajacohfmpkpaaa", sum := "470fe1b3b5bca31186cf2c5f2125502f6befdd20391e92c27e06373d3f0f5388", func := "loop.example/g03001/laws.FnExactClashCount", spec := "fnExactClashCount", unfollowed := true, recurses := true, apart := false }
def FnExactClashCountSaid : Prop := fnExactClashCountRow.holds Try.pinned (OpenSpec.ofChange fnExactClashCountSpec)

/-- ITS FALSE NEIGHBOUR: 'it returns false'. Refute it at one input. -/
def fnExactClashCountWrong : ChangeSpec := { name := "fnExactClashCount", fn := fun _ => fun
  | [d1, d2] => { results := [.lit (.bool false)], args := [d1, d2] }
  | _ => none }
def FnExactClashCountWrongFalsely : Prop := fnExactClashCountRow.holds Try.pinned (OpenSpec.ofChange fnExactClashCountWrong)

/-- 'laws.FnExactCanAddRule': WHATEVER THE INPUT: true; the input reads as it did. -/
def fnExactCanAddRuleSpec : ChangeSpec := { name := "fnExactCanAddRule", fn := fun _ => fun
  | [d1, d2] => { results := [.lit (.bool true)], args := [d1, d2] }
  | _ => none }
def fnExactCanAddRuleRow : OpenClaim := { program := "ytajacohfmpkpaaa", sum := "470fe1b3b5bca31186cf2c5f2125502f6befdd20391e92c27e06373d3f0f5388", func := "loop.example/g03001/laws.FnExactCanAddRule", spec := "fnExactCanAddRule", apart := false }
def FnExactCanAddRuleSaid : Prop := fnExactCanAddRuleRow.holds Try.pinned (OpenSpec.ofChange fnExactCanAddRuleSpec)

/-- ITS FALSE NEIGHBOUR: 'it returns false'. Refute it at one input. -/
def fnExactCanAddRuleWrong : ChangeSpec := { name := "fnExactCanAddRule", fn := fun _ => fun
  | [d1, d2] => { results := [.lit (.bool false)], args := [d1, d2] }
  | _ => none }
def FnExactCanAddRuleWrongFalsely : Prop := fnExactCanAddRuleRow.holds Try.pinned (OpenSpec.ofChange fnExactCanAddRuleWrong)

/-- 'laws.FnExactAddRule': WHATEVER THE INPUT: true; the input reads as it did. -/
def fnExactAddRuleSpec : ChangeSpec := { name := "fnExactAddRule", fn := fun _ => fun
  | [d1, d2] => { results := [.lit (.bool true)], args := [d1, d2] }
  | _ => none }
def fnExactAddRuleRow : OpenClaim := { program := "ytajacohfmpkpaaa", sum := "470fe1b3b5bca31186cf2c5f2125502f6befdd20391e92c27e06373d3f0f5388", func := "loop.example/g03001/laws.FnExactAddRule", spec := "fnExactAddRule", apart := false }
def FnExactAddRuleSaid : Prop := fnExactAddRuleRow.holds Try.pinned (OpenSpec.ofChange fnExactAddRuleSpec)

/-- ITS FALSE NEIGHBOUR: 'it returns false'. Refute it at one input. -/
def fnExactAddRuleWrong : ChangeSpec := { name := "fnExactAddRule", fn := fun _ => fun
  | [d1, d2] => { results := [.lit (.bool false)], args := [d1, d2] }
  | _ => none }
def FnExactAddRuleWrongFalsely : Prop := fnExactAddRuleRow.holds Try.pinned (OpenSpec.ofChange fnExactAddRuleWrong)

/-- 'laws.FnExactDropRules': WHATEVER THE INPUT: true; the input reads as it did. -/
def fnExactDropRulesSpec : ChangeSpec := { name := "fnExactDropRules", fn := fun _ => fun
  | [d1, d2] => { results := [.lit (.bool true)], args := [d1, d2] }
  | _ => none }
def fnExactDropRulesRow : OpenClaim := { program := "ytajacohfmpkpaaa", sum := "470fe1b3b5bca31186cf2c5f2125502f6befdd20391e92c27e06373d3f0f5388", func := "loop.example/g03001/laws.FnExactDropRules", spec := "fnExactDropRules", unfollowed := true, recurses := true, apart := false }
def FnExactDropRulesSaid : Prop := fnExactDropRulesRow.holds Try.pinned (OpenSpec.ofChange fnExactDropRulesSpec)

/-- ITS FALSE NEIGHBOUR: 'it returns false'. Refute it at one input. -/
def fnExactDropRulesWrong : ChangeSpec := { name := "fnExactDropRules", fn := fun _ => fun
  | [d1, d2] => { results := [.lit (.bool false)], args := [d1, d2] }
  | _ => none }
def FnExactDropRulesWrongFalsely : Prop := fnExactDropRulesRow.holds Try.pinned (OpenSpec.ofChange fnExactDropRulesWrong)

/-- 'laws.FnExactRoomFor': WHATEVER THE INPUT: true; the input reads as it did. -/
def fnExactRoomForSpec : ChangeSpec := { name := "fnExactRoomFor", fn := fun _ => fun
  | [d1, d2] => { results := [.lit (.bool true)], args := [d1, d2] }
  | _ => none }
def fnExactRoomForRow : OpenClaim := { program := "ytajacohfmpkpaaa", sum := "470fe1b3b5bca31186cf2c5f2125502f6befdd20391e92c27e06373d3f0f5388", func := "loop.example/g03001/laws.FnExactRoomFor", spec := "fnExactRoomFor", apart := false }
def FnExactRoomForSaid : Prop := fnExactRoomForRow.holds Try.pinned (OpenSpec.ofChange fnExactRoomForSpec)

/-- ITS FALSE NEIGHBOUR: 'it returns false'. Refute it at one input. -/
def fnExactRoomForWrong : ChangeSpec := { name := "fnExactRoomFor", fn := fun _ => fun
  | [d1, d2] => { results := [.lit (.bool false)], args := [d1, d2] }
  | _ => none }
def FnExactRoomForWrongFalsely : Prop := fnExactRoomForRow.holds Try.pinned (OpenSpec.ofChange fnExactRoomForWrong)

/-- 'laws.FnExactIsFair': WHATEVER THE INPUT: true; the input reads as it did. -/
def fnExactIsFairSpec : ChangeSpec := { name := "fnExactIsFair", fn := fun _ => fun
  | [d] => { results := [.lit (.bool true)], args := [d] }
  | _ => none }
def fnExactIsFairRow : OpenClaim := { program := "ytajacohfmpkpaaa", sum := "470fe1b3b5bca31186cf2c5f2125502f6befdd20391e92c27e06373d3f0f5388", func := "loop.example/g03001/laws.FnExactIsFair", spec := "fnExactIsFair", unfollowed := true, recurses := true, apart := false }
def FnExactIsFairSaid : Prop := fnExactIsFairRow.holds Try.pinned (OpenSpec.ofChange fnExactIsFairSpec)

/-- ITS FALSE NEIGHBOUR: 'it returns false'. Refute it at one input. -/
def fnExactIsFairWrong : ChangeSpec := { name := "fnExactIsFair", fn := fun _ => fun
  | [d] => { results := [.lit (.bool false)], args := [d] }
  | _ => none }
def FnExactIsFairWrongFalsely : Prop := fnExactIsFairRow.holds Try.pinned (OpenSpec.ofChange fnExactIsFairWrong)

/- THE SECOND FORM. 'bulk': how many values and letters a reading holds, each counted each time it is reached (what is shared counts as often as it is met; a slice's spare places count too). A statement '..UptoSaid' is the law's where the arguments, and the package variables that the reading takes, are together of bulk at most 1048576: NARROWER than '..Said'. Prove '..Said' where nothing that the law and all that it calls make is longer than what came in: it says more and counts as full. Else prove '..UptoSaid'. A law counts once. -/
mutual
def uptoBulk {H : Type} : DataW H → Nat
  | .lit (.string bytes) => bytes.length + 1
  | .lit _ => 1
  | .nil => 1
  | .ptr d => uptoBulk d + 1
  | .slice elems spare => uptoBulkAll elems + uptoBulkAll spare + 1
  | .agg parts => uptoBulkAll parts + 1
  | .iface _ d => uptoBulk d + 1
  | .map entries => uptoBulkEntries entries + 1
  | .held _ => 1
def uptoBulkAll {H : Type} : List (DataW H) → Nat
  | [] => 0
  | d :: r => uptoBulk d + uptoBulkAll r
def uptoBulkEntries {H : Type} : List (Lit × DataW H) → Nat
  | [] => 0
  | x :: r => uptoBulkEntry x + uptoBulkEntries r
def uptoBulkEntry {H : Type} : Lit × DataW H → Nat
  | (.string bytes, d) => bytes.length + uptoBulk d + 1
  | (_, d) => uptoBulk d + 1
 end
def uptoSmall : (H : Type) → List (DataW H) → Bool := fun _ ds => decide (uptoBulkAll ds ≤ 1048576)
def OpenSpec.upto (s : _root_.Go.ChangeSpec) : _root_.Go.OpenSpec := { _root_.Go.OpenSpec.ofChange s with cond := some uptoSmall }

/-- 'laws.FnExactIsShadowed', WHERE WHAT IT READS IS OF BULK AT MOST 1048576: true; the input reads as it did. -/
def fnExactIsShadowedUptoRow : OpenClaim := { program := "ytajacohfmpkpaaa", sum := "470fe1b3b5bca31186cf2c5f2125502f6befdd20391e92c27e06373d3f0f5388", func := "loop.example/g03001/laws.FnExactIsShadowed", spec := "fnExactIsShadowed", apart := false, narrowed := true }
def FnExactIsShadowedUptoSaid : Prop := fnExactIsShadowedUptoRow.holds Try.pinned (OpenSpec.upto fnExactIsShadowedSpec)

/-- 'laws.FnExactShadowedRules', WHERE WHAT IT READS IS OF BULK AT MOST 1048576: true; the input reads as it did. -/
def fnExactShadowedRulesUptoRow : OpenClaim := { program := "ytajacohfmpkpaaa", sum := "470fe1b3b5bca31186cf2c5f2125502f6befdd20391e92c27e06373d3f0f5388", func := "loop.example/g03001/laws.FnExactShadowedRules", spec := "fnExactShadowedRules", apart := false, narrowed := true }
def FnExactShadowedRulesUptoSaid : Prop := fnExactShadowedRulesUptoRow.holds Try.pinned (OpenSpec.upto fnExactShadowedRulesSpec)

/-- 'laws.FnExactNeverChosen', WHERE WHAT IT READS IS OF BULK AT MOST 1048576: true; the input reads as it did. -/
def fnExactNeverChosenUptoRow : OpenClaim := { program := "ytajacohfmpkpaaa", sum := "470fe1b3b5bca31186cf2c5f2125502f6befdd20391e92c27e06373d3f0f5388", func := "loop.example/g03001/laws.FnExactNeverChosen", spec := "fnExactNeverChosen", unfollowed := true, recurses := true, apart := false, narrowed := true }
def FnExactNeverChosenUptoSaid : Prop := fnExactNeverChosenUptoRow.holds Try.pinned (OpenSpec.upto fnExactNeverChosenSpec)

/-- 'laws.FnExactClashOf', WHERE WHAT IT READS IS OF BULK AT MOST 1048576: true; the input reads as it did. -/
def fnExactClashOfUptoRow : OpenClaim := { program := "ytajacohfmpkpaaa", sum := "470fe1b3b5bca31186cf2c5f2125502f6befdd20391e92c27e06373d3f0f5388", func := "loop.example/g03001/laws.FnExactClashOf", spec := "fnExactClashOf", unfollowed := true, recurses := true, apart := false, narrowed := true }
def FnExactClashOfUptoSaid : Prop := fnExactClashOfUptoRow.holds Try.pinned (OpenSpec.upto fnExactClashOfSpec)

/-- 'laws.FnExactClashCount', WHERE WHAT IT READS IS OF BULK AT MOST 1048576: true; the input reads as it did. -/
def fnExactClashCountUptoRow : OpenClaim := { program := "ytajacohfmpkpaaa", sum := "470fe1b3b5bca31186cf2c5f2125502f6befdd20391e92c27e06373d3f0f5388", func := "loop.example/g03001/laws.FnExactClashCount", spec := "fnExactClashCount", unfollowed := true, recurses := true, apart := false, narrowed := true }
def FnExactClashCountUptoSaid : Prop := fnExactClashCountUptoRow.holds Try.pinned (OpenSpec.upto fnExactClashCountSpec)

/-- 'laws.FnExactCanAddRule', WHERE WHAT IT READS IS OF BULK AT MOST 1048576: true; the input reads as it did. -/
def fnExactCanAddRuleUptoRow : OpenClaim := { program := "ytajacohfmpkpaaa", sum := "470fe1b3b5bca31186cf2c5f2125502f6befdd20391e92c27e06373d3f0f5388", func := "loop.example/g03001/laws.FnExactCanAddRule", spec := "fnExactCanAddRule", apart := false, narrowed := true }
def FnExactCanAddRuleUptoSaid : Prop := fnExactCanAddRuleUptoRow.holds Try.pinned (OpenSpec.upto fnExactCanAddRuleSpec)

/-- 'laws.FnExactAddRule', WHERE WHAT IT READS IS OF BULK AT MOST 1048576: true; the input reads as it did. -/
def fnExactAddRuleUptoRow : OpenClaim := { program := "ytajacohfmpkpaaa", sum := "470fe1b3b5bca31186cf2c5f2125502f6befdd20391e92c27e06373d3f0f5388", func := "loop.example/g03001/laws.FnExactAddRule", spec := "fnExactAddRule", apart := false, narrowed := true }
def FnExactAddRuleUptoSaid : Prop := fnExactAddRuleUptoRow.holds Try.pinned (OpenSpec.upto fnExactAddRuleSpec)

/-- 'laws.FnExactDropRules', WHERE WHAT IT READS IS OF BULK AT MOST 1048576: true; the input reads as it did. -/
def fnExactDropRulesUptoRow : OpenClaim := { program := "ytajacohfmpkpaaa", sum := "470fe1b3b5bca31186cf2c5f2125502f6befdd20391e92c27e06373d3f0f5388", func := "loop.example/g03001/laws.FnExactDropRules", spec := "fnExactDropRules", unfollowed := true, recurses := true, apart := false, narrowed := true }
def FnExactDropRulesUptoSaid : Prop := fnExactDropRulesUptoRow.holds Try.pinned (OpenSpec.upto fnExactDropRulesSpec)

/-- 'laws.FnExactRoomFor', WHERE WHAT IT READS IS OF BULK AT MOST 1048576: true; the input reads as it did. -/
def fnExactRoomForUptoRow : OpenClaim := { program := "ytajacohfmpkpaaa", sum := "470fe1b3b5bca31186cf2c5f2125502f6befdd20391e92c27e06373d3f0f5388", func := "loop.example/g03001/laws.FnExactRoomFor", spec := "fnExactRoomFor", apart := false, narrowed := true }
def FnExactRoomForUptoSaid : Prop := fnExactRoomForUptoRow.holds Try.pinned (OpenSpec.upto fnExactRoomForSpec)

/-- 'laws.FnExactIsFair', WHERE WHAT IT READS IS OF BULK AT MOST 1048576: true; the input reads as it did. -/
def fnExactIsFairUptoRow : OpenClaim := { program := "ytajacohfmpkpaaa", sum := "470fe1b3b5bca31186cf2c5f2125502f6befdd20391e92c27e06373d3f0f5388", func := "loop.example/g03001/laws.FnExactIsFair", spec := "fnExactIsFair", unfollowed := true, recurses := true, apart := false, narrowed := true }
def FnExactIsFairUptoSaid : Prop := fnExactIsFairUptoRow.holds Try.pinned (OpenSpec.upto fnExactIsFairSpec)

end Rows
end Go.Proofs.Ytajacohfmpkpaaa
