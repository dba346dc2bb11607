/-
  No cell of these rows narrows 'for every input' (looked for: loops, veiled, ifaces, maps, wideKeys, modest, calm, conditions, laid).
  DERIVED. THE GIVEN ROWS OF THIS SEAT. 12 by the template 'for every input the law returns true; each argument reads behind the call as it read before'; 0 by the template 'total and deterministic' (their statements: YthipflbjnnplaaaTotals.lean).
  GIVEN WITH THE SEED: the statements are not yours to turn. If you find one false, say at which input.
  Laid BY PROGRAM, IN A SANDBOX (cutbox-rows.mjs): the forced cells as the released guide's own fill.sh prints them over the translation eb604d80bd1431fb… (all of the seat's roots in one cut). By AI agents, Wed Nov 11 2026. No macro, syntax, notation, axiom, sorry.
-/
import Derived.Test.YthipflbjnnplaaaChecked
import GoSem.Claim
import GoSem.ClaimJoined
import GoSem.ClaimMapViews
import Derived.JoinedTies
import Derived.KernelRfl
namespace Go.Proofs.Ythipflbjnnplaaa
/- THE CELL 'sum', in the pinned program and in every row, IS THE sha256 OF THE DUMP (.gsa) THAT YthipflbjnnplaaaProg.lean LOADS. Nothing in Lean hashes anything: it is a label: what it is worth is what the hold of that sum in a sandbox is worth. -/
noncomputable def Try.pinned : Pinned := { name := "ythipflbjnnplaaa", sum := "eb604d80bd1431fb4a29d2e276f331a46eb2351f428cd7dec86e2028d6579aa9", checked := Try.checked }
namespace Rows
def none {H : Type} : Left H := { results := [], args := [] }

/-- 'laws.FnExactEqualPackages': WHATEVER THE INPUT: true; the input reads as it did. -/
def fnExactEqualPackagesSpec : ChangeSpec := { name := "fnExactEqualPackages", fn := fun _ => fun
  | [d1, d2] => { results := [.lit (.bool true)], args := [d1, d2] }
  | _ => none }
def fnExactEqualPackagesRow : OpenClaim := { program := "ythipflbjnnplaaa", sum := "eb604d80bd1431fb4a29d2e276f331a46eb2351f428cd7dec86e2028d6579aa9", func := "loop.example/g03001/laws.FnExactEqualPackages", spec := "fnExactEqualPackages", apart := false }
def FnExactEqualPackagesSaid : Prop := fnExactEqualPackagesRow.holds Try.pinned (OpenSpec.ofChange fnExactEqualPackagesSpec)

/-- ITS FALSE NEIGHBOUR: 'it returns false'. Refute it at one input. -/
def fnExactEqualPackagesWrong : ChangeSpec := { name := "fnExactEqualPackages", fn := fun _ => fun
  | [d1, d2] => { results := [.lit (.bool false)], args := [d1, d2] }
  | _ => none }
def FnExactEqualPackagesWrongFalsely : Prop := fnExactEqualPackagesRow.holds Try.pinned (OpenSpec.ofChange fnExactEqualPackagesWrong)

/-- 'laws.FnExactIsPackage': WHATEVER THE INPUT: true; the input reads as it did. -/
def fnExactIsPackageSpec : ChangeSpec := { name := "fnExactIsPackage", fn := fun _ => fun
  | [d] => { results := [.lit (.bool true)], args := [d] }
  | _ => none }
def fnExactIsPackageRow : OpenClaim := { program := "ythipflbjnnplaaa", sum := "eb604d80bd1431fb4a29d2e276f331a46eb2351f428cd7dec86e2028d6579aa9", func := "loop.example/g03001/laws.FnExactIsPackage", spec := "fnExactIsPackage", unfollowed := true, recurses := true, apart := false }
def FnExactIsPackageSaid : Prop := fnExactIsPackageRow.holds Try.pinned (OpenSpec.ofChange fnExactIsPackageSpec)

/-- ITS FALSE NEIGHBOUR: 'it returns false'. Refute it at one input. -/
def fnExactIsPackageWrong : ChangeSpec := { name := "fnExactIsPackage", fn := fun _ => fun
  | [d] => { results := [.lit (.bool false)], args := [d] }
  | _ => none }
def FnExactIsPackageWrongFalsely : Prop := fnExactIsPackageRow.holds Try.pinned (OpenSpec.ofChange fnExactIsPackageWrong)

/-- 'laws.FnExactWidenedGrants': WHATEVER THE INPUT: true; the input reads as it did. -/
def fnExactWidenedGrantsSpec : ChangeSpec := { name := "fnExactWidenedGrants", fn := fun _ => fun
  | [d1, d2] => { results := [.lit (.bool true)], args := [d1, d2] }
  | _ => none }
def fnExactWidenedGrantsRow : OpenClaim := { program := "ythipflbjnnplaaa", sum := "eb604d80bd1431fb4a29d2e276f331a46eb2351f428cd7dec86e2028d6579aa9", func := "loop.example/g03001/laws.FnExactWidenedGrants", spec := "fnExactWidenedGrants", unfollowed := true, recurses := true, apart := false }
def FnExactWidenedGrantsSaid : Prop := fnExactWidenedGrantsRow.holds Try.pinned (OpenSpec.ofChange fnExactWidenedGrantsSpec)

/-- ITS FALSE NEIGHBOUR: 'it returns false'. Refute it at one input. -/
def fnExactWidenedGrantsWrong : ChangeSpec := { name := "fnExactWidenedGrants", fn := fun _ => fun
  | [d1, d2] => { results := [.lit (.bool false)], args := [d1, d2] }
  | _ => none }
def FnExactWidenedGrantsWrongFalsely : Prop := fnExactWidenedGrantsRow.holds Try.pinned (OpenSpec.ofChange fnExactWidenedGrantsWrong)

/-- 'laws.FnExactIsWider': WHATEVER THE INPUT: true; the input reads as it did. -/
def fnExactIsWiderSpec : ChangeSpec := { name := "fnExactIsWider", fn := fun _ => fun
  | [d1, d2] => { results := [.lit (.bool true)], args := [d1, d2] }
  | _ => none }
def fnExactIsWiderRow : OpenClaim := { program := "ythipflbjnnplaaa", sum := "eb604d80bd1431fb4a29d2e276f331a46eb2351f428cd7dec86e2028d6579aa9", func := "loop.example/g03001/laws.FnExactIsWider", spec := "fnExactIsWider", unfollowed := true, recurses := true, apart := false }
def FnExactIsWiderSaid : Prop := fnExactIsWiderRow.holds Try.pinned (OpenSpec.ofChange fnExactIsWiderSpec)

/-- ITS FALSE NEIGHBOUR: 'it returns false'. Refute it at one input. -/
def fnExactIsWiderWrong : ChangeSpec := { name := "fnExactIsWider", fn := fun _ => fun
  | [d1, d2] => { results := [.lit (.bool false)], args := [d1, d2] }
  | _ => none }
def FnExactIsWiderWrongFalsely : Prop := fnExactIsWiderRow.holds Try.pinned (OpenSpec.ofChange fnExactIsWiderWrong)

/-- 'laws.FnExactEqualTabs': WHATEVER THE INPUT: true; the input reads as it did. -/
def fnExactEqualTabsSpec : ChangeSpec := { name := "fnExactEqualTabs", fn := fun _ => fun
  | [d1, d2] => { results := [.lit (.bool true)], args := [d1, d2] }
  | _ => none }
def fnExactEqualTabsRow : OpenClaim := { program := "ythipflbjnnplaaa", sum := "eb604d80bd1431fb4a29d2e276f331a46eb2351f428cd7dec86e2028d6579aa9", func := "loop.example/g03001/laws.FnExactEqualTabs", spec := "fnExactEqualTabs", apart := false }
def FnExactEqualTabsSaid : Prop := fnExactEqualTabsRow.holds Try.pinned (OpenSpec.ofChange fnExactEqualTabsSpec)

/-- ITS FALSE NEIGHBOUR: 'it returns false'. Refute it at one input. -/
def fnExactEqualTabsWrong : ChangeSpec := { name := "fnExactEqualTabs", fn := fun _ => fun
  | [d1, d2] => { results := [.lit (.bool false)], args := [d1, d2] }
  | _ => none }
def FnExactEqualTabsWrongFalsely : Prop := fnExactEqualTabsRow.holds Try.pinned (OpenSpec.ofChange fnExactEqualTabsWrong)

/-- 'laws.FnExactIsTab': WHATEVER THE INPUT: true; the input reads as it did. -/
def fnExactIsTabSpec : ChangeSpec := { name := "fnExactIsTab", fn := fun _ => fun
  | [d] => { results := [.lit (.bool true)], args := [d] }
  | _ => none }
def fnExactIsTabRow : OpenClaim := { program := "ythipflbjnnplaaa", sum := "eb604d80bd1431fb4a29d2e276f331a46eb2351f428cd7dec86e2028d6579aa9", func := "loop.example/g03001/laws.FnExactIsTab", spec := "fnExactIsTab", unfollowed := true, recurses := true, apart := false }
def FnExactIsTabSaid : Prop := fnExactIsTabRow.holds Try.pinned (OpenSpec.ofChange fnExactIsTabSpec)

/-- ITS FALSE NEIGHBOUR: 'it returns false'. Refute it at one input. -/
def fnExactIsTabWrong : ChangeSpec := { name := "fnExactIsTab", fn := fun _ => fun
  | [d] => { results := [.lit (.bool false)], args := [d] }
  | _ => none }
def FnExactIsTabWrongFalsely : Prop := fnExactIsTabRow.holds Try.pinned (OpenSpec.ofChange fnExactIsTabWrong)

/-- 'laws.FnExactIsClicked': WHATEVER THE INPUT: true; the input reads as it did. -/
def fnExactIsClickedSpec : ChangeSpec := { name := "fnExactIsClicked", fn := fun _ => fun
  | [d1, d2] => { results := [.lit (.bool true)], args := [d1, d2] }
  | _ => none }
def fnExactIsClickedRow : OpenClaim := { program := "ythipflbjnnplaaa", sum := "eb604d80bd1431fb4a29d2e276f331a46eb2351f428cd7dec86e2028d6579aa9", func := "loop.example/g03001/laws.FnExactIsClicked", spec := "fnExactIsClicked", apart := false }
def FnExactIsClickedSaid : Prop := fnExactIsClickedRow.holds Try.pinned (OpenSpec.ofChange fnExactIsClickedSpec)

/-- ITS FALSE NEIGHBOUR: 'it returns false'. Refute it at one input. -/
def fnExactIsClickedWrong : ChangeSpec := { name := "fnExactIsClicked", fn := fun _ => fun
  | [d1, d2] => { results := [.lit (.bool false)], args := [d1, d2] }
  | _ => none }
def FnExactIsClickedWrongFalsely : Prop := fnExactIsClickedRow.holds Try.pinned (OpenSpec.ofChange fnExactIsClickedWrong)

/-- 'laws.FnExactTakeSnapshot': WHATEVER THE INPUT: true; the input reads as it did. -/
def fnExactTakeSnapshotSpec : ChangeSpec := { name := "fnExactTakeSnapshot", fn := fun _ => fun
  | [d1, d2] => { results := [.lit (.bool true)], args := [d1, d2] }
  | _ => none }
def fnExactTakeSnapshotRow : OpenClaim := { program := "ythipflbjnnplaaa", sum := "eb604d80bd1431fb4a29d2e276f331a46eb2351f428cd7dec86e2028d6579aa9", func := "loop.example/g03001/laws.FnExactTakeSnapshot", spec := "fnExactTakeSnapshot", unfollowed := true, recurses := true, apart := false }
def FnExactTakeSnapshotSaid : Prop := fnExactTakeSnapshotRow.holds Try.pinned (OpenSpec.ofChange fnExactTakeSnapshotSpec)

/-- ITS FALSE NEIGHBOUR: 'it returns false'. Refute it at one input. -/
def fnExactTakeSnapshotWrong : ChangeSpec := { name := "fnExactTakeSnapshot", fn := fun _ => fun
  | [d1, d2] => { results := [.lit (.bool false)], args := [d1, d2] }
  | _ => none }
def FnExactTakeSnapshotWrongFalsely : Prop := fnExactTakeSnapshotRow.holds Try.pinned (OpenSpec.ofChange fnExactTakeSnapshotWrong)

/-- 'laws.FnExactOpenTab': WHATEVER THE INPUT: true; the input reads as it did. -/
def fnExactOpenTabSpec : ChangeSpec := { name := "fnExactOpenTab", fn := fun _ => fun
  | [d1, d2, d3] => { results := [.lit (.bool true)], args := [d1, d2, d3] }
  | _ => none }
def fnExactOpenTabRow : OpenClaim := { program := "ythipflbjnnplaaa", sum := "eb604d80bd1431fb4a29d2e276f331a46eb2351f428cd7dec86e2028d6579aa9", func := "loop.example/g03001/laws.FnExactOpenTab", spec := "fnExactOpenTab", unfollowed := true, recurses := true, apart := false }
def FnExactOpenTabSaid : Prop := fnExactOpenTabRow.holds Try.pinned (OpenSpec.ofChange fnExactOpenTabSpec)

/-- ITS FALSE NEIGHBOUR: 'it returns false'. Refute it at one input. -/
def fnExactOpenTabWrong : ChangeSpec := { name := "fnExactOpenTab", fn := fun _ => fun
  | [d1, d2, d3] => { results := [.lit (.bool false)], args := [d1, d2, d3] }
  | _ => none }
def FnExactOpenTabWrongFalsely : Prop := fnExactOpenTabRow.holds Try.pinned (OpenSpec.ofChange fnExactOpenTabWrong)

/-- 'laws.FnExactPackageInts': WHATEVER THE INPUT: true; the input reads as it did. -/
def fnExactPackageIntsSpec : ChangeSpec := { name := "fnExactPackageInts", fn := fun _ => fun
  | [d] => { results := [.lit (.bool true)], args := [d] }
  | _ => none }
def fnExactPackageIntsRow : OpenClaim := { program := "ythipflbjnnplaaa", sum := "eb604d80bd1431fb4a29d2e276f331a46eb2351f428cd7dec86e2028d6579aa9", func := "loop.example/g03001/laws.FnExactPackageInts", spec := "fnExactPackageInts", unfollowed := true, recurses := true, apart := false }
def FnExactPackageIntsSaid : Prop := fnExactPackageIntsRow.holds Try.pinned (OpenSpec.ofChange fnExactPackageIntsSpec)

/-- ITS FALSE NEIGHBOUR: 'it returns false'. Refute it at one input. -/
def fnExactPackageIntsWrong : ChangeSpec := { name := "fnExactPackageInts", fn := fun _ => fun
  | [d] => { results := [.lit (.bool false)], args := [d] }
  | _ => none }
def FnExactPackageIntsWrongFalsely : Prop := fnExactPackageIntsRow.holds Try.pinned (OpenSpec.ofChange fnExactPackageIntsWrong)

/-- 'laws.FnExactIsShadowed': WHATEVER THE INPUT: true; the input reads as it did. -/
def fnExactIsShadowedSpec : ChangeSpec := { name := "fnExactIsShadowed", fn := fun _ => fun
  | [d1, d2] => { results := [.lit (.bool true)], args := [d1, d2] }
  | _ => none }
def fnExactIsShadowedRow : OpenClaim := { program := "ythipflbjnnplaaa", sum := "eb604d80bd1431fb4a29d2e276f331a46eb2351f428cd7dec86e2028d6579aa9", func := "loop.example/g03001/laws.FnExactIsShadowed", spec := "fnExactIsShadowed", apart := false }
def FnExactIsShadowedSaid : Prop := fnExactIsShadowedRow.holds Try.pinned (OpenSpec.ofChange fnExactIsShadowedSpec)

/-- ITS FALSE NEIGHBOUR: 'it returns false'. Refute it at one input. -/
def fnExactIsShadowedWrong : ChangeSpec := { name := "fnExactIsShadowed", fn := fun _ => fun
  | [d1, d2] => { results := [.lit (.bool false)], args := [d1, d2] }
  | _ => none }
def FnExactIsShadowedWrongFalsely : Prop := fnExactIsShadowedRow.holds Try.pinned (OpenSpec.ofChange fnExactIsShadowedWrong)

/-- 'laws.FnExactShadowedRules': WHATEVER THE INPUT: true; the input reads as it did. -/
def fnExactShadowedRulesSpec : ChangeSpec := { name := "fnExactShadowedRules", fn := fun _ => fun
  | [d] => { results := [.lit (.bool true)], args := [d] }
  | _ => none }
def fnExactShadowedRulesRow : OpenClaim := { program := "ythipflbjnnplaaa", sum := "eb604d80bd1431fb4a29d2e276f331a46eb2351f428cd7dec86e2028d6579aa9", func := "loop.example/g03001/laws.FnExactShadowedRules", spec := "fnExactShadowedRules", apart := false }
def FnExactShadowedRulesSaid : Prop := fnExactShadowedRulesRow.holds Try.pinned (OpenSpec.ofChange fnExactShadowedRulesSpec)

/-- ITS FALSE NEIGHBOUR: 'it returns false'. Refute it at one input. -/
def fnExactShadowedRulesWrong : ChangeSpec := { name := "fnExactShadowedRules", fn := fun _ => fun
  | [d] => { results := [.lit (.bool false)], args := [d] }
  | _ => none }
def FnExactShadowedRulesWrongFalsely : Prop := fnExactShadowedRulesRow.holds Try.pinned (OpenSpec.ofChange fnExactShadowedRulesWrong)

/- THE SECOND FORM. 'bulk': how many values and letters a reading holds, each counted each time it is reached (what is shared counts as often as it is met; a slice's spare places count too). A statement '..UptoSaid' is the law's where the arguments, and the package variables that the reading takes, are together of bulk at most 1048576: NARROWER than '..Said'. Prove '..Said' where nothing that the law and all that it calls make is longer than what came in: it says more and counts as full. Else prove '..UptoSaid'. A law counts once. -/
mutual
def uptoBulk {H : Type} : DataW H → Nat
  | .lit (.string bytes) => bytes.length + 1
  | .lit _ => 1
  | .nil => 1
  | .ptr d => uptoBulk d + 1
  | .slice elems spare => uptoBulkAll elems + uptoBulkAll spare + 1
  | .agg parts => uptoBulkAll parts + 1
  | .iface _ d => uptoBulk d + 1
  | .map entries => uptoBulkEntries entries + 1
  | .held _ => 1
def uptoBulkAll {H : Type} : List (DataW H) → Nat
  | [] => 0
  | d :: r => uptoBulk d + uptoBulkAll r
def uptoBulkEntries {H : Type} : List (Lit × DataW H) → Nat
  | [] => 0
  | x :: r => uptoBulkEntry x + uptoBulkEntries r
def uptoBulkEntry {H : Type} : Lit × DataW H → Nat
  | (.string bytes, d) => bytes.length + uptoBulk d + 1
  | (_, d) => uptoBulk d + 1
 end
def uptoSmall : (H : Type) → List (DataW H) → Bool := fun _ ds => decide (uptoBulkAll ds ≤ 1048576)
def OpenSpec.upto (s : _root_.Go.ChangeSpec) : _root_.Go.OpenSpec := { _root_.Go.OpenSpec.ofChange s with cond := some uptoSmall }

/-- 'laws.FnExactEqualPackages', WHERE WHAT IT READS IS OF BULK AT MOST 1048576: true; the input reads as it did. -/
def fnExactEqualPackagesUptoRow : OpenClaim := { program := "ythipflbjnnplaaa", sum := "eb604d80bd1431fb4a29d2e276f331a46eb2351f428cd7dec86e2028d6579aa9", func := "loop.example/g03001/laws.FnExactEqualPackages", spec := "fnExactEqualPackages", apart := false, narrowed := true }
def FnExactEqualPackagesUptoSaid : Prop := fnExactEqualPackagesUptoRow.holds Try.pinned (OpenSpec.upto fnExactEqualPackagesSpec)

/-- 'laws.FnExactIsPackage', WHERE WHAT IT READS IS OF BULK AT MOST 1048576: true; the input reads as it did. -/
def fnExactIsPackageUptoRow : OpenClaim := { program := "ythipflbjnnplaaa", sum := "eb604d80bd1431fb4a29d2e276f331a46eb2351f428cd7dec86e2028d6579aa9", func := "loop.example/g03001/laws.FnExactIsPackage", spec := "fnExactIsPackage", unfollowed := true, recurses := true, apart := false, narrowed := true }
def FnExactIsPackageUptoSaid : Prop := fnExactIsPackageUptoRow.holds Try.pinned (OpenSpec.upto fnExactIsPackageSpec)

/-- 'laws.FnExactWidenedGrants', WHERE WHAT IT READS IS OF BULK AT MOST 1048576: true; the input reads as it did. -/
def fnExactWidenedGrantsUptoRow : OpenClaim := { program := "ythipflbjnnplaaa", sum := "eb604d80bd1431fb4a29d2e276f331a46eb2351f428cd7dec86e2028d6579aa9", func := "loop.example/g03001/laws.FnExactWidenedGrants", spec := "fnExactWidenedGrants", unfollowed := true, recurses := true, apart := false, narrowed := true }
def FnExactWidenedGrantsUptoSaid : Prop := fnExactWidenedGrantsUptoRow.holds Try.pinned (OpenSpec.upto fnExactWidenedGrantsSpec)

/-- 'laws.FnExactIsWider', WHERE WHAT IT READS IS OF BULK AT MOST 1048576: true; the input reads as it did. -/
def fnExactIsWiderUptoRow : OpenClaim := { program := "ythipflbjnnplaaa", sum := "eb604d80bd1431fb4a29d2e276f331a46eb2351f428cd7dec86e2028d6579aa9", func := "loop.example/g03001/laws.FnExactIsWider", spec := "fnExactIsWider", unfollowed := true, recurses := true, apart := false, narrowed := true }
def FnExactIsWiderUptoSaid : Prop := fnExactIsWiderUptoRow.holds Try.pinned (OpenSpec.upto fnExactIsWiderSpec)

/-- 'laws.FnExactEqualTabs', WHERE WHAT IT READS IS OF BULK AT MOST 1048576: true; the input reads as it did. -/
def fnExactEqualTabsUptoRow : OpenClaim := { program := "ythipflbjnnplaaa", sum := "eb604d80bd1431fb4a29d2e276f331a46eb2351f428cd7dec86e2028d6579aa9", func := "loop.example/g03001/laws.FnExactEqualTabs", spec := "fnExactEqualTabs", apart := false, narrowed := true }
def FnExactEqualTabsUptoSaid : Prop := fnExactEqualTabsUptoRow.holds Try.pinned (OpenSpec.upto fnExactEqualTabsSpec)

/-- 'laws.FnExactIsTab', WHERE WHAT IT READS IS OF BULK AT MOST 1048576: true; the input reads as it did. -/
def fnExactIsTabUptoRow : OpenClaim := { program := "ythipflbjnnplaaa", sum := "eb604d80bd1431fb4a29d2e276f331a46eb2351f428cd7dec86e2028d6579aa9", func := "loop.example/g03001/laws.FnExactIsTab", spec := "fnExactIsTab", unfollowed := true, recurses := true, apart := false, narrowed := true }
def FnExactIsTabUptoSaid : Prop := fnExactIsTabUptoRow.holds Try.pinned (OpenSpec.upto fnExactIsTabSpec)

/-- 'laws.FnExactIsClicked', WHERE WHAT IT READS IS OF BULK AT MOST 1048576: true; the input reads as it did. -/
def fnExactIsClickedUptoRow : OpenClaim := { program := "ythipflbjnnplaaa", sum := "eb604d80bd1431fb4a29d2e276f331a46eb2351f428cd7dec86e2028d6579aa9", func := "loop.example/g03001/laws.FnExactIsClicked", spec := "fnExactIsClicked", apart := false, narrowed := true }
def FnExactIsClickedUptoSaid : Prop := fnExactIsClickedUptoRow.holds Try.pinned (OpenSpec.upto fnExactIsClickedSpec)

/-- 'laws.FnExactTakeSnapshot', WHERE WHAT IT READS IS OF BULK AT MOST 1048576: true; the input reads as it did. -/
def fnExactTakeSnapshotUptoRow : OpenClaim := { program := "ythipflbjnnplaaa", sum := "eb604d80bd1431fb4a29d2e276f331a46eb2351f428cd7dec86e2028d6579aa9", func := "loop.example/g03001/laws.FnExactTakeSnapshot", spec := "fnExactTakeSnapshot", unfollowed := true, recurses := true, apart := false, narrowed := true }
def FnExactTakeSnapshotUptoSaid : Prop := fnExactTakeSnapshotUptoRow.holds Try.pinned (OpenSpec.upto fnExactTakeSnapshotSpec)

/-- 'laws.FnExactOpenTab', WHERE WHAT IT READS IS OF BULK AT MOST 1048576: true; the input reads as it did. -/
def fnExactOpenTabUptoRow : OpenClaim := { program := "ythipflbjnnplaaa", sum := "eb604d80bd1431fb4a29d2e276f331a46eb2351f428cd7dec86e2028d6579aa9", func := "loop.example/g03001/laws.FnExactOpenTab", spec := "fnExactOpenTab", unfollowed := true, recurses := true, apart := false, narrowed := true }
def FnExactOpenTabUptoSaid : Prop := fnExactOpenTabUptoRow.holds Try.pinned (OpenSpec.upto fnExactOpenTabSpec)

/-- 'laws.FnExactPackageInts', WHERE WHAT IT READS IS OF BULK AT MOST 1048576: true; the input reads as it did. -/
def fnExactPackageIntsUptoRow : OpenClaim := { program := "ythipflbjnnplaaa", sum := "eb604d80bd1431fb4a29d2e276f331a46eb2351f428cd7dec86e2028d6579aa9", func := "loop.example/g03001/laws.FnExactPackageInts", spec := "fnExactPackageInts", unfollowed := true, recurses := true, apart := false, narrowed := true }
def FnExactPackageIntsUptoSaid : Prop := fnExactPackageIntsUptoRow.holds Try.pinned (OpenSpec.upto fnExactPackageIntsSpec)

/-- 'laws.FnExactIsShadowed', WHERE WHAT IT READS IS OF BULK AT MOST 1048576: true; the input reads as it did. -/
def fnExactIsShadowedUptoRow : OpenClaim := { program := "ythipflbjnnplaaa", sum := "eb604d80bd1431fb4a29d2e276f331a46eb2351f428cd7dec86e2028d6579aa9", func := "loop.example/g03001/laws.FnExactIsShadowed", spec := "fnExactIsShadowed", apart := false, narrowed := true }
def FnExactIsShadowedUptoSaid : Prop := fnExactIsShadowedUptoRow.holds Try.pinned (OpenSpec.upto fnExactIsShadowedSpec)

/-- 'laws.FnExactShadowedRules', WHERE WHAT IT READS IS OF BULK AT MOST 1048576: true; the input reads as it did. -/
def fnExactShadowedRulesUptoRow : OpenClaim := { program := "ythipflbjnnplaaa", sum := "eb604d80bd1431fb4a29d2e276f331a46eb2351f428cd7dec86e2028d6579aa9", func := "loop.example/g03001/laws.FnExactShadowedRules", spec := "fnExactShadowedRules", apart := false, narrowed := true }
def FnExactShadowedRulesUptoSaid : Prop := fnExactShadowedRulesUptoRow.holds Try.pinned (OpenSpec.upto fnExactShadowedRulesSpec)

end Rows
end Go.Proofs.Ythipflbjnnplaaa
