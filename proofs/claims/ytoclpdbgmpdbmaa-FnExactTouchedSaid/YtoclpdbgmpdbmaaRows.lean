/-
  No cell of these rows narrows 'for every input' (looked for: loops, veiled, ifaces, maps, wideKeys, modest, calm, conditions, laid).
  DERIVED. THE GIVEN ROWS OF THIS SEAT. 9 by the template 'for every input the law returns true; each argument reads behind the call as it read before'; 0 by the template 'total and deterministic' (their statements: YtoclpdbgmpdbmaaTotals.lean).
  GIVEN WITH THE SEED: the statements are not yours to turn. If you find one false, say at which input.
  Laid BY PROGRAM, IN A SANDBOX (cutbox-rows.mjs): the forced cells as the released guide's own fill.sh prints them over the translation 5acb0d2a115962ab… (all of the seat's roots in one cut). By AI agents, Wed Nov 11 2026. No macro, syntax, notation, axiom, sorry.
-/
import Derived.Test.YtoclpdbgmpdbmaaChecked
import GoSem.Claim
import GoSem.ClaimJoined
import GoSem.ClaimMapViews
import Derived.JoinedTies
import Derived.KernelRfl
namespace Go.Proofs.Ytoclpdbgmpdbmaa
/- THE CELL 'sum', in the pinned program and in every row, IS THE sha256 OF THE DUMP (.gsa) THAT YtoclpdbgmpdbmaaProg.lean LOADS. Nothing in Lean hashes anything: it is a label: what it is worth is what the hold of that sum in a sandbox is worth. -/
noncomputable def Try.pinned : Pinned := { name := "ytoclpdbgmpdbmaa", sum := "5acb0d2a115962abb84a1aece2de25687dff7d9ec629484d8de4384fa825035a", checked := Try.checked }
namespace Rows
def none {H : Type} : Left H := { results := [], args := [] }

/-- 'laws.FnExactWorlds': WHATEVER THE INPUT: true; the input reads as it did. -/
def fnExactWorldsSpec : ChangeSpec := { name := "fnExactWorlds", fn := fun _ => fun
  | [d] => { results := [.lit (.bool true)], args := [d] }
  | _ => none }
def fnExactWorldsRow : OpenClaim := { program := "ytoclpdbgmpdbmaa", sum := "5acb0d2a115962abb84a1aece2de25687dff7d9ec629484d8de4384fa825035a", func := "loop.example/g03001/laws.FnExactWorlds", spec := "fnExactWorlds", recurses := true, apart := false }
def FnExactWorldsSaid : Prop := fnExactWorldsRow.holds Try.pinned (OpenSpec.ofChange fnExactWorldsSpec)

/-- ITS FALSE NEIGHBOUR: 'it returns false'. Refute it at one input. -/
def fnExactWorldsWrong : ChangeSpec := { name := "fnExactWorlds", fn := fun _ => fun
  | [d] => { results := [.lit (.bool false)], args := [d] }
  | _ => none }
def FnExactWorldsWrongFalsely : Prop := fnExactWorldsRow.holds Try.pinned (OpenSpec.ofChange fnExactWorldsWrong)

/-- 'laws.FnExactTouched': WHATEVER THE INPUT: true; the input reads as it did. -/
def fnExactTouchedSpec : ChangeSpec := { name := "fnExactTouched", fn := fun _ => fun
  | [d1, d2] => { results := [.lit (.bool true)], args := [d1, d2] }
  | _ => none }
def fnExactTouchedRow : OpenClaim := { program := "ytoclpdbgmpdbmaa", sum := "5acb0d2a115962abb84a1aece2de25687dff7d9ec629484d8de4384fa825035a", func := "loop.example/g03001/laws.FnExactTouched", spec := "fnExactTouched", unfollowed := true, recurses := true, apart := false }
def FnExactTouchedSaid : Prop := fnExactTouchedRow.holds Try.pinned (OpenSpec.ofChange fnExactTouchedSpec)

/-- ITS FALSE NEIGHBOUR: 'it returns false'. Refute it at one input. -/
def fnExactTouchedWrong : ChangeSpec := { name := "fnExactTouched", fn := fun _ => fun
  | [d1, d2] => { results := [.lit (.bool false)], args := [d1, d2] }
  | _ => none }
def FnExactTouchedWrongFalsely : Prop := fnExactTouchedRow.holds Try.pinned (OpenSpec.ofChange fnExactTouchedWrong)

/-- 'laws.FnExactPackageInts': WHATEVER THE INPUT: true; the input reads as it did. -/
def fnExactPackageIntsSpec : ChangeSpec := { name := "fnExactPackageInts", fn := fun _ => fun
  | [d] => { results := [.lit (.bool true)], args := [d] }
  | _ => none }
def fnExactPackageIntsRow : OpenClaim := { program := "ytoclpdbgmpdbmaa", sum := "5acb0d2a115962abb84a1aece2de25687dff7d9ec629484d8de4384fa825035a", func := "loop.example/g03001/laws.FnExactPackageInts", spec := "fnExactPackageInts", unfollowed := true, recurses := true, apart := false }
def FnExactPackageIntsSaid : Prop := fnExactPackageIntsRow.holds Try.pinned (OpenSpec.ofChange fnExactPackageIntsSpec)

/-- ITS FALSE NEIGHBOUR: 'it returns false'. Refute it at one input. -/
def fnExactPackageIntsWrong : ChangeSpec := { name := "fnExactPackageInts", fn := fun _ => fun
  | [d] => { results := [.lit (.bool false)], args := [d] }
  | _ => none }
def FnExactPackageIntsWrongFalsely : Prop := fnExactPackageIntsRow.holds Try.pinned (OpenSpec.ofChange fnExactPackageIntsWrong)

/-- 'laws.FnExactOwnersRead': WHATEVER THE INPUT: true; the input reads as it did. -/
def fnExactOwnersReadSpec : ChangeSpec := { name := "fnExactOwnersRead", fn := fun _ => fun
  | [d] => { results := [.lit (.bool true)], args := [d] }
  | _ => none }
def fnExactOwnersReadRow : OpenClaim := { program := "ytoclpdbgmpdbmaa", sum := "5acb0d2a115962abb84a1aece2de25687dff7d9ec629484d8de4384fa825035a", func := "loop.example/g03001/laws.FnExactOwnersRead", spec := "fnExactOwnersRead", unfollowed := true, recurses := true, apart := false }
def FnExactOwnersReadSaid : Prop := fnExactOwnersReadRow.holds Try.pinned (OpenSpec.ofChange fnExactOwnersReadSpec)

/-- ITS FALSE NEIGHBOUR: 'it returns false'. Refute it at one input. -/
def fnExactOwnersReadWrong : ChangeSpec := { name := "fnExactOwnersRead", fn := fun _ => fun
  | [d] => { results := [.lit (.bool false)], args := [d] }
  | _ => none }
def FnExactOwnersReadWrongFalsely : Prop := fnExactOwnersReadRow.holds Try.pinned (OpenSpec.ofChange fnExactOwnersReadWrong)

/-- 'laws.FnExactOwnersSent': WHATEVER THE INPUT: true; the input reads as it did. -/
def fnExactOwnersSentSpec : ChangeSpec := { name := "fnExactOwnersSent", fn := fun _ => fun
  | [d] => { results := [.lit (.bool true)], args := [d] }
  | _ => none }
def fnExactOwnersSentRow : OpenClaim := { program := "ytoclpdbgmpdbmaa", sum := "5acb0d2a115962abb84a1aece2de25687dff7d9ec629484d8de4384fa825035a", func := "loop.example/g03001/laws.FnExactOwnersSent", spec := "fnExactOwnersSent", unfollowed := true, recurses := true, apart := false }
def FnExactOwnersSentSaid : Prop := fnExactOwnersSentRow.holds Try.pinned (OpenSpec.ofChange fnExactOwnersSentSpec)

/-- ITS FALSE NEIGHBOUR: 'it returns false'. Refute it at one input. -/
def fnExactOwnersSentWrong : ChangeSpec := { name := "fnExactOwnersSent", fn := fun _ => fun
  | [d] => { results := [.lit (.bool false)], args := [d] }
  | _ => none }
def FnExactOwnersSentWrongFalsely : Prop := fnExactOwnersSentRow.holds Try.pinned (OpenSpec.ofChange fnExactOwnersSentWrong)

/-- 'laws.FnExactHasGrantFor': WHATEVER THE INPUT: true; the input reads as it did. -/
def fnExactHasGrantForSpec : ChangeSpec := { name := "fnExactHasGrantFor", fn := fun _ => fun
  | [d1, d2, d3] => { results := [.lit (.bool true)], args := [d1, d2, d3] }
  | _ => none }
def fnExactHasGrantForRow : OpenClaim := { program := "ytoclpdbgmpdbmaa", sum := "5acb0d2a115962abb84a1aece2de25687dff7d9ec629484d8de4384fa825035a", func := "loop.example/g03001/laws.FnExactHasGrantFor", spec := "fnExactHasGrantFor", apart := false }
def FnExactHasGrantForSaid : Prop := fnExactHasGrantForRow.holds Try.pinned (OpenSpec.ofChange fnExactHasGrantForSpec)

/-- ITS FALSE NEIGHBOUR: 'it returns false'. Refute it at one input. -/
def fnExactHasGrantForWrong : ChangeSpec := { name := "fnExactHasGrantFor", fn := fun _ => fun
  | [d1, d2, d3] => { results := [.lit (.bool false)], args := [d1, d2, d3] }
  | _ => none }
def FnExactHasGrantForWrongFalsely : Prop := fnExactHasGrantForRow.holds Try.pinned (OpenSpec.ofChange fnExactHasGrantForWrong)

/-- 'laws.FnExactTakeSnapshot': WHATEVER THE INPUT: true; the input reads as it did. -/
def fnExactTakeSnapshotSpec : ChangeSpec := { name := "fnExactTakeSnapshot", fn := fun _ => fun
  | [d1, d2] => { results := [.lit (.bool true)], args := [d1, d2] }
  | _ => none }
def fnExactTakeSnapshotRow : OpenClaim := { program := "ytoclpdbgmpdbmaa", sum := "5acb0d2a115962abb84a1aece2de25687dff7d9ec629484d8de4384fa825035a", func := "loop.example/g03001/laws.FnExactTakeSnapshot", spec := "fnExactTakeSnapshot", unfollowed := true, recurses := true, apart := false }
def FnExactTakeSnapshotSaid : Prop := fnExactTakeSnapshotRow.holds Try.pinned (OpenSpec.ofChange fnExactTakeSnapshotSpec)

/-- ITS FALSE NEIGHBOUR: 'it returns false'. Refute it at one input. -/
def fnExactTakeSnapshotWrong : ChangeSpec := { name := "fnExactTakeSnapshot", fn := fun _ => fun
  | [d1, d2] => { results := [.lit (.bool false)], args := [d1, d2] }
  | _ => none }
def FnExactTakeSnapshotWrongFalsely : Prop := fnExactTakeSnapshotRow.holds Try.pinned (OpenSpec.ofChange fnExactTakeSnapshotWrong)

/-- 'laws.FnExactOpenTab': WHATEVER THE INPUT: true; the input reads as it did. -/
def fnExactOpenTabSpec : ChangeSpec := { name := "fnExactOpenTab", fn := fun _ => fun
  | [d1, d2, d3] => { results := [.lit (.bool true)], args := [d1, d2, d3] }
  | _ => none }
def fnExactOpenTabRow : OpenClaim := { program := "ytoclpdbgmpdbmaa", sum := "5acb0d2a115962abb84a1aece2de25687dff7d9ec629484d8de4384fa825035a", func := "loop.example/g03001/laws.FnExactOpenTab", spec := "fnExactOpenTab", unfollowed := true, recurses := true, apart := false }
def FnExactOpenTabSaid : Prop := fnExactOpenTabRow.holds Try.pinned (OpenSpec.ofChange fnExactOpenTabSpec)

/-- ITS FALSE NEIGHBOUR: 'it returns false'. Refute it at one input. -/
def fnExactOpenTabWrong : ChangeSpec := { name := "fnExactOpenTab", fn := fun _ => fun
  | [d1, d2, d3] => { results := [.lit (.bool false)], args := [d1, d2, d3] }
  | _ => none }
def FnExactOpenTabWrongFalsely : Prop := fnExactOpenTabRow.holds Try.pinned (OpenSpec.ofChange fnExactOpenTabWrong)

/-- 'laws.FnExactTabWithout': WHATEVER THE INPUT: true; the input reads as it did. -/
def fnExactTabWithoutSpec : ChangeSpec := { name := "fnExactTabWithout", fn := fun _ => fun
  | [d1, d2] => { results := [.lit (.bool true)], args := [d1, d2] }
  | _ => none }
def fnExactTabWithoutRow : OpenClaim := { program := "ytoclpdbgmpdbmaa", sum := "5acb0d2a115962abb84a1aece2de25687dff7d9ec629484d8de4384fa825035a", func := "loop.example/g03001/laws.FnExactTabWithout", spec := "fnExactTabWithout", unfollowed := true, recurses := true, apart := false }
def FnExactTabWithoutSaid : Prop := fnExactTabWithoutRow.holds Try.pinned (OpenSpec.ofChange fnExactTabWithoutSpec)

/-- ITS FALSE NEIGHBOUR: 'it returns false'. Refute it at one input. -/
def fnExactTabWithoutWrong : ChangeSpec := { name := "fnExactTabWithout", fn := fun _ => fun
  | [d1, d2] => { results := [.lit (.bool false)], args := [d1, d2] }
  | _ => none }
def FnExactTabWithoutWrongFalsely : Prop := fnExactTabWithoutRow.holds Try.pinned (OpenSpec.ofChange fnExactTabWithoutWrong)

/- THE SECOND FORM. 'bulk': how many values and letters a reading holds, each counted each time it is reached (what is shared counts as often as it is met; a slice's spare places count too). A statement '..UptoSaid' is the law's where the arguments, and the package variables that the reading takes, are together of bulk at most 1048576: NARROWER than '..Said'. Prove '..Said' where nothing that the law and all that it calls make is longer than what came in: it says more and counts as full. Else prove '..UptoSaid'. A law counts once. -/
mutual
def uptoBulk {H : Type} : DataW H → Nat
  | .lit (.string bytes) => bytes.length + 1
  | .lit _ => 1
  | .nil => 1
  | .ptr d => uptoBulk d + 1
  | .slice elems spare => uptoBulkAll elems + uptoBulkAll spare + 1
  | .agg parts => uptoBulkAll parts + 1
  | .iface _ d => uptoBulk d + 1
  | .map entries => uptoBulkEntries entries + 1
  | .held _ => 1
def uptoBulkAll {H : Type} : List (DataW H) → Nat
  | [] => 0
  | d :: r => uptoBulk d + uptoBulkAll r
def uptoBulkEntries {H : Type} : List (Lit × DataW H) → Nat
  | [] => 0
  | x :: r => uptoBulkEntry x + uptoBulkEntries r
def uptoBulkEntry {H : Type} : Lit × DataW H → Nat
  | (.string bytes, d) => bytes.length + uptoBulk d + 1
  | (_, d) => uptoBulk d + 1
 end
def uptoSmall : (H : Type) → List (DataW H) → Bool := fun _ ds => decide (uptoBulkAll ds ≤ 1048576)
def OpenSpec.upto (s : _root_.Go.ChangeSpec) : _root_.Go.OpenSpec := { _root_.Go.OpenSpec.ofChange s with cond := some uptoSmall }

/-- 'laws.FnExactWorlds', WHERE WHAT IT READS IS OF BULK AT MOST 1048576: true; the input reads as it did. -/
def fnExactWorldsUptoRow : OpenClaim := { program := "ytoclpdbgmpdbmaa", sum := "5acb0d2a115962abb84a1aece2de25687dff7d9ec629484d8de4384fa825035a", func := "loop.example/g03001/laws.FnExactWorlds", spec := "fnExactWorlds", recurses := true, apart := false, narrowed := true }
def FnExactWorldsUptoSaid : Prop := fnExactWorldsUptoRow.holds Try.pinned (OpenSpec.upto fnExactWorldsSpec)

/-- 'laws.FnExactTouched', WHERE WHAT IT READS IS OF BULK AT MOST 1048576: true; the input reads as it did. -/
def fnExactTouchedUptoRow : OpenClaim := { program := "ytoclpdbgmpdbmaa", sum := "5acb0d2a115962abb84a1aece2de25687dff7d9ec629484d8de4384fa825035a", func := "loop.example/g03001/laws.FnExactTouched", spec := "fnExactTouched", unfollowed := true, recurses := true, apart := false, narrowed := true }
def FnExactTouchedUptoSaid : Prop := fnExactTouchedUptoRow.holds Try.pinned (OpenSpec.upto fnExactTouchedSpec)

/-- 'laws.FnExactPackageInts', WHERE WHAT IT READS IS OF BULK AT MOST 1048576: true; the input reads as it did. -/
def fnExactPackageIntsUptoRow : OpenClaim := { program := "ytoclpdbgmpdbmaa", sum := "5acb0d2a115962abb84a1aece2de25687dff7d9ec629484d8de4384fa825035a", func := "loop.example/g03001/laws.FnExactPackageInts", spec := "fnExactPackageInts", unfollowed := true, recurses := true, apart := false, narrowed := true }
def FnExactPackageIntsUptoSaid : Prop := fnExactPackageIntsUptoRow.holds Try.pinned (OpenSpec.upto fnExactPackageIntsSpec)

/-- 'laws.FnExactOwnersRead', WHERE WHAT IT READS IS OF BULK AT MOST 1048576: true; the input reads as it did. -/
def fnExactOwnersReadUptoRow : OpenClaim := { program := "ytoclpdbgmpdbmaa", sum := "5acb0d2a115962abb84a1aece2de25687dff7d9ec629484d8de4384fa825035a", func := "loop.example/g03001/laws.FnExactOwnersRead", spec := "fnExactOwnersRead", unfollowed := true, recurses := true, apart := false, narrowed := true }
def FnExactOwnersReadUptoSaid : Prop := fnExactOwnersReadUptoRow.holds Try.pinned (OpenSpec.upto fnExactOwnersReadSpec)

/-- 'laws.FnExactOwnersSent', WHERE WHAT IT READS IS OF BULK AT MOST 1048576: true; the input reads as it did. -/
def fnExactOwnersSentUptoRow : OpenClaim := { program := "ytoclpdbgmpdbmaa", sum := "5acb0d2a115962abb84a1aece2de25687dff7d9ec629484d8de4384fa825035a", func := "loop.example/g03001/laws.FnExactOwnersSent", spec := "fnExactOwnersSent", unfollowed := true, recurses := true, apart := false, narrowed := true }
def FnExactOwnersSentUptoSaid : Prop := fnExactOwnersSentUptoRow.holds Try.pinned (OpenSpec.upto fnExactOwnersSentSpec)

/-- 'laws.FnExactHasGrantFor', WHERE WHAT IT READS IS OF BULK AT MOST 1048576: true; the input reads as it did. -/
def fnExactHasGrantForUptoRow : OpenClaim := { program := "ytoclpdbgmpdbmaa", sum := "5acb0d2a115962abb84a1aece2de25687dff7d9ec629484d8de4384fa825035a", func := "loop.example/g03001/laws.FnExactHasGrantFor", spec := "fnExactHasGrantFor", apart := false, narrowed := true }
def FnExactHasGrantForUptoSaid : Prop := fnExactHasGrantForUptoRow.holds Try.pinned (OpenSpec.upto fnExactHasGrantForSpec)

/-- 'laws.FnExactTakeSnapshot', WHERE WHAT IT READS IS OF BULK AT MOST 1048576: true; the input reads as it did. -/
def fnExactTakeSnapshotUptoRow : OpenClaim := { program := "ytoclpdbgmpdbmaa", sum := "5acb0d2a115962abb84a1aece2de25687dff7d9ec629484d8de4384fa825035a", func := "loop.example/g03001/laws.FnExactTakeSnapshot", spec := "fnExactTakeSnapshot", unfollowed := true, recurses := true, apart := false, narrowed := true }
def FnExactTakeSnapshotUptoSaid : Prop := fnExactTakeSnapshotUptoRow.holds Try.pinned (OpenSpec.upto fnExactTakeSnapshotSpec)

/-- 'laws.FnExactOpenTab', WHERE WHAT IT READS IS OF BULK AT MOST 1048576: true; the input reads as it did. -/
def fnExactOpenTabUptoRow : OpenClaim := { program := "ytoclpdbgmpdbmaa", sum := "5acb0d2a115962abb84a1aece2de25687dff7d9ec629484d8de4384fa825035a", func := "loop.example/g03001/laws.FnExactOpenTab", spec := "fnExactOpenTab", unfollowed := true, recurses := true, apart := false, narrowed := true }
def FnExactOpenTabUptoSaid : Prop := fnExactOpenTabUptoRow.holds Try.pinned (OpenSpec.upto fnExactOpenTabSpec)

/-- 'laws.FnExactTabWithout', WHERE WHAT IT READS IS OF BULK AT MOST 1048576: true; the input reads as it did. -/
def fnExactTabWithoutUptoRow : OpenClaim := { program := "ytoclpdbgmpdbmaa", sum := "5acb0d2a115962abb84a1aece2de25687dff7d9ec629484d8de4384fa825035a", func := "loop.example/g03001/laws.FnExactTabWithout", spec := "fnExactTabWithout", unfollowed := true, recurses := true, apart := false, narrowed := true }
def FnExactTabWithoutUptoSaid : Prop := fnExactTabWithoutUptoRow.holds Try.pinned (OpenSpec.upto fnExactTabWithoutSpec)

end Rows
end Go.Proofs.Ytoclpdbgmpdbmaa
