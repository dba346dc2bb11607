/-
  No cell of these rows narrows 'for every input' (looked for: loops, veiled, ifaces, maps, wideKeys, modest, calm, conditions, laid).
  DERIVED. THE GIVEN ROWS OF THIS SEAT. 11 by the template 'for every input the law returns true; each argument reads behind the call as it read before'; 0 by the template 'total and deterministic' (their statements: YtejcioenoofjlaaTotals.lean).
  GIVEN WITH THE SEED: the statements are not yours to turn. If you find one false, say at which input.
  Laid BY PROGRAM, IN A SANDBOX (cutbox-rows.mjs): the forced cells as the released guide's own fill.sh prints them over the translation e2426b56b2a83329… (all of the seat's roots in one cut). By AI agents, Wed Nov 11 2026. No macro, syntax, notation, axiom, sorry.
-/
import Derived.Test.YtejcioenoofjlaaChecked
import GoSem.Claim
import GoSem.ClaimJoined
import GoSem.ClaimMapViews
import Derived.JoinedTies
import Derived.KernelRfl
namespace Go.Proofs.Ytejcioenoofjlaa
/- THE CELL 'sum', in the pinned program and in every row, IS THE sha256 OF THE DUMP (.gsa) THAT YtejcioenoofjlaaProg.lean LOADS. Nothing in Lean hashes anything: it is a label: what it is worth is what the hold of that sum in a sandbox is worth. -/
noncomputable def Try.pinned : Pinned := { name := "ytejcioenoofjlaa", sum := "e2426b56b2a83329e0eff063b569d2a3a710a84607cce0a4e137e2c4312f3611", checked := Try.checked }
namespace Rows
def none {H : Type} : Left H := { results := [], args := [] }

/-- 'laws.FnExactMayFlow': WHATEVER THE INPUT: true; the input reads as it did. -/
def fnExactMayFlowSpec : ChangeSpec := { name := "fnExactMayFlow", fn := fun _ => fun
  | [d1, d2, d3, d4] => { results := [.lit (.bool true)], args := [d1, d2, d3, d4] }
  | _ => none }
def fnExactMayFlowRow : OpenClaim := { program := "ytejcioenoofjlaa", sum := "e2426b56b2a83329e0eff063b569d2a3a710a84607cce0a4e137e2c4312f3611", func := "loop.example/g03001/laws.FnExactMayFlow", spec := "fnExactMayFlow", apart := false }
def FnExactMayFlowSaid : Prop := fnExactMayFlowRow.holds Try.pinned (OpenSpec.ofChange fnExactMayFlowSpec)

/-- ITS FALSE NEIGHBOUR: 'it returns false'. Refute it at one input. -/
def fnExactMayFlowWrong : ChangeSpec := { name := "fnExactMayFlow", fn := fun _ => fun
  | [d1, d2, d3, d4] => { results := [.lit (.bool false)], args := [d1, d2, d3, d4] }
  | _ => none }
def FnExactMayFlowWrongFalsely : Prop := fnExactMayFlowRow.holds Try.pinned (OpenSpec.ofChange fnExactMayFlowWrong)

/-- 'laws.FnExactTargetsOf': WHATEVER THE INPUT: true; the input reads as it did. -/
def fnExactTargetsOfSpec : ChangeSpec := { name := "fnExactTargetsOf", fn := fun _ => fun
  | [d1, d2, d3] => { results := [.lit (.bool true)], args := [d1, d2, d3] }
  | _ => none }
def fnExactTargetsOfRow : OpenClaim := { program := "ytejcioenoofjlaa", sum := "e2426b56b2a83329e0eff063b569d2a3a710a84607cce0a4e137e2c4312f3611", func := "loop.example/g03001/laws.FnExactTargetsOf", spec := "fnExactTargetsOf", unfollowed := true, recurses := true, apart := false }
def FnExactTargetsOfSaid : Prop := fnExactTargetsOfRow.holds Try.pinned (OpenSpec.ofChange fnExactTargetsOfSpec)

/-- ITS FALSE NEIGHBOUR: 'it returns false'. Refute it at one input. -/
def fnExactTargetsOfWrong : ChangeSpec := { name := "fnExactTargetsOf", fn := fun _ => fun
  | [d1, d2, d3] => { results := [.lit (.bool false)], args := [d1, d2, d3] }
  | _ => none }
def FnExactTargetsOfWrongFalsely : Prop := fnExactTargetsOfRow.holds Try.pinned (OpenSpec.ofChange fnExactTargetsOfWrong)

/-- 'laws.FnExactPackageInts': WHATEVER THE INPUT: true; the input reads as it did. -/
def fnExactPackageIntsSpec : ChangeSpec := { name := "fnExactPackageInts", fn := fun _ => fun
  | [d] => { results := [.lit (.bool true)], args := [d] }
  | _ => none }
def fnExactPackageIntsRow : OpenClaim := { program := "ytejcioenoofjlaa", sum := "e2426b56b2a83329e0eff063b569d2a3a710a84607cce0a4e137e2c4312f3611", func := "loop.example/g03001/laws.FnExactPackageInts", spec := "fnExactPackageInts", unfollowed := true, recurses := true, apart := false }
def FnExactPackageIntsSaid : Prop := fnExactPackageIntsRow.holds Try.pinned (OpenSpec.ofChange fnExactPackageIntsSpec)

/-- ITS FALSE NEIGHBOUR: 'it returns false'. Refute it at one input. -/
def fnExactPackageIntsWrong : ChangeSpec := { name := "fnExactPackageInts", fn := fun _ => fun
  | [d] => { results := [.lit (.bool false)], args := [d] }
  | _ => none }
def FnExactPackageIntsWrongFalsely : Prop := fnExactPackageIntsRow.holds Try.pinned (OpenSpec.ofChange fnExactPackageIntsWrong)

/-- 'laws.FnExactHasGrantFor': WHATEVER THE INPUT: true; the input reads as it did. -/
def fnExactHasGrantForSpec : ChangeSpec := { name := "fnExactHasGrantFor", fn := fun _ => fun
  | [d1, d2, d3] => { results := [.lit (.bool true)], args := [d1, d2, d3] }
  | _ => none }
def fnExactHasGrantForRow : OpenClaim := { program := "ytejcioenoofjlaa", sum := "e2426b56b2a83329e0eff063b569d2a3a710a84607cce0a4e137e2c4312f3611", func := "loop.example/g03001/laws.FnExactHasGrantFor", spec := "fnExactHasGrantFor", apart := false }
def FnExactHasGrantForSaid : Prop := fnExactHasGrantForRow.holds Try.pinned (OpenSpec.ofChange fnExactHasGrantForSpec)

/-- ITS FALSE NEIGHBOUR: 'it returns false'. Refute it at one input. -/
def fnExactHasGrantForWrong : ChangeSpec := { name := "fnExactHasGrantFor", fn := fun _ => fun
  | [d1, d2, d3] => { results := [.lit (.bool false)], args := [d1, d2, d3] }
  | _ => none }
def FnExactHasGrantForWrongFalsely : Prop := fnExactHasGrantForRow.holds Try.pinned (OpenSpec.ofChange fnExactHasGrantForWrong)

/-- 'laws.FnExactTakeSnapshot': WHATEVER THE INPUT: true; the input reads as it did. -/
def fnExactTakeSnapshotSpec : ChangeSpec := { name := "fnExactTakeSnapshot", fn := fun _ => fun
  | [d1, d2] => { results := [.lit (.bool true)], args := [d1, d2] }
  | _ => none }
def fnExactTakeSnapshotRow : OpenClaim := { program := "ytejcioenoofjlaa", sum := "e2426b56b2a83329e0eff063b569d2a3a710a84607cce0a4e137e2c4312f3611", func := "loop.example/g03001/laws.FnExactTakeSnapshot", spec := "fnExactTakeSnapshot", unfollowed := true, recurses := true, apart := false }
def FnExactTakeSnapshotSaid : Prop := fnExactTakeSnapshotRow.holds Try.pinned (OpenSpec.ofChange fnExactTakeSnapshotSpec)

/-- ITS FALSE NEIGHBOUR: 'it returns false'. Refute it at one input. -/
def fnExactTakeSnapshotWrong : ChangeSpec := { name := "fnExactTakeSnapshot", fn := fun _ => fun
  | [d1, d2] => { results := [.lit (.bool false)], args := [d1, d2] }
  | _ => none }
def FnExactTakeSnapshotWrongFalsely : Prop := fnExactTakeSnapshotRow.holds Try.pinned (OpenSpec.ofChange fnExactTakeSnapshotWrong)

/-- 'laws.FnExactCountTable': WHATEVER THE INPUT: true; the input reads as it did. -/
def fnExactCountTableSpec : ChangeSpec := { name := "fnExactCountTable", fn := fun _ => fun
  | [d] => { results := [.lit (.bool true)], args := [d] }
  | _ => none }
def fnExactCountTableRow : OpenClaim := { program := "ytejcioenoofjlaa", sum := "e2426b56b2a83329e0eff063b569d2a3a710a84607cce0a4e137e2c4312f3611", func := "loop.example/g03001/laws.FnExactCountTable", spec := "fnExactCountTable", apart := false }
def FnExactCountTableSaid : Prop := fnExactCountTableRow.holds Try.pinned (OpenSpec.ofChange fnExactCountTableSpec)

/-- ITS FALSE NEIGHBOUR: 'it returns false'. Refute it at one input. -/
def fnExactCountTableWrong : ChangeSpec := { name := "fnExactCountTable", fn := fun _ => fun
  | [d] => { results := [.lit (.bool false)], args := [d] }
  | _ => none }
def FnExactCountTableWrongFalsely : Prop := fnExactCountTableRow.holds Try.pinned (OpenSpec.ofChange fnExactCountTableWrong)

/-- 'laws.FnExactLongestBucket': WHATEVER THE INPUT: true; the input reads as it did. -/
def fnExactLongestBucketSpec : ChangeSpec := { name := "fnExactLongestBucket", fn := fun _ => fun
  | [d] => { results := [.lit (.bool true)], args := [d] }
  | _ => none }
def fnExactLongestBucketRow : OpenClaim := { program := "ytejcioenoofjlaa", sum := "e2426b56b2a83329e0eff063b569d2a3a710a84607cce0a4e137e2c4312f3611", func := "loop.example/g03001/laws.FnExactLongestBucket", spec := "fnExactLongestBucket", apart := false }
def FnExactLongestBucketSaid : Prop := fnExactLongestBucketRow.holds Try.pinned (OpenSpec.ofChange fnExactLongestBucketSpec)

/-- ITS FALSE NEIGHBOUR: 'it returns false'. Refute it at one input. -/
def fnExactLongestBucketWrong : ChangeSpec := { name := "fnExactLongestBucket", fn := fun _ => fun
  | [d] => { results := [.lit (.bool false)], args := [d] }
  | _ => none }
def FnExactLongestBucketWrongFalsely : Prop := fnExactLongestBucketRow.holds Try.pinned (OpenSpec.ofChange fnExactLongestBucketWrong)

/-- 'laws.FnExactApplyEdit': WHATEVER THE INPUT: true; the input reads as it did. -/
def fnExactApplyEditSpec : ChangeSpec := { name := "fnExactApplyEdit", fn := fun _ => fun
  | [d1, d2] => { results := [.lit (.bool true)], args := [d1, d2] }
  | _ => none }
def fnExactApplyEditRow : OpenClaim := { program := "ytejcioenoofjlaa", sum := "e2426b56b2a83329e0eff063b569d2a3a710a84607cce0a4e137e2c4312f3611", func := "loop.example/g03001/laws.FnExactApplyEdit", spec := "fnExactApplyEdit", unfollowed := true, recurses := true, apart := false }
def FnExactApplyEditSaid : Prop := fnExactApplyEditRow.holds Try.pinned (OpenSpec.ofChange fnExactApplyEditSpec)

/-- ITS FALSE NEIGHBOUR: 'it returns false'. Refute it at one input. -/
def fnExactApplyEditWrong : ChangeSpec := { name := "fnExactApplyEdit", fn := fun _ => fun
  | [d1, d2] => { results := [.lit (.bool false)], args := [d1, d2] }
  | _ => none }
def FnExactApplyEditWrongFalsely : Prop := fnExactApplyEditRow.holds Try.pinned (OpenSpec.ofChange fnExactApplyEditWrong)

/-- 'laws.FnExactRunEdits': WHATEVER THE INPUT: true; the input reads as it did. -/
def fnExactRunEditsSpec : ChangeSpec := { name := "fnExactRunEdits", fn := fun _ => fun
  | [d1, d2] => { results := [.lit (.bool true)], args := [d1, d2] }
  | _ => none }
def fnExactRunEditsRow : OpenClaim := { program := "ytejcioenoofjlaa", sum := "e2426b56b2a83329e0eff063b569d2a3a710a84607cce0a4e137e2c4312f3611", func := "loop.example/g03001/laws.FnExactRunEdits", spec := "fnExactRunEdits", unfollowed := true, recurses := true, apart := false }
def FnExactRunEditsSaid : Prop := fnExactRunEditsRow.holds Try.pinned (OpenSpec.ofChange fnExactRunEditsSpec)

/-- ITS FALSE NEIGHBOUR: 'it returns false'. Refute it at one input. -/
def fnExactRunEditsWrong : ChangeSpec := { name := "fnExactRunEdits", fn := fun _ => fun
  | [d1, d2] => { results := [.lit (.bool false)], args := [d1, d2] }
  | _ => none }
def FnExactRunEditsWrongFalsely : Prop := fnExactRunEditsRow.holds Try.pinned (OpenSpec.ofChange fnExactRunEditsWrong)

/-- 'laws.FnExactTakeBack': WHATEVER THE INPUT: true; the input reads as it did. -/
def fnExactTakeBackSpec : ChangeSpec := { name := "fnExactTakeBack", fn := fun _ => fun
  | [d1, d2, d3] => { results := [.lit (.bool true)], args := [d1, d2, d3] }
  | _ => none }
def fnExactTakeBackRow : OpenClaim := { program := "ytejcioenoofjlaa", sum := "e2426b56b2a83329e0eff063b569d2a3a710a84607cce0a4e137e2c4312f3611", func := "loop.example/g03001/laws.FnExactTakeBack", spec := "fnExactTakeBack", unfollowed := true, recurses := true, apart := false }
def FnExactTakeBackSaid : Prop := fnExactTakeBackRow.holds Try.pinned (OpenSpec.ofChange fnExactTakeBackSpec)

/-- ITS FALSE NEIGHBOUR: 'it returns false'. Refute it at one input. -/
def fnExactTakeBackWrong : ChangeSpec := { name := "fnExactTakeBack", fn := fun _ => fun
  | [d1, d2, d3] => { results := [.lit (.bool false)], args := [d1, d2, d3] }
  | _ => none }
def FnExactTakeBackWrongFalsely : Prop := fnExactTakeBackRow.holds Try.pinned (OpenSpec.ofChange fnExactTakeBackWrong)

/-- 'laws.FnExactTabDocument': WHATEVER THE INPUT: true; the input reads as it did. -/
def fnExactTabDocumentSpec : ChangeSpec := { name := "fnExactTabDocument", fn := fun _ => fun
  | [d] => { results := [.lit (.bool true)], args := [d] }
  | _ => none }
def fnExactTabDocumentRow : OpenClaim := { program := "ytejcioenoofjlaa", sum := "e2426b56b2a83329e0eff063b569d2a3a710a84607cce0a4e137e2c4312f3611", func := "loop.example/g03001/laws.FnExactTabDocument", spec := "fnExactTabDocument", unfollowed := true, recurses := true, apart := false }
def FnExactTabDocumentSaid : Prop := fnExactTabDocumentRow.holds Try.pinned (OpenSpec.ofChange fnExactTabDocumentSpec)

/-- ITS FALSE NEIGHBOUR: 'it returns false'. Refute it at one input. -/
def fnExactTabDocumentWrong : ChangeSpec := { name := "fnExactTabDocument", fn := fun _ => fun
  | [d] => { results := [.lit (.bool false)], args := [d] }
  | _ => none }
def FnExactTabDocumentWrongFalsely : Prop := fnExactTabDocumentRow.holds Try.pinned (OpenSpec.ofChange fnExactTabDocumentWrong)

/- THE SECOND FORM. 'bulk': how many values and letters a reading holds, each counted each time it is reached (what is shared counts as often as it is met; a slice's spare places count too). A statement '..UptoSaid' is the law's where the arguments, and the package variables that the reading takes, are together of bulk at most 1048576: NARROWER than '..Said'. Prove '..Said' where nothing that the law and all that it calls make is longer than what came in: it says more and counts as full. Else prove '..UptoSaid'. A law counts once. -/
mutual
def uptoBulk {H : Type} : DataW H → Nat
  | .lit (.string bytes) => bytes.length + 1
  | .lit _ => 1
  | .nil => 1
  | .ptr d => uptoBulk d + 1
  | .slice elems spare => uptoBulkAll elems + uptoBulkAll spare + 1
  | .agg parts => uptoBulkAll parts + 1
  | .iface _ d => uptoBulk d + 1
  | .map entries => uptoBulkEntries entries + 1
  | .held _ => 1
def uptoBulkAll {H : Type} : List (DataW H) → Nat
  | [] => 0
  | d :: r => uptoBulk d + uptoBulkAll r
def uptoBulkEntries {H : Type} : List (Lit × DataW H) → Nat
  | [] => 0
  | x :: r => uptoBulkEntry x + uptoBulkEntries r
def uptoBulkEntry {H : Type} : Lit × DataW H → Nat
  | (.string bytes, d) => bytes.length + uptoBulk d + 1
  | (_, d) => uptoBulk d + 1
 end
def uptoSmall : (H : Type) → List (DataW H) → Bool := fun _ ds => decide (uptoBulkAll ds ≤ 1048576)
def OpenSpec.upto (s : _root_.Go.ChangeSpec) : _root_.Go.OpenSpec := { _root_.Go.OpenSpec.ofChange s with cond := some uptoSmall }

/-- 'laws.FnExactMayFlow', WHERE WHAT IT READS IS OF BULK AT MOST 1048576: true; the input reads as it did. -/
def fnExactMayFlowUptoRow : OpenClaim := { program := "ytejcioenoofjlaa", sum := "e2426b56b2a83329e0eff063b569d2a3a710a84607cce0a4e137e2c4312f3611", func := "loop.example/g03001/laws.FnExactMayFlow", spec := "fnExactMayFlow", apart := false, narrowed := true }
def FnExactMayFlowUptoSaid : Prop := fnExactMayFlowUptoRow.holds Try.pinned (OpenSpec.upto fnExactMayFlowSpec)

/-- 'laws.FnExactTargetsOf', WHERE WHAT IT READS IS OF BULK AT MOST 1048576: true; the input reads as it did. -/
def fnExactTargetsOfUptoRow : OpenClaim := { program := "ytejcioenoofjlaa", sum := "e2426b56b2a83329e0eff063b569d2a3a710a84607cce0a4e137e2c4312f3611", func := "loop.example/g03001/laws.FnExactTargetsOf", spec := "fnExactTargetsOf", unfollowed := true, recurses := true, apart := false, narrowed := true }
def FnExactTargetsOfUptoSaid : Prop := fnExactTargetsOfUptoRow.holds Try.pinned (OpenSpec.upto fnExactTargetsOfSpec)

/-- 'laws.FnExactPackageInts', WHERE WHAT IT READS IS OF BULK AT MOST 1048576: true; the input reads as it did. -/
def fnExactPackageIntsUptoRow : OpenClaim := { program := "ytejcioenoofjlaa", sum := "e2426b56b2a83329e0eff063b569d2a3a710a84607cce0a4e137e2c4312f3611", func := "loop.example/g03001/laws.FnExactPackageInts", spec := "fnExactPackageInts", unfollowed := true, recurses := true, apart := false, narrowed := true }
def FnExactPackageIntsUptoSaid : Prop := fnExactPackageIntsUptoRow.holds Try.pinned (OpenSpec.upto fnExactPackageIntsSpec)

/-- 'laws.FnExactHasGrantFor', WHERE WHAT IT READS IS OF BULK AT MOST 1048576: true; the input reads as it did. -/
def fnExactHasGrantForUptoRow : OpenClaim := { program := "ytejcioenoofjlaa", sum := "e2426b56b2a83329e0eff063b569d2a3a710a84607cce0a4e137e2c4312f3611", func := "loop.example/g03001/laws.FnExactHasGrantFor", spec := "fnExactHasGrantFor", apart := false, narrowed := true }
def FnExactHasGrantForUptoSaid : Prop := fnExactHasGrantForUptoRow.holds Try.pinned (OpenSpec.upto fnExactHasGrantForSpec)

/-- 'laws.FnExactTakeSnapshot', WHERE WHAT IT READS IS OF BULK AT MOST 1048576: true; the input reads as it did. -/
def fnExactTakeSnapshotUptoRow : OpenClaim := { program := "ytejcioenoofjlaa", sum := "e2426b56b2a83329e0eff063b569d2a3a710a84607cce0a4e137e2c4312f3611", func := "loop.example/g03001/laws.FnExactTakeSnapshot", spec := "fnExactTakeSnapshot", unfollowed := true, recurses := true, apart := false, narrowed := true }
def FnExactTakeSnapshotUptoSaid : Prop := fnExactTakeSnapshotUptoRow.holds Try.pinned (OpenSpec.upto fnExactTakeSnapshotSpec)

/-- 'laws.FnExactCountTable', WHERE WHAT IT READS IS OF BULK AT MOST 1048576: true; the input reads as it did. -/
def fnExactCountTableUptoRow : OpenClaim := { program := "ytejcioenoofjlaa", sum := "e2426b56b2a83329e0eff063b569d2a3a710a84607cce0a4e137e2c4312f3611", func := "loop.example/g03001/laws.FnExactCountTable", spec := "fnExactCountTable", apart := false, narrowed := true }
def FnExactCountTableUptoSaid : Prop := fnExactCountTableUptoRow.holds Try.pinned (OpenSpec.upto fnExactCountTableSpec)

/-- 'laws.FnExactLongestBucket', WHERE WHAT IT READS IS OF BULK AT MOST 1048576: true; the input reads as it did. -/
def fnExactLongestBucketUptoRow : OpenClaim := { program := "ytejcioenoofjlaa", sum := "e2426b56b2a83329e0eff063b569d2a3a710a84607cce0a4e137e2c4312f3611", func := "loop.example/g03001/laws.FnExactLongestBucket", spec := "fnExactLongestBucket", apart := false, narrowed := true }
def FnExactLongestBucketUptoSaid : Prop := fnExactLongestBucketUptoRow.holds Try.pinned (OpenSpec.upto fnExactLongestBucketSpec)

/-- 'laws.FnExactApplyEdit', WHERE WHAT IT READS IS OF BULK AT MOST 1048576: true; the input reads as it did. -/
def fnExactApplyEditUptoRow : OpenClaim := { program := "ytejcioenoofjlaa", sum := "e2426b56b2a83329e0eff063b569d2a3a710a84607cce0a4e137e2c4312f3611", func := "loop.example/g03001/laws.FnExactApplyEdit", spec := "fnExactApplyEdit", unfollowed := true, recurses := true, apart := false, narrowed := true }
def FnExactApplyEditUptoSaid : Prop := fnExactApplyEditUptoRow.holds Try.pinned (OpenSpec.upto fnExactApplyEditSpec)

/-- 'laws.FnExactRunEdits', WHERE WHAT IT READS IS OF BULK AT MOST 1048576: true; the input reads as it did. -/
def fnExactRunEditsUptoRow : OpenClaim := { program := "ytejcioenoofjlaa", sum := "e2426b56b2a83329e0eff063b569d2a3a710a84607cce0a4e137e2c4312f3611", func := "loop.example/g03001/laws.FnExactRunEdits", spec := "fnExactRunEdits", unfollowed := true, recurses := true, apart := false, narrowed := true }
def FnExactRunEditsUptoSaid : Prop := fnExactRunEditsUptoRow.holds Try.pinned (OpenSpec.upto fnExactRunEditsSpec)

/-- 'laws.FnExactTakeBack', WHERE WHAT IT READS IS OF BULK AT MOST 1048576: true; the input reads as it did. -/
def fnExactTakeBackUptoRow : OpenClaim := { program := "ytejcioenoofjlaa", sum := "e2426b56b2a83329e0eff063b569d2a3a710a84607cce0a4e137e2c4312f3611", func := "loop.example/g03001/laws.FnExactTakeBack", spec := "fnExactTakeBack", unfollowed := true, recurses := true, apart := false, narrowed := true }
def FnExactTakeBackUptoSaid : Prop := fnExactTakeBackUptoRow.holds Try.pinned (OpenSpec.upto fnExactTakeBackSpec)

/-- 'laws.FnExactTabDocument', WHERE WHAT IT READS IS OF BULK AT MOST 1048576: true; the input reads as it did. -/
def fnExactTabDocumentUptoRow : OpenClaim := { program := "ytejcioenoofjlaa", sum := "e2426b56b2a83329e0eff063b569d2a3a710a84607cce0a4e137e2c4312f3611", func := "loop.example/g03001/laws.FnExactTabDocument", spec := "fnExactTabDocument", unfollowed := true, recurses := true, apart := false, narrowed := true }
def FnExactTabDocumentUptoSaid : Prop := fnExactTabDocumentUptoRow.holds Try.pinned (OpenSpec.upto fnExactTabDocumentSpec)

end Rows
end Go.Proofs.Ytejcioenoofjlaa
