/-
  No cell of these rows narrows 'for every input' (looked for: loops, veiled, ifaces, maps, wideKeys, modest, calm, conditions, laid).
  DERIVED. THE GIVEN ROWS OF THIS SEAT. 12 by the template 'for every input the law returns true; each argument reads behind the call as it read before'; 0 by the template 'total and deterministic' (their statements: YthipflbjnnplaabTotals.lean).
  GIVEN WITH THE SEED: the statements are not yours to turn. If you find one false, say at which input.
  Laid BY PROGRAM, IN A SANDBOX (cutbox-rows.mjs): the forced cells as the released guide's own fill.sh prints them over the translation d37a55b721c13a26… (all of the seat's roots in one cut). By AI agents, Wed Nov 11 2026. No macro, syntax, notation, axiom, sorry.
-/
import Derived.Test.YthipflbjnnplaabChecked
import GoSem.Claim
import GoSem.ClaimJoined
import GoSem.ClaimMapViews
import Derived.JoinedTies
import Derived.KernelRfl
namespace Go.Proofs.Ythipflbjnnplaab
/- THE CELL 'sum', in the pinned program and in every row, IS THE sha256 OF THE DUMP (.gsa) THAT YthipflbjnnplaabProg.lean LOADS. Nothing in Lean hashes anything: it is a label: what it is worth is what the hold of that sum in a sandbox is worth. -/
noncomputable def Try.pinned : Pinned := { name := "ythipflbjnnplaab", sum := "d37a55b721c13a2688391407a22e8e5984750b258951e02fe11cf0903eb38049", checked := Try.checked }
namespace Rows
def none {H : Type} : Left H := { results := [], args := [] }

/-- 'laws.FnExactIsStore': WHATEVER THE INPUT: true; the input reads as it did. -/
def fnExactIsStoreSpec : ChangeSpec := { name := "fnExactIsStore", fn := fun _ => fun
  | [d] => { results := [.lit (.bool true)], args := [d] }
  | _ => none }
def fnExactIsStoreRow : OpenClaim := { program := "ythipflbjnnplaab", sum := "d37a55b721c13a2688391407a22e8e5984750b258951e02fe11cf0903eb38049", func := "loop.example/g03001/laws.FnExactIsStore", spec := "fnExactIsStore", unfollowed := true, recurses := true, apart := false }
def FnExactIsStoreSaid : Prop := fnExactIsStoreRow.holds Try.pinned (OpenSpec.ofChange fnExactIsStoreSpec)

/-- ITS FALSE NEIGHBOUR: 'it returns false'. Refute it at one input. -/
def fnExactIsStoreWrong : ChangeSpec := { name := "fnExactIsStore", fn := fun _ => fun
  | [d] => { results := [.lit (.bool false)], args := [d] }
  | _ => none }
def FnExactIsStoreWrongFalsely : Prop := fnExactIsStoreRow.holds Try.pinned (OpenSpec.ofChange fnExactIsStoreWrong)

/-- 'laws.FnExactPutStored': WHATEVER THE INPUT: true; the input reads as it did. -/
def fnExactPutStoredSpec : ChangeSpec := { name := "fnExactPutStored", fn := fun _ => fun
  | [d1, d2, d3, d4] => { results := [.lit (.bool true)], args := [d1, d2, d3, d4] }
  | _ => none }
def fnExactPutStoredRow : OpenClaim := { program := "ythipflbjnnplaab", sum := "d37a55b721c13a2688391407a22e8e5984750b258951e02fe11cf0903eb38049", func := "loop.example/g03001/laws.FnExactPutStored", spec := "fnExactPutStored", inPlace := ["slices.overlaps[loop.example/g03001/impl.Stored]"], unfollowed := true, recurses := true, apart := false }
def FnExactPutStoredSaid : Prop := fnExactPutStoredRow.holds Try.pinned (OpenSpec.ofChange fnExactPutStoredSpec)

/-- ITS FALSE NEIGHBOUR: 'it returns false'. Refute it at one input. -/
def fnExactPutStoredWrong : ChangeSpec := { name := "fnExactPutStored", fn := fun _ => fun
  | [d1, d2, d3, d4] => { results := [.lit (.bool false)], args := [d1, d2, d3, d4] }
  | _ => none }
def FnExactPutStoredWrongFalsely : Prop := fnExactPutStoredRow.holds Try.pinned (OpenSpec.ofChange fnExactPutStoredWrong)

/-- 'laws.FnExactWriteWindow': WHATEVER THE INPUT: true; the input reads as it did. -/
def fnExactWriteWindowSpec : ChangeSpec := { name := "fnExactWriteWindow", fn := fun _ => fun
  | [d1, d2, d3, d4] => { results := [.lit (.bool true)], args := [d1, d2, d3, d4] }
  | _ => none }
def fnExactWriteWindowRow : OpenClaim := { program := "ythipflbjnnplaab", sum := "d37a55b721c13a2688391407a22e8e5984750b258951e02fe11cf0903eb38049", func := "loop.example/g03001/laws.FnExactWriteWindow", spec := "fnExactWriteWindow", inPlace := ["slices.overlaps[loop.example/g03001/impl.Stored]"], unfollowed := true, recurses := true, apart := false }
def FnExactWriteWindowSaid : Prop := fnExactWriteWindowRow.holds Try.pinned (OpenSpec.ofChange fnExactWriteWindowSpec)

/-- ITS FALSE NEIGHBOUR: 'it returns false'. Refute it at one input. -/
def fnExactWriteWindowWrong : ChangeSpec := { name := "fnExactWriteWindow", fn := fun _ => fun
  | [d1, d2, d3, d4] => { results := [.lit (.bool false)], args := [d1, d2, d3, d4] }
  | _ => none }
def FnExactWriteWindowWrongFalsely : Prop := fnExactWriteWindowRow.holds Try.pinned (OpenSpec.ofChange fnExactWriteWindowWrong)

/-- 'laws.FnExactMergeStores': WHATEVER THE INPUT: true; the input reads as it did. -/
def fnExactMergeStoresSpec : ChangeSpec := { name := "fnExactMergeStores", fn := fun _ => fun
  | [d1, d2] => { results := [.lit (.bool true)], args := [d1, d2] }
  | _ => none }
def fnExactMergeStoresRow : OpenClaim := { program := "ythipflbjnnplaab", sum := "d37a55b721c13a2688391407a22e8e5984750b258951e02fe11cf0903eb38049", func := "loop.example/g03001/laws.FnExactMergeStores", spec := "fnExactMergeStores", unfollowed := true, recurses := true, apart := false }
def FnExactMergeStoresSaid : Prop := fnExactMergeStoresRow.holds Try.pinned (OpenSpec.ofChange fnExactMergeStoresSpec)

/-- ITS FALSE NEIGHBOUR: 'it returns false'. Refute it at one input. -/
def fnExactMergeStoresWrong : ChangeSpec := { name := "fnExactMergeStores", fn := fun _ => fun
  | [d1, d2] => { results := [.lit (.bool false)], args := [d1, d2] }
  | _ => none }
def FnExactMergeStoresWrongFalsely : Prop := fnExactMergeStoresRow.holds Try.pinned (OpenSpec.ofChange fnExactMergeStoresWrong)

/-- 'laws.FnExactEndLending': WHATEVER THE INPUT: true; the input reads as it did. -/
def fnExactEndLendingSpec : ChangeSpec := { name := "fnExactEndLending", fn := fun _ => fun
  | [d1, d2] => { results := [.lit (.bool true)], args := [d1, d2] }
  | _ => none }
def fnExactEndLendingRow : OpenClaim := { program := "ythipflbjnnplaab", sum := "d37a55b721c13a2688391407a22e8e5984750b258951e02fe11cf0903eb38049", func := "loop.example/g03001/laws.FnExactEndLending", spec := "fnExactEndLending", unfollowed := true, recurses := true, apart := false }
def FnExactEndLendingSaid : Prop := fnExactEndLendingRow.holds Try.pinned (OpenSpec.ofChange fnExactEndLendingSpec)

/-- ITS FALSE NEIGHBOUR: 'it returns false'. Refute it at one input. -/
def fnExactEndLendingWrong : ChangeSpec := { name := "fnExactEndLending", fn := fun _ => fun
  | [d1, d2] => { results := [.lit (.bool false)], args := [d1, d2] }
  | _ => none }
def FnExactEndLendingWrongFalsely : Prop := fnExactEndLendingRow.holds Try.pinned (OpenSpec.ofChange fnExactEndLendingWrong)

/-- 'laws.FnExactLendTo': WHATEVER THE INPUT: true; the input reads as it did. -/
def fnExactLendToSpec : ChangeSpec := { name := "fnExactLendTo", fn := fun _ => fun
  | [d1, d2, d3, d4] => { results := [.lit (.bool true)], args := [d1, d2, d3, d4] }
  | _ => none }
def fnExactLendToRow : OpenClaim := { program := "ythipflbjnnplaab", sum := "d37a55b721c13a2688391407a22e8e5984750b258951e02fe11cf0903eb38049", func := "loop.example/g03001/laws.FnExactLendTo", spec := "fnExactLendTo", unfollowed := true, recurses := true, apart := false }
def FnExactLendToSaid : Prop := fnExactLendToRow.holds Try.pinned (OpenSpec.ofChange fnExactLendToSpec)

/-- ITS FALSE NEIGHBOUR: 'it returns false'. Refute it at one input. -/
def fnExactLendToWrong : ChangeSpec := { name := "fnExactLendTo", fn := fun _ => fun
  | [d1, d2, d3, d4] => { results := [.lit (.bool false)], args := [d1, d2, d3, d4] }
  | _ => none }
def FnExactLendToWrongFalsely : Prop := fnExactLendToRow.holds Try.pinned (OpenSpec.ofChange fnExactLendToWrong)

/-- 'laws.FnExactClashOf': WHATEVER THE INPUT: true; the input reads as it did. -/
def fnExactClashOfSpec : ChangeSpec := { name := "fnExactClashOf", fn := fun _ => fun
  | [d1, d2] => { results := [.lit (.bool true)], args := [d1, d2] }
  | _ => none }
def fnExactClashOfRow : OpenClaim := { program := "ythipflbjnnplaab", sum := "d37a55b721c13a2688391407a22e8e5984750b258951e02fe11cf0903eb38049", func := "loop.example/g03001/laws.FnExactClashOf", spec := "fnExactClashOf", unfollowed := true, recurses := true, apart := false }
def FnExactClashOfSaid : Prop := fnExactClashOfRow.holds Try.pinned (OpenSpec.ofChange fnExactClashOfSpec)

/-- ITS FALSE NEIGHBOUR: 'it returns false'. Refute it at one input. -/
def fnExactClashOfWrong : ChangeSpec := { name := "fnExactClashOf", fn := fun _ => fun
  | [d1, d2] => { results := [.lit (.bool false)], args := [d1, d2] }
  | _ => none }
def FnExactClashOfWrongFalsely : Prop := fnExactClashOfRow.holds Try.pinned (OpenSpec.ofChange fnExactClashOfWrong)

/-- 'laws.FnExactClashCount': WHATEVER THE INPUT: true; the input reads as it did. -/
def fnExactClashCountSpec : ChangeSpec := { name := "fnExactClashCount", fn := fun _ => fun
  | [d1, d2] => { results := [.lit (.bool true)], args := [d1, d2] }
  | _ => none }
def fnExactClashCountRow : OpenClaim := { program := "ythipflbjnnplaab", sum := "d37a55b721c13a2688391407a22e8e5984750b258951e02fe11cf0903eb38049", func := "loop.example/g03001/laws.FnExactClashCount", spec := "fnExactClashCount", unfollowed := true, recurses := true, apart := false }
def FnExactClashCountSaid : Prop := fnExactClashCountRow.holds Try.pinned (OpenSpec.ofChange fnExactClashCountSpec)

/-- ITS FALSE NEIGHBOUR: 'it returns false'. Refute it at one input. -/
def fnExactClashCountWrong : ChangeSpec := { name := "fnExactClashCount", fn := fun _ => fun
  | [d1, d2] => { results := [.lit (.bool false)], args := [d1, d2] }
  | _ => none }
def FnExactClashCountWrongFalsely : Prop := fnExactClashCountRow.holds Try.pinned (OpenSpec.ofChange fnExactClashCountWrong)

/-- 'laws.FnExactReadBytes': WHATEVER THE INPUT: true; the input reads as it did. -/
def fnExactReadBytesSpec : ChangeSpec := { name := "fnExactReadBytes", fn := fun _ => fun
  | [d1, d2, d3] => { results := [.lit (.bool true)], args := [d1, d2, d3] }
  | _ => none }
def fnExactReadBytesRow : OpenClaim := { program := "ythipflbjnnplaab", sum := "d37a55b721c13a2688391407a22e8e5984750b258951e02fe11cf0903eb38049", func := "loop.example/g03001/laws.FnExactReadBytes", spec := "fnExactReadBytes", unfollowed := true, recurses := true, apart := false }
def FnExactReadBytesSaid : Prop := fnExactReadBytesRow.holds Try.pinned (OpenSpec.ofChange fnExactReadBytesSpec)

/-- ITS FALSE NEIGHBOUR: 'it returns false'. Refute it at one input. -/
def fnExactReadBytesWrong : ChangeSpec := { name := "fnExactReadBytes", fn := fun _ => fun
  | [d1, d2, d3] => { results := [.lit (.bool false)], args := [d1, d2, d3] }
  | _ => none }
def FnExactReadBytesWrongFalsely : Prop := fnExactReadBytesRow.holds Try.pinned (OpenSpec.ofChange fnExactReadBytesWrong)

/-- 'laws.FnExactDecodeInts': WHATEVER THE INPUT: true; the input reads as it did. -/
def fnExactDecodeIntsSpec : ChangeSpec := { name := "fnExactDecodeInts", fn := fun _ => fun
  | [d1, d2, d3] => { results := [.lit (.bool true)], args := [d1, d2, d3] }
  | _ => none }
def fnExactDecodeIntsRow : OpenClaim := { program := "ythipflbjnnplaab", sum := "d37a55b721c13a2688391407a22e8e5984750b258951e02fe11cf0903eb38049", func := "loop.example/g03001/laws.FnExactDecodeInts", spec := "fnExactDecodeInts", unfollowed := true, recurses := true, apart := false }
def FnExactDecodeIntsSaid : Prop := fnExactDecodeIntsRow.holds Try.pinned (OpenSpec.ofChange fnExactDecodeIntsSpec)

/-- ITS FALSE NEIGHBOUR: 'it returns false'. Refute it at one input. -/
def fnExactDecodeIntsWrong : ChangeSpec := { name := "fnExactDecodeInts", fn := fun _ => fun
  | [d1, d2, d3] => { results := [.lit (.bool false)], args := [d1, d2, d3] }
  | _ => none }
def FnExactDecodeIntsWrongFalsely : Prop := fnExactDecodeIntsRow.holds Try.pinned (OpenSpec.ofChange fnExactDecodeIntsWrong)

/-- 'laws.FnExactMayFlow': WHATEVER THE INPUT: true; the input reads as it did. -/
def fnExactMayFlowSpec : ChangeSpec := { name := "fnExactMayFlow", fn := fun _ => fun
  | [d1, d2, d3, d4] => { results := [.lit (.bool true)], args := [d1, d2, d3, d4] }
  | _ => none }
def fnExactMayFlowRow : OpenClaim := { program := "ythipflbjnnplaab", sum := "d37a55b721c13a2688391407a22e8e5984750b258951e02fe11cf0903eb38049", func := "loop.example/g03001/laws.FnExactMayFlow", spec := "fnExactMayFlow", apart := false }
def FnExactMayFlowSaid : Prop := fnExactMayFlowRow.holds Try.pinned (OpenSpec.ofChange fnExactMayFlowSpec)

/-- ITS FALSE NEIGHBOUR: 'it returns false'. Refute it at one input. -/
def fnExactMayFlowWrong : ChangeSpec := { name := "fnExactMayFlow", fn := fun _ => fun
  | [d1, d2, d3, d4] => { results := [.lit (.bool false)], args := [d1, d2, d3, d4] }
  | _ => none }
def FnExactMayFlowWrongFalsely : Prop := fnExactMayFlowRow.holds Try.pinned (OpenSpec.ofChange fnExactMayFlowWrong)

/-- 'laws.FnExactTargetsOf': WHATEVER THE INPUT: true; the input reads as it did. -/
def fnExactTargetsOfSpec : ChangeSpec := { name := "fnExactTargetsOf", fn := fun _ => fun
  | [d1, d2, d3] => { results := [.lit (.bool true)], args := [d1, d2, d3] }
  | _ => none }
def fnExactTargetsOfRow : OpenClaim := { program := "ythipflbjnnplaab", sum := "d37a55b721c13a2688391407a22e8e5984750b258951e02fe11cf0903eb38049", func := "loop.example/g03001/laws.FnExactTargetsOf", spec := "fnExactTargetsOf", unfollowed := true, recurses := true, apart := false }
def FnExactTargetsOfSaid : Prop := fnExactTargetsOfRow.holds Try.pinned (OpenSpec.ofChange fnExactTargetsOfSpec)

/-- ITS FALSE NEIGHBOUR: 'it returns false'. Refute it at one input. -/
def fnExactTargetsOfWrong : ChangeSpec := { name := "fnExactTargetsOf", fn := fun _ => fun
  | [d1, d2, d3] => { results := [.lit (.bool false)], args := [d1, d2, d3] }
  | _ => none }
def FnExactTargetsOfWrongFalsely : Prop := fnExactTargetsOfRow.holds Try.pinned (OpenSpec.ofChange fnExactTargetsOfWrong)

/- THE SECOND FORM. 'bulk': how many values and letters a reading holds, each counted each time it is reached (what is shared counts as often as it is met; a slice's spare places count too). A statement '..UptoSaid' is the law's where the arguments, and the package variables that the reading takes, are together of bulk at most 1048576: NARROWER than '..Said'. Prove '..Said' where nothing that the law and all that it calls make is longer than what came in: it says more and counts as full. Else prove '..UptoSaid'. A law counts once. -/
mutual
def uptoBulk {H : Type} : DataW H → Nat
  | .lit (.string bytes) => bytes.length + 1
  | .lit _ => 1
  | .nil => 1
  | .ptr d => uptoBulk d + 1
  | .slice elems spare => uptoBulkAll elems + uptoBulkAll spare + 1
  | .agg parts => uptoBulkAll parts + 1
  | .iface _ d => uptoBulk d + 1
  | .map entries => uptoBulkEntries entries + 1
  | .held _ => 1
def uptoBulkAll {H : Type} : List (DataW H) → Nat
  | [] => 0
  | d :: r => uptoBulk d + uptoBulkAll r
def uptoBulkEntries {H : Type} : List (Lit × DataW H) → Nat
  | [] => 0
  | x :: r => uptoBulkEntry x + uptoBulkEntries r
def uptoBulkEntry {H : Type} : Lit × DataW H → Nat
  | (.string bytes, d) => bytes.length + uptoBulk d + 1
  | (_, d) => uptoBulk d + 1
 end
def uptoSmall : (H : Type) → List (DataW H) → Bool := fun _ ds => decide (uptoBulkAll ds ≤ 1048576)
def OpenSpec.upto (s : _root_.Go.ChangeSpec) : _root_.Go.OpenSpec := { _root_.Go.OpenSpec.ofChange s with cond := some uptoSmall }

/-- 'laws.FnExactIsStore', WHERE WHAT IT READS IS OF BULK AT MOST 1048576: true; the input reads as it did. -/
def fnExactIsStoreUptoRow : OpenClaim := { program := "ythipflbjnnplaab", sum := "d37a55b721c13a2688391407a22e8e5984750b258951e02fe11cf0903eb38049", func := "loop.example/g03001/laws.FnExactIsStore", spec := "fnExactIsStore", unfollowed := true, recurses := true, apart := false, narrowed := true }
def FnExactIsStoreUptoSaid : Prop := fnExactIsStoreUptoRow.holds Try.pinned (OpenSpec.upto fnExactIsStoreSpec)

/-- 'laws.FnExactPutStored', WHERE WHAT IT READS IS OF BULK AT MOST 1048576: true; the input reads as it did. -/
def fnExactPutStoredUptoRow : OpenClaim := { program := "ythipflbjnnplaab", sum := "d37a55b721c13a2688391407a22e8e5984750b258951e02fe11cf0903eb38049", func := "loop.example/g03001/laws.FnExactPutStored", spec := "fnExactPutStored", inPlace := ["slices.overlaps[loop.example/g03001/impl.Stored]"], unfollowed := true, recurses := true, apart := false, narrowed := true }
def FnExactPutStoredUptoSaid : Prop := fnExactPutStoredUptoRow.holds Try.pinned (OpenSpec.upto fnExactPutStoredSpec)

/-- 'laws.FnExactWriteWindow', WHERE WHAT IT READS IS OF BULK AT MOST 1048576: true; the input reads as it did. -/
def fnExactWriteWindowUptoRow : OpenClaim := { program := "ythipflbjnnplaab", sum := "d37a55b721c13a2688391407a22e8e5984750b258951e02fe11cf0903eb38049", func := "loop.example/g03001/laws.FnExactWriteWindow", spec := "fnExactWriteWindow", inPlace := ["slices.overlaps[loop.example/g03001/impl.Stored]"], unfollowed := true, recurses := true, apart := false, narrowed := true }
def FnExactWriteWindowUptoSaid : Prop := fnExactWriteWindowUptoRow.holds Try.pinned (OpenSpec.upto fnExactWriteWindowSpec)

/-- 'laws.FnExactMergeStores', WHERE WHAT IT READS IS OF BULK AT MOST 1048576: true; the input reads as it did. -/
def fnExactMergeStoresUptoRow : OpenClaim := { program := "ythipflbjnnplaab", sum := "d37a55b721c13a2688391407a22e8e5984750b258951e02fe11cf0903eb38049", func := "loop.example/g03001/laws.FnExactMergeStores", spec := "fnExactMergeStores", unfollowed := true, recurses := true, apart := false, narrowed := true }
def FnExactMergeStoresUptoSaid : Prop := fnExactMergeStoresUptoRow.holds Try.pinned (OpenSpec.upto fnExactMergeStoresSpec)

/-- 'laws.FnExactEndLending', WHERE WHAT IT READS IS OF BULK AT MOST 1048576: true; the input reads as it did. -/
def fnExactEndLendingUptoRow : OpenClaim := { program := "ythipflbjnnplaab", sum := "d37a55b721c13a2688391407a22e8e5984750b258951e02fe11cf0903eb38049", func := "loop.example/g03001/laws.FnExactEndLending", spec := "fnExactEndLending", unfollowed := true, recurses := true, apart := false, narrowed := true }
def FnExactEndLendingUptoSaid : Prop := fnExactEndLendingUptoRow.holds Try.pinned (OpenSpec.upto fnExactEndLendingSpec)

/-- 'laws.FnExactLendTo', WHERE WHAT IT READS IS OF BULK AT MOST 1048576: true; the input reads as it did. -/
def fnExactLendToUptoRow : OpenClaim := { program := "ythipflbjnnplaab", sum := "d37a55b721c13a2688391407a22e8e5984750b258951e02fe11cf0903eb38049", func := "loop.example/g03001/laws.FnExactLendTo", spec := "fnExactLendTo", unfollowed := true, recurses := true, apart := false, narrowed := true }
def FnExactLendToUptoSaid : Prop := fnExactLendToUptoRow.holds Try.pinned (OpenSpec.upto fnExactLendToSpec)

/-- 'laws.FnExactClashOf', WHERE WHAT IT READS IS OF BULK AT MOST 1048576: true; the input reads as it did. -/
def fnExactClashOfUptoRow : OpenClaim := { program := "ythipflbjnnplaab", sum := "d37a55b721c13a2688391407a22e8e5984750b258951e02fe11cf0903eb38049", func := "loop.example/g03001/laws.FnExactClashOf", spec := "fnExactClashOf", unfollowed := true, recurses := true, apart := false, narrowed := true }
def FnExactClashOfUptoSaid : Prop := fnExactClashOfUptoRow.holds Try.pinned (OpenSpec.upto fnExactClashOfSpec)

/-- 'laws.FnExactClashCount', WHERE WHAT IT READS IS OF BULK AT MOST 1048576: true; the input reads as it did. -/
def fnExactClashCountUptoRow : OpenClaim := { program := "ythipflbjnnplaab", sum := "d37a55b721c13a2688391407a22e8e5984750b258951e02fe11cf0903eb38049", func := "loop.example/g03001/laws.FnExactClashCount", spec := "fnExactClashCount", unfollowed := true, recurses := true, apart := false, narrowed := true }
def FnExactClashCountUptoSaid : Prop := fnExactClashCountUptoRow.holds Try.pinned (OpenSpec.upto fnExactClashCountSpec)

/-- 'laws.FnExactReadBytes', WHERE WHAT IT READS IS OF BULK AT MOST 1048576: true; the input reads as it did. -/
def fnExactReadBytesUptoRow : OpenClaim := { program := "ythipflbjnnplaab", sum := "d37a55b721c13a2688391407a22e8e5984750b258951e02fe11cf0903eb38049", func := "loop.example/g03001/laws.FnExactReadBytes", spec := "fnExactReadBytes", unfollowed := true, recurses := true, apart := false, narrowed := true }
def FnExactReadBytesUptoSaid : Prop := fnExactReadBytesUptoRow.holds Try.pinned (OpenSpec.upto fnExactReadBytesSpec)

/-- 'laws.FnExactDecodeInts', WHERE WHAT IT READS IS OF BULK AT MOST 1048576: true; the input reads as it did. -/
def fnExactDecodeIntsUptoRow : OpenClaim := { program := "ythipflbjnnplaab", sum := "d37a55b721c13a2688391407a22e8e5984750b258951e02fe11cf0903eb38049", func := "loop.example/g03001/laws.FnExactDecodeInts", spec := "fnExactDecodeInts", unfollowed := true, recurses := true, apart := false, narrowed := true }
def FnExactDecodeIntsUptoSaid : Prop := fnExactDecodeIntsUptoRow.holds Try.pinned (OpenSpec.upto fnExactDecodeIntsSpec)

/-- 'laws.FnExactMayFlow', WHERE WHAT IT READS IS OF BULK AT MOST 1048576: true; the input reads as it did. -/
def fnExactMayFlowUptoRow : OpenClaim := { program := "ythipflbjnnplaab", sum := "d37a55b721c13a2688391407a22e8e5984750b258951e02fe11cf0903eb38049", func := "loop.example/g03001/laws.FnExactMayFlow", spec := "fnExactMayFlow", apart := false, narrowed := true }
def FnExactMayFlowUptoSaid : Prop := fnExactMayFlowUptoRow.holds Try.pinned (OpenSpec.upto fnExactMayFlowSpec)

/-- 'laws.FnExactTargetsOf', WHERE WHAT IT READS IS OF BULK AT MOST 1048576: true; the input reads as it did. -/
def fnExactTargetsOfUptoRow : OpenClaim := { program := "ythipflbjnnplaab", sum := "d37a55b721c13a2688391407a22e8e5984750b258951e02fe11cf0903eb38049", func := "loop.example/g03001/laws.FnExactTargetsOf", spec := "fnExactTargetsOf", unfollowed := true, recurses := true, apart := false, narrowed := true }
def FnExactTargetsOfUptoSaid : Prop := fnExactTargetsOfUptoRow.holds Try.pinned (OpenSpec.upto fnExactTargetsOfSpec)

end Rows
end Go.Proofs.Ythipflbjnnplaab
