/-
  No cell of these rows narrows 'for every input' (looked for: loops, veiled, ifaces, maps, wideKeys, modest, calm, conditions, laid).
  DERIVED. THE GIVEN ROWS OF THIS SEAT. 12 by the template 'for every input the law returns true; each argument reads behind the call as it read before'; 0 by the template 'total and deterministic' (their statements: YtblmdjdaiilmmaaTotals.lean).
  GIVEN WITH THE SEED: the statements are not yours to turn. If you find one false, say at which input.
  Laid BY PROGRAM, IN A SANDBOX (cutbox-rows.mjs): the forced cells as the released guide's own fill.sh prints them over the translation 93049228b51b1272… (all of the seat's roots in one cut). By AI agents, Wed Nov 11 2026. No macro, syntax, notation, axiom, sorry.
-/
import Derived.Test.YtblmdjdaiilmmaaChecked
import GoSem.Claim
import GoSem.ClaimJoined
import GoSem.ClaimMapViews
import Derived.JoinedTies
import Derived.KernelRfl
namespace Go.Proofs.Ytblmdjdaiilmmaa
/- THE CELL 'sum', in the pinned program and in every row, IS THE sha256 OF THE DUMP (.gsa) THAT YtblmdjdaiilmmaaProg.lean LOADS. Nothing in Lean hashes anything: it is a label: what it is worth is what the hold of that sum in a sandbox is worth. -/
noncomputable def Try.pinned : Pinned := { name := "ytblmdjdaiilmmaa", sum := "93049228b51b1272ac6ed7fa389624f56ff679b33f2353cbdda4a1daffba146e", checked := Try.checked }
namespace Rows
def none {H : Type} : Left H := { results := [], args := [] }

/-- 'laws.FnByteStrings': WHATEVER THE INPUT: true; the input reads as it did. -/
def fnByteStringsSpec : ChangeSpec := { name := "fnByteStrings", fn := fun _ => fun
  | [d] => { results := [.lit (.bool true)], args := [d] }
  | _ => none }
def fnByteStringsRow : OpenClaim := { program := "ytblmdjdaiilmmaa", sum := "93049228b51b1272ac6ed7fa389624f56ff679b33f2353cbdda4a1daffba146e", func := "loop.example/g03001/laws.FnByteStrings", spec := "fnByteStrings", unfollowed := true, recurses := true, apart := false }
def FnByteStringsSaid : Prop := fnByteStringsRow.holds Try.pinned (OpenSpec.ofChange fnByteStringsSpec)

/-- ITS FALSE NEIGHBOUR: 'it returns false'. Refute it at one input. -/
def fnByteStringsWrong : ChangeSpec := { name := "fnByteStrings", fn := fun _ => fun
  | [d] => { results := [.lit (.bool false)], args := [d] }
  | _ => none }
def FnByteStringsWrongFalsely : Prop := fnByteStringsRow.holds Try.pinned (OpenSpec.ofChange fnByteStringsWrong)

/-- 'laws.FnExactNeverChosen': WHATEVER THE INPUT: true; the input reads as it did. -/
def fnExactNeverChosenSpec : ChangeSpec := { name := "fnExactNeverChosen", fn := fun _ => fun
  | [d] => { results := [.lit (.bool true)], args := [d] }
  | _ => none }
def fnExactNeverChosenRow : OpenClaim := { program := "ytblmdjdaiilmmaa", sum := "93049228b51b1272ac6ed7fa389624f56ff679b33f2353cbdda4a1daffba146e", func := "loop.example/g03001/laws.FnExactNeverChosen", spec := "fnExactNeverChosen", unfollowed := true, recurses := true, apart := false }
def FnExactNeverChosenSaid : Prop := fnExactNeverChosenRow.holds Try.pinned (OpenSpec.ofChange fnExactNeverChosenSpec)

/-- ITS FALSE NEIGHBOUR: 'it returns false'. Refute it at one input. -/
def fnExactNeverChosenWrong : ChangeSpec := { name := "fnExactNeverChosen", fn := fun _ => fun
  | [d] => { results := [.lit (.bool false)], args := [d] }
  | _ => none }
def FnExactNeverChosenWrongFalsely : Prop := fnExactNeverChosenRow.holds Try.pinned (OpenSpec.ofChange fnExactNeverChosenWrong)

/-- 'laws.FnExactPutStored': WHATEVER THE INPUT: true; the input reads as it did. -/
def fnExactPutStoredSpec : ChangeSpec := { name := "fnExactPutStored", fn := fun _ => fun
  | [d1, d2, d3, d4] => { results := [.lit (.bool true)], args := [d1, d2, d3, d4] }
  | _ => none }
def fnExactPutStoredRow : OpenClaim := { program := "ytblmdjdaiilmmaa", sum := "93049228b51b1272ac6ed7fa389624f56ff679b33f2353cbdda4a1daffba146e", func := "loop.example/g03001/laws.FnExactPutStored", spec := "fnExactPutStored", inPlace := ["slices.overlaps[loop.example/g03001/impl.Stored]"], unfollowed := true, recurses := true, apart := false }
def FnExactPutStoredSaid : Prop := fnExactPutStoredRow.holds Try.pinned (OpenSpec.ofChange fnExactPutStoredSpec)

/-- ITS FALSE NEIGHBOUR: 'it returns false'. Refute it at one input. -/
def fnExactPutStoredWrong : ChangeSpec := { name := "fnExactPutStored", fn := fun _ => fun
  | [d1, d2, d3, d4] => { results := [.lit (.bool false)], args := [d1, d2, d3, d4] }
  | _ => none }
def FnExactPutStoredWrongFalsely : Prop := fnExactPutStoredRow.holds Try.pinned (OpenSpec.ofChange fnExactPutStoredWrong)

/-- 'laws.FnExactMergeStores': WHATEVER THE INPUT: true; the input reads as it did. -/
def fnExactMergeStoresSpec : ChangeSpec := { name := "fnExactMergeStores", fn := fun _ => fun
  | [d1, d2] => { results := [.lit (.bool true)], args := [d1, d2] }
  | _ => none }
def fnExactMergeStoresRow : OpenClaim := { program := "ytblmdjdaiilmmaa", sum := "93049228b51b1272ac6ed7fa389624f56ff679b33f2353cbdda4a1daffba146e", func := "loop.example/g03001/laws.FnExactMergeStores", spec := "fnExactMergeStores", unfollowed := true, recurses := true, apart := false }
def FnExactMergeStoresSaid : Prop := fnExactMergeStoresRow.holds Try.pinned (OpenSpec.ofChange fnExactMergeStoresSpec)

/-- ITS FALSE NEIGHBOUR: 'it returns false'. Refute it at one input. -/
def fnExactMergeStoresWrong : ChangeSpec := { name := "fnExactMergeStores", fn := fun _ => fun
  | [d1, d2] => { results := [.lit (.bool false)], args := [d1, d2] }
  | _ => none }
def FnExactMergeStoresWrongFalsely : Prop := fnExactMergeStoresRow.holds Try.pinned (OpenSpec.ofChange fnExactMergeStoresWrong)

/-- 'laws.FnExactWriteWindow': WHATEVER THE INPUT: true; the input reads as it did. -/
def fnExactWriteWindowSpec : ChangeSpec := { name := "fnExactWriteWindow", fn := fun _ => fun
  | [d1, d2, d3, d4] => { results := [.lit (.bool true)], args := [d1, d2, d3, d4] }
  | _ => none }
def fnExactWriteWindowRow : OpenClaim := { program := "ytblmdjdaiilmmaa", sum := "93049228b51b1272ac6ed7fa389624f56ff679b33f2353cbdda4a1daffba146e", func := "loop.example/g03001/laws.FnExactWriteWindow", spec := "fnExactWriteWindow", inPlace := ["slices.overlaps[loop.example/g03001/impl.Stored]"], unfollowed := true, recurses := true, apart := false }
def FnExactWriteWindowSaid : Prop := fnExactWriteWindowRow.holds Try.pinned (OpenSpec.ofChange fnExactWriteWindowSpec)

/-- ITS FALSE NEIGHBOUR: 'it returns false'. Refute it at one input. -/
def fnExactWriteWindowWrong : ChangeSpec := { name := "fnExactWriteWindow", fn := fun _ => fun
  | [d1, d2, d3, d4] => { results := [.lit (.bool false)], args := [d1, d2, d3, d4] }
  | _ => none }
def FnExactWriteWindowWrongFalsely : Prop := fnExactWriteWindowRow.holds Try.pinned (OpenSpec.ofChange fnExactWriteWindowWrong)

/-- 'laws.FnExactMayFlow': WHATEVER THE INPUT: true; the input reads as it did. -/
def fnExactMayFlowSpec : ChangeSpec := { name := "fnExactMayFlow", fn := fun _ => fun
  | [d1, d2, d3, d4] => { results := [.lit (.bool true)], args := [d1, d2, d3, d4] }
  | _ => none }
def fnExactMayFlowRow : OpenClaim := { program := "ytblmdjdaiilmmaa", sum := "93049228b51b1272ac6ed7fa389624f56ff679b33f2353cbdda4a1daffba146e", func := "loop.example/g03001/laws.FnExactMayFlow", spec := "fnExactMayFlow", apart := false }
def FnExactMayFlowSaid : Prop := fnExactMayFlowRow.holds Try.pinned (OpenSpec.ofChange fnExactMayFlowSpec)

/-- ITS FALSE NEIGHBOUR: 'it returns false'. Refute it at one input. -/
def fnExactMayFlowWrong : ChangeSpec := { name := "fnExactMayFlow", fn := fun _ => fun
  | [d1, d2, d3, d4] => { results := [.lit (.bool false)], args := [d1, d2, d3, d4] }
  | _ => none }
def FnExactMayFlowWrongFalsely : Prop := fnExactMayFlowRow.holds Try.pinned (OpenSpec.ofChange fnExactMayFlowWrong)

/-- 'laws.FnExactTargetsOf': WHATEVER THE INPUT: true; the input reads as it did. -/
def fnExactTargetsOfSpec : ChangeSpec := { name := "fnExactTargetsOf", fn := fun _ => fun
  | [d1, d2, d3] => { results := [.lit (.bool true)], args := [d1, d2, d3] }
  | _ => none }
def fnExactTargetsOfRow : OpenClaim := { program := "ytblmdjdaiilmmaa", sum := "93049228b51b1272ac6ed7fa389624f56ff679b33f2353cbdda4a1daffba146e", func := "loop.example/g03001/laws.FnExactTargetsOf", spec := "fnExactTargetsOf", unfollowed := true, recurses := true, apart := false }
def FnExactTargetsOfSaid : Prop := fnExactTargetsOfRow.holds Try.pinned (OpenSpec.ofChange fnExactTargetsOfSpec)

/-- ITS FALSE NEIGHBOUR: 'it returns false'. Refute it at one input. -/
def fnExactTargetsOfWrong : ChangeSpec := { name := "fnExactTargetsOf", fn := fun _ => fun
  | [d1, d2, d3] => { results := [.lit (.bool false)], args := [d1, d2, d3] }
  | _ => none }
def FnExactTargetsOfWrongFalsely : Prop := fnExactTargetsOfRow.holds Try.pinned (OpenSpec.ofChange fnExactTargetsOfWrong)

/-- 'laws.FnExactSortRules': WHATEVER THE INPUT: true; the input reads as it did. -/
def fnExactSortRulesSpec : ChangeSpec := { name := "fnExactSortRules", fn := fun _ => fun
  | [d] => { results := [.lit (.bool true)], args := [d] }
  | _ => none }
def fnExactSortRulesRow : OpenClaim := { program := "ytblmdjdaiilmmaa", sum := "93049228b51b1272ac6ed7fa389624f56ff679b33f2353cbdda4a1daffba146e", func := "loop.example/g03001/laws.FnExactSortRules", spec := "fnExactSortRules", unfollowed := true, recurses := true, apart := false }
def FnExactSortRulesSaid : Prop := fnExactSortRulesRow.holds Try.pinned (OpenSpec.ofChange fnExactSortRulesSpec)

/-- ITS FALSE NEIGHBOUR: 'it returns false'. Refute it at one input. -/
def fnExactSortRulesWrong : ChangeSpec := { name := "fnExactSortRules", fn := fun _ => fun
  | [d] => { results := [.lit (.bool false)], args := [d] }
  | _ => none }
def FnExactSortRulesWrongFalsely : Prop := fnExactSortRulesRow.holds Try.pinned (OpenSpec.ofChange fnExactSortRulesWrong)

/-- 'laws.FnExactCountTable': WHATEVER THE INPUT: true; the input reads as it did. -/
def fnExactCountTableSpec : ChangeSpec := { name := "fnExactCountTable", fn := fun _ => fun
  | [d] => { results := [.lit (.bool true)], args := [d] }
  | _ => none }
def fnExactCountTableRow : OpenClaim := { program := "ytblmdjdaiilmmaa", sum := "93049228b51b1272ac6ed7fa389624f56ff679b33f2353cbdda4a1daffba146e", func := "loop.example/g03001/laws.FnExactCountTable", spec := "fnExactCountTable", apart := false }
def FnExactCountTableSaid : Prop := fnExactCountTableRow.holds Try.pinned (OpenSpec.ofChange fnExactCountTableSpec)

/-- ITS FALSE NEIGHBOUR: 'it returns false'. Refute it at one input. -/
def fnExactCountTableWrong : ChangeSpec := { name := "fnExactCountTable", fn := fun _ => fun
  | [d] => { results := [.lit (.bool false)], args := [d] }
  | _ => none }
def FnExactCountTableWrongFalsely : Prop := fnExactCountTableRow.holds Try.pinned (OpenSpec.ofChange fnExactCountTableWrong)

/-- 'laws.FnExactLongestBucket': WHATEVER THE INPUT: true; the input reads as it did. -/
def fnExactLongestBucketSpec : ChangeSpec := { name := "fnExactLongestBucket", fn := fun _ => fun
  | [d] => { results := [.lit (.bool true)], args := [d] }
  | _ => none }
def fnExactLongestBucketRow : OpenClaim := { program := "ytblmdjdaiilmmaa", sum := "93049228b51b1272ac6ed7fa389624f56ff679b33f2353cbdda4a1daffba146e", func := "loop.example/g03001/laws.FnExactLongestBucket", spec := "fnExactLongestBucket", apart := false }
def FnExactLongestBucketSaid : Prop := fnExactLongestBucketRow.holds Try.pinned (OpenSpec.ofChange fnExactLongestBucketSpec)

/-- ITS FALSE NEIGHBOUR: 'it returns false'. Refute it at one input. -/
def fnExactLongestBucketWrong : ChangeSpec := { name := "fnExactLongestBucket", fn := fun _ => fun
  | [d] => { results := [.lit (.bool false)], args := [d] }
  | _ => none }
def FnExactLongestBucketWrongFalsely : Prop := fnExactLongestBucketRow.holds Try.pinned (OpenSpec.ofChange fnExactLongestBucketWrong)

/-- 'laws.FnExactParseInt': WHATEVER THE INPUT: true; the input reads as it did. -/
def fnExactParseIntSpec : ChangeSpec := { name := "fnExactParseInt", fn := fun _ => fun
  | [d] => { results := [.lit (.bool true)], args := [d] }
  | _ => none }
def fnExactParseIntRow : OpenClaim := { program := "ytblmdjdaiilmmaa", sum := "93049228b51b1272ac6ed7fa389624f56ff679b33f2353cbdda4a1daffba146e", func := "loop.example/g03001/laws.FnExactParseInt", spec := "fnExactParseInt", apart := false }
def FnExactParseIntSaid : Prop := fnExactParseIntRow.holds Try.pinned (OpenSpec.ofChange fnExactParseIntSpec)

/-- ITS FALSE NEIGHBOUR: 'it returns false'. Refute it at one input. -/
def fnExactParseIntWrong : ChangeSpec := { name := "fnExactParseInt", fn := fun _ => fun
  | [d] => { results := [.lit (.bool false)], args := [d] }
  | _ => none }
def FnExactParseIntWrongFalsely : Prop := fnExactParseIntRow.holds Try.pinned (OpenSpec.ofChange fnExactParseIntWrong)

/-- 'laws.FnExactLabelsAfter': WHATEVER THE INPUT: true; the input reads as it did. -/
def fnExactLabelsAfterSpec : ChangeSpec := { name := "fnExactLabelsAfter", fn := fun _ => fun
  | [d] => { results := [.lit (.bool true)], args := [d] }
  | _ => none }
def fnExactLabelsAfterRow : OpenClaim := { program := "ytblmdjdaiilmmaa", sum := "93049228b51b1272ac6ed7fa389624f56ff679b33f2353cbdda4a1daffba146e", func := "loop.example/g03001/laws.FnExactLabelsAfter", spec := "fnExactLabelsAfter", unfollowed := true, recurses := true, apart := false }
def FnExactLabelsAfterSaid : Prop := fnExactLabelsAfterRow.holds Try.pinned (OpenSpec.ofChange fnExactLabelsAfterSpec)

/-- ITS FALSE NEIGHBOUR: 'it returns false'. Refute it at one input. -/
def fnExactLabelsAfterWrong : ChangeSpec := { name := "fnExactLabelsAfter", fn := fun _ => fun
  | [d] => { results := [.lit (.bool false)], args := [d] }
  | _ => none }
def FnExactLabelsAfterWrongFalsely : Prop := fnExactLabelsAfterRow.holds Try.pinned (OpenSpec.ofChange fnExactLabelsAfterWrong)

/- THE SECOND FORM. 'bulk': how many values and letters a reading holds, each counted each time it is reached (what is shared counts as often as it is met; a slice's spare places count too). A statement '..UptoSaid' is the law's where the arguments, and the package variables that the reading takes, are together of bulk at most 1048576: NARROWER than '..Said'. Prove '..Said' where nothing that the law and all that it calls make is longer than what came in: it says more and counts as full. Else prove '..UptoSaid'. A law counts once. -/
mutual
def uptoBulk {H : Type} : DataW H → Nat
  | .lit (.string bytes) => bytes.length + 1
  | .lit _ => 1
  | .nil => 1
  | .ptr d => uptoBulk d + 1
  | .slice elems spare => uptoBulkAll elems + uptoBulkAll spare + 1
  | .agg parts => uptoBulkAll parts + 1
  | .iface _ d => uptoBulk d + 1
  | .map entries => uptoBulkEntries entries + 1
  | .held _ => 1
def uptoBulkAll {H : Type} : List (DataW H) → Nat
  | [] => 0
  | d :: r => uptoBulk d + uptoBulkAll r
def uptoBulkEntries {H : Type} : List (Lit × DataW H) → Nat
  | [] => 0
  | x :: r => uptoBulkEntry x + uptoBulkEntries r
def uptoBulkEntry {H : Type} : Lit × DataW H → Nat
  | (.string bytes, d) => bytes.length + uptoBulk d + 1
  | (_, d) => uptoBulk d + 1
 end
def uptoSmall : (H : Type) → List (DataW H) → Bool := fun _ ds => decide (uptoBulkAll ds ≤ 1048576)
def OpenSpec.upto (s : _root_.Go.ChangeSpec) : _root_.Go.OpenSpec := { _root_.Go.OpenSpec.ofChange s with cond := some uptoSmall }

/-- 'laws.FnByteStrings', WHERE WHAT IT READS IS OF BULK AT MOST 1048576: true; the input reads as it did. -/
def fnByteStringsUptoRow : OpenClaim := { program := "ytblmdjdaiilmmaa", sum := "93049228b51b1272ac6ed7fa389624f56ff679b33f2353cbdda4a1daffba146e", func := "loop.example/g03001/laws.FnByteStrings", spec := "fnByteStrings", unfollowed := true, recurses := true, apart := false, narrowed := true }
def FnByteStringsUptoSaid : Prop := fnByteStringsUptoRow.holds Try.pinned (OpenSpec.upto fnByteStringsSpec)

/-- 'laws.FnExactNeverChosen', WHERE WHAT IT READS IS OF BULK AT MOST 1048576: true; the input reads as it did. -/
def fnExactNeverChosenUptoRow : OpenClaim := { program := "ytblmdjdaiilmmaa", sum := "93049228b51b1272ac6ed7fa389624f56ff679b33f2353cbdda4a1daffba146e", func := "loop.example/g03001/laws.FnExactNeverChosen", spec := "fnExactNeverChosen", unfollowed := true, recurses := true, apart := false, narrowed := true }
def FnExactNeverChosenUptoSaid : Prop := fnExactNeverChosenUptoRow.holds Try.pinned (OpenSpec.upto fnExactNeverChosenSpec)

/-- 'laws.FnExactPutStored', WHERE WHAT IT READS IS OF BULK AT MOST 1048576: true; the input reads as it did. -/
def fnExactPutStoredUptoRow : OpenClaim := { program := "ytblmdjdaiilmmaa", sum := "93049228b51b1272ac6ed7fa389624f56ff679b33f2353cbdda4a1daffba146e", func := "loop.example/g03001/laws.FnExactPutStored", spec := "fnExactPutStored", inPlace := ["slices.overlaps[loop.example/g03001/impl.Stored]"], unfollowed := true, recurses := true, apart := false, narrowed := true }
def FnExactPutStoredUptoSaid : Prop := fnExactPutStoredUptoRow.holds Try.pinned (OpenSpec.upto fnExactPutStoredSpec)

/-- 'laws.FnExactMergeStores', WHERE WHAT IT READS IS OF BULK AT MOST 1048576: true; the input reads as it did. -/
def fnExactMergeStoresUptoRow : OpenClaim := { program := "ytblmdjdaiilmmaa", sum := "93049228b51b1272ac6ed7fa389624f56ff679b33f2353cbdda4a1daffba146e", func := "loop.example/g03001/laws.FnExactMergeStores", spec := "fnExactMergeStores", unfollowed := true, recurses := true, apart := false, narrowed := true }
def FnExactMergeStoresUptoSaid : Prop := fnExactMergeStoresUptoRow.holds Try.pinned (OpenSpec.upto fnExactMergeStoresSpec)

/-- 'laws.FnExactWriteWindow', WHERE WHAT IT READS IS OF BULK AT MOST 1048576: true; the input reads as it did. -/
def fnExactWriteWindowUptoRow : OpenClaim := { program := "ytblmdjdaiilmmaa", sum := "93049228b51b1272ac6ed7fa389624f56ff679b33f2353cbdda4a1daffba146e", func := "loop.example/g03001/laws.FnExactWriteWindow", spec := "fnExactWriteWindow", inPlace := ["slices.overlaps[loop.example/g03001/impl.Stored]"], unfollowed := true, recurses := true, apart := false, narrowed := true }
def FnExactWriteWindowUptoSaid : Prop := fnExactWriteWindowUptoRow.holds Try.pinned (OpenSpec.upto fnExactWriteWindowSpec)

/-- 'laws.FnExactMayFlow', WHERE WHAT IT READS IS OF BULK AT MOST 1048576: true; the input reads as it did. -/
def fnExactMayFlowUptoRow : OpenClaim := { program := "ytblmdjdaiilmmaa", sum := "93049228b51b1272ac6ed7fa389624f56ff679b33f2353cbdda4a1daffba146e", func := "loop.example/g03001/laws.FnExactMayFlow", spec := "fnExactMayFlow", apart := false, narrowed := true }
def FnExactMayFlowUptoSaid : Prop := fnExactMayFlowUptoRow.holds Try.pinned (OpenSpec.upto fnExactMayFlowSpec)

/-- 'laws.FnExactTargetsOf', WHERE WHAT IT READS IS OF BULK AT MOST 1048576: true; the input reads as it did. -/
def fnExactTargetsOfUptoRow : OpenClaim := { program := "ytblmdjdaiilmmaa", sum := "93049228b51b1272ac6ed7fa389624f56ff679b33f2353cbdda4a1daffba146e", func := "loop.example/g03001/laws.FnExactTargetsOf", spec := "fnExactTargetsOf", unfollowed := true, recurses := true, apart := false, narrowed := true }
def FnExactTargetsOfUptoSaid : Prop := fnExactTargetsOfUptoRow.holds Try.pinned (OpenSpec.upto fnExactTargetsOfSpec)

/-- 'laws.FnExactSortRules', WHERE WHAT IT READS IS OF BULK AT MOST 1048576: true; the input reads as it did. -/
def fnExactSortRulesUptoRow : OpenClaim := { program := "ytblmdjdaiilmmaa", sum := "93049228b51b1272ac6ed7fa389624f56ff679b33f2353cbdda4a1daffba146e", func := "loop.example/g03001/laws.FnExactSortRules", spec := "fnExactSortRules", unfollowed := true, recurses := true, apart := false, narrowed := true }
def FnExactSortRulesUptoSaid : Prop := fnExactSortRulesUptoRow.holds Try.pinned (OpenSpec.upto fnExactSortRulesSpec)

/-- 'laws.FnExactCountTable', WHERE WHAT IT READS IS OF BULK AT MOST 1048576: true; the input reads as it did. -/
def fnExactCountTableUptoRow : OpenClaim := { program := "ytblmdjdaiilmmaa", sum := "93049228b51b1272ac6ed7fa389624f56ff679b33f2353cbdda4a1daffba146e", func := "loop.example/g03001/laws.FnExactCountTable", spec := "fnExactCountTable", apart := false, narrowed := true }
def FnExactCountTableUptoSaid : Prop := fnExactCountTableUptoRow.holds Try.pinned (OpenSpec.upto fnExactCountTableSpec)

/-- 'laws.FnExactLongestBucket', WHERE WHAT IT READS IS OF BULK AT MOST 1048576: true; the input reads as it did. -/
def fnExactLongestBucketUptoRow : OpenClaim := { program := "ytblmdjdaiilmmaa", sum := "93049228b51b1272ac6ed7fa389624f56ff679b33f2353cbdda4a1daffba146e", func := "loop.example/g03001/laws.FnExactLongestBucket", spec := "fnExactLongestBucket", apart := false, narrowed := true }
def FnExactLongestBucketUptoSaid : Prop := fnExactLongestBucketUptoRow.holds Try.pinned (OpenSpec.upto fnExactLongestBucketSpec)

/-- 'laws.FnExactParseInt', WHERE WHAT IT READS IS OF BULK AT MOST 1048576: true; the input reads as it did. -/
def fnExactParseIntUptoRow : OpenClaim := { program := "ytblmdjdaiilmmaa", sum := "93049228b51b1272ac6ed7fa389624f56ff679b33f2353cbdda4a1daffba146e", func := "loop.example/g03001/laws.FnExactParseInt", spec := "fnExactParseInt", apart := false, narrowed := true }
def FnExactParseIntUptoSaid : Prop := fnExactParseIntUptoRow.holds Try.pinned (OpenSpec.upto fnExactParseIntSpec)

/-- 'laws.FnExactLabelsAfter', WHERE WHAT IT READS IS OF BULK AT MOST 1048576: true; the input reads as it did. -/
def fnExactLabelsAfterUptoRow : OpenClaim := { program := "ytblmdjdaiilmmaa", sum := "93049228b51b1272ac6ed7fa389624f56ff679b33f2353cbdda4a1daffba146e", func := "loop.example/g03001/laws.FnExactLabelsAfter", spec := "fnExactLabelsAfter", unfollowed := true, recurses := true, apart := false, narrowed := true }
def FnExactLabelsAfterUptoSaid : Prop := fnExactLabelsAfterUptoRow.holds Try.pinned (OpenSpec.upto fnExactLabelsAfterSpec)

end Rows
end Go.Proofs.Ytblmdjdaiilmmaa
