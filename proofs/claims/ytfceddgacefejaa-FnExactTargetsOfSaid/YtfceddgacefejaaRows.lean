/-
  No cell of these rows narrows 'for every input' (looked for: loops, veiled, ifaces, maps, wideKeys, modest, calm, conditions, laid).
  DERIVED. THE GIVEN ROWS OF THIS SEAT. 12 by the template 'for every input the law returns true; each argument reads behind the call as it read before'; 0 by the template 'total and deterministic' (their statements: YtfceddgacefejaaTotals.lean).
  GIVEN WITH THE SEED: the statements are not yours to turn. If you find one false, say at which input.
  Laid BY PROGRAM, IN A SANDBOX (cutbox-rows.mjs): the forced cells as the released guide's own fill.sh prints them over the translation e6a628fb522e2be1… (all of the seat's roots in one cut). By AI agents, Wed Nov 11 2026. No macro, syntax, notation, axiom, sorry.
-/
import Derived.Test.YtfceddgacefejaaChecked
import GoSem.Claim
import GoSem.ClaimJoined
import GoSem.ClaimMapViews
import Derived.JoinedTies
import Derived.KernelRfl
namespace Go.Proofs.Ytfceddgacefejaa
/- THE CELL 'sum', in the pinned program and in every row, IS THE sha256 OF THE DUMP (.gsa) THAT YtfceddgacefejaaProg.lean LOADS. Nothing in Lean hashes anything: it is a label: what it is worth is what the hold of that sum in a sandbox is worth. -/
noncomputable def Try.pinned : Pinned := { name := "ytfceddgacefejaa", sum := "e6a628fb522e2be1fc4c4acced8bf65e804cd0890c223c61d5b07545c83a509f", checked := Try.checked }
namespace Rows
def none {H : Type} : Left H := { results := [], args := [] }

/-- 'laws.FnNarrowed': WHATEVER THE INPUT: true; the input reads as it did. -/
def fnNarrowedSpec : ChangeSpec := { name := "fnNarrowed", fn := fun _ => fun
  | [d] => { results := [.lit (.bool true)], args := [d] }
  | _ => none }
def fnNarrowedRow : OpenClaim := { program := "ytfceddgacefejaa", sum := "e6a628fb522e2be1fc4c4acced8bf65e804cd0890c223c61d5b07545c83a509f", func := "loop.example/g03001/laws.FnNarrowed", spec := "fnNarrowed", unfollowed := true, recurses := true, plainKeys := false, apart := false }
def FnNarrowedSaid : Prop := fnNarrowedRow.holds Try.pinned (OpenSpec.ofChange fnNarrowedSpec)

/-- ITS FALSE NEIGHBOUR: 'it returns false'. Refute it at one input. -/
def fnNarrowedWrong : ChangeSpec := { name := "fnNarrowed", fn := fun _ => fun
  | [d] => { results := [.lit (.bool false)], args := [d] }
  | _ => none }
def FnNarrowedWrongFalsely : Prop := fnNarrowedRow.holds Try.pinned (OpenSpec.ofChange fnNarrowedWrong)

/-- 'laws.FnLent': WHATEVER THE INPUT: true; the input reads as it did. -/
def fnLentSpec : ChangeSpec := { name := "fnLent", fn := fun _ => fun
  | [d] => { results := [.lit (.bool true)], args := [d] }
  | _ => none }
def fnLentRow : OpenClaim := { program := "ytfceddgacefejaa", sum := "e6a628fb522e2be1fc4c4acced8bf65e804cd0890c223c61d5b07545c83a509f", func := "loop.example/g03001/laws.FnLent", spec := "fnLent", unfollowed := true, recurses := true, plainKeys := false, apart := false }
def FnLentSaid : Prop := fnLentRow.holds Try.pinned (OpenSpec.ofChange fnLentSpec)

/-- ITS FALSE NEIGHBOUR: 'it returns false'. Refute it at one input. -/
def fnLentWrong : ChangeSpec := { name := "fnLent", fn := fun _ => fun
  | [d] => { results := [.lit (.bool false)], args := [d] }
  | _ => none }
def FnLentWrongFalsely : Prop := fnLentRow.holds Try.pinned (OpenSpec.ofChange fnLentWrong)

/-- 'laws.FnShadowed': WHATEVER THE INPUT: true; the input reads as it did. -/
def fnShadowedSpec : ChangeSpec := { name := "fnShadowed", fn := fun _ => fun
  | [d] => { results := [.lit (.bool true)], args := [d] }
  | _ => none }
def fnShadowedRow : OpenClaim := { program := "ytfceddgacefejaa", sum := "e6a628fb522e2be1fc4c4acced8bf65e804cd0890c223c61d5b07545c83a509f", func := "loop.example/g03001/laws.FnShadowed", spec := "fnShadowed", unfollowed := true, recurses := true, plainKeys := false, apart := false }
def FnShadowedSaid : Prop := fnShadowedRow.holds Try.pinned (OpenSpec.ofChange fnShadowedSpec)

/-- ITS FALSE NEIGHBOUR: 'it returns false'. Refute it at one input. -/
def fnShadowedWrong : ChangeSpec := { name := "fnShadowed", fn := fun _ => fun
  | [d] => { results := [.lit (.bool false)], args := [d] }
  | _ => none }
def FnShadowedWrongFalsely : Prop := fnShadowedRow.holds Try.pinned (OpenSpec.ofChange fnShadowedWrong)

/-- 'laws.FnFollowed': WHATEVER THE INPUT: true; the input reads as it did. -/
def fnFollowedSpec : ChangeSpec := { name := "fnFollowed", fn := fun _ => fun
  | [d] => { results := [.lit (.bool true)], args := [d] }
  | _ => none }
def fnFollowedRow : OpenClaim := { program := "ytfceddgacefejaa", sum := "e6a628fb522e2be1fc4c4acced8bf65e804cd0890c223c61d5b07545c83a509f", func := "loop.example/g03001/laws.FnFollowed", spec := "fnFollowed", unfollowed := true, recurses := true, plainKeys := false, apart := false }
def FnFollowedSaid : Prop := fnFollowedRow.holds Try.pinned (OpenSpec.ofChange fnFollowedSpec)

/-- ITS FALSE NEIGHBOUR: 'it returns false'. Refute it at one input. -/
def fnFollowedWrong : ChangeSpec := { name := "fnFollowed", fn := fun _ => fun
  | [d] => { results := [.lit (.bool false)], args := [d] }
  | _ => none }
def FnFollowedWrongFalsely : Prop := fnFollowedRow.holds Try.pinned (OpenSpec.ofChange fnFollowedWrong)

/-- 'laws.FnExactTargetsOf': WHATEVER THE INPUT: true; the input reads as it did. -/
def fnExactTargetsOfSpec : ChangeSpec := { name := "fnExactTargetsOf", fn := fun _ => fun
  | [d1, d2, d3] => { results := [.lit (.bool true)], args := [d1, d2, d3] }
  | _ => none }
def fnExactTargetsOfRow : OpenClaim := { program := "ytfceddgacefejaa", sum := "e6a628fb522e2be1fc4c4acced8bf65e804cd0890c223c61d5b07545c83a509f", func := "loop.example/g03001/laws.FnExactTargetsOf", spec := "fnExactTargetsOf", unfollowed := true, recurses := true, plainKeys := false, apart := false }
def FnExactTargetsOfSaid : Prop := fnExactTargetsOfRow.holds Try.pinned (OpenSpec.ofChange fnExactTargetsOfSpec)

/-- ITS FALSE NEIGHBOUR: 'it returns false'. Refute it at one input. -/
def fnExactTargetsOfWrong : ChangeSpec := { name := "fnExactTargetsOf", fn := fun _ => fun
  | [d1, d2, d3] => { results := [.lit (.bool false)], args := [d1, d2, d3] }
  | _ => none }
def FnExactTargetsOfWrongFalsely : Prop := fnExactTargetsOfRow.holds Try.pinned (OpenSpec.ofChange fnExactTargetsOfWrong)

/-- 'laws.FnExactMayFlow': WHATEVER THE INPUT: true; the input reads as it did. -/
def fnExactMayFlowSpec : ChangeSpec := { name := "fnExactMayFlow", fn := fun _ => fun
  | [d1, d2, d3, d4] => { results := [.lit (.bool true)], args := [d1, d2, d3, d4] }
  | _ => none }
def fnExactMayFlowRow : OpenClaim := { program := "ytfceddgacefejaa", sum := "e6a628fb522e2be1fc4c4acced8bf65e804cd0890c223c61d5b07545c83a509f", func := "loop.example/g03001/laws.FnExactMayFlow", spec := "fnExactMayFlow", plainKeys := false, apart := false }
def FnExactMayFlowSaid : Prop := fnExactMayFlowRow.holds Try.pinned (OpenSpec.ofChange fnExactMayFlowSpec)

/-- ITS FALSE NEIGHBOUR: 'it returns false'. Refute it at one input. -/
def fnExactMayFlowWrong : ChangeSpec := { name := "fnExactMayFlow", fn := fun _ => fun
  | [d1, d2, d3, d4] => { results := [.lit (.bool false)], args := [d1, d2, d3, d4] }
  | _ => none }
def FnExactMayFlowWrongFalsely : Prop := fnExactMayFlowRow.holds Try.pinned (OpenSpec.ofChange fnExactMayFlowWrong)

/-- 'laws.FnExactCountTable': WHATEVER THE INPUT: true; the input reads as it did. -/
def fnExactCountTableSpec : ChangeSpec := { name := "fnExactCountTable", fn := fun _ => fun
  | [d] => { results := [.lit (.bool true)], args := [d] }
  | _ => none }
def fnExactCountTableRow : OpenClaim := { program := "ytfceddgacefejaa", sum := "e6a628fb522e2be1fc4c4acced8bf65e804cd0890c223c61d5b07545c83a509f", func := "loop.example/g03001/laws.FnExactCountTable", spec := "fnExactCountTable", plainKeys := false, apart := false }
def FnExactCountTableSaid : Prop := fnExactCountTableRow.holds Try.pinned (OpenSpec.ofChange fnExactCountTableSpec)

/-- ITS FALSE NEIGHBOUR: 'it returns false'. Refute it at one input. -/
def fnExactCountTableWrong : ChangeSpec := { name := "fnExactCountTable", fn := fun _ => fun
  | [d] => { results := [.lit (.bool false)], args := [d] }
  | _ => none }
def FnExactCountTableWrongFalsely : Prop := fnExactCountTableRow.holds Try.pinned (OpenSpec.ofChange fnExactCountTableWrong)

/-- 'laws.FnExactLongestBucket': WHATEVER THE INPUT: true; the input reads as it did. -/
def fnExactLongestBucketSpec : ChangeSpec := { name := "fnExactLongestBucket", fn := fun _ => fun
  | [d] => { results := [.lit (.bool true)], args := [d] }
  | _ => none }
def fnExactLongestBucketRow : OpenClaim := { program := "ytfceddgacefejaa", sum := "e6a628fb522e2be1fc4c4acced8bf65e804cd0890c223c61d5b07545c83a509f", func := "loop.example/g03001/laws.FnExactLongestBucket", spec := "fnExactLongestBucket", plainKeys := false, apart := false }
def FnExactLongestBucketSaid : Prop := fnExactLongestBucketRow.holds Try.pinned (OpenSpec.ofChange fnExactLongestBucketSpec)

/-- ITS FALSE NEIGHBOUR: 'it returns false'. Refute it at one input. -/
def fnExactLongestBucketWrong : ChangeSpec := { name := "fnExactLongestBucket", fn := fun _ => fun
  | [d] => { results := [.lit (.bool false)], args := [d] }
  | _ => none }
def FnExactLongestBucketWrongFalsely : Prop := fnExactLongestBucketRow.holds Try.pinned (OpenSpec.ofChange fnExactLongestBucketWrong)

/-- 'laws.FnExactSortRules': WHATEVER THE INPUT: true; the input reads as it did. -/
def fnExactSortRulesSpec : ChangeSpec := { name := "fnExactSortRules", fn := fun _ => fun
  | [d] => { results := [.lit (.bool true)], args := [d] }
  | _ => none }
def fnExactSortRulesRow : OpenClaim := { program := "ytfceddgacefejaa", sum := "e6a628fb522e2be1fc4c4acced8bf65e804cd0890c223c61d5b07545c83a509f", func := "loop.example/g03001/laws.FnExactSortRules", spec := "fnExactSortRules", unfollowed := true, recurses := true, plainKeys := false, apart := false }
def FnExactSortRulesSaid : Prop := fnExactSortRulesRow.holds Try.pinned (OpenSpec.ofChange fnExactSortRulesSpec)

/-- ITS FALSE NEIGHBOUR: 'it returns false'. Refute it at one input. -/
def fnExactSortRulesWrong : ChangeSpec := { name := "fnExactSortRules", fn := fun _ => fun
  | [d] => { results := [.lit (.bool false)], args := [d] }
  | _ => none }
def FnExactSortRulesWrongFalsely : Prop := fnExactSortRulesRow.holds Try.pinned (OpenSpec.ofChange fnExactSortRulesWrong)

/-- 'laws.FnExactPutStored': WHATEVER THE INPUT: true; the input reads as it did. -/
def fnExactPutStoredSpec : ChangeSpec := { name := "fnExactPutStored", fn := fun _ => fun
  | [d1, d2, d3, d4] => { results := [.lit (.bool true)], args := [d1, d2, d3, d4] }
  | _ => none }
def fnExactPutStoredRow : OpenClaim := { program := "ytfceddgacefejaa", sum := "e6a628fb522e2be1fc4c4acced8bf65e804cd0890c223c61d5b07545c83a509f", func := "loop.example/g03001/laws.FnExactPutStored", spec := "fnExactPutStored", inPlace := ["slices.overlaps[loop.example/g03001/impl.Stored]"], unfollowed := true, recurses := true, plainKeys := false, apart := false }
def FnExactPutStoredSaid : Prop := fnExactPutStoredRow.holds Try.pinned (OpenSpec.ofChange fnExactPutStoredSpec)

/-- ITS FALSE NEIGHBOUR: 'it returns false'. Refute it at one input. -/
def fnExactPutStoredWrong : ChangeSpec := { name := "fnExactPutStored", fn := fun _ => fun
  | [d1, d2, d3, d4] => { results := [.lit (.bool false)], args := [d1, d2, d3, d4] }
  | _ => none }
def FnExactPutStoredWrongFalsely : Prop := fnExactPutStoredRow.holds Try.pinned (OpenSpec.ofChange fnExactPutStoredWrong)

/-- 'laws.FnExactMergeStores': WHATEVER THE INPUT: true; the input reads as it did. -/
def fnExactMergeStoresSpec : ChangeSpec := { name := "fnExactMergeStores", fn := fun _ => fun
  | [d1, d2] => { results := [.lit (.bool true)], args := [d1, d2] }
  | _ => none }
def fnExactMergeStoresRow : OpenClaim := { program := "ytfceddgacefejaa", sum := "e6a628fb522e2be1fc4c4acced8bf65e804cd0890c223c61d5b07545c83a509f", func := "loop.example/g03001/laws.FnExactMergeStores", spec := "fnExactMergeStores", unfollowed := true, recurses := true, plainKeys := false, apart := false }
def FnExactMergeStoresSaid : Prop := fnExactMergeStoresRow.holds Try.pinned (OpenSpec.ofChange fnExactMergeStoresSpec)

/-- ITS FALSE NEIGHBOUR: 'it returns false'. Refute it at one input. -/
def fnExactMergeStoresWrong : ChangeSpec := { name := "fnExactMergeStores", fn := fun _ => fun
  | [d1, d2] => { results := [.lit (.bool false)], args := [d1, d2] }
  | _ => none }
def FnExactMergeStoresWrongFalsely : Prop := fnExactMergeStoresRow.holds Try.pinned (OpenSpec.ofChange fnExactMergeStoresWrong)

/-- 'laws.FnExactCountKind': WHATEVER THE INPUT: true; the input reads as it did. -/
def fnExactCountKindSpec : ChangeSpec := { name := "fnExactCountKind", fn := fun _ => fun
  | [d1, d2] => { results := [.lit (.bool true)], args := [d1, d2] }
  | _ => none }
def fnExactCountKindRow : OpenClaim := { program := "ytfceddgacefejaa", sum := "e6a628fb522e2be1fc4c4acced8bf65e804cd0890c223c61d5b07545c83a509f", func := "loop.example/g03001/laws.FnExactCountKind", spec := "fnExactCountKind", unfollowed := true, recurses := true, plainKeys := false, apart := false }
def FnExactCountKindSaid : Prop := fnExactCountKindRow.holds Try.pinned (OpenSpec.ofChange fnExactCountKindSpec)

/-- ITS FALSE NEIGHBOUR: 'it returns false'. Refute it at one input. -/
def fnExactCountKindWrong : ChangeSpec := { name := "fnExactCountKind", fn := fun _ => fun
  | [d1, d2] => { results := [.lit (.bool false)], args := [d1, d2] }
  | _ => none }
def FnExactCountKindWrongFalsely : Prop := fnExactCountKindRow.holds Try.pinned (OpenSpec.ofChange fnExactCountKindWrong)

/- THE SECOND FORM. 'bulk': how many values and letters a reading holds, each counted each time it is reached (what is shared counts as often as it is met; a slice's spare places count too). A statement '..UptoSaid' is the law's where the arguments, and the package variables that the reading takes, are together of bulk at most 1048576: NARROWER than '..Said'. Prove '..Said' where nothing that the law and all that it calls make is longer than what came in: it says more and counts as full. Else prove '..UptoSaid'. A law counts once. -/
mutual
def uptoBulk {H : Type} : DataW H → Nat
  | .lit (.string bytes) => bytes.length + 1
  | .lit _ => 1
  | .nil => 1
  | .ptr d => uptoBulk d + 1
  | .slice elems spare => uptoBulkAll elems + uptoBulkAll spare + 1
  | .agg parts => uptoBulkAll parts + 1
  | .iface _ d => uptoBulk d + 1
  | .map entries => uptoBulkEntries entries + 1
  | .held _ => 1
def uptoBulkAll {H : Type} : List (DataW H) → Nat
  | [] => 0
  | d :: r => uptoBulk d + uptoBulkAll r
def uptoBulkEntries {H : Type} : List (Lit × DataW H) → Nat
  | [] => 0
  | x :: r => uptoBulkEntry x + uptoBulkEntries r
def uptoBulkEntry {H : Type} : Lit × DataW H → Nat
  | (.string bytes, d) => bytes.length + uptoBulk d + 1
  | (_, d) => uptoBulk d + 1
 end
def uptoSmall : (H : Type) → List (DataW H) → Bool := fun _ ds => decide (uptoBulkAll ds ≤ 1048576)
def OpenSpec.upto (s : _root_.Go.ChangeSpec) : _root_.Go.OpenSpec := { _root_.Go.OpenSpec.ofChange s with cond := some uptoSmall }

/-- 'laws.FnNarrowed', WHERE WHAT IT READS IS OF BULK AT MOST 1048576: true; the input reads as it did. -/
def fnNarrowedUptoRow : OpenClaim := { program := "ytfceddgacefejaa", sum := "e6a628fb522e2be1fc4c4acced8bf65e804cd0890c223c61d5b07545c83a509f", func := "loop.example/g03001/laws.FnNarrowed", spec := "fnNarrowed", unfollowed := true, recurses := true, plainKeys := false, apart := false, narrowed := true }
def FnNarrowedUptoSaid : Prop := fnNarrowedUptoRow.holds Try.pinned (OpenSpec.upto fnNarrowedSpec)

/-- 'laws.FnLent', WHERE WHAT IT READS IS OF BULK AT MOST 1048576: true; the input reads as it did. -/
def fnLentUptoRow : OpenClaim := { program := "ytfceddgacefejaa", sum := "e6a628fb522e2be1fc4c4acced8bf65e804cd0890c223c61d5b07545c83a509f", func := "loop.example/g03001/laws.FnLent", spec := "fnLent", unfollowed := true, recurses := true, plainKeys := false, apart := false, narrowed := true }
def FnLentUptoSaid : Prop := fnLentUptoRow.holds Try.pinned (OpenSpec.upto fnLentSpec)

/-- 'laws.FnShadowed', WHERE WHAT IT READS IS OF BULK AT MOST 1048576: true; the input reads as it did. -/
def fnShadowedUptoRow : OpenClaim := { program := "ytfceddgacefejaa", sum := "e6a628fb522e2be1fc4c4acced8bf65e804cd0890c223c61d5b07545c83a509f", func := "loop.example/g03001/laws.FnShadowed", spec := "fnShadowed", unfollowed := true, recurses := true, plainKeys := false, apart := false, narrowed := true }
def FnShadowedUptoSaid : Prop := fnShadowedUptoRow.holds Try.pinned (OpenSpec.upto fnShadowedSpec)

/-- 'laws.FnFollowed', WHERE WHAT IT READS IS OF BULK AT MOST 1048576: true; the input reads as it did. -/
def fnFollowedUptoRow : OpenClaim := { program := "ytfceddgacefejaa", sum := "e6a628fb522e2be1fc4c4acced8bf65e804cd0890c223c61d5b07545c83a509f", func := "loop.example/g03001/laws.FnFollowed", spec := "fnFollowed", unfollowed := true, recurses := true, plainKeys := false, apart := false, narrowed := true }
def FnFollowedUptoSaid : Prop := fnFollowedUptoRow.holds Try.pinned (OpenSpec.upto fnFollowedSpec)

/-- 'laws.FnExactTargetsOf', WHERE WHAT IT READS IS OF BULK AT MOST 1048576: true; the input reads as it did. -/
def fnExactTargetsOfUptoRow : OpenClaim := { program := "ytfceddgacefejaa", sum := "e6a628fb522e2be1fc4c4acced8bf65e804cd0890c223c61d5b07545c83a509f", func := "loop.example/g03001/laws.FnExactTargetsOf", spec := "fnExactTargetsOf", unfollowed := true, recurses := true, plainKeys := false, apart := false, narrowed := true }
def FnExactTargetsOfUptoSaid : Prop := fnExactTargetsOfUptoRow.holds Try.pinned (OpenSpec.upto fnExactTargetsOfSpec)

/-- 'laws.FnExactMayFlow', WHERE WHAT IT READS IS OF BULK AT MOST 1048576: true; the input reads as it did. -/
def fnExactMayFlowUptoRow : OpenClaim := { program := "ytfceddgacefejaa", sum := "e6a628fb522e2be1fc4c4acced8bf65e804cd0890c223c61d5b07545c83a509f", func := "loop.example/g03001/laws.FnExactMayFlow", spec := "fnExactMayFlow", plainKeys := false, apart := false, narrowed := true }
def FnExactMayFlowUptoSaid : Prop := fnExactMayFlowUptoRow.holds Try.pinned (OpenSpec.upto fnExactMayFlowSpec)

/-- 'laws.FnExactCountTable', WHERE WHAT IT READS IS OF BULK AT MOST 1048576: true; the input reads as it did. -/
def fnExactCountTableUptoRow : OpenClaim := { program := "ytfceddgacefejaa", sum := "e6a628fb522e2be1fc4c4acced8bf65e804cd0890c223c61d5b07545c83a509f", func := "loop.example/g03001/laws.FnExactCountTable", spec := "fnExactCountTable", plainKeys := false, apart := false, narrowed := true }
def FnExactCountTableUptoSaid : Prop := fnExactCountTableUptoRow.holds Try.pinned (OpenSpec.upto fnExactCountTableSpec)

/-- 'laws.FnExactLongestBucket', WHERE WHAT IT READS IS OF BULK AT MOST 1048576: true; the input reads as it did. -/
def fnExactLongestBucketUptoRow : OpenClaim := { program := "ytfceddgacefejaa", sum := "e6a628fb522e2be1fc4c4acced8bf65e804cd0890c223c61d5b07545c83a509f", func := "loop.example/g03001/laws.FnExactLongestBucket", spec := "fnExactLongestBucket", plainKeys := false, apart := false, narrowed := true }
def FnExactLongestBucketUptoSaid : Prop := fnExactLongestBucketUptoRow.holds Try.pinned (OpenSpec.upto fnExactLongestBucketSpec)

/-- 'laws.FnExactSortRules', WHERE WHAT IT READS IS OF BULK AT MOST 1048576: true; the input reads as it did. -/
def fnExactSortRulesUptoRow : OpenClaim := { program := "ytfceddgacefejaa", sum := "e6a628fb522e2be1fc4c4acced8bf65e804cd0890c223c61d5b07545c83a509f", func := "loop.example/g03001/laws.FnExactSortRules", spec := "fnExactSortRules", unfollowed := true, recurses := true, plainKeys := false, apart := false, narrowed := true }
def FnExactSortRulesUptoSaid : Prop := fnExactSortRulesUptoRow.holds Try.pinned (OpenSpec.upto fnExactSortRulesSpec)

/-- 'laws.FnExactPutStored', WHERE WHAT IT READS IS OF BULK AT MOST 1048576: true; the input reads as it did. -/
def fnExactPutStoredUptoRow : OpenClaim := { program := "ytfceddgacefejaa", sum := "e6a628fb522e2be1fc4c4acced8bf65e804cd0890c223c61d5b07545c83a509f", func := "loop.example/g03001/laws.FnExactPutStored", spec := "fnExactPutStored", inPlace := ["slices.overlaps[loop.example/g03001/impl.Stored]"], unfollowed := true, recurses := true, plainKeys := false, apart := false, narrowed := true }
def FnExactPutStoredUptoSaid : Prop := fnExactPutStoredUptoRow.holds Try.pinned (OpenSpec.upto fnExactPutStoredSpec)

/-- 'laws.FnExactMergeStores', WHERE WHAT IT READS IS OF BULK AT MOST 1048576: true; the input reads as it did. -/
def fnExactMergeStoresUptoRow : OpenClaim := { program := "ytfceddgacefejaa", sum := "e6a628fb522e2be1fc4c4acced8bf65e804cd0890c223c61d5b07545c83a509f", func := "loop.example/g03001/laws.FnExactMergeStores", spec := "fnExactMergeStores", unfollowed := true, recurses := true, plainKeys := false, apart := false, narrowed := true }
def FnExactMergeStoresUptoSaid : Prop := fnExactMergeStoresUptoRow.holds Try.pinned (OpenSpec.upto fnExactMergeStoresSpec)

/-- 'laws.FnExactCountKind', WHERE WHAT IT READS IS OF BULK AT MOST 1048576: true; the input reads as it did. -/
def fnExactCountKindUptoRow : OpenClaim := { program := "ytfceddgacefejaa", sum := "e6a628fb522e2be1fc4c4acced8bf65e804cd0890c223c61d5b07545c83a509f", func := "loop.example/g03001/laws.FnExactCountKind", spec := "fnExactCountKind", unfollowed := true, recurses := true, plainKeys := false, apart := false, narrowed := true }
def FnExactCountKindUptoSaid : Prop := fnExactCountKindUptoRow.holds Try.pinned (OpenSpec.upto fnExactCountKindSpec)

end Rows
end Go.Proofs.Ytfceddgacefejaa
