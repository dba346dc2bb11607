/-
  No cell of these rows narrows 'for every input' (looked for: loops, veiled, ifaces, maps, wideKeys, modest, calm, conditions, laid).
  DERIVED. THE GIVEN ROWS OF THIS SEAT. 8 by the template 'for every input the law returns true; each argument reads behind the call as it read before'; 0 by the template 'total and deterministic' (their statements: YtkhadhplfmejlaaTotals.lean).
  GIVEN WITH THE SEED: the statements are not yours to turn. If you find one false, say at which input.
  Laid BY PROGRAM, IN A SANDBOX (cutbox-rows.mjs): the forced cells as the released guide's own fill.sh prints them over the translation 1d39fa7a2fb78bc4… (all of the seat's roots in one cut). By AI agents, Wed Nov 11 2026. No macro, syntax, notation, axiom, sorry.
-/
import Derived.Test.YtkhadhplfmejlaaChecked
import GoSem.Claim
import GoSem.ClaimJoined
import GoSem.ClaimMapViews
import Derived.JoinedTies
import Derived.KernelRfl
namespace Go.Proofs.Ytkhadhplfmejlaa
/- THE CELL 'sum', in the pinned program and in every row, IS THE sha256 OF THE DUMP (.gsa) THAT YtkhadhplfmejlaaProg.lean LOADS. Nothing in Lean hashes anything: it is a label: what it is worth is what the hold of that sum in a sandbox is worth. -/
noncomputable def Try.pinned : Pinned := { name := "ytkhadhplfmejlaa", sum := "1d39fa7a2fb78bc4bf989a1a788114cc304ab238ae6c716735c77e169591371a", checked := Try.checked }
namespace Rows
def none {H : Type} : Left H := { results := [], args := [] }

/-- 'laws.FnExactLendTo': WHATEVER THE INPUT: true; the input reads as it did. -/
def fnExactLendToSpec : ChangeSpec := { name := "fnExactLendTo", fn := fun _ => fun
  | [d1, d2, d3, d4] => { results := [.lit (.bool true)], args := [d1, d2, d3, d4] }
  | _ => none }
def fnExactLendToRow : OpenClaim := { program := "ytkhadhplfmejlaa", sum := "1d39fa7a2fb78bc4bf989a1a788114cc304ab238ae6c716735c77e169591371a", func := "loop.example/g03001/laws.FnExactLendTo", spec := "fnExactLendTo", unfollowed := true, recurses := true, apart := false }
def FnExactLendToSaid : Prop := fnExactLendToRow.holds Try.pinned (OpenSpec.ofChange fnExactLendToSpec)

/-- ITS FALSE NEIGHBOUR: 'it returns false'. Refute it at one input. -/
def fnExactLendToWrong : ChangeSpec := { name := "fnExactLendTo", fn := fun _ => fun
  | [d1, d2, d3, d4] => { results := [.lit (.bool false)], args := [d1, d2, d3, d4] }
  | _ => none }
def FnExactLendToWrongFalsely : Prop := fnExactLendToRow.holds Try.pinned (OpenSpec.ofChange fnExactLendToWrong)

/-- 'laws.FnExactClashOf': WHATEVER THE INPUT: true; the input reads as it did. -/
def fnExactClashOfSpec : ChangeSpec := { name := "fnExactClashOf", fn := fun _ => fun
  | [d1, d2] => { results := [.lit (.bool true)], args := [d1, d2] }
  | _ => none }
def fnExactClashOfRow : OpenClaim := { program := "ytkhadhplfmejlaa", sum := "1d39fa7a2fb78bc4bf989a1a788114cc304ab238ae6c716735c77e169591371a", func := "loop.example/g03001/laws.FnExactClashOf", spec := "fnExactClashOf", unfollowed := true, recurses := true, apart := false }
def FnExactClashOfSaid : Prop := fnExactClashOfRow.holds Try.pinned (OpenSpec.ofChange fnExactClashOfSpec)

/-- ITS FALSE NEIGHBOUR: 'it returns false'. Refute it at one input. -/
def fnExactClashOfWrong : ChangeSpec := { name := "fnExactClashOf", fn := fun _ => fun
  | [d1, d2] => { results := [.lit (.bool false)], args := [d1, d2] }
  | _ => none }
def FnExactClashOfWrongFalsely : Prop := fnExactClashOfRow.holds Try.pinned (OpenSpec.ofChange fnExactClashOfWrong)

/-- 'laws.FnExactClashCount': WHATEVER THE INPUT: true; the input reads as it did. -/
def fnExactClashCountSpec : ChangeSpec := { name := "fnExactClashCount", fn := fun _ => fun
  | [d1, d2] => { results := [.lit (.bool true)], args := [d1, d2] }
  | _ => none }
def fnExactClashCountRow : OpenClaim := { program := "ytkhadhplfmejlaa", sum := "1d39fa7a2fb78bc4bf989a1a788114cc304ab238ae6c716735c77e169591371a", func := "loop.example/g03001/laws.FnExactClashCount", spec := "fnExactClashCount", unfollowed := true, recurses := true, apart := false }
def FnExactClashCountSaid : Prop := fnExactClashCountRow.holds Try.pinned (OpenSpec.ofChange fnExactClashCountSpec)

/-- ITS FALSE NEIGHBOUR: 'it returns false'. Refute it at one input. -/
def fnExactClashCountWrong : ChangeSpec := { name := "fnExactClashCount", fn := fun _ => fun
  | [d1, d2] => { results := [.lit (.bool false)], args := [d1, d2] }
  | _ => none }
def FnExactClashCountWrongFalsely : Prop := fnExactClashCountRow.holds Try.pinned (OpenSpec.ofChange fnExactClashCountWrong)

/-- 'laws.FnExactPutStored': WHATEVER THE INPUT: true; the input reads as it did. -/
def fnExactPutStoredSpec : ChangeSpec := { name := "fnExactPutStored", fn := fun _ => fun
  | [d1, d2, d3, d4] => { results := [.lit (.bool true)], args := [d1, d2, d3, d4] }
  | _ => none }
def fnExactPutStoredRow : OpenClaim := { program := "ytkhadhplfmejlaa", sum := "1d39fa7a2fb78bc4bf989a1a788114cc304ab238ae6c716735c77e169591371a", func := "loop.example/g03001/laws.FnExactPutStored", spec := "fnExactPutStored", inPlace := ["slices.overlaps[loop.example/g03001/impl.Stored]"], unfollowed := true, recurses := true, apart := false }
def FnExactPutStoredSaid : Prop := fnExactPutStoredRow.holds Try.pinned (OpenSpec.ofChange fnExactPutStoredSpec)

/-- ITS FALSE NEIGHBOUR: 'it returns false'. Refute it at one input. -/
def fnExactPutStoredWrong : ChangeSpec := { name := "fnExactPutStored", fn := fun _ => fun
  | [d1, d2, d3, d4] => { results := [.lit (.bool false)], args := [d1, d2, d3, d4] }
  | _ => none }
def FnExactPutStoredWrongFalsely : Prop := fnExactPutStoredRow.holds Try.pinned (OpenSpec.ofChange fnExactPutStoredWrong)

/-- 'laws.FnExactMergeStores': WHATEVER THE INPUT: true; the input reads as it did. -/
def fnExactMergeStoresSpec : ChangeSpec := { name := "fnExactMergeStores", fn := fun _ => fun
  | [d1, d2] => { results := [.lit (.bool true)], args := [d1, d2] }
  | _ => none }
def fnExactMergeStoresRow : OpenClaim := { program := "ytkhadhplfmejlaa", sum := "1d39fa7a2fb78bc4bf989a1a788114cc304ab238ae6c716735c77e169591371a", func := "loop.example/g03001/laws.FnExactMergeStores", spec := "fnExactMergeStores", unfollowed := true, recurses := true, apart := false }
def FnExactMergeStoresSaid : Prop := fnExactMergeStoresRow.holds Try.pinned (OpenSpec.ofChange fnExactMergeStoresSpec)

/-- ITS FALSE NEIGHBOUR: 'it returns false'. Refute it at one input. -/
def fnExactMergeStoresWrong : ChangeSpec := { name := "fnExactMergeStores", fn := fun _ => fun
  | [d1, d2] => { results := [.lit (.bool false)], args := [d1, d2] }
  | _ => none }
def FnExactMergeStoresWrongFalsely : Prop := fnExactMergeStoresRow.holds Try.pinned (OpenSpec.ofChange fnExactMergeStoresWrong)

/-- 'laws.FnExactMayFlow': WHATEVER THE INPUT: true; the input reads as it did. -/
def fnExactMayFlowSpec : ChangeSpec := { name := "fnExactMayFlow", fn := fun _ => fun
  | [d1, d2, d3, d4] => { results := [.lit (.bool true)], args := [d1, d2, d3, d4] }
  | _ => none }
def fnExactMayFlowRow : OpenClaim := { program := "ytkhadhplfmejlaa", sum := "1d39fa7a2fb78bc4bf989a1a788114cc304ab238ae6c716735c77e169591371a", func := "loop.example/g03001/laws.FnExactMayFlow", spec := "fnExactMayFlow", apart := false }
def FnExactMayFlowSaid : Prop := fnExactMayFlowRow.holds Try.pinned (OpenSpec.ofChange fnExactMayFlowSpec)

/-- ITS FALSE NEIGHBOUR: 'it returns false'. Refute it at one input. -/
def fnExactMayFlowWrong : ChangeSpec := { name := "fnExactMayFlow", fn := fun _ => fun
  | [d1, d2, d3, d4] => { results := [.lit (.bool false)], args := [d1, d2, d3, d4] }
  | _ => none }
def FnExactMayFlowWrongFalsely : Prop := fnExactMayFlowRow.holds Try.pinned (OpenSpec.ofChange fnExactMayFlowWrong)

/-- 'laws.FnExactTargetsOf': WHATEVER THE INPUT: true; the input reads as it did. -/
def fnExactTargetsOfSpec : ChangeSpec := { name := "fnExactTargetsOf", fn := fun _ => fun
  | [d1, d2, d3] => { results := [.lit (.bool true)], args := [d1, d2, d3] }
  | _ => none }
def fnExactTargetsOfRow : OpenClaim := { program := "ytkhadhplfmejlaa", sum := "1d39fa7a2fb78bc4bf989a1a788114cc304ab238ae6c716735c77e169591371a", func := "loop.example/g03001/laws.FnExactTargetsOf", spec := "fnExactTargetsOf", unfollowed := true, recurses := true, apart := false }
def FnExactTargetsOfSaid : Prop := fnExactTargetsOfRow.holds Try.pinned (OpenSpec.ofChange fnExactTargetsOfSpec)

/-- ITS FALSE NEIGHBOUR: 'it returns false'. Refute it at one input. -/
def fnExactTargetsOfWrong : ChangeSpec := { name := "fnExactTargetsOf", fn := fun _ => fun
  | [d1, d2, d3] => { results := [.lit (.bool false)], args := [d1, d2, d3] }
  | _ => none }
def FnExactTargetsOfWrongFalsely : Prop := fnExactTargetsOfRow.holds Try.pinned (OpenSpec.ofChange fnExactTargetsOfWrong)

/-- 'laws.FnExactNeverChosen': WHATEVER THE INPUT: true; the input reads as it did. -/
def fnExactNeverChosenSpec : ChangeSpec := { name := "fnExactNeverChosen", fn := fun _ => fun
  | [d] => { results := [.lit (.bool true)], args := [d] }
  | _ => none }
def fnExactNeverChosenRow : OpenClaim := { program := "ytkhadhplfmejlaa", sum := "1d39fa7a2fb78bc4bf989a1a788114cc304ab238ae6c716735c77e169591371a", func := "loop.example/g03001/laws.FnExactNeverChosen", spec := "fnExactNeverChosen", unfollowed := true, recurses := true, apart := false }
def FnExactNeverChosenSaid : Prop := fnExactNeverChosenRow.holds Try.pinned (OpenSpec.ofChange fnExactNeverChosenSpec)

/-- ITS FALSE NEIGHBOUR: 'it returns false'. Refute it at one input. -/
def fnExactNeverChosenWrong : ChangeSpec := { name := "fnExactNeverChosen", fn := fun _ => fun
  | [d] => { results := [.lit (.bool false)], args := [d] }
  | _ => none }
def FnExactNeverChosenWrongFalsely : Prop := fnExactNeverChosenRow.holds Try.pinned (OpenSpec.ofChange fnExactNeverChosenWrong)

/- THE SECOND FORM. 'bulk': how many values and letters a reading holds, each counted each time it is reached (what is shared counts as often as it is met; a slice's spare places count too). A statement '..UptoSaid' is the law's where the arguments, and the package variables that the reading takes, are together of bulk at most 1048576: NARROWER than '..Said'. Prove '..Said' where nothing that the law and all that it calls make is longer than what came in: it says more and counts as full. Else prove '..UptoSaid'. A law counts once. -/
mutual
def uptoBulk {H : Type} : DataW H → Nat
  | .lit (.string bytes) => bytes.length + 1
  | .lit _ => 1
  | .nil => 1
  | .ptr d => uptoBulk d + 1
  | .slice elems spare => uptoBulkAll elems + uptoBulkAll spare + 1
  | .agg parts => uptoBulkAll parts + 1
  | .iface _ d => uptoBulk d + 1
  | .map entries => uptoBulkEntries entries + 1
  | .held _ => 1
def uptoBulkAll {H : Type} : List (DataW H) → Nat
  | [] => 0
  | d :: r => uptoBulk d + uptoBulkAll r
def uptoBulkEntries {H : Type} : List (Lit × DataW H) → Nat
  | [] => 0
  | x :: r => uptoBulkEntry x + uptoBulkEntries r
def uptoBulkEntry {H : Type} : Lit × DataW H → Nat
  | (.string bytes, d) => bytes.length + uptoBulk d + 1
  | (_, d) => uptoBulk d + 1
 end
def uptoSmall : (H : Type) → List (DataW H) → Bool := fun _ ds => decide (uptoBulkAll ds ≤ 1048576)
def OpenSpec.upto (s : _root_.Go.ChangeSpec) : _root_.Go.OpenSpec := { _root_.Go.OpenSpec.ofChange s with cond := some uptoSmall }

/-- 'laws.FnExactLendTo', WHERE WHAT IT READS IS OF BULK AT MOST 1048576: true; the input reads as it did. -/
def fnExactLendToUptoRow : OpenClaim := { program := "ytkhadhplfmejlaa", sum := "1d39fa7a2fb78bc4bf989a1a788114cc304ab238ae6c716735c77e169591371a", func := "loop.example/g03001/laws.FnExactLendTo", spec := "fnExactLendTo", unfollowed := true, recurses := true, apart := false, narrowed := true }
def FnExactLendToUptoSaid : Prop := fnExactLendToUptoRow.holds Try.pinned (OpenSpec.upto fnExactLendToSpec)

/-- 'laws.FnExactClashOf', WHERE WHAT IT READS IS OF BULK AT MOST 1048576: true; the input reads as it did. -/
def fnExactClashOfUptoRow : OpenClaim := { program := "ytkhadhplfmejlaa", sum := "1d39fa7a2fb78bc4bf989a1a788114cc304ab238ae6c716735c77e169591371a", func := "loop.example/g03001/laws.FnExactClashOf", spec := "fnExactClashOf", unfollowed := true, recurses := true, apart := false, narrowed := true }
def FnExactClashOfUptoSaid : Prop := fnExactClashOfUptoRow.holds Try.pinned (OpenSpec.upto fnExactClashOfSpec)

/-- 'laws.FnExactClashCount', WHERE WHAT IT READS IS OF BULK AT MOST 1048576: true; the input reads as it did. -/
def fnExactClashCountUptoRow : OpenClaim := { program := "ytkhadhplfmejlaa", sum := "1d39fa7a2fb78bc4bf989a1a788114cc304ab238ae6c716735c77e169591371a", func := "loop.example/g03001/laws.FnExactClashCount", spec := "fnExactClashCount", unfollowed := true, recurses := true, apart := false, narrowed := true }
def FnExactClashCountUptoSaid : Prop := fnExactClashCountUptoRow.holds Try.pinned (OpenSpec.upto fnExactClashCountSpec)

/-- 'laws.FnExactPutStored', WHERE WHAT IT READS IS OF BULK AT MOST 1048576: true; the input reads as it did. -/
def fnExactPutStoredUptoRow : OpenClaim := { program := "ytkhadhplfmejlaa", sum := "1d39fa7a2fb78bc4bf989a1a788114cc304ab238ae6c716735c77e169591371a", func := "loop.example/g03001/laws.FnExactPutStored", spec := "fnExactPutStored", inPlace := ["slices.overlaps[loop.example/g03001/impl.Stored]"], unfollowed := true, recurses := true, apart := false, narrowed := true }
def FnExactPutStoredUptoSaid : Prop := fnExactPutStoredUptoRow.holds Try.pinned (OpenSpec.upto fnExactPutStoredSpec)

/-- 'laws.FnExactMergeStores', WHERE WHAT IT READS IS OF BULK AT MOST 1048576: true; the input reads as it did. -/
def fnExactMergeStoresUptoRow : OpenClaim := { program := "ytkhadhplfmejlaa", sum := "1d39fa7a2fb78bc4bf989a1a788114cc304ab238ae6c716735c77e169591371a", func := "loop.example/g03001/laws.FnExactMergeStores", spec := "fnExactMergeStores", unfollowed := true, recurses := true, apart := false, narrowed := true }
def FnExactMergeStoresUptoSaid : Prop := fnExactMergeStoresUptoRow.holds Try.pinned (OpenSpec.upto fnExactMergeStoresSpec)

/-- 'laws.FnExactMayFlow', WHERE WHAT IT READS IS OF BULK AT MOST 1048576: true; the input reads as it did. -/
def fnExactMayFlowUptoRow : OpenClaim := { program := "ytkhadhplfmejlaa", sum := "1d39fa7a2fb78bc4bf989a1a788114cc304ab238ae6c716735c77e169591371a", func := "loop.example/g03001/laws.FnExactMayFlow", spec := "fnExactMayFlow", apart := false, narrowed := true }
def FnExactMayFlowUptoSaid : Prop := fnExactMayFlowUptoRow.holds Try.pinned (OpenSpec.upto fnExactMayFlowSpec)

/-- 'laws.FnExactTargetsOf', WHERE WHAT IT READS IS OF BULK AT MOST 1048576: true; the input reads as it did. -/
def fnExactTargetsOfUptoRow : OpenClaim := { program := "ytkhadhplfmejlaa", sum := "1d39fa7a2fb78bc4bf989a1a788114cc304ab238ae6c716735c77e169591371a", func := "loop.example/g03001/laws.FnExactTargetsOf", spec := "fnExactTargetsOf", unfollowed := true, recurses := true, apart := false, narrowed := true }
def FnExactTargetsOfUptoSaid : Prop := fnExactTargetsOfUptoRow.holds Try.pinned (OpenSpec.upto fnExactTargetsOfSpec)

/-- 'laws.FnExactNeverChosen', WHERE WHAT IT READS IS OF BULK AT MOST 1048576: true; the input reads as it did. -/
def fnExactNeverChosenUptoRow : OpenClaim := { program := "ytkhadhplfmejlaa", sum := "1d39fa7a2fb78bc4bf989a1a788114cc304ab238ae6c716735c77e169591371a", func := "loop.example/g03001/laws.FnExactNeverChosen", spec := "fnExactNeverChosen", unfollowed := true, recurses := true, apart := false, narrowed := true }
def FnExactNeverChosenUptoSaid : Prop := fnExactNeverChosenUptoRow.holds Try.pinned (OpenSpec.upto fnExactNeverChosenSpec)

end Rows
end Go.Proofs.Ytkhadhplfmejlaa
