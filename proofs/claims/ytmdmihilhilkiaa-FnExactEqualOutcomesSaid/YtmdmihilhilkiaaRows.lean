/-
  No cell of these rows narrows 'for every input' (looked for: loops, veiled, ifaces, maps, wideKeys, modest, calm, conditions, laid).
  DERIVED. THE GIVEN ROWS OF THIS SEAT. 10 by the template 'for every input the law returns true; each argument reads behind the call as it read before'; 0 by the template 'total and deterministic' (their statements: YtmdmihilhilkiaaTotals.lean).
  GIVEN WITH THE SEED: the statements are not yours to turn. If you find one false, say at which input.
  Laid BY PROGRAM, IN A SANDBOX (cutbox-rows.mjs): the forced cells as the released guide's own fill.sh prints them over the translation b1d412f1b02611d3… (all of the seat's roots in one cut). By AI agents, Wed Nov 11 2026. No macro, syntax, notation, axiom, sorry.
-/
import Derived.Test.YtmdmihilhilkiaaChecked
import GoSem.Claim
import GoSem.ClaimJoined
import GoSem.ClaimMapViews
import Derived.JoinedTies
import Derived.KernelRfl
namespace Go.Proofs.Ytmdmihilhilkiaa
/- THE CELL 'sum', in the pinned program and in every row, IS THE sha256 OF THE DUMP (.gsa) THAT YtmdmihilhilkiaaProg.lean LOADS. Nothing in Lean hashes anything: it is a label: what it is worth is what the hold of that sum in a sandbox is worth. -/
noncomputable def Try.pinned : Pinned := { name := "ytmdmihilhilkiaa", sum := "b1d412f1b02611d329a1d84a1b61c64e52099a346033750a63513db48ee8d7a9", checked := Try.checked }
namespace Rows
def none {H : Type} : Left H := { results := [], args := [] }

/-- 'laws.FnExactUpdateName': WHATEVER THE INPUT: true; the input reads as it did. -/
def fnExactUpdateNameSpec : ChangeSpec := { name := "fnExactUpdateName", fn := fun _ => fun
  | [d] => { results := [.lit (.bool true)], args := [d] }
  | _ => none }
def fnExactUpdateNameRow : OpenClaim := { program := "ytmdmihilhilkiaa", sum := "b1d412f1b02611d329a1d84a1b61c64e52099a346033750a63513db48ee8d7a9", func := "loop.example/g03001/laws.FnExactUpdateName", spec := "fnExactUpdateName", apart := false }
def FnExactUpdateNameSaid : Prop := fnExactUpdateNameRow.holds Try.pinned (OpenSpec.ofChange fnExactUpdateNameSpec)

/-- ITS FALSE NEIGHBOUR: 'it returns false'. Refute it at one input. -/
def fnExactUpdateNameWrong : ChangeSpec := { name := "fnExactUpdateName", fn := fun _ => fun
  | [d] => { results := [.lit (.bool false)], args := [d] }
  | _ => none }
def FnExactUpdateNameWrongFalsely : Prop := fnExactUpdateNameRow.holds Try.pinned (OpenSpec.ofChange fnExactUpdateNameWrong)

/-- 'laws.FnExactEventName': WHATEVER THE INPUT: true; the input reads as it did. -/
def fnExactEventNameSpec : ChangeSpec := { name := "fnExactEventName", fn := fun _ => fun
  | [d] => { results := [.lit (.bool true)], args := [d] }
  | _ => none }
def fnExactEventNameRow : OpenClaim := { program := "ytmdmihilhilkiaa", sum := "b1d412f1b02611d329a1d84a1b61c64e52099a346033750a63513db48ee8d7a9", func := "loop.example/g03001/laws.FnExactEventName", spec := "fnExactEventName", apart := false }
def FnExactEventNameSaid : Prop := fnExactEventNameRow.holds Try.pinned (OpenSpec.ofChange fnExactEventNameSpec)

/-- ITS FALSE NEIGHBOUR: 'it returns false'. Refute it at one input. -/
def fnExactEventNameWrong : ChangeSpec := { name := "fnExactEventName", fn := fun _ => fun
  | [d] => { results := [.lit (.bool false)], args := [d] }
  | _ => none }
def FnExactEventNameWrongFalsely : Prop := fnExactEventNameRow.holds Try.pinned (OpenSpec.ofChange fnExactEventNameWrong)

/-- 'laws.FnExactCloseWindow': WHATEVER THE INPUT: true; the input reads as it did. -/
def fnExactCloseWindowSpec : ChangeSpec := { name := "fnExactCloseWindow", fn := fun _ => fun
  | [d] => { results := [.lit (.bool true)], args := [d] }
  | _ => none }
def fnExactCloseWindowRow : OpenClaim := { program := "ytmdmihilhilkiaa", sum := "b1d412f1b02611d329a1d84a1b61c64e52099a346033750a63513db48ee8d7a9", func := "loop.example/g03001/laws.FnExactCloseWindow", spec := "fnExactCloseWindow", apart := false }
def FnExactCloseWindowSaid : Prop := fnExactCloseWindowRow.holds Try.pinned (OpenSpec.ofChange fnExactCloseWindowSpec)

/-- ITS FALSE NEIGHBOUR: 'it returns false'. Refute it at one input. -/
def fnExactCloseWindowWrong : ChangeSpec := { name := "fnExactCloseWindow", fn := fun _ => fun
  | [d] => { results := [.lit (.bool false)], args := [d] }
  | _ => none }
def FnExactCloseWindowWrongFalsely : Prop := fnExactCloseWindowRow.holds Try.pinned (OpenSpec.ofChange fnExactCloseWindowWrong)

/-- 'laws.FnExactEqualStores': WHATEVER THE INPUT: true; the input reads as it did. -/
def fnExactEqualStoresSpec : ChangeSpec := { name := "fnExactEqualStores", fn := fun _ => fun
  | [d1, d2] => { results := [.lit (.bool true)], args := [d1, d2] }
  | _ => none }
def fnExactEqualStoresRow : OpenClaim := { program := "ytmdmihilhilkiaa", sum := "b1d412f1b02611d329a1d84a1b61c64e52099a346033750a63513db48ee8d7a9", func := "loop.example/g03001/laws.FnExactEqualStores", spec := "fnExactEqualStores", apart := false }
def FnExactEqualStoresSaid : Prop := fnExactEqualStoresRow.holds Try.pinned (OpenSpec.ofChange fnExactEqualStoresSpec)

/-- ITS FALSE NEIGHBOUR: 'it returns false'. Refute it at one input. -/
def fnExactEqualStoresWrong : ChangeSpec := { name := "fnExactEqualStores", fn := fun _ => fun
  | [d1, d2] => { results := [.lit (.bool false)], args := [d1, d2] }
  | _ => none }
def FnExactEqualStoresWrongFalsely : Prop := fnExactEqualStoresRow.holds Try.pinned (OpenSpec.ofChange fnExactEqualStoresWrong)

/-- 'laws.FnExactReadWindow': WHATEVER THE INPUT: true; the input reads as it did. -/
def fnExactReadWindowSpec : ChangeSpec := { name := "fnExactReadWindow", fn := fun _ => fun
  | [d1, d2, d3] => { results := [.lit (.bool true)], args := [d1, d2, d3] }
  | _ => none }
def fnExactReadWindowRow : OpenClaim := { program := "ytmdmihilhilkiaa", sum := "b1d412f1b02611d329a1d84a1b61c64e52099a346033750a63513db48ee8d7a9", func := "loop.example/g03001/laws.FnExactReadWindow", spec := "fnExactReadWindow", unfollowed := true, recurses := true, apart := false }
def FnExactReadWindowSaid : Prop := fnExactReadWindowRow.holds Try.pinned (OpenSpec.ofChange fnExactReadWindowSpec)

/-- ITS FALSE NEIGHBOUR: 'it returns false'. Refute it at one input. -/
def fnExactReadWindowWrong : ChangeSpec := { name := "fnExactReadWindow", fn := fun _ => fun
  | [d1, d2, d3] => { results := [.lit (.bool false)], args := [d1, d2, d3] }
  | _ => none }
def FnExactReadWindowWrongFalsely : Prop := fnExactReadWindowRow.holds Try.pinned (OpenSpec.ofChange fnExactReadWindowWrong)

/-- 'laws.FnExactOpenWindow': WHATEVER THE INPUT: true; the input reads as it did. -/
def fnExactOpenWindowSpec : ChangeSpec := { name := "fnExactOpenWindow", fn := fun _ => fun
  | [d1, d2] => { results := [.lit (.bool true)], args := [d1, d2] }
  | _ => none }
def fnExactOpenWindowRow : OpenClaim := { program := "ytmdmihilhilkiaa", sum := "b1d412f1b02611d329a1d84a1b61c64e52099a346033750a63513db48ee8d7a9", func := "loop.example/g03001/laws.FnExactOpenWindow", spec := "fnExactOpenWindow", unfollowed := true, recurses := true, apart := false }
def FnExactOpenWindowSaid : Prop := fnExactOpenWindowRow.holds Try.pinned (OpenSpec.ofChange fnExactOpenWindowSpec)

/-- ITS FALSE NEIGHBOUR: 'it returns false'. Refute it at one input. -/
def fnExactOpenWindowWrong : ChangeSpec := { name := "fnExactOpenWindow", fn := fun _ => fun
  | [d1, d2] => { results := [.lit (.bool false)], args := [d1, d2] }
  | _ => none }
def FnExactOpenWindowWrongFalsely : Prop := fnExactOpenWindowRow.holds Try.pinned (OpenSpec.ofChange fnExactOpenWindowWrong)

/-- 'laws.FnExactEqualOutcomes': WHATEVER THE INPUT: true; the input reads as it did. -/
def fnExactEqualOutcomesSpec : ChangeSpec := { name := "fnExactEqualOutcomes", fn := fun _ => fun
  | [d1, d2] => { results := [.lit (.bool true)], args := [d1, d2] }
  | _ => none }
def fnExactEqualOutcomesRow : OpenClaim := { program := "ytmdmihilhilkiaa", sum := "b1d412f1b02611d329a1d84a1b61c64e52099a346033750a63513db48ee8d7a9", func := "loop.example/g03001/laws.FnExactEqualOutcomes", spec := "fnExactEqualOutcomes", apart := false }
def FnExactEqualOutcomesSaid : Prop := fnExactEqualOutcomesRow.holds Try.pinned (OpenSpec.ofChange fnExactEqualOutcomesSpec)

/-- ITS FALSE NEIGHBOUR: 'it returns false'. Refute it at one input. -/
def fnExactEqualOutcomesWrong : ChangeSpec := { name := "fnExactEqualOutcomes", fn := fun _ => fun
  | [d1, d2] => { results := [.lit (.bool false)], args := [d1, d2] }
  | _ => none }
def FnExactEqualOutcomesWrongFalsely : Prop := fnExactEqualOutcomesRow.holds Try.pinned (OpenSpec.ofChange fnExactEqualOutcomesWrong)

/-- 'laws.FnExactCountTable': WHATEVER THE INPUT: true; the input reads as it did. -/
def fnExactCountTableSpec : ChangeSpec := { name := "fnExactCountTable", fn := fun _ => fun
  | [d] => { results := [.lit (.bool true)], args := [d] }
  | _ => none }
def fnExactCountTableRow : OpenClaim := { program := "ytmdmihilhilkiaa", sum := "b1d412f1b02611d329a1d84a1b61c64e52099a346033750a63513db48ee8d7a9", func := "loop.example/g03001/laws.FnExactCountTable", spec := "fnExactCountTable", apart := false }
def FnExactCountTableSaid : Prop := fnExactCountTableRow.holds Try.pinned (OpenSpec.ofChange fnExactCountTableSpec)

/-- ITS FALSE NEIGHBOUR: 'it returns false'. Refute it at one input. -/
def fnExactCountTableWrong : ChangeSpec := { name := "fnExactCountTable", fn := fun _ => fun
  | [d] => { results := [.lit (.bool false)], args := [d] }
  | _ => none }
def FnExactCountTableWrongFalsely : Prop := fnExactCountTableRow.holds Try.pinned (OpenSpec.ofChange fnExactCountTableWrong)

/-- 'laws.FnExactLongestBucket': WHATEVER THE INPUT: true; the input reads as it did. -/
def fnExactLongestBucketSpec : ChangeSpec := { name := "fnExactLongestBucket", fn := fun _ => fun
  | [d] => { results := [.lit (.bool true)], args := [d] }
  | _ => none }
def fnExactLongestBucketRow : OpenClaim := { program := "ytmdmihilhilkiaa", sum := "b1d412f1b02611d329a1d84a1b61c64e52099a346033750a63513db48ee8d7a9", func := "loop.example/g03001/laws.FnExactLongestBucket", spec := "fnExactLongestBucket", apart := false }
def FnExactLongestBucketSaid : Prop := fnExactLongestBucketRow.holds Try.pinned (OpenSpec.ofChange fnExactLongestBucketSpec)

/-- ITS FALSE NEIGHBOUR: 'it returns false'. Refute it at one input. -/
def fnExactLongestBucketWrong : ChangeSpec := { name := "fnExactLongestBucket", fn := fun _ => fun
  | [d] => { results := [.lit (.bool false)], args := [d] }
  | _ => none }
def FnExactLongestBucketWrongFalsely : Prop := fnExactLongestBucketRow.holds Try.pinned (OpenSpec.ofChange fnExactLongestBucketWrong)

/-- 'laws.FnExactChain': WHATEVER THE INPUT: true; the input reads as it did. -/
def fnExactChainSpec : ChangeSpec := { name := "fnExactChain", fn := fun _ => fun
  | [d1, d2, d3] => { results := [.lit (.bool true)], args := [d1, d2, d3] }
  | _ => none }
def fnExactChainRow : OpenClaim := { program := "ytmdmihilhilkiaa", sum := "b1d412f1b02611d329a1d84a1b61c64e52099a346033750a63513db48ee8d7a9", func := "loop.example/g03001/laws.FnExactChain", spec := "fnExactChain", apart := false }
def FnExactChainSaid : Prop := fnExactChainRow.holds Try.pinned (OpenSpec.ofChange fnExactChainSpec)

/-- ITS FALSE NEIGHBOUR: 'it returns false'. Refute it at one input. -/
def fnExactChainWrong : ChangeSpec := { name := "fnExactChain", fn := fun _ => fun
  | [d1, d2, d3] => { results := [.lit (.bool false)], args := [d1, d2, d3] }
  | _ => none }
def FnExactChainWrongFalsely : Prop := fnExactChainRow.holds Try.pinned (OpenSpec.ofChange fnExactChainWrong)

/- THE SECOND FORM. 'bulk': how many values and letters a reading holds, each counted each time it is reached (what is shared counts as often as it is met; a slice's spare places count too). A statement '..UptoSaid' is the law's where the arguments, and the package variables that the reading takes, are together of bulk at most 1048576: NARROWER than '..Said'. Prove '..Said' where nothing that the law and all that it calls make is longer than what came in: it says more and counts as full. Else prove '..UptoSaid'. A law counts once. -/
mutual
def uptoBulk {H : Type} : DataW H → Nat
  | .lit (.string bytes) => bytes.length + 1
  | .lit _ => 1
  | .nil => 1
  | .ptr d => uptoBulk d + 1
  | .slice elems spare => uptoBulkAll elems + uptoBulkAll spare + 1
  | .agg parts => uptoBulkAll parts + 1
  | .iface _ d => uptoBulk d + 1
  | .map entries => uptoBulkEntries entries + 1
  | .held _ => 1
def uptoBulkAll {H : Type} : List (DataW H) → Nat
  | [] => 0
  | d :: r => uptoBulk d + uptoBulkAll r
def uptoBulkEntries {H : Type} : List (Lit × DataW H) → Nat
  | [] => 0
  | x :: r => uptoBulkEntry x + uptoBulkEntries r
def uptoBulkEntry {H : Type} : Lit × DataW H → Nat
  | (.string bytes, d) => bytes.length + uptoBulk d + 1
  | (_, d) => uptoBulk d + 1
 end
def uptoSmall : (H : Type) → List (DataW H) → Bool := fun _ ds => decide (uptoBulkAll ds ≤ 1048576)
def OpenSpec.upto (s : _root_.Go.ChangeSpec) : _root_.Go.OpenSpec := { _root_.Go.OpenSpec.ofChange s with cond := some uptoSmall }

/-- 'laws.FnExactUpdateName', WHERE WHAT IT READS IS OF BULK AT MOST 1048576: true; the input reads as it did. -/
def fnExactUpdateNameUptoRow : OpenClaim := { program := "ytmdmihilhilkiaa", sum := "b1d412f1b02611d329a1d84a1b61c64e52099a346033750a63513db48ee8d7a9", func := "loop.example/g03001/laws.FnExactUpdateName", spec := "fnExactUpdateName", apart := false, narrowed := true }
def FnExactUpdateNameUptoSaid : Prop := fnExactUpdateNameUptoRow.holds Try.pinned (OpenSpec.upto fnExactUpdateNameSpec)

/-- 'laws.FnExactEventName', WHERE WHAT IT READS IS OF BULK AT MOST 1048576: true; the input reads as it did. -/
def fnExactEventNameUptoRow : OpenClaim := { program := "ytmdmihilhilkiaa", sum := "b1d412f1b02611d329a1d84a1b61c64e52099a346033750a63513db48ee8d7a9", func := "loop.example/g03001/laws.FnExactEventName", spec := "fnExactEventName", apart := false, narrowed := true }
def FnExactEventNameUptoSaid : Prop := fnExactEventNameUptoRow.holds Try.pinned (OpenSpec.upto fnExactEventNameSpec)

/-- 'laws.FnExactCloseWindow', WHERE WHAT IT READS IS OF BULK AT MOST 1048576: true; the input reads as it did. -/
def fnExactCloseWindowUptoRow : OpenClaim := { program := "ytmdmihilhilkiaa", sum := "b1d412f1b02611d329a1d84a1b61c64e52099a346033750a63513db48ee8d7a9", func := "loop.example/g03001/laws.FnExactCloseWindow", spec := "fnExactCloseWindow", apart := false, narrowed := true }
def FnExactCloseWindowUptoSaid : Prop := fnExactCloseWindowUptoRow.holds Try.pinned (OpenSpec.upto fnExactCloseWindowSpec)

/-- 'laws.FnExactEqualStores', WHERE WHAT IT READS IS OF BULK AT MOST 1048576: true; the input reads as it did. -/
def fnExactEqualStoresUptoRow : OpenClaim := { program := "ytmdmihilhilkiaa", sum := "b1d412f1b02611d329a1d84a1b61c64e52099a346033750a63513db48ee8d7a9", func := "loop.example/g03001/laws.FnExactEqualStores", spec := "fnExactEqualStores", apart := false, narrowed := true }
def FnExactEqualStoresUptoSaid : Prop := fnExactEqualStoresUptoRow.holds Try.pinned (OpenSpec.upto fnExactEqualStoresSpec)

/-- 'laws.FnExactReadWindow', WHERE WHAT IT READS IS OF BULK AT MOST 1048576: true; the input reads as it did. -/
def fnExactReadWindowUptoRow : OpenClaim := { program := "ytmdmihilhilkiaa", sum := "b1d412f1b02611d329a1d84a1b61c64e52099a346033750a63513db48ee8d7a9", func := "loop.example/g03001/laws.FnExactReadWindow", spec := "fnExactReadWindow", unfollowed := true, recurses := true, apart := false, narrowed := true }
def FnExactReadWindowUptoSaid : Prop := fnExactReadWindowUptoRow.holds Try.pinned (OpenSpec.upto fnExactReadWindowSpec)

/-- 'laws.FnExactOpenWindow', WHERE WHAT IT READS IS OF BULK AT MOST 1048576: true; the input reads as it did. -/
def fnExactOpenWindowUptoRow : OpenClaim := { program := "ytmdmihilhilkiaa", sum := "b1d412f1b02611d329a1d84a1b61c64e52099a346033750a63513db48ee8d7a9", func := "loop.example/g03001/laws.FnExactOpenWindow", spec := "fnExactOpenWindow", unfollowed := true, recurses := true, apart := false, narrowed := true }
def FnExactOpenWindowUptoSaid : Prop := fnExactOpenWindowUptoRow.holds Try.pinned (OpenSpec.upto fnExactOpenWindowSpec)

/-- 'laws.FnExactEqualOutcomes', WHERE WHAT IT READS IS OF BULK AT MOST 1048576: true; the input reads as it did. -/
def fnExactEqualOutcomesUptoRow : OpenClaim := { program := "ytmdmihilhilkiaa", sum := "b1d412f1b02611d329a1d84a1b61c64e52099a346033750a63513db48ee8d7a9", func := "loop.example/g03001/laws.FnExactEqualOutcomes", spec := "fnExactEqualOutcomes", apart := false, narrowed := true }
def FnExactEqualOutcomesUptoSaid : Prop := fnExactEqualOutcomesUptoRow.holds Try.pinned (OpenSpec.upto fnExactEqualOutcomesSpec)

/-- 'laws.FnExactCountTable', WHERE WHAT IT READS IS OF BULK AT MOST 1048576: true; the input reads as it did. -/
def fnExactCountTableUptoRow : OpenClaim := { program := "ytmdmihilhilkiaa", sum := "b1d412f1b02611d329a1d84a1b61c64e52099a346033750a63513db48ee8d7a9", func := "loop.example/g03001/laws.FnExactCountTable", spec := "fnExactCountTable", apart := false, narrowed := true }
def FnExactCountTableUptoSaid : Prop := fnExactCountTableUptoRow.holds Try.pinned (OpenSpec.upto fnExactCountTableSpec)

/-- 'laws.FnExactLongestBucket', WHERE WHAT IT READS IS OF BULK AT MOST 1048576: true; the input reads as it did. -/
def fnExactLongestBucketUptoRow : OpenClaim := { program := "ytmdmihilhilkiaa", sum := "b1d412f1b02611d329a1d84a1b61c64e52099a346033750a63513db48ee8d7a9", func := "loop.example/g03001/laws.FnExactLongestBucket", spec := "fnExactLongestBucket", apart := false, narrowed := true }
def FnExactLongestBucketUptoSaid : Prop := fnExactLongestBucketUptoRow.holds Try.pinned (OpenSpec.upto fnExactLongestBucketSpec)

/-- 'laws.FnExactChain', WHERE WHAT IT READS IS OF BULK AT MOST 1048576: true; the input reads as it did. -/
def fnExactChainUptoRow : OpenClaim := { program := "ytmdmihilhilkiaa", sum := "b1d412f1b02611d329a1d84a1b61c64e52099a346033750a63513db48ee8d7a9", func := "loop.example/g03001/laws.FnExactChain", spec := "fnExactChain", apart := false, narrowed := true }
def FnExactChainUptoSaid : Prop := fnExactChainUptoRow.holds Try.pinned (OpenSpec.upto fnExactChainSpec)

end Rows
end Go.Proofs.Ytmdmihilhilkiaa
