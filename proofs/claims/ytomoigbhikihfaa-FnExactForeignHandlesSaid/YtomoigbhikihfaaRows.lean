/-
  No cell of these rows narrows 'for every input' (looked for: loops, veiled, ifaces, maps, wideKeys, modest, calm, conditions, laid).
  DERIVED. THE GIVEN ROWS OF THIS SEAT. 9 by the template 'for every input the law returns true; each argument reads behind the call as it read before'; 0 by the template 'total and deterministic' (their statements: YtomoigbhikihfaaTotals.lean).
  GIVEN WITH THE SEED: the statements are not yours to turn. If you find one false, say at which input.
  Laid BY PROGRAM, IN A SANDBOX (cutbox-rows.mjs): the forced cells as the released guide's own fill.sh prints them over the translation 6d53097ae4952e99… (all of the seat's roots in one cut). By AI agents, Wed Nov 11 2026. No macro, syntax, notation, axiom, sorry.
-/
import Derived.Test.YtomoigbhikihfaaChecked
import GoSem.Claim
import GoSem.ClaimJoined
import GoSem.ClaimMapViews
import Derived.JoinedTies
import Derived.KernelRfl
namespace Go.Proofs.Ytomoigbhikihfaa
/- THE CELL 'sum', in the pinned program and in every row, IS THE sha256 OF THE DUMP (.gsa) THAT YtomoigbhikihfaaProg.lean LOADS. Nothing in Lean hashes anything: it is a label: what it is worth is what the hold of that sum in a sandbox is worth. -/
noncomputable def Try.pinned : Pinned := { name := "ytomoigbhikihfaa", sum := "6d53097ae4952e99b99ba5b3e473e0cfb398113f4e8628564cf5214662daede1", checked := Try.checked }
namespace Rows
def none {H : Type} : Left H := { results := [], args := [] }

/-- 'laws.FnExactSeenBy': WHATEVER THE INPUT: true; the input reads as it did. -/
def fnExactSeenBySpec : ChangeSpec := { name := "fnExactSeenBy", fn := fun _ => fun
  | [d1, d2, d3] => { results := [.lit (.bool true)], args := [d1, d2, d3] }
  | _ => none }
def fnExactSeenByRow : OpenClaim := { program := "ytomoigbhikihfaa", sum := "6d53097ae4952e99b99ba5b3e473e0cfb398113f4e8628564cf5214662daede1", func := "loop.example/g03001/laws.FnExactSeenBy", spec := "fnExactSeenBy", unfollowed := true, recurses := true, plainKeys := false, apart := false }
def FnExactSeenBySaid : Prop := fnExactSeenByRow.holds Try.pinned (OpenSpec.ofChange fnExactSeenBySpec)

/-- ITS FALSE NEIGHBOUR: 'it returns false'. Refute it at one input. -/
def fnExactSeenByWrong : ChangeSpec := { name := "fnExactSeenBy", fn := fun _ => fun
  | [d1, d2, d3] => { results := [.lit (.bool false)], args := [d1, d2, d3] }
  | _ => none }
def FnExactSeenByWrongFalsely : Prop := fnExactSeenByRow.holds Try.pinned (OpenSpec.ofChange fnExactSeenByWrong)

/-- 'laws.FnExactHiddenCount': WHATEVER THE INPUT: true; the input reads as it did. -/
def fnExactHiddenCountSpec : ChangeSpec := { name := "fnExactHiddenCount", fn := fun _ => fun
  | [d1, d2, d3] => { results := [.lit (.bool true)], args := [d1, d2, d3] }
  | _ => none }
def fnExactHiddenCountRow : OpenClaim := { program := "ytomoigbhikihfaa", sum := "6d53097ae4952e99b99ba5b3e473e0cfb398113f4e8628564cf5214662daede1", func := "loop.example/g03001/laws.FnExactHiddenCount", spec := "fnExactHiddenCount", unfollowed := true, recurses := true, plainKeys := false, apart := false }
def FnExactHiddenCountSaid : Prop := fnExactHiddenCountRow.holds Try.pinned (OpenSpec.ofChange fnExactHiddenCountSpec)

/-- ITS FALSE NEIGHBOUR: 'it returns false'. Refute it at one input. -/
def fnExactHiddenCountWrong : ChangeSpec := { name := "fnExactHiddenCount", fn := fun _ => fun
  | [d1, d2, d3] => { results := [.lit (.bool false)], args := [d1, d2, d3] }
  | _ => none }
def FnExactHiddenCountWrongFalsely : Prop := fnExactHiddenCountRow.holds Try.pinned (OpenSpec.ofChange fnExactHiddenCountWrong)

/-- 'laws.FnExactSeesNode': WHATEVER THE INPUT: true; the input reads as it did. -/
def fnExactSeesNodeSpec : ChangeSpec := { name := "fnExactSeesNode", fn := fun _ => fun
  | [d1, d2, d3, d4] => { results := [.lit (.bool true)], args := [d1, d2, d3, d4] }
  | _ => none }
def fnExactSeesNodeRow : OpenClaim := { program := "ytomoigbhikihfaa", sum := "6d53097ae4952e99b99ba5b3e473e0cfb398113f4e8628564cf5214662daede1", func := "loop.example/g03001/laws.FnExactSeesNode", spec := "fnExactSeesNode", unfollowed := true, recurses := true, plainKeys := false, apart := false }
def FnExactSeesNodeSaid : Prop := fnExactSeesNodeRow.holds Try.pinned (OpenSpec.ofChange fnExactSeesNodeSpec)

/-- ITS FALSE NEIGHBOUR: 'it returns false'. Refute it at one input. -/
def fnExactSeesNodeWrong : ChangeSpec := { name := "fnExactSeesNode", fn := fun _ => fun
  | [d1, d2, d3, d4] => { results := [.lit (.bool false)], args := [d1, d2, d3, d4] }
  | _ => none }
def FnExactSeesNodeWrongFalsely : Prop := fnExactSeesNodeRow.holds Try.pinned (OpenSpec.ofChange fnExactSeesNodeWrong)

/-- 'laws.FnExactMayEdit': WHATEVER THE INPUT: true; the input reads as it did. -/
def fnExactMayEditSpec : ChangeSpec := { name := "fnExactMayEdit", fn := fun _ => fun
  | [d1, d2, d3] => { results := [.lit (.bool true)], args := [d1, d2, d3] }
  | _ => none }
def fnExactMayEditRow : OpenClaim := { program := "ytomoigbhikihfaa", sum := "6d53097ae4952e99b99ba5b3e473e0cfb398113f4e8628564cf5214662daede1", func := "loop.example/g03001/laws.FnExactMayEdit", spec := "fnExactMayEdit", unfollowed := true, recurses := true, plainKeys := false, apart := false }
def FnExactMayEditSaid : Prop := fnExactMayEditRow.holds Try.pinned (OpenSpec.ofChange fnExactMayEditSpec)

/-- ITS FALSE NEIGHBOUR: 'it returns false'. Refute it at one input. -/
def fnExactMayEditWrong : ChangeSpec := { name := "fnExactMayEdit", fn := fun _ => fun
  | [d1, d2, d3] => { results := [.lit (.bool false)], args := [d1, d2, d3] }
  | _ => none }
def FnExactMayEditWrongFalsely : Prop := fnExactMayEditRow.holds Try.pinned (OpenSpec.ofChange fnExactMayEditWrong)

/-- 'laws.FnExactGuardEdit': WHATEVER THE INPUT: true; the input reads as it did. -/
def fnExactGuardEditSpec : ChangeSpec := { name := "fnExactGuardEdit", fn := fun _ => fun
  | [d1, d2, d3] => { results := [.lit (.bool true)], args := [d1, d2, d3] }
  | _ => none }
def fnExactGuardEditRow : OpenClaim := { program := "ytomoigbhikihfaa", sum := "6d53097ae4952e99b99ba5b3e473e0cfb398113f4e8628564cf5214662daede1", func := "loop.example/g03001/laws.FnExactGuardEdit", spec := "fnExactGuardEdit", unfollowed := true, recurses := true, plainKeys := false, apart := false }
def FnExactGuardEditSaid : Prop := fnExactGuardEditRow.holds Try.pinned (OpenSpec.ofChange fnExactGuardEditSpec)

/-- ITS FALSE NEIGHBOUR: 'it returns false'. Refute it at one input. -/
def fnExactGuardEditWrong : ChangeSpec := { name := "fnExactGuardEdit", fn := fun _ => fun
  | [d1, d2, d3] => { results := [.lit (.bool false)], args := [d1, d2, d3] }
  | _ => none }
def FnExactGuardEditWrongFalsely : Prop := fnExactGuardEditRow.holds Try.pinned (OpenSpec.ofChange fnExactGuardEditWrong)

/-- 'laws.FnExactHandlesFor': WHATEVER THE INPUT: true; the input reads as it did. -/
def fnExactHandlesForSpec : ChangeSpec := { name := "fnExactHandlesFor", fn := fun _ => fun
  | [d1, d2, d3, d4] => { results := [.lit (.bool true)], args := [d1, d2, d3, d4] }
  | _ => none }
def fnExactHandlesForRow : OpenClaim := { program := "ytomoigbhikihfaa", sum := "6d53097ae4952e99b99ba5b3e473e0cfb398113f4e8628564cf5214662daede1", func := "loop.example/g03001/laws.FnExactHandlesFor", spec := "fnExactHandlesFor", unfollowed := true, recurses := true, plainKeys := false, apart := false }
def FnExactHandlesForSaid : Prop := fnExactHandlesForRow.holds Try.pinned (OpenSpec.ofChange fnExactHandlesForSpec)

/-- ITS FALSE NEIGHBOUR: 'it returns false'. Refute it at one input. -/
def fnExactHandlesForWrong : ChangeSpec := { name := "fnExactHandlesFor", fn := fun _ => fun
  | [d1, d2, d3, d4] => { results := [.lit (.bool false)], args := [d1, d2, d3, d4] }
  | _ => none }
def FnExactHandlesForWrongFalsely : Prop := fnExactHandlesForRow.holds Try.pinned (OpenSpec.ofChange fnExactHandlesForWrong)

/-- 'laws.FnExactResolveHandle': WHATEVER THE INPUT: true; the input reads as it did. -/
def fnExactResolveHandleSpec : ChangeSpec := { name := "fnExactResolveHandle", fn := fun _ => fun
  | [d1, d2, d3, d4, d5] => { results := [.lit (.bool true)], args := [d1, d2, d3, d4, d5] }
  | _ => none }
def fnExactResolveHandleRow : OpenClaim := { program := "ytomoigbhikihfaa", sum := "6d53097ae4952e99b99ba5b3e473e0cfb398113f4e8628564cf5214662daede1", func := "loop.example/g03001/laws.FnExactResolveHandle", spec := "fnExactResolveHandle", unfollowed := true, recurses := true, plainKeys := false, apart := false }
def FnExactResolveHandleSaid : Prop := fnExactResolveHandleRow.holds Try.pinned (OpenSpec.ofChange fnExactResolveHandleSpec)

/-- ITS FALSE NEIGHBOUR: 'it returns false'. Refute it at one input. -/
def fnExactResolveHandleWrong : ChangeSpec := { name := "fnExactResolveHandle", fn := fun _ => fun
  | [d1, d2, d3, d4, d5] => { results := [.lit (.bool false)], args := [d1, d2, d3, d4, d5] }
  | _ => none }
def FnExactResolveHandleWrongFalsely : Prop := fnExactResolveHandleRow.holds Try.pinned (OpenSpec.ofChange fnExactResolveHandleWrong)

/-- 'laws.FnExactEditByHandle': WHATEVER THE INPUT: true; the input reads as it did. -/
def fnExactEditByHandleSpec : ChangeSpec := { name := "fnExactEditByHandle", fn := fun _ => fun
  | [d1, d2, d3, d4, d5, d6] => { results := [.lit (.bool true)], args := [d1, d2, d3, d4, d5, d6] }
  | _ => none }
def fnExactEditByHandleRow : OpenClaim := { program := "ytomoigbhikihfaa", sum := "6d53097ae4952e99b99ba5b3e473e0cfb398113f4e8628564cf5214662daede1", func := "loop.example/g03001/laws.FnExactEditByHandle", spec := "fnExactEditByHandle", unfollowed := true, recurses := true, plainKeys := false, apart := false }
def FnExactEditByHandleSaid : Prop := fnExactEditByHandleRow.holds Try.pinned (OpenSpec.ofChange fnExactEditByHandleSpec)

/-- ITS FALSE NEIGHBOUR: 'it returns false'. Refute it at one input. -/
def fnExactEditByHandleWrong : ChangeSpec := { name := "fnExactEditByHandle", fn := fun _ => fun
  | [d1, d2, d3, d4, d5, d6] => { results := [.lit (.bool false)], args := [d1, d2, d3, d4, d5, d6] }
  | _ => none }
def FnExactEditByHandleWrongFalsely : Prop := fnExactEditByHandleRow.holds Try.pinned (OpenSpec.ofChange fnExactEditByHandleWrong)

/-- 'laws.FnExactForeignHandles': WHATEVER THE INPUT: true; the input reads as it did. -/
def fnExactForeignHandlesSpec : ChangeSpec := { name := "fnExactForeignHandles", fn := fun _ => fun
  | [d1, d2, d3, d4, d5] => { results := [.lit (.bool true)], args := [d1, d2, d3, d4, d5] }
  | _ => none }
def fnExactForeignHandlesRow : OpenClaim := { program := "ytomoigbhikihfaa", sum := "6d53097ae4952e99b99ba5b3e473e0cfb398113f4e8628564cf5214662daede1", func := "loop.example/g03001/laws.FnExactForeignHandles", spec := "fnExactForeignHandles", unfollowed := true, recurses := true, plainKeys := false, apart := false }
def FnExactForeignHandlesSaid : Prop := fnExactForeignHandlesRow.holds Try.pinned (OpenSpec.ofChange fnExactForeignHandlesSpec)

/-- ITS FALSE NEIGHBOUR: 'it returns false'. Refute it at one input. -/
def fnExactForeignHandlesWrong : ChangeSpec := { name := "fnExactForeignHandles", fn := fun _ => fun
  | [d1, d2, d3, d4, d5] => { results := [.lit (.bool false)], args := [d1, d2, d3, d4, d5] }
  | _ => none }
def FnExactForeignHandlesWrongFalsely : Prop := fnExactForeignHandlesRow.holds Try.pinned (OpenSpec.ofChange fnExactForeignHandlesWrong)

/- THE SECOND FORM. 'bulk': how many values and letters a reading holds, each counted each time it is reached (what is shared counts as often as it is met; a slice's spare places count too). A statement '..UptoSaid' is the law's where the arguments, and the package variables that the reading takes, are together of bulk at most 1048576: NARROWER than '..Said'. Prove '..Said' where nothing that the law and all that it calls make is longer than what came in: it says more and counts as full. Else prove '..UptoSaid'. A law counts once. -/
mutual
def uptoBulk {H : Type} : DataW H → Nat
  | .lit (.string bytes) => bytes.length + 1
  | .lit _ => 1
  | .nil => 1
  | .ptr d => uptoBulk d + 1
  | .slice elems spare => uptoBulkAll elems + uptoBulkAll spare + 1
  | .agg parts => uptoBulkAll parts + 1
  | .iface _ d => uptoBulk d + 1
  | .map entries => uptoBulkEntries entries + 1
  | .held _ => 1
def uptoBulkAll {H : Type} : List (DataW H) → Nat
  | [] => 0
  | d :: r => uptoBulk d + uptoBulkAll r
def uptoBulkEntries {H : Type} : List (Lit × DataW H) → Nat
  | [] => 0
  | x :: r => uptoBulkEntry x + uptoBulkEntries r
def uptoBulkEntry {H : Type} : Lit × DataW H → Nat
  | (.string bytes, d) => bytes.length + uptoBulk d + 1
  | (_, d) => uptoBulk d + 1
 end
def uptoSmall : (H : Type) → List (DataW H) → Bool := fun _ ds => decide (uptoBulkAll ds ≤ 1048576)
def OpenSpec.upto (s : _root_.Go.ChangeSpec) : _root_.Go.OpenSpec := { _root_.Go.OpenSpec.ofChange s with cond := some uptoSmall }

/-- 'laws.FnExactSeenBy', WHERE WHAT IT READS IS OF BULK AT MOST 1048576: true; the input reads as it did. -/
def fnExactSeenByUptoRow : OpenClaim := { program := "ytomoigbhikihfaa", sum := "6d53097ae4952e99b99ba5b3e473e0cfb398113f4e8628564cf5214662daede1", func := "loop.example/g03001/laws.FnExactSeenBy", spec := "fnExactSeenBy", unfollowed := true, recurses := true, plainKeys := false, apart := false, narrowed := true }
def FnExactSeenByUptoSaid : Prop := fnExactSeenByUptoRow.holds Try.pinned (OpenSpec.upto fnExactSeenBySpec)

/-- 'laws.FnExactHiddenCount', WHERE WHAT IT READS IS OF BULK AT MOST 1048576: true; the input reads as it did. -/
def fnExactHiddenCountUptoRow : OpenClaim := { program := "ytomoigbhikihfaa", sum := "6d53097ae4952e99b99ba5b3e473e0cfb398113f4e8628564cf5214662daede1", func := "loop.example/g03001/laws.FnExactHiddenCount", spec := "fnExactHiddenCount", unfollowed := true, recurses := true, plainKeys := false, apart := false, narrowed := true }
def FnExactHiddenCountUptoSaid : Prop := fnExactHiddenCountUptoRow.holds Try.pinned (OpenSpec.upto fnExactHiddenCountSpec)

/-- 'laws.FnExactSeesNode', WHERE WHAT IT READS IS OF BULK AT MOST 1048576: true; the input reads as it did. -/
def fnExactSeesNodeUptoRow : OpenClaim := { program := "ytomoigbhikihfaa", sum := "6d53097ae4952e99b99ba5b3e473e0cfb398113f4e8628564cf5214662daede1", func := "loop.example/g03001/laws.FnExactSeesNode", spec := "fnExactSeesNode", unfollowed := true, recurses := true, plainKeys := false, apart := false, narrowed := true }
def FnExactSeesNodeUptoSaid : Prop := fnExactSeesNodeUptoRow.holds Try.pinned (OpenSpec.upto fnExactSeesNodeSpec)

/-- 'laws.FnExactMayEdit', WHERE WHAT IT READS IS OF BULK AT MOST 1048576: true; the input reads as it did. -/
def fnExactMayEditUptoRow : OpenClaim := { program := "ytomoigbhikihfaa", sum := "6d53097ae4952e99b99ba5b3e473e0cfb398113f4e8628564cf5214662daede1", func := "loop.example/g03001/laws.FnExactMayEdit", spec := "fnExactMayEdit", unfollowed := true, recurses := true, plainKeys := false, apart := false, narrowed := true }
def FnExactMayEditUptoSaid : Prop := fnExactMayEditUptoRow.holds Try.pinned (OpenSpec.upto fnExactMayEditSpec)

/-- 'laws.FnExactGuardEdit', WHERE WHAT IT READS IS OF BULK AT MOST 1048576: true; the input reads as it did. -/
def fnExactGuardEditUptoRow : OpenClaim := { program := "ytomoigbhikihfaa", sum := "6d53097ae4952e99b99ba5b3e473e0cfb398113f4e8628564cf5214662daede1", func := "loop.example/g03001/laws.FnExactGuardEdit", spec := "fnExactGuardEdit", unfollowed := true, recurses := true, plainKeys := false, apart := false, narrowed := true }
def FnExactGuardEditUptoSaid : Prop := fnExactGuardEditUptoRow.holds Try.pinned (OpenSpec.upto fnExactGuardEditSpec)

/-- 'laws.FnExactHandlesFor', WHERE WHAT IT READS IS OF BULK AT MOST 1048576: true; the input reads as it did. -/
def fnExactHandlesForUptoRow : OpenClaim := { program := "ytomoigbhikihfaa", sum := "6d53097ae4952e99b99ba5b3e473e0cfb398113f4e8628564cf5214662daede1", func := "loop.example/g03001/laws.FnExactHandlesFor", spec := "fnExactHandlesFor", unfollowed := true, recurses := true, plainKeys := false, apart := false, narrowed := true }
def FnExactHandlesForUptoSaid : Prop := fnExactHandlesForUptoRow.holds Try.pinned (OpenSpec.upto fnExactHandlesForSpec)

/-- 'laws.FnExactResolveHandle', WHERE WHAT IT READS IS OF BULK AT MOST 1048576: true; the input reads as it did. -/
def fnExactResolveHandleUptoRow : OpenClaim := { program := "ytomoigbhikihfaa", sum := "6d53097ae4952e99b99ba5b3e473e0cfb398113f4e8628564cf5214662daede1", func := "loop.example/g03001/laws.FnExactResolveHandle", spec := "fnExactResolveHandle", unfollowed := true, recurses := true, plainKeys := false, apart := false, narrowed := true }
def FnExactResolveHandleUptoSaid : Prop := fnExactResolveHandleUptoRow.holds Try.pinned (OpenSpec.upto fnExactResolveHandleSpec)

/-- 'laws.FnExactEditByHandle', WHERE WHAT IT READS IS OF BULK AT MOST 1048576: true; the input reads as it did. -/
def fnExactEditByHandleUptoRow : OpenClaim := { program := "ytomoigbhikihfaa", sum := "6d53097ae4952e99b99ba5b3e473e0cfb398113f4e8628564cf5214662daede1", func := "loop.example/g03001/laws.FnExactEditByHandle", spec := "fnExactEditByHandle", unfollowed := true, recurses := true, plainKeys := false, apart := false, narrowed := true }
def FnExactEditByHandleUptoSaid : Prop := fnExactEditByHandleUptoRow.holds Try.pinned (OpenSpec.upto fnExactEditByHandleSpec)

/-- 'laws.FnExactForeignHandles', WHERE WHAT IT READS IS OF BULK AT MOST 1048576: true; the input reads as it did. -/
def fnExactForeignHandlesUptoRow : OpenClaim := { program := "ytomoigbhikihfaa", sum := "6d53097ae4952e99b99ba5b3e473e0cfb398113f4e8628564cf5214662daede1", func := "loop.example/g03001/laws.FnExactForeignHandles", spec := "fnExactForeignHandles", unfollowed := true, recurses := true, plainKeys := false, apart := false, narrowed := true }
def FnExactForeignHandlesUptoSaid : Prop := fnExactForeignHandlesUptoRow.holds Try.pinned (OpenSpec.upto fnExactForeignHandlesSpec)

end Rows
end Go.Proofs.Ytomoigbhikihfaa
