/-
  No cell of these rows narrows 'for every input' (looked for: loops, veiled, ifaces, maps, wideKeys, modest, calm, conditions, laid).
  DERIVED. THE GIVEN ROWS OF THIS SEAT. 4 by the template 'for every input the law returns true; each argument reads behind the call as it read before'; 0 by the template 'total and deterministic' (their statements: YtfhoemgpilpapaaGreatTotals.lean).
  GIVEN WITH THE SEED: the statements are not yours to turn. If you find one false, say at which input.
  Laid BY PROGRAM, IN A SANDBOX (cutbox-rows.mjs): the forced cells as the released guide's own fill.sh prints them over the translation be2765bc18f7287c… (all of the seat's roots in one cut). By AI agents, Wed Nov 11 2026. No macro, syntax, notation, axiom, sorry.
-/
import Derived.Test.YtfhoemgpilpapaaGreatChecked
import GoSem.Claim
import GoSem.ClaimJoined
import GoSem.ClaimMapViews
import Derived.JoinedTies
import Derived.KernelRfl
namespace Go.Proofs.YtfhoemgpilpapaaGreat
/- THE CELL 'sum', in the pinned program and in every row, IS THE sha256 OF THE DUMP (.gsa) THAT YtfhoemgpilpapaaGreatProg.lean LOADS. Nothing in Lean hashes anything: it is a label: what it is worth is what the hold of that sum in a sandbox is worth. -/
noncomputable def Tryz.pinned : Pinned := { name := "ytfhoemgpilpapaagreat", sum := "be2765bc18f7287cb2ef44f70f327d3442882bb1ee7c6e30c6cf2a6cd867ba02", checked := Tryz.checked }
namespace Rows
def none {H : Type} : Left H := { results := [], args := [] }

/-- 'laws.FnExactPowersOf': WHATEVER THE INPUT: true; the input reads as it did. -/
def fnExactPowersOfSpec : ChangeSpec := { name := "fnExactPowersOf", fn := fun _ => fun
  | [d1, d2, d3] => { results := [.lit (.bool true)], args := [d1, d2, d3] }
  | _ => none }
def fnExactPowersOfRow : OpenClaim := { program := "ytfhoemgpilpapaagreat", sum := "be2765bc18f7287cb2ef44f70f327d3442882bb1ee7c6e30c6cf2a6cd867ba02", func := "loop.example/g03001/laws.FnExactPowersOf", spec := "fnExactPowersOf", unfollowed := true, recurses := true, apart := false }
def FnExactPowersOfSaid : Prop := fnExactPowersOfRow.holds Tryz.pinned (OpenSpec.ofChange fnExactPowersOfSpec)

/-- ITS FALSE NEIGHBOUR: 'it returns false'. Refute it at one input. -/
def fnExactPowersOfWrong : ChangeSpec := { name := "fnExactPowersOf", fn := fun _ => fun
  | [d1, d2, d3] => { results := [.lit (.bool false)], args := [d1, d2, d3] }
  | _ => none }
def FnExactPowersOfWrongFalsely : Prop := fnExactPowersOfRow.holds Tryz.pinned (OpenSpec.ofChange fnExactPowersOfWrong)

/-- 'laws.FnExactWidestExt': WHATEVER THE INPUT: true; the input reads as it did. -/
def fnExactWidestExtSpec : ChangeSpec := { name := "fnExactWidestExt", fn := fun _ => fun
  | [d1, d2] => { results := [.lit (.bool true)], args := [d1, d2] }
  | _ => none }
def fnExactWidestExtRow : OpenClaim := { program := "ytfhoemgpilpapaagreat", sum := "be2765bc18f7287cb2ef44f70f327d3442882bb1ee7c6e30c6cf2a6cd867ba02", func := "loop.example/g03001/laws.FnExactWidestExt", spec := "fnExactWidestExt", unfollowed := true, recurses := true, apart := false }
def FnExactWidestExtSaid : Prop := fnExactWidestExtRow.holds Tryz.pinned (OpenSpec.ofChange fnExactWidestExtSpec)

/-- ITS FALSE NEIGHBOUR: 'it returns false'. Refute it at one input. -/
def fnExactWidestExtWrong : ChangeSpec := { name := "fnExactWidestExt", fn := fun _ => fun
  | [d1, d2] => { results := [.lit (.bool false)], args := [d1, d2] }
  | _ => none }
def FnExactWidestExtWrongFalsely : Prop := fnExactWidestExtRow.holds Tryz.pinned (OpenSpec.ofChange fnExactWidestExtWrong)

/-- 'laws.FnExactValuesFor': WHATEVER THE INPUT: true; the input reads as it did. -/
def fnExactValuesForSpec : ChangeSpec := { name := "fnExactValuesFor", fn := fun _ => fun
  | [d1, d2, d3] => { results := [.lit (.bool true)], args := [d1, d2, d3] }
  | _ => none }
def fnExactValuesForRow : OpenClaim := { program := "ytfhoemgpilpapaagreat", sum := "be2765bc18f7287cb2ef44f70f327d3442882bb1ee7c6e30c6cf2a6cd867ba02", func := "loop.example/g03001/laws.FnExactValuesFor", spec := "fnExactValuesFor", unfollowed := true, recurses := true, apart := false }
def FnExactValuesForSaid : Prop := fnExactValuesForRow.holds Tryz.pinned (OpenSpec.ofChange fnExactValuesForSpec)

/-- ITS FALSE NEIGHBOUR: 'it returns false'. Refute it at one input. -/
def fnExactValuesForWrong : ChangeSpec := { name := "fnExactValuesFor", fn := fun _ => fun
  | [d1, d2, d3] => { results := [.lit (.bool false)], args := [d1, d2, d3] }
  | _ => none }
def FnExactValuesForWrongFalsely : Prop := fnExactValuesForRow.holds Tryz.pinned (OpenSpec.ofChange fnExactValuesForWrong)

/-- 'laws.FnExactMayAct': WHATEVER THE INPUT: true; the input reads as it did. -/
def fnExactMayActSpec : ChangeSpec := { name := "fnExactMayAct", fn := fun _ => fun
  | [d1, d2, d3, d4] => { results := [.lit (.bool true)], args := [d1, d2, d3, d4] }
  | _ => none }
def fnExactMayActRow : OpenClaim := { program := "ytfhoemgpilpapaagreat", sum := "be2765bc18f7287cb2ef44f70f327d3442882bb1ee7c6e30c6cf2a6cd867ba02", func := "loop.example/g03001/laws.FnExactMayAct", spec := "fnExactMayAct", unfollowed := true, recurses := true, apart := false }
def FnExactMayActSaid : Prop := fnExactMayActRow.holds Tryz.pinned (OpenSpec.ofChange fnExactMayActSpec)

/-- ITS FALSE NEIGHBOUR: 'it returns false'. Refute it at one input. -/
def fnExactMayActWrong : ChangeSpec := { name := "fnExactMayAct", fn := fun _ => fun
  | [d1, d2, d3, d4] => { results := [.lit (.bool false)], args := [d1, d2, d3, d4] }
  | _ => none }
def FnExactMayActWrongFalsely : Prop := fnExactMayActRow.holds Tryz.pinned (OpenSpec.ofChange fnExactMayActWrong)

/- THE SECOND FORM. 'bulk': how many values and letters a reading holds, each counted each time it is reached (what is shared counts as often as it is met; a slice's spare places count too). A statement '..UptoSaid' is the law's where the arguments, and the package variables that the reading takes, are together of bulk at most 1048576: NARROWER than '..Said'. Prove '..Said' where nothing that the law and all that it calls make is longer than what came in: it says more and counts as full. Else prove '..UptoSaid'. A law counts once. -/
mutual
def uptoBulk {H : Type} : DataW H → Nat
  | .lit (.string bytes) => bytes.length + 1
  | .lit _ => 1
  | .nil => 1
  | .ptr d => uptoBulk d + 1
  | .slice elems spare => uptoBulkAll elems + uptoBulkAll spare + 1
  | .agg parts => uptoBulkAll parts + 1
  | .iface _ d => uptoBulk d + 1
  | .map entries => uptoBulkEntries entries + 1
  | .held _ => 1
def uptoBulkAll {H : Type} : List (DataW H) → Nat
  | [] => 0
  | d :: r => uptoBulk d + uptoBulkAll r
def uptoBulkEntries {H : Type} : List (Lit × DataW H) → Nat
  | [] => 0
  | x :: r => uptoBulkEntry x + uptoBulkEntries r
def uptoBulkEntry {H : Type} : Lit × DataW H → Nat
  | (.string bytes, d) => bytes.length + uptoBulk d + 1
  | (_, d) => uptoBulk d + 1
 end
def uptoSmall : (H : Type) → List (DataW H) → Bool := fun _ ds => decide (uptoBulkAll ds ≤ 1048576)
def OpenSpec.upto (s : _root_.Go.ChangeSpec) : _root_.Go.OpenSpec := { _root_.Go.OpenSpec.ofChange s with cond := some uptoSmall }

/-- 'laws.FnExactPowersOf', WHERE WHAT IT READS IS OF BULK AT MOST 1048576: true; the input reads as it did. -/
def fnExactPowersOfUptoRow : OpenClaim := { program := "ytfhoemgpilpapaagreat", sum := "be2765bc18f7287cb2ef44f70f327d3442882bb1ee7c6e30c6cf2a6cd867ba02", func := "loop.example/g03001/laws.FnExactPowersOf", spec := "fnExactPowersOf", unfollowed := true, recurses := true, apart := false, narrowed := true }
def FnExactPowersOfUptoSaid : Prop := fnExactPowersOfUptoRow.holds Tryz.pinned (OpenSpec.upto fnExactPowersOfSpec)

/-- 'laws.FnExactWidestExt', WHERE WHAT IT READS IS OF BULK AT MOST 1048576: true; the input reads as it did. -/
def fnExactWidestExtUptoRow : OpenClaim := { program := "ytfhoemgpilpapaagreat", sum := "be2765bc18f7287cb2ef44f70f327d3442882bb1ee7c6e30c6cf2a6cd867ba02", func := "loop.example/g03001/laws.FnExactWidestExt", spec := "fnExactWidestExt", unfollowed := true, recurses := true, apart := false, narrowed := true }
def FnExactWidestExtUptoSaid : Prop := fnExactWidestExtUptoRow.holds Tryz.pinned (OpenSpec.upto fnExactWidestExtSpec)

/-- 'laws.FnExactValuesFor', WHERE WHAT IT READS IS OF BULK AT MOST 1048576: true; the input reads as it did. -/
def fnExactValuesForUptoRow : OpenClaim := { program := "ytfhoemgpilpapaagreat", sum := "be2765bc18f7287cb2ef44f70f327d3442882bb1ee7c6e30c6cf2a6cd867ba02", func := "loop.example/g03001/laws.FnExactValuesFor", spec := "fnExactValuesFor", unfollowed := true, recurses := true, apart := false, narrowed := true }
def FnExactValuesForUptoSaid : Prop := fnExactValuesForUptoRow.holds Tryz.pinned (OpenSpec.upto fnExactValuesForSpec)

/-- 'laws.FnExactMayAct', WHERE WHAT IT READS IS OF BULK AT MOST 1048576: true; the input reads as it did. -/
def fnExactMayActUptoRow : OpenClaim := { program := "ytfhoemgpilpapaagreat", sum := "be2765bc18f7287cb2ef44f70f327d3442882bb1ee7c6e30c6cf2a6cd867ba02", func := "loop.example/g03001/laws.FnExactMayAct", spec := "fnExactMayAct", unfollowed := true, recurses := true, apart := false, narrowed := true }
def FnExactMayActUptoSaid : Prop := fnExactMayActUptoRow.holds Tryz.pinned (OpenSpec.upto fnExactMayActSpec)

end Rows
end Go.Proofs.YtfhoemgpilpapaaGreat
