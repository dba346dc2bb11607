/-
  No cell of these rows narrows 'for every input' (looked for: loops, veiled, ifaces, maps, wideKeys, modest, calm, conditions, laid).
  DERIVED. THE GIVEN ROWS OF THIS SEAT. 3 by the template 'for every input the law returns true; each argument reads behind the call as it read before'; 0 by the template 'total and deterministic' (their statements: YtafekceggpbnlaaTotals.lean).
  GIVEN WITH THE SEED: the statements are not yours to turn. If you find one false, say at which input.
  Laid BY PROGRAM, IN A SANDBOX (cutbox-rows.mjs): the forced cells as the released guide's own fill.sh prints them over the translation 579149790bc6b2a9… (all of the seat's roots in one cut). By AI agents, Wed Nov 11 2026. No macro, syntax, notation, axiom, sorry.
-/
import Derived.Test.YtafekceggpbnlaaChecked
import GoSem.Claim
import GoSem.ClaimJoined
import GoSem.ClaimMapViews
import Derived.JoinedTies
import Derived.KernelRfl
namespace Go.Proofs.Ytafekceggpbnlaa
/- THE CELL 'sum', in the pinned program and in every row, IS THE sha256 OF THE DUMP (.gsa) THAT YtafekceggpbnlaaProg.lean LOADS. Nothing in Lean hashes anything: it is a label: what it is worth is what the hold of that sum in a sandbox is worth. -/
noncomputable def Try.pinned : Pinned := { name := "ytafekceggpbnlaa", sum := "579149790bc6b2a9c3aadbaa04c5da70958005983d14aa01540de804edd8cc73", checked := Try.checked }
namespace Rows
def none {H : Type} : Left H := { results := [], args := [] }

/-- 'laws.FnExactFollowRequest': WHATEVER THE INPUT: true; the input reads as it did. -/
def fnExactFollowRequestSpec : ChangeSpec := { name := "fnExactFollowRequest", fn := fun _ => fun
  | [d1, d2] => { results := [.lit (.bool true)], args := [d1, d2] }
  | _ => none }
def fnExactFollowRequestRow : OpenClaim := { program := "ytafekceggpbnlaa", sum := "579149790bc6b2a9c3aadbaa04c5da70958005983d14aa01540de804edd8cc73", func := "loop.example/g03001/laws.FnExactFollowRequest", spec := "fnExactFollowRequest", unfollowed := true, recurses := true, plainKeys := false, apart := false }
def FnExactFollowRequestSaid : Prop := fnExactFollowRequestRow.holds Try.pinned (OpenSpec.ofChange fnExactFollowRequestSpec)

/-- ITS FALSE NEIGHBOUR: 'it returns false'. Refute it at one input. -/
def fnExactFollowRequestWrong : ChangeSpec := { name := "fnExactFollowRequest", fn := fun _ => fun
  | [d1, d2] => { results := [.lit (.bool false)], args := [d1, d2] }
  | _ => none }
def FnExactFollowRequestWrongFalsely : Prop := fnExactFollowRequestRow.holds Try.pinned (OpenSpec.ofChange fnExactFollowRequestWrong)

/-- 'laws.FnExactIsSettled': WHATEVER THE INPUT: true; the input reads as it did. -/
def fnExactIsSettledSpec : ChangeSpec := { name := "fnExactIsSettled", fn := fun _ => fun
  | [d1, d2] => { results := [.lit (.bool true)], args := [d1, d2] }
  | _ => none }
def fnExactIsSettledRow : OpenClaim := { program := "ytafekceggpbnlaa", sum := "579149790bc6b2a9c3aadbaa04c5da70958005983d14aa01540de804edd8cc73", func := "loop.example/g03001/laws.FnExactIsSettled", spec := "fnExactIsSettled", unfollowed := true, recurses := true, plainKeys := false, apart := false }
def FnExactIsSettledSaid : Prop := fnExactIsSettledRow.holds Try.pinned (OpenSpec.ofChange fnExactIsSettledSpec)

/-- ITS FALSE NEIGHBOUR: 'it returns false'. Refute it at one input. -/
def fnExactIsSettledWrong : ChangeSpec := { name := "fnExactIsSettled", fn := fun _ => fun
  | [d1, d2] => { results := [.lit (.bool false)], args := [d1, d2] }
  | _ => none }
def FnExactIsSettledWrongFalsely : Prop := fnExactIsSettledRow.holds Try.pinned (OpenSpec.ofChange fnExactIsSettledWrong)

/-- 'laws.FnExactLoopsFrom': WHATEVER THE INPUT: true; the input reads as it did. -/
def fnExactLoopsFromSpec : ChangeSpec := { name := "fnExactLoopsFrom", fn := fun _ => fun
  | [d1, d2] => { results := [.lit (.bool true)], args := [d1, d2] }
  | _ => none }
def fnExactLoopsFromRow : OpenClaim := { program := "ytafekceggpbnlaa", sum := "579149790bc6b2a9c3aadbaa04c5da70958005983d14aa01540de804edd8cc73", func := "loop.example/g03001/laws.FnExactLoopsFrom", spec := "fnExactLoopsFrom", unfollowed := true, recurses := true, plainKeys := false, apart := false }
def FnExactLoopsFromSaid : Prop := fnExactLoopsFromRow.holds Try.pinned (OpenSpec.ofChange fnExactLoopsFromSpec)

/-- ITS FALSE NEIGHBOUR: 'it returns false'. Refute it at one input. -/
def fnExactLoopsFromWrong : ChangeSpec := { name := "fnExactLoopsFrom", fn := fun _ => fun
  | [d1, d2] => { results := [.lit (.bool false)], args := [d1, d2] }
  | _ => none }
def FnExactLoopsFromWrongFalsely : Prop := fnExactLoopsFromRow.holds Try.pinned (OpenSpec.ofChange fnExactLoopsFromWrong)

/- THE SECOND FORM. 'bulk': how many values and letters a reading holds, each counted each time it is reached (what is shared counts as often as it is met; a slice's spare places count too). A statement '..UptoSaid' is the law's where the arguments, and the package variables that the reading takes, are together of bulk at most 1048576: NARROWER than '..Said'. Prove '..Said' where nothing that the law and all that it calls make is longer than what came in: it says more and counts as full. Else prove '..UptoSaid'. A law counts once. -/
mutual
def uptoBulk {H : Type} : DataW H → Nat
  | .lit (.string bytes) => bytes.length + 1
  | .lit _ => 1
  | .nil => 1
  | .ptr d => uptoBulk d + 1
  | .slice elems spare => uptoBulkAll elems + uptoBulkAll spare + 1
  | .agg parts => uptoBulkAll parts + 1
  | .iface _ d => uptoBulk d + 1
  | .map entries => uptoBulkEntries entries + 1
  | .held _ => 1
def uptoBulkAll {H : Type} : List (DataW H) → Nat
  | [] => 0
  | d :: r => uptoBulk d + uptoBulkAll r
def uptoBulkEntries {H : Type} : List (Lit × DataW H) → Nat
  | [] => 0
  | x :: r => uptoBulkEntry x + uptoBulkEntries r
def uptoBulkEntry {H : Type} : Lit × DataW H → Nat
  | (.string bytes, d) => bytes.length + uptoBulk d + 1
  | (_, d) => uptoBulk d + 1
 end
def uptoSmall : (H : Type) → List (DataW H) → Bool := fun _ ds => decide (uptoBulkAll ds ≤ 1048576)
def OpenSpec.upto (s : _root_.Go.ChangeSpec) : _root_.Go.OpenSpec := { _root_.Go.OpenSpec.ofChange s with cond := some uptoSmall }

/-- 'laws.FnExactFollowRequest', WHERE WHAT IT READS IS OF BULK AT MOST 1048576: true; the input reads as it did. -/
def fnExactFollowRequestUptoRow : OpenClaim := { program := "ytafekceggpbnlaa", sum := "579149790bc6b2a9c3aadbaa04c5da70958005983d14aa01540de804edd8cc73", func := "loop.example/g03001/laws.FnExactFollowRequest", spec := "fnExactFollowRequest", unfollowed := true, recurses := true, plainKeys := false, apart := false, narrowed := true }
def FnExactFollowRequestUptoSaid : Prop := fnExactFollowRequestUptoRow.holds Try.pinned (OpenSpec.upto fnExactFollowRequestSpec)

/-- 'laws.FnExactIsSettled', WHERE WHAT IT READS IS OF BULK AT MOST 1048576: true; the input reads as it did. -/
def fnExactIsSettledUptoRow : OpenClaim := { program := "ytafekceggpbnlaa", sum := "579149790bc6b2a9c3aadbaa04c5da70958005983d14aa01540de804edd8cc73", func := "loop.example/g03001/laws.FnExactIsSettled", spec := "fnExactIsSettled", unfollowed := true, recurses := true, plainKeys := false, apart := false, narrowed := true }
def FnExactIsSettledUptoSaid : Prop := fnExactIsSettledUptoRow.holds Try.pinned (OpenSpec.upto fnExactIsSettledSpec)

/-- 'laws.FnExactLoopsFrom', WHERE WHAT IT READS IS OF BULK AT MOST 1048576: true; the input reads as it did. -/
def fnExactLoopsFromUptoRow : OpenClaim := { program := "ytafekceggpbnlaa", sum := "579149790bc6b2a9c3aadbaa04c5da70958005983d14aa01540de804edd8cc73", func := "loop.example/g03001/laws.FnExactLoopsFrom", spec := "fnExactLoopsFrom", unfollowed := true, recurses := true, plainKeys := false, apart := false, narrowed := true }
def FnExactLoopsFromUptoSaid : Prop := fnExactLoopsFromUptoRow.holds Try.pinned (OpenSpec.upto fnExactLoopsFromSpec)

end Rows
end Go.Proofs.Ytafekceggpbnlaa
