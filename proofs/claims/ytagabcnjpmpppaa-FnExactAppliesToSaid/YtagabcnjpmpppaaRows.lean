/-
  No cell of these rows narrows 'for every input' (looked for: loops, veiled, ifaces, maps, wideKeys, modest, calm, conditions, laid).
  DERIVED. THE GIVEN ROWS OF THIS SEAT. 12 by the template 'for every input the law returns true; each argument reads behind the call as it read before'; 0 by the template 'total and deterministic' (their statements: YtagabcnjpmpppaaTotals.lean).
  GIVEN WITH THE SEED: the statements are not yours to turn. If you find one false, say at which input.
  Laid BY PROGRAM, IN A SANDBOX (cutbox-rows.mjs): the forced cells as the released guide's own fill.sh prints them over the translation feb021dca02b4230… (all of the seat's roots in one cut). By AI agents, Wed Nov 11 2026. No macro, syntax, notation, axiom, sorry.
-/
import Derived.Test.YtagabcnjpmpppaaChecked
import GoSem.Claim
import GoSem.ClaimJoined
import GoSem.ClaimMapViews
import Derived.JoinedTies
import Derived.KernelRfl
namespace Go.Proofs.Ytagabcnjpmpppaa
/- THE CELL 'sum', in the pinned program and in every row, IS THE sha256 OF THE DUMP (.gsa) THAT YtagabcnjpmpppaaProg.lean LOADS. Nothing in Lean hashes anything: it is a label: what it is worth is what the hold of that sum in a sandbox is worth. -/
noncomputable def Try.pinned : Pinned := { name := "ytagabcnjpmpppaa", sum := "feb021dca02b4230086622715e13b5a0a8d91b609c6589d2c95fdd640ecc5fd5", checked := Try.checked }
namespace Rows
def none {H : Type} : Left H := { results := [], args := [] }

/-- 'laws.FnExactIsNarrower': WHATEVER THE INPUT: true; the input reads as it did. -/
def fnExactIsNarrowerSpec : ChangeSpec := { name := "fnExactIsNarrower", fn := fun _ => fun
  | [d1, d2] => { results := [.lit (.bool true)], args := [d1, d2] }
  | _ => none }
def fnExactIsNarrowerRow : OpenClaim := { program := "ytagabcnjpmpppaa", sum := "feb021dca02b4230086622715e13b5a0a8d91b609c6589d2c95fdd640ecc5fd5", func := "loop.example/g03001/laws.FnExactIsNarrower", spec := "fnExactIsNarrower", apart := false }
def FnExactIsNarrowerSaid : Prop := fnExactIsNarrowerRow.holds Try.pinned (OpenSpec.ofChange fnExactIsNarrowerSpec)

/-- ITS FALSE NEIGHBOUR: 'it returns false'. Refute it at one input. -/
def fnExactIsNarrowerWrong : ChangeSpec := { name := "fnExactIsNarrower", fn := fun _ => fun
  | [d1, d2] => { results := [.lit (.bool false)], args := [d1, d2] }
  | _ => none }
def FnExactIsNarrowerWrongFalsely : Prop := fnExactIsNarrowerRow.holds Try.pinned (OpenSpec.ofChange fnExactIsNarrowerWrong)

/-- 'laws.FnExactMeetPatterns': WHATEVER THE INPUT: true; the input reads as it did. -/
def fnExactMeetPatternsSpec : ChangeSpec := { name := "fnExactMeetPatterns", fn := fun _ => fun
  | [d1, d2] => { results := [.lit (.bool true)], args := [d1, d2] }
  | _ => none }
def fnExactMeetPatternsRow : OpenClaim := { program := "ytagabcnjpmpppaa", sum := "feb021dca02b4230086622715e13b5a0a8d91b609c6589d2c95fdd640ecc5fd5", func := "loop.example/g03001/laws.FnExactMeetPatterns", spec := "fnExactMeetPatterns", apart := false }
def FnExactMeetPatternsSaid : Prop := fnExactMeetPatternsRow.holds Try.pinned (OpenSpec.ofChange fnExactMeetPatternsSpec)

/-- ITS FALSE NEIGHBOUR: 'it returns false'. Refute it at one input. -/
def fnExactMeetPatternsWrong : ChangeSpec := { name := "fnExactMeetPatterns", fn := fun _ => fun
  | [d1, d2] => { results := [.lit (.bool false)], args := [d1, d2] }
  | _ => none }
def FnExactMeetPatternsWrongFalsely : Prop := fnExactMeetPatternsRow.holds Try.pinned (OpenSpec.ofChange fnExactMeetPatternsWrong)

/-- 'laws.FnExactIsDenied': WHATEVER THE INPUT: true; the input reads as it did. -/
def fnExactIsDeniedSpec : ChangeSpec := { name := "fnExactIsDenied", fn := fun _ => fun
  | [d1, d2, d3, d4] => { results := [.lit (.bool true)], args := [d1, d2, d3, d4] }
  | _ => none }
def fnExactIsDeniedRow : OpenClaim := { program := "ytagabcnjpmpppaa", sum := "feb021dca02b4230086622715e13b5a0a8d91b609c6589d2c95fdd640ecc5fd5", func := "loop.example/g03001/laws.FnExactIsDenied", spec := "fnExactIsDenied", unfollowed := true, recurses := true, apart := false }
def FnExactIsDeniedSaid : Prop := fnExactIsDeniedRow.holds Try.pinned (OpenSpec.ofChange fnExactIsDeniedSpec)

/-- ITS FALSE NEIGHBOUR: 'it returns false'. Refute it at one input. -/
def fnExactIsDeniedWrong : ChangeSpec := { name := "fnExactIsDenied", fn := fun _ => fun
  | [d1, d2, d3, d4] => { results := [.lit (.bool false)], args := [d1, d2, d3, d4] }
  | _ => none }
def FnExactIsDeniedWrongFalsely : Prop := fnExactIsDeniedRow.holds Try.pinned (OpenSpec.ofChange fnExactIsDeniedWrong)

/-- 'laws.FnExactMayDo': WHATEVER THE INPUT: true; the input reads as it did. -/
def fnExactMayDoSpec : ChangeSpec := { name := "fnExactMayDo", fn := fun _ => fun
  | [d1, d2, d3, d4, d5, d6, d7] => { results := [.lit (.bool true)], args := [d1, d2, d3, d4, d5, d6, d7] }
  | _ => none }
def fnExactMayDoRow : OpenClaim := { program := "ytagabcnjpmpppaa", sum := "feb021dca02b4230086622715e13b5a0a8d91b609c6589d2c95fdd640ecc5fd5", func := "loop.example/g03001/laws.FnExactMayDo", spec := "fnExactMayDo", unfollowed := true, recurses := true, apart := false }
def FnExactMayDoSaid : Prop := fnExactMayDoRow.holds Try.pinned (OpenSpec.ofChange fnExactMayDoSpec)

/-- ITS FALSE NEIGHBOUR: 'it returns false'. Refute it at one input. -/
def fnExactMayDoWrong : ChangeSpec := { name := "fnExactMayDo", fn := fun _ => fun
  | [d1, d2, d3, d4, d5, d6, d7] => { results := [.lit (.bool false)], args := [d1, d2, d3, d4, d5, d6, d7] }
  | _ => none }
def FnExactMayDoWrongFalsely : Prop := fnExactMayDoRow.holds Try.pinned (OpenSpec.ofChange fnExactMayDoWrong)

/-- 'laws.FnExactNarrowGrant': WHATEVER THE INPUT: true; the input reads as it did. -/
def fnExactNarrowGrantSpec : ChangeSpec := { name := "fnExactNarrowGrant", fn := fun _ => fun
  | [d1, d2] => { results := [.lit (.bool true)], args := [d1, d2] }
  | _ => none }
def fnExactNarrowGrantRow : OpenClaim := { program := "ytagabcnjpmpppaa", sum := "feb021dca02b4230086622715e13b5a0a8d91b609c6589d2c95fdd640ecc5fd5", func := "loop.example/g03001/laws.FnExactNarrowGrant", spec := "fnExactNarrowGrant", apart := false }
def FnExactNarrowGrantSaid : Prop := fnExactNarrowGrantRow.holds Try.pinned (OpenSpec.ofChange fnExactNarrowGrantSpec)

/-- ITS FALSE NEIGHBOUR: 'it returns false'. Refute it at one input. -/
def fnExactNarrowGrantWrong : ChangeSpec := { name := "fnExactNarrowGrant", fn := fun _ => fun
  | [d1, d2] => { results := [.lit (.bool false)], args := [d1, d2] }
  | _ => none }
def FnExactNarrowGrantWrongFalsely : Prop := fnExactNarrowGrantRow.holds Try.pinned (OpenSpec.ofChange fnExactNarrowGrantWrong)

/-- 'laws.FnExactNarrowTime': WHATEVER THE INPUT: true; the input reads as it did. -/
def fnExactNarrowTimeSpec : ChangeSpec := { name := "fnExactNarrowTime", fn := fun _ => fun
  | [d1, d2, d3] => { results := [.lit (.bool true)], args := [d1, d2, d3] }
  | _ => none }
def fnExactNarrowTimeRow : OpenClaim := { program := "ytagabcnjpmpppaa", sum := "feb021dca02b4230086622715e13b5a0a8d91b609c6589d2c95fdd640ecc5fd5", func := "loop.example/g03001/laws.FnExactNarrowTime", spec := "fnExactNarrowTime", apart := false }
def FnExactNarrowTimeSaid : Prop := fnExactNarrowTimeRow.holds Try.pinned (OpenSpec.ofChange fnExactNarrowTimeSpec)

/-- ITS FALSE NEIGHBOUR: 'it returns false'. Refute it at one input. -/
def fnExactNarrowTimeWrong : ChangeSpec := { name := "fnExactNarrowTime", fn := fun _ => fun
  | [d1, d2, d3] => { results := [.lit (.bool false)], args := [d1, d2, d3] }
  | _ => none }
def FnExactNarrowTimeWrongFalsely : Prop := fnExactNarrowTimeRow.holds Try.pinned (OpenSpec.ofChange fnExactNarrowTimeWrong)

/-- 'laws.FnExactIsWithinGrants': WHATEVER THE INPUT: true; the input reads as it did. -/
def fnExactIsWithinGrantsSpec : ChangeSpec := { name := "fnExactIsWithinGrants", fn := fun _ => fun
  | [d1, d2] => { results := [.lit (.bool true)], args := [d1, d2] }
  | _ => none }
def fnExactIsWithinGrantsRow : OpenClaim := { program := "ytagabcnjpmpppaa", sum := "feb021dca02b4230086622715e13b5a0a8d91b609c6589d2c95fdd640ecc5fd5", func := "loop.example/g03001/laws.FnExactIsWithinGrants", spec := "fnExactIsWithinGrants", unfollowed := true, recurses := true, apart := false }
def FnExactIsWithinGrantsSaid : Prop := fnExactIsWithinGrantsRow.holds Try.pinned (OpenSpec.ofChange fnExactIsWithinGrantsSpec)

/-- ITS FALSE NEIGHBOUR: 'it returns false'. Refute it at one input. -/
def fnExactIsWithinGrantsWrong : ChangeSpec := { name := "fnExactIsWithinGrants", fn := fun _ => fun
  | [d1, d2] => { results := [.lit (.bool false)], args := [d1, d2] }
  | _ => none }
def FnExactIsWithinGrantsWrongFalsely : Prop := fnExactIsWithinGrantsRow.holds Try.pinned (OpenSpec.ofChange fnExactIsWithinGrantsWrong)

/-- 'laws.FnExactEndLending': WHATEVER THE INPUT: true; the input reads as it did. -/
def fnExactEndLendingSpec : ChangeSpec := { name := "fnExactEndLending", fn := fun _ => fun
  | [d1, d2] => { results := [.lit (.bool true)], args := [d1, d2] }
  | _ => none }
def fnExactEndLendingRow : OpenClaim := { program := "ytagabcnjpmpppaa", sum := "feb021dca02b4230086622715e13b5a0a8d91b609c6589d2c95fdd640ecc5fd5", func := "loop.example/g03001/laws.FnExactEndLending", spec := "fnExactEndLending", unfollowed := true, recurses := true, apart := false }
def FnExactEndLendingSaid : Prop := fnExactEndLendingRow.holds Try.pinned (OpenSpec.ofChange fnExactEndLendingSpec)

/-- ITS FALSE NEIGHBOUR: 'it returns false'. Refute it at one input. -/
def fnExactEndLendingWrong : ChangeSpec := { name := "fnExactEndLending", fn := fun _ => fun
  | [d1, d2] => { results := [.lit (.bool false)], args := [d1, d2] }
  | _ => none }
def FnExactEndLendingWrongFalsely : Prop := fnExactEndLendingRow.holds Try.pinned (OpenSpec.ofChange fnExactEndLendingWrong)

/-- 'laws.FnExactLendTo': WHATEVER THE INPUT: true; the input reads as it did. -/
def fnExactLendToSpec : ChangeSpec := { name := "fnExactLendTo", fn := fun _ => fun
  | [d1, d2, d3, d4] => { results := [.lit (.bool true)], args := [d1, d2, d3, d4] }
  | _ => none }
def fnExactLendToRow : OpenClaim := { program := "ytagabcnjpmpppaa", sum := "feb021dca02b4230086622715e13b5a0a8d91b609c6589d2c95fdd640ecc5fd5", func := "loop.example/g03001/laws.FnExactLendTo", spec := "fnExactLendTo", unfollowed := true, recurses := true, apart := false }
def FnExactLendToSaid : Prop := fnExactLendToRow.holds Try.pinned (OpenSpec.ofChange fnExactLendToSpec)

/-- ITS FALSE NEIGHBOUR: 'it returns false'. Refute it at one input. -/
def fnExactLendToWrong : ChangeSpec := { name := "fnExactLendTo", fn := fun _ => fun
  | [d1, d2, d3, d4] => { results := [.lit (.bool false)], args := [d1, d2, d3, d4] }
  | _ => none }
def FnExactLendToWrongFalsely : Prop := fnExactLendToRow.holds Try.pinned (OpenSpec.ofChange fnExactLendToWrong)

/-- 'laws.FnExactApplies': WHATEVER THE INPUT: true; the input reads as it did. -/
def fnExactAppliesSpec : ChangeSpec := { name := "fnExactApplies", fn := fun _ => fun
  | [d1, d2] => { results := [.lit (.bool true)], args := [d1, d2] }
  | _ => none }
def fnExactAppliesRow : OpenClaim := { program := "ytagabcnjpmpppaa", sum := "feb021dca02b4230086622715e13b5a0a8d91b609c6589d2c95fdd640ecc5fd5", func := "loop.example/g03001/laws.FnExactApplies", spec := "fnExactApplies", apart := false }
def FnExactAppliesSaid : Prop := fnExactAppliesRow.holds Try.pinned (OpenSpec.ofChange fnExactAppliesSpec)

/-- ITS FALSE NEIGHBOUR: 'it returns false'. Refute it at one input. -/
def fnExactAppliesWrong : ChangeSpec := { name := "fnExactApplies", fn := fun _ => fun
  | [d1, d2] => { results := [.lit (.bool false)], args := [d1, d2] }
  | _ => none }
def FnExactAppliesWrongFalsely : Prop := fnExactAppliesRow.holds Try.pinned (OpenSpec.ofChange fnExactAppliesWrong)

/-- 'laws.FnExactAppliesTo': WHATEVER THE INPUT: true; the input reads as it did. -/
def fnExactAppliesToSpec : ChangeSpec := { name := "fnExactAppliesTo", fn := fun _ => fun
  | [d1, d2] => { results := [.lit (.bool true)], args := [d1, d2] }
  | _ => none }
def fnExactAppliesToRow : OpenClaim := { program := "ytagabcnjpmpppaa", sum := "feb021dca02b4230086622715e13b5a0a8d91b609c6589d2c95fdd640ecc5fd5", func := "loop.example/g03001/laws.FnExactAppliesTo", spec := "fnExactAppliesTo", unfollowed := true, recurses := true, apart := false }
def FnExactAppliesToSaid : Prop := fnExactAppliesToRow.holds Try.pinned (OpenSpec.ofChange fnExactAppliesToSpec)

/-- ITS FALSE NEIGHBOUR: 'it returns false'. Refute it at one input. -/
def fnExactAppliesToWrong : ChangeSpec := { name := "fnExactAppliesTo", fn := fun _ => fun
  | [d1, d2] => { results := [.lit (.bool false)], args := [d1, d2] }
  | _ => none }
def FnExactAppliesToWrongFalsely : Prop := fnExactAppliesToRow.holds Try.pinned (OpenSpec.ofChange fnExactAppliesToWrong)

/-- 'laws.FnExactWhoDecides': WHATEVER THE INPUT: true; the input reads as it did. -/
def fnExactWhoDecidesSpec : ChangeSpec := { name := "fnExactWhoDecides", fn := fun _ => fun
  | [d1, d2] => { results := [.lit (.bool true)], args := [d1, d2] }
  | _ => none }
def fnExactWhoDecidesRow : OpenClaim := { program := "ytagabcnjpmpppaa", sum := "feb021dca02b4230086622715e13b5a0a8d91b609c6589d2c95fdd640ecc5fd5", func := "loop.example/g03001/laws.FnExactWhoDecides", spec := "fnExactWhoDecides", unfollowed := true, recurses := true, apart := false }
def FnExactWhoDecidesSaid : Prop := fnExactWhoDecidesRow.holds Try.pinned (OpenSpec.ofChange fnExactWhoDecidesSpec)

/-- ITS FALSE NEIGHBOUR: 'it returns false'. Refute it at one input. -/
def fnExactWhoDecidesWrong : ChangeSpec := { name := "fnExactWhoDecides", fn := fun _ => fun
  | [d1, d2] => { results := [.lit (.bool false)], args := [d1, d2] }
  | _ => none }
def FnExactWhoDecidesWrongFalsely : Prop := fnExactWhoDecidesRow.holds Try.pinned (OpenSpec.ofChange fnExactWhoDecidesWrong)

/- THE SECOND FORM. 'bulk': how many values and letters a reading holds, each counted each time it is reached (what is shared counts as often as it is met; a slice's spare places count too). A statement '..UptoSaid' is the law's where the arguments, and the package variables that the reading takes, are together of bulk at most 1048576: NARROWER than '..Said'. Prove '..Said' where nothing that the law and all that it calls make is longer than what came in: it says more and counts as full. Else prove '..UptoSaid'. A law counts once. -/
mutual
def uptoBulk {H : Type} : DataW H → Nat
  | .lit (.string bytes) => bytes.length + 1
  | .lit _ => 1
  | .nil => 1
  | .ptr d => uptoBulk d + 1
  | .slice elems spare => uptoBulkAll elems + uptoBulkAll spare + 1
  | .agg parts => uptoBulkAll parts + 1
  | .iface _ d => uptoBulk d + 1
  | .map entries => uptoBulkEntries entries + 1
  | .held _ => 1
def uptoBulkAll {H : Type} : List (DataW H) → Nat
  | [] => 0
  | d :: r => uptoBulk d + uptoBulkAll r
def uptoBulkEntries {H : Type} : List (Lit × DataW H) → Nat
  | [] => 0
  | x :: r => uptoBulkEntry x + uptoBulkEntries r
def uptoBulkEntry {H : Type} : Lit × DataW H → Nat
  | (.string bytes, d) => bytes.length + uptoBulk d + 1
  | (_, d) => uptoBulk d + 1
 end
def uptoSmall : (H : Type) → List (DataW H) → Bool := fun _ ds => decide (uptoBulkAll ds ≤ 1048576)
def OpenSpec.upto (s : _root_.Go.ChangeSpec) : _root_.Go.OpenSpec := { _root_.Go.OpenSpec.ofChange s with cond := some uptoSmall }

/-- 'laws.FnExactIsNarrower', WHERE WHAT IT READS IS OF BULK AT MOST 1048576: true; the input reads as it did. -/
def fnExactIsNarrowerUptoRow : OpenClaim := { program := "ytagabcnjpmpppaa", sum := "feb021dca02b4230086622715e13b5a0a8d91b609c6589d2c95fdd640ecc5fd5", func := "loop.example/g03001/laws.FnExactIsNarrower", spec := "fnExactIsNarrower", apart := false, narrowed := true }
def FnExactIsNarrowerUptoSaid : Prop := fnExactIsNarrowerUptoRow.holds Try.pinned (OpenSpec.upto fnExactIsNarrowerSpec)

/-- 'laws.FnExactMeetPatterns', WHERE WHAT IT READS IS OF BULK AT MOST 1048576: true; the input reads as it did. -/
def fnExactMeetPatternsUptoRow : OpenClaim := { program := "ytagabcnjpmpppaa", sum := "feb021dca02b4230086622715e13b5a0a8d91b609c6589d2c95fdd640ecc5fd5", func := "loop.example/g03001/laws.FnExactMeetPatterns", spec := "fnExactMeetPatterns", apart := false, narrowed := true }
def FnExactMeetPatternsUptoSaid : Prop := fnExactMeetPatternsUptoRow.holds Try.pinned (OpenSpec.upto fnExactMeetPatternsSpec)

/-- 'laws.FnExactIsDenied', WHERE WHAT IT READS IS OF BULK AT MOST 1048576: true; the input reads as it did. -/
def fnExactIsDeniedUptoRow : OpenClaim := { program := "ytagabcnjpmpppaa", sum := "feb021dca02b4230086622715e13b5a0a8d91b609c6589d2c95fdd640ecc5fd5", func := "loop.example/g03001/laws.FnExactIsDenied", spec := "fnExactIsDenied", unfollowed := true, recurses := true, apart := false, narrowed := true }
def FnExactIsDeniedUptoSaid : Prop := fnExactIsDeniedUptoRow.holds Try.pinned (OpenSpec.upto fnExactIsDeniedSpec)

/-- 'laws.FnExactMayDo', WHERE WHAT IT READS IS OF BULK AT MOST 1048576: true; the input reads as it did. -/
def fnExactMayDoUptoRow : OpenClaim := { program := "ytagabcnjpmpppaa", sum := "feb021dca02b4230086622715e13b5a0a8d91b609c6589d2c95fdd640ecc5fd5", func := "loop.example/g03001/laws.FnExactMayDo", spec := "fnExactMayDo", unfollowed := true, recurses := true, apart := false, narrowed := true }
def FnExactMayDoUptoSaid : Prop := fnExactMayDoUptoRow.holds Try.pinned (OpenSpec.upto fnExactMayDoSpec)

/-- 'laws.FnExactNarrowGrant', WHERE WHAT IT READS IS OF BULK AT MOST 1048576: true; the input reads as it did. -/
def fnExactNarrowGrantUptoRow : OpenClaim := { program := "ytagabcnjpmpppaa", sum := "feb021dca02b4230086622715e13b5a0a8d91b609c6589d2c95fdd640ecc5fd5", func := "loop.example/g03001/laws.FnExactNarrowGrant", spec := "fnExactNarrowGrant", apart := false, narrowed := true }
def FnExactNarrowGrantUptoSaid : Prop := fnExactNarrowGrantUptoRow.holds Try.pinned (OpenSpec.upto fnExactNarrowGrantSpec)

/-- 'laws.FnExactNarrowTime', WHERE WHAT IT READS IS OF BULK AT MOST 1048576: true; the input reads as it did. -/
def fnExactNarrowTimeUptoRow : OpenClaim := { program := "ytagabcnjpmpppaa", sum := "feb021dca02b4230086622715e13b5a0a8d91b609c6589d2c95fdd640ecc5fd5", func := "loop.example/g03001/laws.FnExactNarrowTime", spec := "fnExactNarrowTime", apart := false, narrowed := true }
def FnExactNarrowTimeUptoSaid : Prop := fnExactNarrowTimeUptoRow.holds Try.pinned (OpenSpec.upto fnExactNarrowTimeSpec)

/-- 'laws.FnExactIsWithinGrants', WHERE WHAT IT READS IS OF BULK AT MOST 1048576: true; the input reads as it did. -/
def fnExactIsWithinGrantsUptoRow : OpenClaim := { program := "ytagabcnjpmpppaa", sum := "feb021dca02b4230086622715e13b5a0a8d91b609c6589d2c95fdd640ecc5fd5", func := "loop.example/g03001/laws.FnExactIsWithinGrants", spec := "fnExactIsWithinGrants", unfollowed := true, recurses := true, apart := false, narrowed := true }
def FnExactIsWithinGrantsUptoSaid : Prop := fnExactIsWithinGrantsUptoRow.holds Try.pinned (OpenSpec.upto fnExactIsWithinGrantsSpec)

/-- 'laws.FnExactEndLending', WHERE WHAT IT READS IS OF BULK AT MOST 1048576: true; the input reads as it did. -/
def fnExactEndLendingUptoRow : OpenClaim := { program := "ytagabcnjpmpppaa", sum := "feb021dca02b4230086622715e13b5a0a8d91b609c6589d2c95fdd640ecc5fd5", func := "loop.example/g03001/laws.FnExactEndLending", spec := "fnExactEndLending", unfollowed := true, recurses := true, apart := false, narrowed := true }
def FnExactEndLendingUptoSaid : Prop := fnExactEndLendingUptoRow.holds Try.pinned (OpenSpec.upto fnExactEndLendingSpec)

/-- 'laws.FnExactLendTo', WHERE WHAT IT READS IS OF BULK AT MOST 1048576: true; the input reads as it did. -/
def fnExactLendToUptoRow : OpenClaim := { program := "ytagabcnjpmpppaa", sum := "feb021dca02b4230086622715e13b5a0a8d91b609c6589d2c95fdd640ecc5fd5", func := "loop.example/g03001/laws.FnExactLendTo", spec := "fnExactLendTo", unfollowed := true, recurses := true, apart := false, narrowed := true }
def FnExactLendToUptoSaid : Prop := fnExactLendToUptoRow.holds Try.pinned (OpenSpec.upto fnExactLendToSpec)

/-- 'laws.FnExactApplies', WHERE WHAT IT READS IS OF BULK AT MOST 1048576: true; the input reads as it did. -/
def fnExactAppliesUptoRow : OpenClaim := { program := "ytagabcnjpmpppaa", sum := "feb021dca02b4230086622715e13b5a0a8d91b609c6589d2c95fdd640ecc5fd5", func := "loop.example/g03001/laws.FnExactApplies", spec := "fnExactApplies", apart := false, narrowed := true }
def FnExactAppliesUptoSaid : Prop := fnExactAppliesUptoRow.holds Try.pinned (OpenSpec.upto fnExactAppliesSpec)

/-- 'laws.FnExactAppliesTo', WHERE WHAT IT READS IS OF BULK AT MOST 1048576: true; the input reads as it did. -/
def fnExactAppliesToUptoRow : OpenClaim := { program := "ytagabcnjpmpppaa", sum := "feb021dca02b4230086622715e13b5a0a8d91b609c6589d2c95fdd640ecc5fd5", func := "loop.example/g03001/laws.FnExactAppliesTo", spec := "fnExactAppliesTo", unfollowed := true, recurses := true, apart := false, narrowed := true }
def FnExactAppliesToUptoSaid : Prop := fnExactAppliesToUptoRow.holds Try.pinned (OpenSpec.upto fnExactAppliesToSpec)

/-- 'laws.FnExactWhoDecides', WHERE WHAT IT READS IS OF BULK AT MOST 1048576: true; the input reads as it did. -/
def fnExactWhoDecidesUptoRow : OpenClaim := { program := "ytagabcnjpmpppaa", sum := "feb021dca02b4230086622715e13b5a0a8d91b609c6589d2c95fdd640ecc5fd5", func := "loop.example/g03001/laws.FnExactWhoDecides", spec := "fnExactWhoDecides", unfollowed := true, recurses := true, apart := false, narrowed := true }
def FnExactWhoDecidesUptoSaid : Prop := fnExactWhoDecidesUptoRow.holds Try.pinned (OpenSpec.upto fnExactWhoDecidesSpec)

end Rows
end Go.Proofs.Ytagabcnjpmpppaa
