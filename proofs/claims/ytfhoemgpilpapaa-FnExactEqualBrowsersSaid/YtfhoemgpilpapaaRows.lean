/-
  No cell of these rows narrows 'for every input' (looked for: loops, veiled, ifaces, maps, wideKeys, modest, calm, conditions, laid).
  DERIVED. THE GIVEN ROWS OF THIS SEAT. 8 by the template 'for every input the law returns true; each argument reads behind the call as it read before'; 0 by the template 'total and deterministic' (their statements: YtfhoemgpilpapaaTotals.lean).
  GIVEN WITH THE SEED: the statements are not yours to turn. If you find one false, say at which input.
  Laid BY PROGRAM, IN A SANDBOX (cutbox-rows.mjs): the forced cells as the released guide's own fill.sh prints them over the translation 7543388f99af356d… (all of the seat's roots in one cut). By AI agents, Wed Nov 11 2026. No macro, syntax, notation, axiom, sorry.
-/
import Derived.Test.YtfhoemgpilpapaaChecked
import GoSem.Claim
import GoSem.ClaimJoined
import GoSem.ClaimMapViews
import Derived.JoinedTies
import Derived.KernelRfl
namespace Go.Proofs.Ytfhoemgpilpapaa
/- THE CELL 'sum', in the pinned program and in every row, IS THE sha256 OF THE DUMP (.gsa) THAT YtfhoemgpilpapaaProg.lean LOADS. Nothing in Lean hashes anything: it is a label: what it is worth is what the hold of that sum in a sandbox is worth. -/
noncomputable def Try.pinned : Pinned := { name := "ytfhoemgpilpapaa", sum := "7543388f99af356d74fec8f1dd0ddffdb80309ca6e6c46848cddc180197b363d", checked := Try.checked }
namespace Rows
def none {H : Type} : Left H := { results := [], args := [] }

/-- 'laws.FnExactInstalled': WHATEVER THE INPUT: true; the input reads as it did. -/
def fnExactInstalledSpec : ChangeSpec := { name := "fnExactInstalled", fn := fun _ => fun
  | [d] => { results := [.lit (.bool true)], args := [d] }
  | _ => none }
def fnExactInstalledRow : OpenClaim := { program := "ytfhoemgpilpapaa", sum := "7543388f99af356d74fec8f1dd0ddffdb80309ca6e6c46848cddc180197b363d", func := "loop.example/g03001/laws.FnExactInstalled", spec := "fnExactInstalled", unfollowed := true, recurses := true, apart := false }
def FnExactInstalledSaid : Prop := fnExactInstalledRow.holds Try.pinned (OpenSpec.ofChange fnExactInstalledSpec)

/-- ITS FALSE NEIGHBOUR: 'it returns false'. Refute it at one input. -/
def fnExactInstalledWrong : ChangeSpec := { name := "fnExactInstalled", fn := fun _ => fun
  | [d] => { results := [.lit (.bool false)], args := [d] }
  | _ => none }
def FnExactInstalledWrongFalsely : Prop := fnExactInstalledRow.holds Try.pinned (OpenSpec.ofChange fnExactInstalledWrong)

/-- 'laws.FnExactPackOf': WHATEVER THE INPUT: true; the input reads as it did. -/
def fnExactPackOfSpec : ChangeSpec := { name := "fnExactPackOf", fn := fun _ => fun
  | [d1, d2] => { results := [.lit (.bool true)], args := [d1, d2] }
  | _ => none }
def fnExactPackOfRow : OpenClaim := { program := "ytfhoemgpilpapaa", sum := "7543388f99af356d74fec8f1dd0ddffdb80309ca6e6c46848cddc180197b363d", func := "loop.example/g03001/laws.FnExactPackOf", spec := "fnExactPackOf", unfollowed := true, recurses := true, apart := false }
def FnExactPackOfSaid : Prop := fnExactPackOfRow.holds Try.pinned (OpenSpec.ofChange fnExactPackOfSpec)

/-- ITS FALSE NEIGHBOUR: 'it returns false'. Refute it at one input. -/
def fnExactPackOfWrong : ChangeSpec := { name := "fnExactPackOf", fn := fun _ => fun
  | [d1, d2] => { results := [.lit (.bool false)], args := [d1, d2] }
  | _ => none }
def FnExactPackOfWrongFalsely : Prop := fnExactPackOfRow.holds Try.pinned (OpenSpec.ofChange fnExactPackOfWrong)

/-- 'laws.FnExactRulesLeft': WHATEVER THE INPUT: true; the input reads as it did. -/
def fnExactRulesLeftSpec : ChangeSpec := { name := "fnExactRulesLeft", fn := fun _ => fun
  | [d] => { results := [.lit (.bool true)], args := [d] }
  | _ => none }
def fnExactRulesLeftRow : OpenClaim := { program := "ytfhoemgpilpapaa", sum := "7543388f99af356d74fec8f1dd0ddffdb80309ca6e6c46848cddc180197b363d", func := "loop.example/g03001/laws.FnExactRulesLeft", spec := "fnExactRulesLeft", unfollowed := true, recurses := true, apart := false }
def FnExactRulesLeftSaid : Prop := fnExactRulesLeftRow.holds Try.pinned (OpenSpec.ofChange fnExactRulesLeftSpec)

/-- ITS FALSE NEIGHBOUR: 'it returns false'. Refute it at one input. -/
def fnExactRulesLeftWrong : ChangeSpec := { name := "fnExactRulesLeft", fn := fun _ => fun
  | [d] => { results := [.lit (.bool false)], args := [d] }
  | _ => none }
def FnExactRulesLeftWrongFalsely : Prop := fnExactRulesLeftRow.holds Try.pinned (OpenSpec.ofChange fnExactRulesLeftWrong)

/-- 'laws.FnExactStoredBy': WHATEVER THE INPUT: true; the input reads as it did. -/
def fnExactStoredBySpec : ChangeSpec := { name := "fnExactStoredBy", fn := fun _ => fun
  | [d1, d2] => { results := [.lit (.bool true)], args := [d1, d2] }
  | _ => none }
def fnExactStoredByRow : OpenClaim := { program := "ytfhoemgpilpapaa", sum := "7543388f99af356d74fec8f1dd0ddffdb80309ca6e6c46848cddc180197b363d", func := "loop.example/g03001/laws.FnExactStoredBy", spec := "fnExactStoredBy", unfollowed := true, recurses := true, apart := false }
def FnExactStoredBySaid : Prop := fnExactStoredByRow.holds Try.pinned (OpenSpec.ofChange fnExactStoredBySpec)

/-- ITS FALSE NEIGHBOUR: 'it returns false'. Refute it at one input. -/
def fnExactStoredByWrong : ChangeSpec := { name := "fnExactStoredBy", fn := fun _ => fun
  | [d1, d2] => { results := [.lit (.bool false)], args := [d1, d2] }
  | _ => none }
def FnExactStoredByWrongFalsely : Prop := fnExactStoredByRow.holds Try.pinned (OpenSpec.ofChange fnExactStoredByWrong)

/-- 'laws.FnExactTracesOf': WHATEVER THE INPUT: true; the input reads as it did. -/
def fnExactTracesOfSpec : ChangeSpec := { name := "fnExactTracesOf", fn := fun _ => fun
  | [d1, d2] => { results := [.lit (.bool true)], args := [d1, d2] }
  | _ => none }
def fnExactTracesOfRow : OpenClaim := { program := "ytfhoemgpilpapaa", sum := "7543388f99af356d74fec8f1dd0ddffdb80309ca6e6c46848cddc180197b363d", func := "loop.example/g03001/laws.FnExactTracesOf", spec := "fnExactTracesOf", unfollowed := true, recurses := true, apart := false }
def FnExactTracesOfSaid : Prop := fnExactTracesOfRow.holds Try.pinned (OpenSpec.ofChange fnExactTracesOfSpec)

/-- ITS FALSE NEIGHBOUR: 'it returns false'. Refute it at one input. -/
def fnExactTracesOfWrong : ChangeSpec := { name := "fnExactTracesOf", fn := fun _ => fun
  | [d1, d2] => { results := [.lit (.bool false)], args := [d1, d2] }
  | _ => none }
def FnExactTracesOfWrongFalsely : Prop := fnExactTracesOfRow.holds Try.pinned (OpenSpec.ofChange fnExactTracesOfWrong)

/-- 'laws.FnExactIsRuled': WHATEVER THE INPUT: true; the input reads as it did. -/
def fnExactIsRuledSpec : ChangeSpec := { name := "fnExactIsRuled", fn := fun _ => fun
  | [d] => { results := [.lit (.bool true)], args := [d] }
  | _ => none }
def fnExactIsRuledRow : OpenClaim := { program := "ytfhoemgpilpapaa", sum := "7543388f99af356d74fec8f1dd0ddffdb80309ca6e6c46848cddc180197b363d", func := "loop.example/g03001/laws.FnExactIsRuled", spec := "fnExactIsRuled", unfollowed := true, recurses := true, apart := false }
def FnExactIsRuledSaid : Prop := fnExactIsRuledRow.holds Try.pinned (OpenSpec.ofChange fnExactIsRuledSpec)

/-- ITS FALSE NEIGHBOUR: 'it returns false'. Refute it at one input. -/
def fnExactIsRuledWrong : ChangeSpec := { name := "fnExactIsRuled", fn := fun _ => fun
  | [d] => { results := [.lit (.bool false)], args := [d] }
  | _ => none }
def FnExactIsRuledWrongFalsely : Prop := fnExactIsRuledRow.holds Try.pinned (OpenSpec.ofChange fnExactIsRuledWrong)

/-- 'laws.FnExactRulesInForce': WHATEVER THE INPUT: true; the input reads as it did. -/
def fnExactRulesInForceSpec : ChangeSpec := { name := "fnExactRulesInForce", fn := fun _ => fun
  | [d1, d2] => { results := [.lit (.bool true)], args := [d1, d2] }
  | _ => none }
def fnExactRulesInForceRow : OpenClaim := { program := "ytfhoemgpilpapaa", sum := "7543388f99af356d74fec8f1dd0ddffdb80309ca6e6c46848cddc180197b363d", func := "loop.example/g03001/laws.FnExactRulesInForce", spec := "fnExactRulesInForce", unfollowed := true, recurses := true, apart := false }
def FnExactRulesInForceSaid : Prop := fnExactRulesInForceRow.holds Try.pinned (OpenSpec.ofChange fnExactRulesInForceSpec)

/-- ITS FALSE NEIGHBOUR: 'it returns false'. Refute it at one input. -/
def fnExactRulesInForceWrong : ChangeSpec := { name := "fnExactRulesInForce", fn := fun _ => fun
  | [d1, d2] => { results := [.lit (.bool false)], args := [d1, d2] }
  | _ => none }
def FnExactRulesInForceWrongFalsely : Prop := fnExactRulesInForceRow.holds Try.pinned (OpenSpec.ofChange fnExactRulesInForceWrong)

/-- 'laws.FnExactEqualBrowsers': WHATEVER THE INPUT: true; the input reads as it did. -/
def fnExactEqualBrowsersSpec : ChangeSpec := { name := "fnExactEqualBrowsers", fn := fun _ => fun
  | [d1, d2] => { results := [.lit (.bool true)], args := [d1, d2] }
  | _ => none }
def fnExactEqualBrowsersRow : OpenClaim := { program := "ytfhoemgpilpapaa", sum := "7543388f99af356d74fec8f1dd0ddffdb80309ca6e6c46848cddc180197b363d", func := "loop.example/g03001/laws.FnExactEqualBrowsers", spec := "fnExactEqualBrowsers", unfollowed := true, recurses := true, apart := false }
def FnExactEqualBrowsersSaid : Prop := fnExactEqualBrowsersRow.holds Try.pinned (OpenSpec.ofChange fnExactEqualBrowsersSpec)

/-- ITS FALSE NEIGHBOUR: 'it returns false'. Refute it at one input. -/
def fnExactEqualBrowsersWrong : ChangeSpec := { name := "fnExactEqualBrowsers", fn := fun _ => fun
  | [d1, d2] => { results := [.lit (.bool false)], args := [d1, d2] }
  | _ => none }
def FnExactEqualBrowsersWrongFalsely : Prop := fnExactEqualBrowsersRow.holds Try.pinned (OpenSpec.ofChange fnExactEqualBrowsersWrong)

/- THE SECOND FORM. 'bulk': how many values and letters a reading holds, each counted each time it is reached (what is shared counts as often as it is met; a slice's spare places count too). A statement '..UptoSaid' is the law's where the arguments, and the package variables that the reading takes, are together of bulk at most 1048576: NARROWER than '..Said'. Prove '..Said' where nothing that the law and all that it calls make is longer than what came in: it says more and counts as full. Else prove '..UptoSaid'. A law counts once. -/
mutual
def uptoBulk {H : Type} : DataW H → Nat
  | .lit (.string bytes) => bytes.length + 1
  | .lit _ => 1
  | .nil => 1
  | .ptr d => uptoBulk d + 1
  | .slice elems spare => uptoBulkAll elems + uptoBulkAll spare + 1
  | .agg parts => uptoBulkAll parts + 1
  | .iface _ d => uptoBulk d + 1
  | .map entries => uptoBulkEntries entries + 1
  | .held _ => 1
def uptoBulkAll {H : Type} : List (DataW H) → Nat
  | [] => 0
  | d :: r => uptoBulk d + uptoBulkAll r
def uptoBulkEntries {H : Type} : List (Lit × DataW H) → Nat
  | [] => 0
  | x :: r => uptoBulkEntry x + uptoBulkEntries r
def uptoBulkEntry {H : Type} : Lit × DataW H → Nat
  | (.string bytes, d) => bytes.length + uptoBulk d + 1
  | (_, d) => uptoBulk d + 1
 end
def uptoSmall : (H : Type) → List (DataW H) → Bool := fun _ ds => decide (uptoBulkAll ds ≤ 1048576)
def OpenSpec.upto (s : _root_.Go.ChangeSpec) : _root_.Go.OpenSpec := { _root_.Go.OpenSpec.ofChange s with cond := some uptoSmall }

/-- 'laws.FnExactInstalled', WHERE WHAT IT READS IS OF BULK AT MOST 1048576: true; the input reads as it did. -/
def fnExactInstalledUptoRow : OpenClaim := { program := "ytfhoemgpilpapaa", sum := "7543388f99af356d74fec8f1dd0ddffdb80309ca6e6c46848cddc180197b363d", func := "loop.example/g03001/laws.FnExactInstalled", spec := "fnExactInstalled", unfollowed := true, recurses := true, apart := false, narrowed := true }
def FnExactInstalledUptoSaid : Prop := fnExactInstalledUptoRow.holds Try.pinned (OpenSpec.upto fnExactInstalledSpec)

/-- 'laws.FnExactPackOf', WHERE WHAT IT READS IS OF BULK AT MOST 1048576: true; the input reads as it did. -/
def fnExactPackOfUptoRow : OpenClaim := { program := "ytfhoemgpilpapaa", sum := "7543388f99af356d74fec8f1dd0ddffdb80309ca6e6c46848cddc180197b363d", func := "loop.example/g03001/laws.FnExactPackOf", spec := "fnExactPackOf", unfollowed := true, recurses := true, apart := false, narrowed := true }
def FnExactPackOfUptoSaid : Prop := fnExactPackOfUptoRow.holds Try.pinned (OpenSpec.upto fnExactPackOfSpec)

/-- 'laws.FnExactRulesLeft', WHERE WHAT IT READS IS OF BULK AT MOST 1048576: true; the input reads as it did. -/
def fnExactRulesLeftUptoRow : OpenClaim := { program := "ytfhoemgpilpapaa", sum := "7543388f99af356d74fec8f1dd0ddffdb80309ca6e6c46848cddc180197b363d", func := "loop.example/g03001/laws.FnExactRulesLeft", spec := "fnExactRulesLeft", unfollowed := true, recurses := true, apart := false, narrowed := true }
def FnExactRulesLeftUptoSaid : Prop := fnExactRulesLeftUptoRow.holds Try.pinned (OpenSpec.upto fnExactRulesLeftSpec)

/-- 'laws.FnExactStoredBy', WHERE WHAT IT READS IS OF BULK AT MOST 1048576: true; the input reads as it did. -/
def fnExactStoredByUptoRow : OpenClaim := { program := "ytfhoemgpilpapaa", sum := "7543388f99af356d74fec8f1dd0ddffdb80309ca6e6c46848cddc180197b363d", func := "loop.example/g03001/laws.FnExactStoredBy", spec := "fnExactStoredBy", unfollowed := true, recurses := true, apart := false, narrowed := true }
def FnExactStoredByUptoSaid : Prop := fnExactStoredByUptoRow.holds Try.pinned (OpenSpec.upto fnExactStoredBySpec)

/-- 'laws.FnExactTracesOf', WHERE WHAT IT READS IS OF BULK AT MOST 1048576: true; the input reads as it did. -/
def fnExactTracesOfUptoRow : OpenClaim := { program := "ytfhoemgpilpapaa", sum := "7543388f99af356d74fec8f1dd0ddffdb80309ca6e6c46848cddc180197b363d", func := "loop.example/g03001/laws.FnExactTracesOf", spec := "fnExactTracesOf", unfollowed := true, recurses := true, apart := false, narrowed := true }
def FnExactTracesOfUptoSaid : Prop := fnExactTracesOfUptoRow.holds Try.pinned (OpenSpec.upto fnExactTracesOfSpec)

/-- 'laws.FnExactIsRuled', WHERE WHAT IT READS IS OF BULK AT MOST 1048576: true; the input reads as it did. -/
def fnExactIsRuledUptoRow : OpenClaim := { program := "ytfhoemgpilpapaa", sum := "7543388f99af356d74fec8f1dd0ddffdb80309ca6e6c46848cddc180197b363d", func := "loop.example/g03001/laws.FnExactIsRuled", spec := "fnExactIsRuled", unfollowed := true, recurses := true, apart := false, narrowed := true }
def FnExactIsRuledUptoSaid : Prop := fnExactIsRuledUptoRow.holds Try.pinned (OpenSpec.upto fnExactIsRuledSpec)

/-- 'laws.FnExactRulesInForce', WHERE WHAT IT READS IS OF BULK AT MOST 1048576: true; the input reads as it did. -/
def fnExactRulesInForceUptoRow : OpenClaim := { program := "ytfhoemgpilpapaa", sum := "7543388f99af356d74fec8f1dd0ddffdb80309ca6e6c46848cddc180197b363d", func := "loop.example/g03001/laws.FnExactRulesInForce", spec := "fnExactRulesInForce", unfollowed := true, recurses := true, apart := false, narrowed := true }
def FnExactRulesInForceUptoSaid : Prop := fnExactRulesInForceUptoRow.holds Try.pinned (OpenSpec.upto fnExactRulesInForceSpec)

/-- 'laws.FnExactEqualBrowsers', WHERE WHAT IT READS IS OF BULK AT MOST 1048576: true; the input reads as it did. -/
def fnExactEqualBrowsersUptoRow : OpenClaim := { program := "ytfhoemgpilpapaa", sum := "7543388f99af356d74fec8f1dd0ddffdb80309ca6e6c46848cddc180197b363d", func := "loop.example/g03001/laws.FnExactEqualBrowsers", spec := "fnExactEqualBrowsers", unfollowed := true, recurses := true, apart := false, narrowed := true }
def FnExactEqualBrowsersUptoSaid : Prop := fnExactEqualBrowsersUptoRow.holds Try.pinned (OpenSpec.upto fnExactEqualBrowsersSpec)

end Rows
end Go.Proofs.Ytfhoemgpilpapaa
