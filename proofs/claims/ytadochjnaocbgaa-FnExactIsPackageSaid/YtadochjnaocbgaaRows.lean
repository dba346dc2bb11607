/-
  No cell of these rows narrows 'for every input' (looked for: loops, veiled, ifaces, maps, wideKeys, modest, calm, conditions, laid).
  DERIVED. THE GIVEN ROWS OF THIS SEAT. 8 by the template 'for every input the law returns true; each argument reads behind the call as it read before'; 0 by the template 'total and deterministic' (their statements: YtadochjnaocbgaaTotals.lean).
  GIVEN WITH THE SEED: the statements are not yours to turn. If you find one false, say at which input.
  Laid BY PROGRAM, IN A SANDBOX (cutbox-rows.mjs): the forced cells as the released guide's own fill.sh prints them over the translation 0b33ac2347864b84… (all of the seat's roots in one cut). By AI agents, Wed Nov 11 2026. No macro, syntax, notation, axiom, sorry.
-/
import Derived.Test.YtadochjnaocbgaaChecked
import GoSem.Claim
import GoSem.ClaimJoined
import GoSem.ClaimMapViews
import Derived.JoinedTies
import Derived.KernelRfl
namespace Go.Proofs.Ytadochjnaocbgaa
/- THE CELL 'sum', in the pinned program and in every row, IS THE sha256 OF THE DUMP (.gsa) THAT YtadochjnaocbgaaProg.lean LOADS. Nothing in Lean hashes anything: it is a label: what it is worth is what the hold of that sum in a sandbox is worth. -/
noncomputable def Try.pinned : Pinned := { name := "ytadochjnaocbgaa", sum := "0b33ac2347864b842ceb61a4e34abc4dbd17cdc0c05b643e44926453e8e42152", checked := Try.checked }
namespace Rows
def none {H : Type} : Left H := { results := [], args := [] }

/-- 'laws.FnExactLabelOf': WHATEVER THE INPUT: true; the input reads as it did. -/
def fnExactLabelOfSpec : ChangeSpec := { name := "fnExactLabelOf", fn := fun _ => fun
  | [d] => { results := [.lit (.bool true)], args := [d] }
  | _ => none }
def fnExactLabelOfRow : OpenClaim := { program := "ytadochjnaocbgaa", sum := "0b33ac2347864b842ceb61a4e34abc4dbd17cdc0c05b643e44926453e8e42152", func := "loop.example/g03001/laws.FnExactLabelOf", spec := "fnExactLabelOf", plainKeys := false, apart := false }
def FnExactLabelOfSaid : Prop := fnExactLabelOfRow.holds Try.pinned (OpenSpec.ofChange fnExactLabelOfSpec)

/-- ITS FALSE NEIGHBOUR: 'it returns false'. Refute it at one input. -/
def fnExactLabelOfWrong : ChangeSpec := { name := "fnExactLabelOf", fn := fun _ => fun
  | [d] => { results := [.lit (.bool false)], args := [d] }
  | _ => none }
def FnExactLabelOfWrongFalsely : Prop := fnExactLabelOfRow.holds Try.pinned (OpenSpec.ofChange fnExactLabelOfWrong)

/-- 'laws.FnExactHasGrantFor': WHATEVER THE INPUT: true; the input reads as it did. -/
def fnExactHasGrantForSpec : ChangeSpec := { name := "fnExactHasGrantFor", fn := fun _ => fun
  | [d1, d2, d3] => { results := [.lit (.bool true)], args := [d1, d2, d3] }
  | _ => none }
def fnExactHasGrantForRow : OpenClaim := { program := "ytadochjnaocbgaa", sum := "0b33ac2347864b842ceb61a4e34abc4dbd17cdc0c05b643e44926453e8e42152", func := "loop.example/g03001/laws.FnExactHasGrantFor", spec := "fnExactHasGrantFor", plainKeys := false, apart := false }
def FnExactHasGrantForSaid : Prop := fnExactHasGrantForRow.holds Try.pinned (OpenSpec.ofChange fnExactHasGrantForSpec)

/-- ITS FALSE NEIGHBOUR: 'it returns false'. Refute it at one input. -/
def fnExactHasGrantForWrong : ChangeSpec := { name := "fnExactHasGrantFor", fn := fun _ => fun
  | [d1, d2, d3] => { results := [.lit (.bool false)], args := [d1, d2, d3] }
  | _ => none }
def FnExactHasGrantForWrongFalsely : Prop := fnExactHasGrantForRow.holds Try.pinned (OpenSpec.ofChange fnExactHasGrantForWrong)

/-- 'laws.FnExactIsPackage': WHATEVER THE INPUT: true; the input reads as it did. -/
def fnExactIsPackageSpec : ChangeSpec := { name := "fnExactIsPackage", fn := fun _ => fun
  | [d] => { results := [.lit (.bool true)], args := [d] }
  | _ => none }
def fnExactIsPackageRow : OpenClaim := { program := "ytadochjnaocbgaa", sum := "0b33ac2347864b842ceb61a4e34abc4dbd17cdc0c05b643e44926453e8e42152", func := "loop.example/g03001/laws.FnExactIsPackage", spec := "fnExactIsPackage", unfollowed := true, recurses := true, plainKeys := false, apart := false }
def FnExactIsPackageSaid : Prop := fnExactIsPackageRow.holds Try.pinned (OpenSpec.ofChange fnExactIsPackageSpec)

/-- ITS FALSE NEIGHBOUR: 'it returns false'. Refute it at one input. -/
def fnExactIsPackageWrong : ChangeSpec := { name := "fnExactIsPackage", fn := fun _ => fun
  | [d] => { results := [.lit (.bool false)], args := [d] }
  | _ => none }
def FnExactIsPackageWrongFalsely : Prop := fnExactIsPackageRow.holds Try.pinned (OpenSpec.ofChange fnExactIsPackageWrong)

/-- 'laws.FnExactIsTab': WHATEVER THE INPUT: true; the input reads as it did. -/
def fnExactIsTabSpec : ChangeSpec := { name := "fnExactIsTab", fn := fun _ => fun
  | [d] => { results := [.lit (.bool true)], args := [d] }
  | _ => none }
def fnExactIsTabRow : OpenClaim := { program := "ytadochjnaocbgaa", sum := "0b33ac2347864b842ceb61a4e34abc4dbd17cdc0c05b643e44926453e8e42152", func := "loop.example/g03001/laws.FnExactIsTab", spec := "fnExactIsTab", unfollowed := true, recurses := true, plainKeys := false, apart := false }
def FnExactIsTabSaid : Prop := fnExactIsTabRow.holds Try.pinned (OpenSpec.ofChange fnExactIsTabSpec)

/-- ITS FALSE NEIGHBOUR: 'it returns false'. Refute it at one input. -/
def fnExactIsTabWrong : ChangeSpec := { name := "fnExactIsTab", fn := fun _ => fun
  | [d] => { results := [.lit (.bool false)], args := [d] }
  | _ => none }
def FnExactIsTabWrongFalsely : Prop := fnExactIsTabRow.holds Try.pinned (OpenSpec.ofChange fnExactIsTabWrong)

/-- 'laws.FnExactOpenTab': WHATEVER THE INPUT: true; the input reads as it did. -/
def fnExactOpenTabSpec : ChangeSpec := { name := "fnExactOpenTab", fn := fun _ => fun
  | [d1, d2, d3] => { results := [.lit (.bool true)], args := [d1, d2, d3] }
  | _ => none }
def fnExactOpenTabRow : OpenClaim := { program := "ytadochjnaocbgaa", sum := "0b33ac2347864b842ceb61a4e34abc4dbd17cdc0c05b643e44926453e8e42152", func := "loop.example/g03001/laws.FnExactOpenTab", spec := "fnExactOpenTab", unfollowed := true, recurses := true, plainKeys := false, apart := false }
def FnExactOpenTabSaid : Prop := fnExactOpenTabRow.holds Try.pinned (OpenSpec.ofChange fnExactOpenTabSpec)

/-- ITS FALSE NEIGHBOUR: 'it returns false'. Refute it at one input. -/
def fnExactOpenTabWrong : ChangeSpec := { name := "fnExactOpenTab", fn := fun _ => fun
  | [d1, d2, d3] => { results := [.lit (.bool false)], args := [d1, d2, d3] }
  | _ => none }
def FnExactOpenTabWrongFalsely : Prop := fnExactOpenTabRow.holds Try.pinned (OpenSpec.ofChange fnExactOpenTabWrong)

/-- 'laws.FnExactFollowRequest': WHATEVER THE INPUT: true; the input reads as it did. -/
def fnExactFollowRequestSpec : ChangeSpec := { name := "fnExactFollowRequest", fn := fun _ => fun
  | [d1, d2] => { results := [.lit (.bool true)], args := [d1, d2] }
  | _ => none }
def fnExactFollowRequestRow : OpenClaim := { program := "ytadochjnaocbgaa", sum := "0b33ac2347864b842ceb61a4e34abc4dbd17cdc0c05b643e44926453e8e42152", func := "loop.example/g03001/laws.FnExactFollowRequest", spec := "fnExactFollowRequest", unfollowed := true, recurses := true, plainKeys := false, apart := false }
def FnExactFollowRequestSaid : Prop := fnExactFollowRequestRow.holds Try.pinned (OpenSpec.ofChange fnExactFollowRequestSpec)

/-- ITS FALSE NEIGHBOUR: 'it returns false'. Refute it at one input. -/
def fnExactFollowRequestWrong : ChangeSpec := { name := "fnExactFollowRequest", fn := fun _ => fun
  | [d1, d2] => { results := [.lit (.bool false)], args := [d1, d2] }
  | _ => none }
def FnExactFollowRequestWrongFalsely : Prop := fnExactFollowRequestRow.holds Try.pinned (OpenSpec.ofChange fnExactFollowRequestWrong)

/-- 'laws.FnExactIsSettled': WHATEVER THE INPUT: true; the input reads as it did. -/
def fnExactIsSettledSpec : ChangeSpec := { name := "fnExactIsSettled", fn := fun _ => fun
  | [d1, d2] => { results := [.lit (.bool true)], args := [d1, d2] }
  | _ => none }
def fnExactIsSettledRow : OpenClaim := { program := "ytadochjnaocbgaa", sum := "0b33ac2347864b842ceb61a4e34abc4dbd17cdc0c05b643e44926453e8e42152", func := "loop.example/g03001/laws.FnExactIsSettled", spec := "fnExactIsSettled", unfollowed := true, recurses := true, plainKeys := false, apart := false }
def FnExactIsSettledSaid : Prop := fnExactIsSettledRow.holds Try.pinned (OpenSpec.ofChange fnExactIsSettledSpec)

/-- ITS FALSE NEIGHBOUR: 'it returns false'. Refute it at one input. -/
def fnExactIsSettledWrong : ChangeSpec := { name := "fnExactIsSettled", fn := fun _ => fun
  | [d1, d2] => { results := [.lit (.bool false)], args := [d1, d2] }
  | _ => none }
def FnExactIsSettledWrongFalsely : Prop := fnExactIsSettledRow.holds Try.pinned (OpenSpec.ofChange fnExactIsSettledWrong)

/-- 'laws.FnExactLoopsFrom': WHATEVER THE INPUT: true; the input reads as it did. -/
def fnExactLoopsFromSpec : ChangeSpec := { name := "fnExactLoopsFrom", fn := fun _ => fun
  | [d1, d2] => { results := [.lit (.bool true)], args := [d1, d2] }
  | _ => none }
def fnExactLoopsFromRow : OpenClaim := { program := "ytadochjnaocbgaa", sum := "0b33ac2347864b842ceb61a4e34abc4dbd17cdc0c05b643e44926453e8e42152", func := "loop.example/g03001/laws.FnExactLoopsFrom", spec := "fnExactLoopsFrom", unfollowed := true, recurses := true, plainKeys := false, apart := false }
def FnExactLoopsFromSaid : Prop := fnExactLoopsFromRow.holds Try.pinned (OpenSpec.ofChange fnExactLoopsFromSpec)

/-- ITS FALSE NEIGHBOUR: 'it returns false'. Refute it at one input. -/
def fnExactLoopsFromWrong : ChangeSpec := { name := "fnExactLoopsFrom", fn := fun _ => fun
  | [d1, d2] => { results := [.lit (.bool false)], args := [d1, d2] }
  | _ => none }
def FnExactLoopsFromWrongFalsely : Prop := fnExactLoopsFromRow.holds Try.pinned (OpenSpec.ofChange fnExactLoopsFromWrong)

/- THE SECOND FORM. 'bulk': how many values and letters a reading holds, each counted each time it is reached (what is shared counts as often as it is met; a slice's spare places count too). A statement '..UptoSaid' is the law's where the arguments, and the package variables that the reading takes, are together of bulk at most 1048576: NARROWER than '..Said'. Prove '..Said' where nothing that the law and all that it calls make is longer than what came in: it says more and counts as full. Else prove '..UptoSaid'. A law counts once. -/
mutual
def uptoBulk {H : Type} : DataW H → Nat
  | .lit (.string bytes) => bytes.length + 1
  | .lit _ => 1
  | .nil => 1
  | .ptr d => uptoBulk d + 1
  | .slice elems spare => uptoBulkAll elems + uptoBulkAll spare + 1
  | .agg parts => uptoBulkAll parts + 1
  | .iface _ d => uptoBulk d + 1
  | .map entries => uptoBulkEntries entries + 1
  | .held _ => 1
def uptoBulkAll {H : Type} : List (DataW H) → Nat
  | [] => 0
  | d :: r => uptoBulk d + uptoBulkAll r
def uptoBulkEntries {H : Type} : List (Lit × DataW H) → Nat
  | [] => 0
  | x :: r => uptoBulkEntry x + uptoBulkEntries r
def uptoBulkEntry {H : Type} : Lit × DataW H → Nat
  | (.string bytes, d) => bytes.length + uptoBulk d + 1
  | (_, d) => uptoBulk d + 1
 end
def uptoSmall : (H : Type) → List (DataW H) → Bool := fun _ ds => decide (uptoBulkAll ds ≤ 1048576)
def OpenSpec.upto (s : _root_.Go.ChangeSpec) : _root_.Go.OpenSpec := { _root_.Go.OpenSpec.ofChange s with cond := some uptoSmall }

/-- 'laws.FnExactLabelOf', WHERE WHAT IT READS IS OF BULK AT MOST 1048576: true; the input reads as it did. -/
def fnExactLabelOfUptoRow : OpenClaim := { program := "ytadochjnaocbgaa", sum := "0b33ac2347864b842ceb61a4e34abc4dbd17cdc0c05b643e44926453e8e42152", func := "loop.example/g03001/laws.FnExactLabelOf", spec := "fnExactLabelOf", plainKeys := false, apart := false, narrowed := true }
def FnExactLabelOfUptoSaid : Prop := fnExactLabelOfUptoRow.holds Try.pinned (OpenSpec.upto fnExactLabelOfSpec)

/-- 'laws.FnExactHasGrantFor', WHERE WHAT IT READS IS OF BULK AT MOST 1048576: true; the input reads as it did. -/
def fnExactHasGrantForUptoRow : OpenClaim := { program := "ytadochjnaocbgaa", sum := "0b33ac2347864b842ceb61a4e34abc4dbd17cdc0c05b643e44926453e8e42152", func := "loop.example/g03001/laws.FnExactHasGrantFor", spec := "fnExactHasGrantFor", plainKeys := false, apart := false, narrowed := true }
def FnExactHasGrantForUptoSaid : Prop := fnExactHasGrantForUptoRow.holds Try.pinned (OpenSpec.upto fnExactHasGrantForSpec)

/-- 'laws.FnExactIsPackage', WHERE WHAT IT READS IS OF BULK AT MOST 1048576: true; the input reads as it did. -/
def fnExactIsPackageUptoRow : OpenClaim := { program := "ytadochjnaocbgaa", sum := "0b33ac2347864b842ceb61a4e34abc4dbd17cdc0c05b643e44926453e8e42152", func := "loop.example/g03001/laws.FnExactIsPackage", spec := "fnExactIsPackage", unfollowed := true, recurses := true, plainKeys := false, apart := false, narrowed := true }
def FnExactIsPackageUptoSaid : Prop := fnExactIsPackageUptoRow.holds Try.pinned (OpenSpec.upto fnExactIsPackageSpec)

/-- 'laws.FnExactIsTab', WHERE WHAT IT READS IS OF BULK AT MOST 1048576: true; the input reads as it did. -/
def fnExactIsTabUptoRow : OpenClaim := { program := "ytadochjnaocbgaa", sum := "0b33ac2347864b842ceb61a4e34abc4dbd17cdc0c05b643e44926453e8e42152", func := "loop.example/g03001/laws.FnExactIsTab", spec := "fnExactIsTab", unfollowed := true, recurses := true, plainKeys := false, apart := false, narrowed := true }
def FnExactIsTabUptoSaid : Prop := fnExactIsTabUptoRow.holds Try.pinned (OpenSpec.upto fnExactIsTabSpec)

/-- 'laws.FnExactOpenTab', WHERE WHAT IT READS IS OF BULK AT MOST 1048576: true; the input reads as it did. -/
def fnExactOpenTabUptoRow : OpenClaim := { program := "ytadochjnaocbgaa", sum := "0b33ac2347864b842ceb61a4e34abc4dbd17cdc0c05b643e44926453e8e42152", func := "loop.example/g03001/laws.FnExactOpenTab", spec := "fnExactOpenTab", unfollowed := true, recurses := true, plainKeys := false, apart := false, narrowed := true }
def FnExactOpenTabUptoSaid : Prop := fnExactOpenTabUptoRow.holds Try.pinned (OpenSpec.upto fnExactOpenTabSpec)

/-- 'laws.FnExactFollowRequest', WHERE WHAT IT READS IS OF BULK AT MOST 1048576: true; the input reads as it did. -/
def fnExactFollowRequestUptoRow : OpenClaim := { program := "ytadochjnaocbgaa", sum := "0b33ac2347864b842ceb61a4e34abc4dbd17cdc0c05b643e44926453e8e42152", func := "loop.example/g03001/laws.FnExactFollowRequest", spec := "fnExactFollowRequest", unfollowed := true, recurses := true, plainKeys := false, apart := false, narrowed := true }
def FnExactFollowRequestUptoSaid : Prop := fnExactFollowRequestUptoRow.holds Try.pinned (OpenSpec.upto fnExactFollowRequestSpec)

/-- 'laws.FnExactIsSettled', WHERE WHAT IT READS IS OF BULK AT MOST 1048576: true; the input reads as it did. -/
def fnExactIsSettledUptoRow : OpenClaim := { program := "ytadochjnaocbgaa", sum := "0b33ac2347864b842ceb61a4e34abc4dbd17cdc0c05b643e44926453e8e42152", func := "loop.example/g03001/laws.FnExactIsSettled", spec := "fnExactIsSettled", unfollowed := true, recurses := true, plainKeys := false, apart := false, narrowed := true }
def FnExactIsSettledUptoSaid : Prop := fnExactIsSettledUptoRow.holds Try.pinned (OpenSpec.upto fnExactIsSettledSpec)

/-- 'laws.FnExactLoopsFrom', WHERE WHAT IT READS IS OF BULK AT MOST 1048576: true; the input reads as it did. -/
def fnExactLoopsFromUptoRow : OpenClaim := { program := "ytadochjnaocbgaa", sum := "0b33ac2347864b842ceb61a4e34abc4dbd17cdc0c05b643e44926453e8e42152", func := "loop.example/g03001/laws.FnExactLoopsFrom", spec := "fnExactLoopsFrom", unfollowed := true, recurses := true, plainKeys := false, apart := false, narrowed := true }
def FnExactLoopsFromUptoSaid : Prop := fnExactLoopsFromUptoRow.holds Try.pinned (OpenSpec.upto fnExactLoopsFromSpec)

end Rows
end Go.Proofs.Ytadochjnaocbgaa
