/-
  NARROWER THAN 'FOR EVERY INPUT', by the rows' own cells (each row's printed sentence says how): FnExactUpdateCode: ifaces, laid · FnExactCanRollBack: ifaces, laid · FnExactUpdatePackage: ifaces, laid · FnExactIsReviewed: ifaces, laid.
  DERIVED. THE GIVEN ROWS OF THIS SEAT. 4 by the template 'for every input the law returns true; each argument reads behind the call as it read before'; 0 by the template 'total and deterministic' (their statements: YtkedacmpmancbaaGreatDoorTotals.lean).
  GIVEN WITH THE SEED: the statements are not yours to turn. If you find one false, say at which input.
  Laid BY PROGRAM, IN A SANDBOX (cutbox-rows.mjs): the forced cells as the released guide's own fill.sh prints them over the translation f6e776e7959d4020… (all of the seat's roots in one cut). By AI agents, Wed Nov 11 2026. No macro, syntax, notation, axiom, sorry.
-/
import Derived.Test.YtkedacmpmancbaaGreatDoorChecked
import GoSem.Claim
import GoSem.ClaimJoined
import GoSem.ClaimMapViews
import Derived.JoinedTies
import Derived.KernelRfl
namespace Go.Proofs.YtkedacmpmancbaaGreatDoor
/- THE CELL 'sum', in the pinned program and in every row, IS THE sha256 OF THE DUMP (.gsa) THAT YtkedacmpmancbaaGreatDoorProg.lean LOADS. Nothing in Lean hashes anything: it is a label: what it is worth is what the hold of that sum in a sandbox is worth. -/
noncomputable def Tryz.pinned : Pinned := { name := "ytkedacmpmancbaagreatdoor", sum := "f6e776e7959d4020d5071f2c226813c630fd37cf135c7a86900ded8beaa9effd", checked := Tryz.checked }
namespace Rows
def none {H : Type} : Left H := { results := [], args := [] }

/- WHAT THE LISTED PACKAGE-LEVEL VARIABLES READ AS WHEN THE CALL BEGINS. Each datum BY PROGRAM (the guide's laid-datum.mjs) off the statement by which the dump's own 'gosem.cut.vars' lays the variable. In a bare row this is a premise. The card (YtkedacmpmancbaaGreatDoorCards.lean) ties it to the program's text. -/
def laid_loop_example_g03001_impl_errNoKey {H : Type} : DataW H := .iface "*errors.errorString" (.ptr (.agg [.lit (.string [116, 104, 101, 32, 110, 117, 109, 98, 101, 114, 32, 105, 115, 32, 110, 111, 116, 32, 105, 110, 32, 116, 104, 101, 32, 114, 97, 110, 103, 101, 32, 111, 102, 32, 116, 104, 101, 32, 107, 101, 121, 115])]))

/-- 'laws.FnExactUpdateCode': WHATEVER THE INPUT: true; the input reads as it did. -/
def fnExactUpdateCodeSpec : ChangeSpec := { name := "fnExactUpdateCode", vars := ["loop.example/g03001/impl.errNoKey"], fn := fun _ => fun
  | [d1, d2, d3, d4, g1] => { results := [.lit (.bool true)], args := [d1, d2, d3, d4], vars := [g1] }
  | _ => none }
def fnExactUpdateCodeRow : OpenClaim := { program := "ytkedacmpmancbaagreatdoor", sum := "f6e776e7959d4020d5071f2c226813c630fd37cf135c7a86900ded8beaa9effd", func := "loop.example/g03001/laws.FnExactUpdateCode", spec := "fnExactUpdateCode", inPlace := ["internal/reflectlite.TypeOf"], unfollowed := true, recurses := true, named := ["loop.example/g03001/impl.errNoKey"], ifaces := true, apart := false, laid := [("loop.example/g03001/impl.errNoKey", laid_loop_example_g03001_impl_errNoKey)] }
def FnExactUpdateCodeSaid : Prop := fnExactUpdateCodeRow.holds Tryz.pinned (OpenSpec.ofChange fnExactUpdateCodeSpec)

/-- ITS FALSE NEIGHBOUR: 'it returns false'. Refute it at one input. -/
def fnExactUpdateCodeWrong : ChangeSpec := { name := "fnExactUpdateCode", vars := ["loop.example/g03001/impl.errNoKey"], fn := fun _ => fun
  | [d1, d2, d3, d4, g1] => { results := [.lit (.bool false)], args := [d1, d2, d3, d4], vars := [g1] }
  | _ => none }
def FnExactUpdateCodeWrongFalsely : Prop := fnExactUpdateCodeRow.holds Tryz.pinned (OpenSpec.ofChange fnExactUpdateCodeWrong)

/-- 'laws.FnExactCanRollBack': WHATEVER THE INPUT: true; the input reads as it did. -/
def fnExactCanRollBackSpec : ChangeSpec := { name := "fnExactCanRollBack", vars := ["loop.example/g03001/impl.errNoKey"], fn := fun _ => fun
  | [d1, d2, d3, g1] => { results := [.lit (.bool true)], args := [d1, d2, d3], vars := [g1] }
  | _ => none }
def fnExactCanRollBackRow : OpenClaim := { program := "ytkedacmpmancbaagreatdoor", sum := "f6e776e7959d4020d5071f2c226813c630fd37cf135c7a86900ded8beaa9effd", func := "loop.example/g03001/laws.FnExactCanRollBack", spec := "fnExactCanRollBack", inPlace := ["internal/reflectlite.TypeOf"], unfollowed := true, recurses := true, named := ["loop.example/g03001/impl.errNoKey"], ifaces := true, apart := false, laid := [("loop.example/g03001/impl.errNoKey", laid_loop_example_g03001_impl_errNoKey)] }
def FnExactCanRollBackSaid : Prop := fnExactCanRollBackRow.holds Tryz.pinned (OpenSpec.ofChange fnExactCanRollBackSpec)

/-- ITS FALSE NEIGHBOUR: 'it returns false'. Refute it at one input. -/
def fnExactCanRollBackWrong : ChangeSpec := { name := "fnExactCanRollBack", vars := ["loop.example/g03001/impl.errNoKey"], fn := fun _ => fun
  | [d1, d2, d3, g1] => { results := [.lit (.bool false)], args := [d1, d2, d3], vars := [g1] }
  | _ => none }
def FnExactCanRollBackWrongFalsely : Prop := fnExactCanRollBackRow.holds Tryz.pinned (OpenSpec.ofChange fnExactCanRollBackWrong)

/-- 'laws.FnExactUpdatePackage': WHATEVER THE INPUT: true; the input reads as it did. -/
def fnExactUpdatePackageSpec : ChangeSpec := { name := "fnExactUpdatePackage", vars := ["loop.example/g03001/impl.errNoKey"], fn := fun _ => fun
  | [d1, d2, d3, d4, g1] => { results := [.lit (.bool true)], args := [d1, d2, d3, d4], vars := [g1] }
  | _ => none }
def fnExactUpdatePackageRow : OpenClaim := { program := "ytkedacmpmancbaagreatdoor", sum := "f6e776e7959d4020d5071f2c226813c630fd37cf135c7a86900ded8beaa9effd", func := "loop.example/g03001/laws.FnExactUpdatePackage", spec := "fnExactUpdatePackage", inPlace := ["internal/reflectlite.TypeOf"], unfollowed := true, recurses := true, named := ["loop.example/g03001/impl.errNoKey"], ifaces := true, apart := false, laid := [("loop.example/g03001/impl.errNoKey", laid_loop_example_g03001_impl_errNoKey)] }
def FnExactUpdatePackageSaid : Prop := fnExactUpdatePackageRow.holds Tryz.pinned (OpenSpec.ofChange fnExactUpdatePackageSpec)

/-- ITS FALSE NEIGHBOUR: 'it returns false'. Refute it at one input. -/
def fnExactUpdatePackageWrong : ChangeSpec := { name := "fnExactUpdatePackage", vars := ["loop.example/g03001/impl.errNoKey"], fn := fun _ => fun
  | [d1, d2, d3, d4, g1] => { results := [.lit (.bool false)], args := [d1, d2, d3, d4], vars := [g1] }
  | _ => none }
def FnExactUpdatePackageWrongFalsely : Prop := fnExactUpdatePackageRow.holds Tryz.pinned (OpenSpec.ofChange fnExactUpdatePackageWrong)

/-- 'laws.FnExactIsReviewed': WHATEVER THE INPUT: true; the input reads as it did. -/
def fnExactIsReviewedSpec : ChangeSpec := { name := "fnExactIsReviewed", vars := ["loop.example/g03001/impl.errNoKey"], fn := fun _ => fun
  | [d, g1] => { results := [.lit (.bool true)], args := [d], vars := [g1] }
  | _ => none }
def fnExactIsReviewedRow : OpenClaim := { program := "ytkedacmpmancbaagreatdoor", sum := "f6e776e7959d4020d5071f2c226813c630fd37cf135c7a86900ded8beaa9effd", func := "loop.example/g03001/laws.FnExactIsReviewed", spec := "fnExactIsReviewed", inPlace := ["internal/reflectlite.TypeOf"], unfollowed := true, recurses := true, named := ["loop.example/g03001/impl.errNoKey"], ifaces := true, apart := false, laid := [("loop.example/g03001/impl.errNoKey", laid_loop_example_g03001_impl_errNoKey)] }
def FnExactIsReviewedSaid : Prop := fnExactIsReviewedRow.holds Tryz.pinned (OpenSpec.ofChange fnExactIsReviewedSpec)

/-- ITS FALSE NEIGHBOUR: 'it returns false'. Refute it at one input. -/
def fnExactIsReviewedWrong : ChangeSpec := { name := "fnExactIsReviewed", vars := ["loop.example/g03001/impl.errNoKey"], fn := fun _ => fun
  | [d, g1] => { results := [.lit (.bool false)], args := [d], vars := [g1] }
  | _ => none }
def FnExactIsReviewedWrongFalsely : Prop := fnExactIsReviewedRow.holds Tryz.pinned (OpenSpec.ofChange fnExactIsReviewedWrong)

/- THE SECOND FORM. 'bulk': how many values and letters a reading holds, each counted each time it is reached (what is shared counts as often as it is met; a slice's spare places count too). A statement '..UptoSaid' is the law's where the arguments, and the package variables that the reading takes, are together of bulk at most 1048576: NARROWER than '..Said'. Prove '..Said' where nothing that the law and all that it calls make is longer than what came in: it says more and counts as full. Else prove '..UptoSaid'. A law counts once. -/
mutual
def uptoBulk {H : Type} : DataW H → Nat
  | .lit (.string bytes) => bytes.length + 1
  | .lit _ => 1
  | .nil => 1
  | .ptr d => uptoBulk d + 1
  | .slice elems spare => uptoBulkAll elems + uptoBulkAll spare + 1
  | .agg parts => uptoBulkAll parts + 1
  | .iface _ d => uptoBulk d + 1
  | .map entries => uptoBulkEntries entries + 1
  | .held _ => 1
def uptoBulkAll {H : Type} : List (DataW H) → Nat
  | [] => 0
  | d :: r => uptoBulk d + uptoBulkAll r
def uptoBulkEntries {H : Type} : List (Lit × DataW H) → Nat
  | [] => 0
  | x :: r => uptoBulkEntry x + uptoBulkEntries r
def uptoBulkEntry {H : Type} : Lit × DataW H → Nat
  | (.string bytes, d) => bytes.length + uptoBulk d + 1
  | (_, d) => uptoBulk d + 1
 end
def uptoSmall : (H : Type) → List (DataW H) → Bool := fun _ ds => decide (uptoBulkAll ds ≤ 1048576)
def OpenSpec.upto (s : _root_.Go.ChangeSpec) : _root_.Go.OpenSpec := { _root_.Go.OpenSpec.ofChange s with cond := some uptoSmall }

/-- 'laws.FnExactUpdateCode', WHERE WHAT IT READS IS OF BULK AT MOST 1048576: true; the input reads as it did. -/
def fnExactUpdateCodeUptoRow : OpenClaim := { program := "ytkedacmpmancbaagreatdoor", sum := "f6e776e7959d4020d5071f2c226813c630fd37cf135c7a86900ded8beaa9effd", func := "loop.example/g03001/laws.FnExactUpdateCode", spec := "fnExactUpdateCode", inPlace := ["internal/reflectlite.TypeOf"], unfollowed := true, recurses := true, named := ["loop.example/g03001/impl.errNoKey"], ifaces := true, apart := false, laid := [("loop.example/g03001/impl.errNoKey", laid_loop_example_g03001_impl_errNoKey)], narrowed := true }
def FnExactUpdateCodeUptoSaid : Prop := fnExactUpdateCodeUptoRow.holds Tryz.pinned (OpenSpec.upto fnExactUpdateCodeSpec)

/-- 'laws.FnExactCanRollBack', WHERE WHAT IT READS IS OF BULK AT MOST 1048576: true; the input reads as it did. -/
def fnExactCanRollBackUptoRow : OpenClaim := { program := "ytkedacmpmancbaagreatdoor", sum := "f6e776e7959d4020d5071f2c226813c630fd37cf135c7a86900ded8beaa9effd", func := "loop.example/g03001/laws.FnExactCanRollBack", spec := "fnExactCanRollBack", inPlace := ["internal/reflectlite.TypeOf"], unfollowed := true, recurses := true, named := ["loop.example/g03001/impl.errNoKey"], ifaces := true, apart := false, laid := [("loop.example/g03001/impl.errNoKey", laid_loop_example_g03001_impl_errNoKey)], narrowed := true }
def FnExactCanRollBackUptoSaid : Prop := fnExactCanRollBackUptoRow.holds Tryz.pinned (OpenSpec.upto fnExactCanRollBackSpec)

/-- 'laws.FnExactUpdatePackage', WHERE WHAT IT READS IS OF BULK AT MOST 1048576: true; the input reads as it did. -/
def fnExactUpdatePackageUptoRow : OpenClaim := { program := "ytkedacmpmancbaagreatdoor", sum := "f6e776e7959d4020d5071f2c226813c630fd37cf135c7a86900ded8beaa9effd", func := "loop.example/g03001/laws.FnExactUpdatePackage", spec := "fnExactUpdatePackage", inPlace := ["internal/reflectlite.TypeOf"], unfollowed := true, recurses := true, named := ["loop.example/g03001/impl.errNoKey"], ifaces := true, apart := false, laid := [("loop.example/g03001/impl.errNoKey", laid_loop_example_g03001_impl_errNoKey)], narrowed := true }
def FnExactUpdatePackageUptoSaid : Prop := fnExactUpdatePackageUptoRow.holds Tryz.pinned (OpenSpec.upto fnExactUpdatePackageSpec)

/-- 'laws.FnExactIsReviewed', WHERE WHAT IT READS IS OF BULK AT MOST 1048576: true; the input reads as it did. -/
def fnExactIsReviewedUptoRow : OpenClaim := { program := "ytkedacmpmancbaagreatdoor", sum := "f6e776e7959d4020d5071f2c226813c630fd37cf135c7a86900ded8beaa9effd", func := "loop.example/g03001/laws.FnExactIsReviewed", spec := "fnExactIsReviewed", inPlace := ["internal/reflectlite.TypeOf"], unfollowed := true, recurses := true, named := ["loop.example/g03001/impl.errNoKey"], ifaces := true, apart := false, laid := [("loop.example/g03001/impl.errNoKey", laid_loop_example_g03001_impl_errNoKey)], narrowed := true }
def FnExactIsReviewedUptoSaid : Prop := fnExactIsReviewedUptoRow.holds Tryz.pinned (OpenSpec.upto fnExactIsReviewedSpec)

end Rows
end Go.Proofs.YtkedacmpmancbaaGreatDoor
