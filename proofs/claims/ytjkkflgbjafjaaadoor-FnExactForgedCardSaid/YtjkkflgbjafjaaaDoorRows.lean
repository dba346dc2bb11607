/-
  NARROWER THAN 'FOR EVERY INPUT', by the rows' own cells (each row's printed sentence says how): FnExactSealLetter: ifaces, laid · FnExactIsGenuine: ifaces, laid · FnExactDeliver: ifaces, laid · FnExactForged: ifaces, laid.
  DERIVED. THE GIVEN ROWS OF THIS SEAT. 4 by the template 'for every input the law returns true; each argument reads behind the call as it read before'; 0 by the template 'total and deterministic' (their statements: YtjkkflgbjafjaaaDoorTotals.lean).
  GIVEN WITH THE SEED: the statements are not yours to turn. If you find one false, say at which input.
  Laid BY PROGRAM, IN A SANDBOX (cutbox-rows.mjs): the forced cells as the released guide's own fill.sh prints them over the translation 92f1f6bcecfba402… (all of the seat's roots in one cut). By AI agents, Wed Nov 11 2026. No macro, syntax, notation, axiom, sorry.
-/
import Derived.Test.YtjkkflgbjafjaaaDoorChecked
import GoSem.Claim
import GoSem.ClaimJoined
import GoSem.ClaimMapViews
import Derived.JoinedTies
import Derived.KernelRfl
namespace Go.Proofs.YtjkkflgbjafjaaaDoor
/- THE CELL 'sum', in the pinned program and in every row, IS THE sha256 OF THE DUMP (.gsa) THAT YtjkkflgbjafjaaaDoorProg.lean LOADS. Nothing in Lean hashes anything: it is a label: what it is worth is what the hold of that sum in a sandbox is worth. -/
noncomputable def Tryd.pinned : Pinned := { name := "ytjkkflgbjafjaaadoor", sum := "92f1f6bcecfba4021f32d9ed65f184b72fbfb74141c2b9380f328d21f9a2113b", checked := Tryd.checked }
namespace Rows
def none {H : Type} : Left H := { results := [], args := [] }

/- WHAT THE LISTED PACKAGE-LEVEL VARIABLES READ AS WHEN THE CALL BEGINS. Each datum BY PROGRAM (the guide's laid-datum.mjs) off the statement by which the dump's own 'gosem.cut.vars' lays the variable. In a bare row this is a premise. The card (YtjkkflgbjafjaaaDoorCards.lean) ties it to the program's text. -/
def laid_loop_example_g03001_impl_errNoKey {H : Type} : DataW H := .iface "*errors.errorString" (.ptr (.agg [.lit (.string [116, 104, 101, 32, 110, 117, 109, 98, 101, 114, 32, 105, 115, 32, 110, 111, 116, 32, 105, 110, 32, 116, 104, 101, 32, 114, 97, 110, 103, 101, 32, 111, 102, 32, 116, 104, 101, 32, 107, 101, 121, 115])]))

/-- 'laws.FnExactSealLetter': WHATEVER THE INPUT: true; the input reads as it did. -/
def fnExactSealLetterSpec : ChangeSpec := { name := "fnExactSealLetter", vars := ["loop.example/g03001/impl.errNoKey"], fn := fun _ => fun
  | [d1, d2, g1] => { results := [.lit (.bool true)], args := [d1, d2], vars := [g1] }
  | _ => none }
def fnExactSealLetterRow : OpenClaim := { program := "ytjkkflgbjafjaaadoor", sum := "92f1f6bcecfba4021f32d9ed65f184b72fbfb74141c2b9380f328d21f9a2113b", func := "loop.example/g03001/laws.FnExactSealLetter", spec := "fnExactSealLetter", inPlace := ["internal/reflectlite.TypeOf"], unfollowed := true, recurses := true, named := ["loop.example/g03001/impl.errNoKey"], ifaces := true, apart := false, laid := [("loop.example/g03001/impl.errNoKey", laid_loop_example_g03001_impl_errNoKey)] }
def FnExactSealLetterSaid : Prop := fnExactSealLetterRow.holds Tryd.pinned (OpenSpec.ofChange fnExactSealLetterSpec)

/-- ITS FALSE NEIGHBOUR: 'it returns false'. Refute it at one input. -/
def fnExactSealLetterWrong : ChangeSpec := { name := "fnExactSealLetter", vars := ["loop.example/g03001/impl.errNoKey"], fn := fun _ => fun
  | [d1, d2, g1] => { results := [.lit (.bool false)], args := [d1, d2], vars := [g1] }
  | _ => none }
def FnExactSealLetterWrongFalsely : Prop := fnExactSealLetterRow.holds Tryd.pinned (OpenSpec.ofChange fnExactSealLetterWrong)

/-- 'laws.FnExactIsGenuine': WHATEVER THE INPUT: true; the input reads as it did. -/
def fnExactIsGenuineSpec : ChangeSpec := { name := "fnExactIsGenuine", vars := ["loop.example/g03001/impl.errNoKey"], fn := fun _ => fun
  | [d1, d2, g1] => { results := [.lit (.bool true)], args := [d1, d2], vars := [g1] }
  | _ => none }
def fnExactIsGenuineRow : OpenClaim := { program := "ytjkkflgbjafjaaadoor", sum := "92f1f6bcecfba4021f32d9ed65f184b72fbfb74141c2b9380f328d21f9a2113b", func := "loop.example/g03001/laws.FnExactIsGenuine", spec := "fnExactIsGenuine", inPlace := ["internal/reflectlite.TypeOf"], unfollowed := true, recurses := true, named := ["loop.example/g03001/impl.errNoKey"], ifaces := true, apart := false, laid := [("loop.example/g03001/impl.errNoKey", laid_loop_example_g03001_impl_errNoKey)] }
def FnExactIsGenuineSaid : Prop := fnExactIsGenuineRow.holds Tryd.pinned (OpenSpec.ofChange fnExactIsGenuineSpec)

/-- ITS FALSE NEIGHBOUR: 'it returns false'. Refute it at one input. -/
def fnExactIsGenuineWrong : ChangeSpec := { name := "fnExactIsGenuine", vars := ["loop.example/g03001/impl.errNoKey"], fn := fun _ => fun
  | [d1, d2, g1] => { results := [.lit (.bool false)], args := [d1, d2], vars := [g1] }
  | _ => none }
def FnExactIsGenuineWrongFalsely : Prop := fnExactIsGenuineRow.holds Tryd.pinned (OpenSpec.ofChange fnExactIsGenuineWrong)

/-- 'laws.FnExactDeliver': WHATEVER THE INPUT: true; the input reads as it did. -/
def fnExactDeliverSpec : ChangeSpec := { name := "fnExactDeliver", vars := ["loop.example/g03001/impl.errNoKey"], fn := fun _ => fun
  | [d1, d2, d3, g1] => { results := [.lit (.bool true)], args := [d1, d2, d3], vars := [g1] }
  | _ => none }
def fnExactDeliverRow : OpenClaim := { program := "ytjkkflgbjafjaaadoor", sum := "92f1f6bcecfba4021f32d9ed65f184b72fbfb74141c2b9380f328d21f9a2113b", func := "loop.example/g03001/laws.FnExactDeliver", spec := "fnExactDeliver", inPlace := ["internal/reflectlite.TypeOf"], unfollowed := true, recurses := true, named := ["loop.example/g03001/impl.errNoKey"], ifaces := true, apart := false, laid := [("loop.example/g03001/impl.errNoKey", laid_loop_example_g03001_impl_errNoKey)] }
def FnExactDeliverSaid : Prop := fnExactDeliverRow.holds Tryd.pinned (OpenSpec.ofChange fnExactDeliverSpec)

/-- ITS FALSE NEIGHBOUR: 'it returns false'. Refute it at one input. -/
def fnExactDeliverWrong : ChangeSpec := { name := "fnExactDeliver", vars := ["loop.example/g03001/impl.errNoKey"], fn := fun _ => fun
  | [d1, d2, d3, g1] => { results := [.lit (.bool false)], args := [d1, d2, d3], vars := [g1] }
  | _ => none }
def FnExactDeliverWrongFalsely : Prop := fnExactDeliverRow.holds Tryd.pinned (OpenSpec.ofChange fnExactDeliverWrong)

/-- 'laws.FnExactForged': WHATEVER THE INPUT: true; the input reads as it did. -/
def fnExactForgedSpec : ChangeSpec := { name := "fnExactForged", vars := ["loop.example/g03001/impl.errNoKey"], fn := fun _ => fun
  | [d1, d2, g1] => { results := [.lit (.bool true)], args := [d1, d2], vars := [g1] }
  | _ => none }
def fnExactForgedRow : OpenClaim := { program := "ytjkkflgbjafjaaadoor", sum := "92f1f6bcecfba4021f32d9ed65f184b72fbfb74141c2b9380f328d21f9a2113b", func := "loop.example/g03001/laws.FnExactForged", spec := "fnExactForged", inPlace := ["internal/reflectlite.TypeOf"], unfollowed := true, recurses := true, named := ["loop.example/g03001/impl.errNoKey"], ifaces := true, apart := false, laid := [("loop.example/g03001/impl.errNoKey", laid_loop_example_g03001_impl_errNoKey)] }
def FnExactForgedSaid : Prop := fnExactForgedRow.holds Tryd.pinned (OpenSpec.ofChange fnExactForgedSpec)

/-- ITS FALSE NEIGHBOUR: 'it returns false'. Refute it at one input. -/
def fnExactForgedWrong : ChangeSpec := { name := "fnExactForged", vars := ["loop.example/g03001/impl.errNoKey"], fn := fun _ => fun
  | [d1, d2, g1] => { results := [.lit (.bool false)], args := [d1, d2], vars := [g1] }
  | _ => none }
def FnExactForgedWrongFalsely : Prop := fnExactForgedRow.holds Tryd.pinned (OpenSpec.ofChange fnExactForgedWrong)

/- THE SECOND FORM. 'bulk': how many values and letters a reading holds, each counted each time it is reached (what is shared counts as often as it is met; a slice's spare places count too). A statement '..UptoSaid' is the law's where the arguments, and the package variables that the reading takes, are together of bulk at most 1048576: NARROWER than '..Said'. Prove '..Said' where nothing that the law and all that it calls make is longer than what came in: it says more and counts as full. Else prove '..UptoSaid'. A law counts once. -/
mutual
def uptoBulk {H : Type} : DataW H → Nat
  | .lit (.string bytes) => bytes.length + 1
  | .lit _ => 1
  | .nil => 1
  | .ptr d => uptoBulk d + 1
  | .slice elems spare => uptoBulkAll elems + uptoBulkAll spare + 1
  | .agg parts => uptoBulkAll parts + 1
  | .iface _ d => uptoBulk d + 1
  | .map entries => uptoBulkEntries entries + 1
  | .held _ => 1
def uptoBulkAll {H : Type} : List (DataW H) → Nat
  | [] => 0
  | d :: r => uptoBulk d + uptoBulkAll r
def uptoBulkEntries {H : Type} : List (Lit × DataW H) → Nat
  | [] => 0
  | x :: r => uptoBulkEntry x + uptoBulkEntries r
def uptoBulkEntry {H : Type} : Lit × DataW H → Nat
  | (.string bytes, d) => bytes.length + uptoBulk d + 1
  | (_, d) => uptoBulk d + 1
 end
def uptoSmall : (H : Type) → List (DataW H) → Bool := fun _ ds => decide (uptoBulkAll ds ≤ 1048576)
def OpenSpec.upto (s : _root_.Go.ChangeSpec) : _root_.Go.OpenSpec := { _root_.Go.OpenSpec.ofChange s with cond := some uptoSmall }

/-- 'laws.FnExactSealLetter', WHERE WHAT IT READS IS OF BULK AT MOST 1048576: true; the input reads as it did. -/
def fnExactSealLetterUptoRow : OpenClaim := { program := "ytjkkflgbjafjaaadoor", sum := "92f1f6bcecfba4021f32d9ed65f184b72fbfb74141c2b9380f328d21f9a2113b", func := "loop.example/g03001/laws.FnExactSealLetter", spec := "fnExactSealLetter", inPlace := ["internal/reflectlite.TypeOf"], unfollowed := true, recurses := true, named := ["loop.example/g03001/impl.errNoKey"], ifaces := true, apart := false, laid := [("loop.example/g03001/impl.errNoKey", laid_loop_example_g03001_impl_errNoKey)], narrowed := true }
def FnExactSealLetterUptoSaid : Prop := fnExactSealLetterUptoRow.holds Tryd.pinned (OpenSpec.upto fnExactSealLetterSpec)

/-- 'laws.FnExactIsGenuine', WHERE WHAT IT READS IS OF BULK AT MOST 1048576: true; the input reads as it did. -/
def fnExactIsGenuineUptoRow : OpenClaim := { program := "ytjkkflgbjafjaaadoor", sum := "92f1f6bcecfba4021f32d9ed65f184b72fbfb74141c2b9380f328d21f9a2113b", func := "loop.example/g03001/laws.FnExactIsGenuine", spec := "fnExactIsGenuine", inPlace := ["internal/reflectlite.TypeOf"], unfollowed := true, recurses := true, named := ["loop.example/g03001/impl.errNoKey"], ifaces := true, apart := false, laid := [("loop.example/g03001/impl.errNoKey", laid_loop_example_g03001_impl_errNoKey)], narrowed := true }
def FnExactIsGenuineUptoSaid : Prop := fnExactIsGenuineUptoRow.holds Tryd.pinned (OpenSpec.upto fnExactIsGenuineSpec)

/-- 'laws.FnExactDeliver', WHERE WHAT IT READS IS OF BULK AT MOST 1048576: true; the input reads as it did. -/
def fnExactDeliverUptoRow : OpenClaim := { program := "ytjkkflgbjafjaaadoor", sum := "92f1f6bcecfba4021f32d9ed65f184b72fbfb74141c2b9380f328d21f9a2113b", func := "loop.example/g03001/laws.FnExactDeliver", spec := "fnExactDeliver", inPlace := ["internal/reflectlite.TypeOf"], unfollowed := true, recurses := true, named := ["loop.example/g03001/impl.errNoKey"], ifaces := true, apart := false, laid := [("loop.example/g03001/impl.errNoKey", laid_loop_example_g03001_impl_errNoKey)], narrowed := true }
def FnExactDeliverUptoSaid : Prop := fnExactDeliverUptoRow.holds Tryd.pinned (OpenSpec.upto fnExactDeliverSpec)

/-- 'laws.FnExactForged', WHERE WHAT IT READS IS OF BULK AT MOST 1048576: true; the input reads as it did. -/
def fnExactForgedUptoRow : OpenClaim := { program := "ytjkkflgbjafjaaadoor", sum := "92f1f6bcecfba4021f32d9ed65f184b72fbfb74141c2b9380f328d21f9a2113b", func := "loop.example/g03001/laws.FnExactForged", spec := "fnExactForged", inPlace := ["internal/reflectlite.TypeOf"], unfollowed := true, recurses := true, named := ["loop.example/g03001/impl.errNoKey"], ifaces := true, apart := false, laid := [("loop.example/g03001/impl.errNoKey", laid_loop_example_g03001_impl_errNoKey)], narrowed := true }
def FnExactForgedUptoSaid : Prop := fnExactForgedUptoRow.holds Tryd.pinned (OpenSpec.upto fnExactForgedSpec)

end Rows
end Go.Proofs.YtjkkflgbjafjaaaDoor
