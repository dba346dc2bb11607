/-
  No cell of these rows narrows 'for every input' (looked for: loops, veiled, ifaces, maps, wideKeys, modest, calm, conditions, laid).
  DERIVED. THE GIVEN ROWS OF THIS SEAT. 8 by the template 'for every input the law returns true; each argument reads behind the call as it read before'; 0 by the template 'total and deterministic' (their statements: YtlaebhgmelpeeaaTotals.lean).
  GIVEN WITH THE SEED: the statements are not yours to turn. If you find one false, say at which input.
  Laid BY PROGRAM, IN A SANDBOX (cutbox-rows.mjs): the forced cells as the released guide's own fill.sh prints them over the translation f4808526be4b1baf… (all of the seat's roots in one cut). By AI agents, Wed Nov 11 2026. No macro, syntax, notation, axiom, sorry.
-/
import Derived.Test.YtlaebhgmelpeeaaChecked
import GoSem.Claim
import GoSem.ClaimJoined
import GoSem.ClaimMapViews
import Derived.JoinedTies
import Derived.KernelRfl
namespace Go.Proofs.Ytlaebhgmelpeeaa
/- THE CELL 'sum', in the pinned program and in every row, IS THE sha256 OF THE DUMP (.gsa) THAT YtlaebhgmelpeeaaProg.lean LOADS. Nothing in Lean hashes anything: it is a label: what it is worth is what the hold of that sum in a sandbox is worth. -/
noncomputable def Try.pinned : Pinned := { name := "ytlaebhgmelpeeaa", sum := "f4808526be4b1baf8d41860d19fe4ba780ccfb817ab2864f183d5aea87119ae6", checked := Try.checked }
namespace Rows
def none {H : Type} : Left H := { results := [], args := [] }

/-- 'laws.FnExactIsStore': WHATEVER THE INPUT: true; the input reads as it did. -/
def fnExactIsStoreSpec : ChangeSpec := { name := "fnExactIsStore", fn := fun _ => fun
  | [d] => { results := [.lit (.bool true)], args := [d] }
  | _ => none }
def fnExactIsStoreRow : OpenClaim := { program := "ytlaebhgmelpeeaa", sum := "f4808526be4b1baf8d41860d19fe4ba780ccfb817ab2864f183d5aea87119ae6", func := "loop.example/g03001/laws.FnExactIsStore", spec := "fnExactIsStore", unfollowed := true, recurses := true, apart := false }
def FnExactIsStoreSaid : Prop := fnExactIsStoreRow.holds Try.pinned (OpenSpec.ofChange fnExactIsStoreSpec)

/-- ITS FALSE NEIGHBOUR: 'it returns false'. Refute it at one input. -/
def fnExactIsStoreWrong : ChangeSpec := { name := "fnExactIsStore", fn := fun _ => fun
  | [d] => { results := [.lit (.bool false)], args := [d] }
  | _ => none }
def FnExactIsStoreWrongFalsely : Prop := fnExactIsStoreRow.holds Try.pinned (OpenSpec.ofChange fnExactIsStoreWrong)

/-- 'laws.FnExactGetStored': WHATEVER THE INPUT: true; the input reads as it did. -/
def fnExactGetStoredSpec : ChangeSpec := { name := "fnExactGetStored", fn := fun _ => fun
  | [d1, d2, d3] => { results := [.lit (.bool true)], args := [d1, d2, d3] }
  | _ => none }
def fnExactGetStoredRow : OpenClaim := { program := "ytlaebhgmelpeeaa", sum := "f4808526be4b1baf8d41860d19fe4ba780ccfb817ab2864f183d5aea87119ae6", func := "loop.example/g03001/laws.FnExactGetStored", spec := "fnExactGetStored", unfollowed := true, recurses := true, apart := false }
def FnExactGetStoredSaid : Prop := fnExactGetStoredRow.holds Try.pinned (OpenSpec.ofChange fnExactGetStoredSpec)

/-- ITS FALSE NEIGHBOUR: 'it returns false'. Refute it at one input. -/
def fnExactGetStoredWrong : ChangeSpec := { name := "fnExactGetStored", fn := fun _ => fun
  | [d1, d2, d3] => { results := [.lit (.bool false)], args := [d1, d2, d3] }
  | _ => none }
def FnExactGetStoredWrongFalsely : Prop := fnExactGetStoredRow.holds Try.pinned (OpenSpec.ofChange fnExactGetStoredWrong)

/-- 'laws.FnExactDropStored': WHATEVER THE INPUT: true; the input reads as it did. -/
def fnExactDropStoredSpec : ChangeSpec := { name := "fnExactDropStored", fn := fun _ => fun
  | [d1, d2] => { results := [.lit (.bool true)], args := [d1, d2] }
  | _ => none }
def fnExactDropStoredRow : OpenClaim := { program := "ytlaebhgmelpeeaa", sum := "f4808526be4b1baf8d41860d19fe4ba780ccfb817ab2864f183d5aea87119ae6", func := "loop.example/g03001/laws.FnExactDropStored", spec := "fnExactDropStored", unfollowed := true, recurses := true, apart := false }
def FnExactDropStoredSaid : Prop := fnExactDropStoredRow.holds Try.pinned (OpenSpec.ofChange fnExactDropStoredSpec)

/-- ITS FALSE NEIGHBOUR: 'it returns false'. Refute it at one input. -/
def fnExactDropStoredWrong : ChangeSpec := { name := "fnExactDropStored", fn := fun _ => fun
  | [d1, d2] => { results := [.lit (.bool false)], args := [d1, d2] }
  | _ => none }
def FnExactDropStoredWrongFalsely : Prop := fnExactDropStoredRow.holds Try.pinned (OpenSpec.ofChange fnExactDropStoredWrong)

/-- 'laws.FnExactAreOps': WHATEVER THE INPUT: true; the input reads as it did. -/
def fnExactAreOpsSpec : ChangeSpec := { name := "fnExactAreOps", fn := fun _ => fun
  | [d] => { results := [.lit (.bool true)], args := [d] }
  | _ => none }
def fnExactAreOpsRow : OpenClaim := { program := "ytlaebhgmelpeeaa", sum := "f4808526be4b1baf8d41860d19fe4ba780ccfb817ab2864f183d5aea87119ae6", func := "loop.example/g03001/laws.FnExactAreOps", spec := "fnExactAreOps", unfollowed := true, recurses := true, apart := false }
def FnExactAreOpsSaid : Prop := fnExactAreOpsRow.holds Try.pinned (OpenSpec.ofChange fnExactAreOpsSpec)

/-- ITS FALSE NEIGHBOUR: 'it returns false'. Refute it at one input. -/
def fnExactAreOpsWrong : ChangeSpec := { name := "fnExactAreOps", fn := fun _ => fun
  | [d] => { results := [.lit (.bool false)], args := [d] }
  | _ => none }
def FnExactAreOpsWrongFalsely : Prop := fnExactAreOpsRow.holds Try.pinned (OpenSpec.ofChange fnExactAreOpsWrong)

/-- 'laws.FnExactChangeValue': WHATEVER THE INPUT: true; the input reads as it did. -/
def fnExactChangeValueSpec : ChangeSpec := { name := "fnExactChangeValue", fn := fun _ => fun
  | [d1, d2, d3] => { results := [.lit (.bool true)], args := [d1, d2, d3] }
  | _ => none }
def fnExactChangeValueRow : OpenClaim := { program := "ytlaebhgmelpeeaa", sum := "f4808526be4b1baf8d41860d19fe4ba780ccfb817ab2864f183d5aea87119ae6", func := "loop.example/g03001/laws.FnExactChangeValue", spec := "fnExactChangeValue", apart := false }
def FnExactChangeValueSaid : Prop := fnExactChangeValueRow.holds Try.pinned (OpenSpec.ofChange fnExactChangeValueSpec)

/-- ITS FALSE NEIGHBOUR: 'it returns false'. Refute it at one input. -/
def fnExactChangeValueWrong : ChangeSpec := { name := "fnExactChangeValue", fn := fun _ => fun
  | [d1, d2, d3] => { results := [.lit (.bool false)], args := [d1, d2, d3] }
  | _ => none }
def FnExactChangeValueWrongFalsely : Prop := fnExactChangeValueRow.holds Try.pinned (OpenSpec.ofChange fnExactChangeValueWrong)

/-- 'laws.FnExactLettersFor': WHATEVER THE INPUT: true; the input reads as it did. -/
def fnExactLettersForSpec : ChangeSpec := { name := "fnExactLettersFor", fn := fun _ => fun
  | [d1, d2] => { results := [.lit (.bool true)], args := [d1, d2] }
  | _ => none }
def fnExactLettersForRow : OpenClaim := { program := "ytlaebhgmelpeeaa", sum := "f4808526be4b1baf8d41860d19fe4ba780ccfb817ab2864f183d5aea87119ae6", func := "loop.example/g03001/laws.FnExactLettersFor", spec := "fnExactLettersFor", unfollowed := true, recurses := true, apart := false }
def FnExactLettersForSaid : Prop := fnExactLettersForRow.holds Try.pinned (OpenSpec.ofChange fnExactLettersForSpec)

/-- ITS FALSE NEIGHBOUR: 'it returns false'. Refute it at one input. -/
def fnExactLettersForWrong : ChangeSpec := { name := "fnExactLettersFor", fn := fun _ => fun
  | [d1, d2] => { results := [.lit (.bool false)], args := [d1, d2] }
  | _ => none }
def FnExactLettersForWrongFalsely : Prop := fnExactLettersForRow.holds Try.pinned (OpenSpec.ofChange fnExactLettersForWrong)

/-- 'laws.FnExactEqualSent': WHATEVER THE INPUT: true; the input reads as it did. -/
def fnExactEqualSentSpec : ChangeSpec := { name := "fnExactEqualSent", fn := fun _ => fun
  | [d1, d2] => { results := [.lit (.bool true)], args := [d1, d2] }
  | _ => none }
def fnExactEqualSentRow : OpenClaim := { program := "ytlaebhgmelpeeaa", sum := "f4808526be4b1baf8d41860d19fe4ba780ccfb817ab2864f183d5aea87119ae6", func := "loop.example/g03001/laws.FnExactEqualSent", spec := "fnExactEqualSent", apart := false }
def FnExactEqualSentSaid : Prop := fnExactEqualSentRow.holds Try.pinned (OpenSpec.ofChange fnExactEqualSentSpec)

/-- ITS FALSE NEIGHBOUR: 'it returns false'. Refute it at one input. -/
def fnExactEqualSentWrong : ChangeSpec := { name := "fnExactEqualSent", fn := fun _ => fun
  | [d1, d2] => { results := [.lit (.bool false)], args := [d1, d2] }
  | _ => none }
def FnExactEqualSentWrongFalsely : Prop := fnExactEqualSentRow.holds Try.pinned (OpenSpec.ofChange fnExactEqualSentWrong)

/-- 'laws.FnExactSameSent': WHATEVER THE INPUT: true; the input reads as it did. -/
def fnExactSameSentSpec : ChangeSpec := { name := "fnExactSameSent", fn := fun _ => fun
  | [d1, d2, d3] => { results := [.lit (.bool true)], args := [d1, d2, d3] }
  | _ => none }
def fnExactSameSentRow : OpenClaim := { program := "ytlaebhgmelpeeaa", sum := "f4808526be4b1baf8d41860d19fe4ba780ccfb817ab2864f183d5aea87119ae6", func := "loop.example/g03001/laws.FnExactSameSent", spec := "fnExactSameSent", unfollowed := true, recurses := true, apart := false }
def FnExactSameSentSaid : Prop := fnExactSameSentRow.holds Try.pinned (OpenSpec.ofChange fnExactSameSentSpec)

/-- ITS FALSE NEIGHBOUR: 'it returns false'. Refute it at one input. -/
def fnExactSameSentWrong : ChangeSpec := { name := "fnExactSameSent", fn := fun _ => fun
  | [d1, d2, d3] => { results := [.lit (.bool false)], args := [d1, d2, d3] }
  | _ => none }
def FnExactSameSentWrongFalsely : Prop := fnExactSameSentRow.holds Try.pinned (OpenSpec.ofChange fnExactSameSentWrong)

/- THE SECOND FORM. 'bulk': how many values and letters a reading holds, each counted each time it is reached (what is shared counts as often as it is met; a slice's spare places count too). A statement '..UptoSaid' is the law's where the arguments, and the package variables that the reading takes, are together of bulk at most 1048576: NARROWER than '..Said'. Prove '..Said' where nothing that the law and all that it calls make is longer than what came in: it says more and counts as full. Else prove '..UptoSaid'. A law counts once. -/
mutual
def uptoBulk {H : Type} : DataW H → Nat
  | .lit (.string bytes) => bytes.length + 1
  | .lit _ => 1
  | .nil => 1
  | .ptr d => uptoBulk d + 1
  | .slice elems spare => uptoBulkAll elems + uptoBulkAll spare + 1
  | .agg parts => uptoBulkAll parts + 1
  | .iface _ d => uptoBulk d + 1
  | .map entries => uptoBulkEntries entries + 1
  | .held _ => 1
def uptoBulkAll {H : Type} : List (DataW H) → Nat
  | [] => 0
  | d :: r => uptoBulk d + uptoBulkAll r
def uptoBulkEntries {H : Type} : List (Lit × DataW H) → Nat
  | [] => 0
  | x :: r => uptoBulkEntry x + uptoBulkEntries r
def uptoBulkEntry {H : Type} : Lit × DataW H → Nat
  | (.string bytes, d) => bytes.length + uptoBulk d + 1
  | (_, d) => uptoBulk d + 1
 end
def uptoSmall : (H : Type) → List (DataW H) → Bool := fun _ ds => decide (uptoBulkAll ds ≤ 1048576)
def OpenSpec.upto (s : _root_.Go.ChangeSpec) : _root_.Go.OpenSpec := { _root_.Go.OpenSpec.ofChange s with cond := some uptoSmall }

/-- 'laws.FnExactIsStore', WHERE WHAT IT READS IS OF BULK AT MOST 1048576: true; the input reads as it did. -/
def fnExactIsStoreUptoRow : OpenClaim := { program := "ytlaebhgmelpeeaa", sum := "f4808526be4b1baf8d41860d19fe4ba780ccfb817ab2864f183d5aea87119ae6", func := "loop.example/g03001/laws.FnExactIsStore", spec := "fnExactIsStore", unfollowed := true, recurses := true, apart := false, narrowed := true }
def FnExactIsStoreUptoSaid : Prop := fnExactIsStoreUptoRow.holds Try.pinned (OpenSpec.upto fnExactIsStoreSpec)

/-- 'laws.FnExactGetStored', WHERE WHAT IT READS IS OF BULK AT MOST 1048576: true; the input reads as it did. -/
def fnExactGetStoredUptoRow : OpenClaim := { program := "ytlaebhgmelpeeaa", sum := "f4808526be4b1baf8d41860d19fe4ba780ccfb817ab2864f183d5aea87119ae6", func := "loop.example/g03001/laws.FnExactGetStored", spec := "fnExactGetStored", unfollowed := true, recurses := true, apart := false, narrowed := true }
def FnExactGetStoredUptoSaid : Prop := fnExactGetStoredUptoRow.holds Try.pinned (OpenSpec.upto fnExactGetStoredSpec)

/-- 'laws.FnExactDropStored', WHERE WHAT IT READS IS OF BULK AT MOST 1048576: true; the input reads as it did. -/
def fnExactDropStoredUptoRow : OpenClaim := { program := "ytlaebhgmelpeeaa", sum := "f4808526be4b1baf8d41860d19fe4ba780ccfb817ab2864f183d5aea87119ae6", func := "loop.example/g03001/laws.FnExactDropStored", spec := "fnExactDropStored", unfollowed := true, recurses := true, apart := false, narrowed := true }
def FnExactDropStoredUptoSaid : Prop := fnExactDropStoredUptoRow.holds Try.pinned (OpenSpec.upto fnExactDropStoredSpec)

/-- 'laws.FnExactAreOps', WHERE WHAT IT READS IS OF BULK AT MOST 1048576: true; the input reads as it did. -/
def fnExactAreOpsUptoRow : OpenClaim := { program := "ytlaebhgmelpeeaa", sum := "f4808526be4b1baf8d41860d19fe4ba780ccfb817ab2864f183d5aea87119ae6", func := "loop.example/g03001/laws.FnExactAreOps", spec := "fnExactAreOps", unfollowed := true, recurses := true, apart := false, narrowed := true }
def FnExactAreOpsUptoSaid : Prop := fnExactAreOpsUptoRow.holds Try.pinned (OpenSpec.upto fnExactAreOpsSpec)

/-- 'laws.FnExactChangeValue', WHERE WHAT IT READS IS OF BULK AT MOST 1048576: true; the input reads as it did. -/
def fnExactChangeValueUptoRow : OpenClaim := { program := "ytlaebhgmelpeeaa", sum := "f4808526be4b1baf8d41860d19fe4ba780ccfb817ab2864f183d5aea87119ae6", func := "loop.example/g03001/laws.FnExactChangeValue", spec := "fnExactChangeValue", apart := false, narrowed := true }
def FnExactChangeValueUptoSaid : Prop := fnExactChangeValueUptoRow.holds Try.pinned (OpenSpec.upto fnExactChangeValueSpec)

/-- 'laws.FnExactLettersFor', WHERE WHAT IT READS IS OF BULK AT MOST 1048576: true; the input reads as it did. -/
def fnExactLettersForUptoRow : OpenClaim := { program := "ytlaebhgmelpeeaa", sum := "f4808526be4b1baf8d41860d19fe4ba780ccfb817ab2864f183d5aea87119ae6", func := "loop.example/g03001/laws.FnExactLettersFor", spec := "fnExactLettersFor", unfollowed := true, recurses := true, apart := false, narrowed := true }
def FnExactLettersForUptoSaid : Prop := fnExactLettersForUptoRow.holds Try.pinned (OpenSpec.upto fnExactLettersForSpec)

/-- 'laws.FnExactEqualSent', WHERE WHAT IT READS IS OF BULK AT MOST 1048576: true; the input reads as it did. -/
def fnExactEqualSentUptoRow : OpenClaim := { program := "ytlaebhgmelpeeaa", sum := "f4808526be4b1baf8d41860d19fe4ba780ccfb817ab2864f183d5aea87119ae6", func := "loop.example/g03001/laws.FnExactEqualSent", spec := "fnExactEqualSent", apart := false, narrowed := true }
def FnExactEqualSentUptoSaid : Prop := fnExactEqualSentUptoRow.holds Try.pinned (OpenSpec.upto fnExactEqualSentSpec)

/-- 'laws.FnExactSameSent', WHERE WHAT IT READS IS OF BULK AT MOST 1048576: true; the input reads as it did. -/
def fnExactSameSentUptoRow : OpenClaim := { program := "ytlaebhgmelpeeaa", sum := "f4808526be4b1baf8d41860d19fe4ba780ccfb817ab2864f183d5aea87119ae6", func := "loop.example/g03001/laws.FnExactSameSent", spec := "fnExactSameSent", unfollowed := true, recurses := true, apart := false, narrowed := true }
def FnExactSameSentUptoSaid : Prop := fnExactSameSentUptoRow.holds Try.pinned (OpenSpec.upto fnExactSameSentSpec)

end Rows
end Go.Proofs.Ytlaebhgmelpeeaa
