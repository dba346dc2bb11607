/- errors.Is at a sentinel of errors.New's make, handed itself or nil. No condition of its own. -/
import Derived.Test.YtlnmgfbfpjfddaaDoorCore
import Derived.Test.YtlnmgfbfpjfddaaDoorChecked
import Derived.WalkKit
import Derived.LaidEql
import Derived.Stop.Asserts
import Derived.RowKitTokens
namespace Go.Proofs.YtlnmgfbfpjfddaaDoor
open Go Go.ChangeShapes Go.WideShapes Go.ChangeAt Go.RowKit Go.Lib
open Go.Extern.Stop Go.Stop Go.Extern
set_option linter.unusedVariables false
set_option linter.unusedSimpArgs false
set_option maxRecDepth 100000
abbrev tES : TypeId := 171
theorem isTypeOf (v : Value) (w : World) : (Extern.ReflectliteType.typeOf #[.iface 171 v]).run Tryd.prog w = .ok (.iface 144 (.agg #[.pointer (some ⟨5, 171, none⟩)])) w := by kernel_rfl
theorem isComparable (w : World) : ((Extern.ReflectliteType.method fun t => do Extern.Rtype.noPackHeld "Comparable" t; (fun a => Value.bool a.comparable) <$> typeInfo t) #[.agg #[.pointer (some ⟨5, 171, none⟩)]]).run Tryd.prog w = .ok (.bool true) w := by kernel_rfl
theorem isMethodComparable (n : Nat) (v : Value) (w : World) : (Go.method (n + 1) 144 v "Comparable").run Tryd.prog w = .ok (143, v) w := by kernel_rfl
theorem isComp : (Tryd.prog.info? 171).map (·.comparable) = some true := by kernel_rfl
theorem isSize : (Tryd.prog.info? 194).map (·.size) = some 1 := by kernel_rfl
theorem is_same (a : Addr) (w : World) :
  Calls Tryd.prog 87 #[.iface 171 (.pointer (some a)), .iface 171 (.pointer (some a))] w (Says (.bool true) w) := by
 obtain ⟨i, hi, hcmp⟩ := Option.map_eq_some_iff.1 isComp
 obtain ⟨j, hj, hjs⟩ := Option.map_eq_some_iff.1 isSize
 have h8 := @run_callFunc_extern Tryd.prog 101 _ Extern.ReflectliteType.typeOf Tryd.func101 (by kernel_rfl) (by kernel_rfl) (by kernel_rfl) (by kernel_rfl)
 have h32 := @run_callFunc_extern Tryd.prog 143 _ (Extern.ReflectliteType.method fun t => do Extern.Rtype.noPackHeld "Comparable" t; pure (.bool (← typeInfo t).comparable)) Tryd.func143 (by kernel_rfl) (by kernel_rfl) (by kernel_rfl) (by kernel_rfl)
 have tT := isTypeOf
 have cT := isComparable
 have mR := isMethodComparable
 have heq := run_eql_iface_ptr_same (P := Tryd.prog) w a Tryd.underlying120 Tryd.underlying171 hi hcmp hj
 go_enter Tryd.func87, Tryd.ntmps87
 go_wp2
 refine wp_loop_rounds 1 ?_
 rw [rounds_succ]
 go_wp2
 go_ret
 exact ⟨rfl, Below.refl _ _⟩
theorem is_nil (b : Addr) (w : World) :
  Calls Tryd.prog 87 #[.nilIface, .iface 171 (.pointer (some b))] w (Says (.bool false) w) := by
 have hn := run_eql_iface_nil_left (P := Tryd.prog) w 171 (.pointer (some b)) Tryd.underlying120
 go_enter Tryd.func87, Tryd.ntmps87
 go_wp2
 go_ret
 exact ⟨rfl, Below.refl _ _⟩
end Go.Proofs.YtlnmgfbfpjfddaaDoor
