/- ErrIs, what is needed of it. -/
import Derived.Test.YtkedacmpmancbaaGreatDoorVCore
import Derived.Test.YtkedacmpmancbaaGreatDoorChecked
import Derived.WalkKit
import Derived.LaidEql
import Derived.Stop.Asserts
import Derived.RowKitTokens
namespace Go.Proofs.YtkedacmpmancbaaGreatDoor
open Go Go.ChangeShapes Go.WideShapes Go.ChangeAt Go.RowKit Go.Lib
open Go.Extern.Stop Go.Stop Go.Extern
set_option linter.unusedVariables false
set_option linter.unusedSimpArgs false
set_option maxRecDepth 100000
theorem isTypeOf (v : Value) (w : World) : (Extern.ReflectliteType.typeOf #[.iface 309 v]).run Tryz.prog w = .ok (.iface 263 (.agg #[.pointer (some ⟨1, 309, none⟩)])) w := by kernel_rfl
theorem isComparable (w : World) : ((Extern.ReflectliteType.method fun t => do Extern.Rtype.noPackHeld "Comparable" t; (fun a => Value.bool a.comparable) <$> typeInfo t) #[.agg #[.pointer (some ⟨1, 309, none⟩)]]).run Tryz.prog w = .ok (.bool true) w := by kernel_rfl
theorem isMethodComparable (n : Nat) (v : Value) (w : World) : (Go.method (n + 1) 263 v "Comparable").run Tryz.prog w = .ok (292, v) w := by kernel_rfl
theorem isComp : (Tryz.prog.info? 309).map (·.comparable) = some true := by kernel_rfl
theorem isSize : (Tryz.prog.info? 336).map (·.size) = some 1 := by kernel_rfl
theorem is_same (a : Addr) (w : World) :
  Calls Tryz.prog 203 #[.iface 309 (.pointer (some a)), .iface 309 (.pointer (some a))] w (Says (.bool true) w) := by
 obtain ⟨i, hi, hcmp⟩ := Option.map_eq_some_iff.1 isComp
 obtain ⟨j, hj, hjs⟩ := Option.map_eq_some_iff.1 isSize
 have h8 := @run_callFunc_extern Tryz.prog 217 _ Extern.ReflectliteType.typeOf Tryz.func217 (by kernel_rfl) (by kernel_rfl) (by kernel_rfl) (by kernel_rfl)
 have h32 := @run_callFunc_extern Tryz.prog 292 _ (Extern.ReflectliteType.method fun t => do Extern.Rtype.noPackHeld "Comparable" t; pure (.bool (← typeInfo t).comparable)) Tryz.func292 (by kernel_rfl) (by kernel_rfl) (by kernel_rfl) (by kernel_rfl)
 have tT := isTypeOf
 have cT := isComparable
 have mR := isMethodComparable
 have heq := run_eql_iface_ptr_same (P := Tryz.prog) w a Tryz.underlying229 Tryz.underlying309 hi hcmp hj
 go_enter Tryz.func203, Tryz.ntmps203
 go_wp2
 refine wp_loop_rounds 1 ?_
 rw [rounds_succ]
 go_wp2
 go_ret
 exact ⟨rfl, Below.refl _ _⟩
theorem is_nil (b : Addr) (w : World) :
  Calls Tryz.prog 203 #[.nilIface, .iface 309 (.pointer (some b))] w (Says (.bool false) w) := by
 have hn := run_eql_iface_nil_left (P := Tryz.prog) w 309 (.pointer (some b)) Tryz.underlying229
 go_enter Tryz.func203, Tryz.ntmps203
 go_wp2
 go_ret
 exact ⟨rfl, Below.refl _ _⟩
end Go.Proofs.YtkedacmpmancbaaGreatDoor
