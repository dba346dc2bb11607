/- Facts, what is needed of it. -/
import Derived.Test.YtkedacmpmancbaaGreatDoorVFrame
namespace Go.Proofs.YtkedacmpmancbaaGreatDoor
open Go
set_option maxRecDepth 100000
theorem and_i {a b : Bool} (h : a = true) (k : b = true) : (a && b) = true := by rw [h, k]; rfl
theorem sf_maps : mapsRowed Tryz.prog = true := by kernel_rfl
theorem sf_plain : (({ program := "", sum := "", func := "", spec := "" } : OpenClaim).plainKeys == Tryz.prog.plainKeys) = true := by kernel_rfl
theorem sf_heard : Tryz.prog.stopsHeard = true := by kernel_rfl
theorem sf_enter : Tryz.prog.mayEnter = true := by kernel_rfl
theorem sf_lifts : (({ program := "", sum := "", func := "", spec := "" } : OpenClaim).lifted == Tryz.prog.liftsFinal) = true := by kernel_rfl
theorem sf_make : (Tryz.prog.make == some ({ program := "", sum := "", func := "", spec := "" } : OpenClaim).make) = true := by kernel_rfl
end Go.Proofs.YtkedacmpmancbaaGreatDoor
