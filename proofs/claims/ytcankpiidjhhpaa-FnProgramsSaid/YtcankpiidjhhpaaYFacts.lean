/- Facts, what is needed of it. -/
import Derived.Test.YtcankpiidjhhpaaYFrame
namespace Go.Proofs.Ytcankpiidjhhpaa
open Go
set_option maxRecDepth 100000
theorem and_i {a b : Bool} (h : a = true) (k : b = true) : (a && b) = true := by rw [h, k]; rfl
theorem sf_maps : mapsRowed Try.prog = true := by kernel_rfl
theorem sf_plain : (({ program := "", sum := "", func := "", spec := "" } : OpenClaim).plainKeys == Try.prog.plainKeys) = true := by kernel_rfl
theorem sf_heard : Try.prog.stopsHeard = true := by kernel_rfl
theorem sf_enter : Try.prog.mayEnter = true := by kernel_rfl
theorem sf_lifts : (({ program := "", sum := "", func := "", spec := "" } : OpenClaim).lifted == Try.prog.liftsFinal) = true := by kernel_rfl
theorem sf_make : (Try.prog.make == some ({ program := "", sum := "", func := "", spec := "" } : OpenClaim).make) = true := by kernel_rfl
end Go.Proofs.Ytcankpiidjhhpaa
