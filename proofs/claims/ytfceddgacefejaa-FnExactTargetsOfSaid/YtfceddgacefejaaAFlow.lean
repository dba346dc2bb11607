/- impl.anyOf and impl.allOf at slices of Flow. -/
import Derived.Test.YtfceddgacefejaaTFlow
import Derived.Test.YtfceddgacefejaaFun
namespace Go.Proofs.Ytfceddgacefejaa
open Go Go.ChangeShapes Go.WideShapes Go.ChangeAt Go.RowKit Go.Lib
set_option linter.unusedVariables false
set_option linter.unusedSimpArgs false
set_option maxRecDepth 100000
theorem rd_tailFlow {w : World} {lo hi n b off : Nat} {x : TFlow} {l : List TFlow} (h : Rd w lo hi 3 (some ⟨b, off, none⟩) (n + 1) (cFlow (x :: l))) :
  Rd w lo hi 3 (some ⟨b, off + 3, none⟩) n (cFlow l) := by
 have hc : cFlow (x :: l) = TFlow.cells x ++ cFlow l := rfl
 refine ⟨?_, fun hn => ?_⟩
 ·
  have := h.1
  rw [hc, List.length_append, TFlow.len] at this
  omega
 ·
  obtain ⟨b', off', e, h1, h2, h3⟩ := h.2 (by omega)
  cases e
  refine ⟨b, off + 3, rfl, h1, h2, fun j u hu => ?_⟩
  rw [Nat.add_assoc]
  refine h3 (3 + j) u ?_
  rw [hc, List.getElem?_append_right (by rw [TFlow.len]; omega), TFlow.len]
  simpa using hu
end Go.Proofs.Ytfceddgacefejaa
