/- Draws of labels. No condition of its own. -/
import Derived.Test.YtcankpiidjhhpaaDrw
import Derived.Test.YtcankpiidjhhpaaSlI
import Derived.Test.YtcankpiidjhhpaaApp
import Derived.Test.YtcankpiidjhhpaaFun
namespace Go.Proofs.Ytcankpiidjhhpaa
open Go Go.ChangeShapes Go.WideShapes Go.ChangeAt Go.RowKit Go.Lib
set_option linter.unusedVariables false
set_option linter.unusedSimpArgs false
set_option maxRecDepth 100000
set_option maxHeartbeats 8000000 in
theorem lab_any (g n cap : Nat) (A : Option Addr) (w : World) (hn : n ≤ maxLen) (hc : Cur w g A n cap) :
    Calls Try.prog 50 #[.pointer (some ⟨g, 0, none⟩)] w (Num g A n cap (-2) 9223372036854775807 w) := by
  have HC := Lib.hid hc
  have HLT := hc.lt
  have HG := Lib.hid (World.grownBy.refl w (some g))
  clear hc
  go_enter Try.func50, Try.ntmps50
  go_wp2_with fail
  refine Calls.mono (once_any g n cap A 8 _ hn HC.out (by omega) (by omega)) ?_
  rintro e w1 ⟨b, rfl, hc, hg⟩
  replace HC := Lib.hid hc
  replace HG := Lib.hid (grown_both HG.out hg)
  have s1 : w.heap.size ≤ w1.heap.size := HG.out.size
  clear hc hg
  cases b
  · skip
    go_wp2_with fail
    refine Calls.mono (below_any g n cap A 512 _ hn HC.out (by omega) (by omega)) ?_
    rintro e w2 ⟨y, hya, hyb, rfl, hc, hg⟩
    replace HC := Lib.hid hc
    replace HG := Lib.hid (grown_both HG.out hg)
    have s2 : w.heap.size ≤ w2.heap.size := HG.out.size
    clear hc hg
    go_wp2_with fail
    go_ret
    exact ⟨2 * y, by omega, by omega, rfl, HC.out, HG.out⟩
  · skip
    have Lt1 := Lib.hid (show BoxAt (w1.alloc (.cells #[.int .i64 (-2), .int .i64 1, .int .i64 1022, .int .i64 1023, .int .i64 1024, .int .i64 9223372036854775807] 3)) w1.heap.size 3 #[.int .i64 (-2), .int .i64 1, .int .i64 1022, .int .i64 1023, .int .i64 1024, .int .i64 9223372036854775807] from by simpa using box_new w1 3 #[.int .i64 (-2), .int .i64 1, .int .i64 1022, .int .i64 1023, .int .i64 1024, .int .i64 9223372036854775807])
    have aLt1 : w.heap.size ≤ w1.heap.size := by have := HG.out.size; (try simp at this); omega
    replace HC := Lib.hid (HC.out.new (.cells #[.int .i64 (-2), .int .i64 1, .int .i64 1022, .int .i64 1023, .int .i64 1024, .int .i64 9223372036854775807] 3))
    replace HG := Lib.hid (dr_al HG.out (.cells #[.int .i64 (-2), .int .i64 1, .int .i64 1022, .int .i64 1023, .int .i64 1024, .int .i64 9223372036854775807] 3))
    go_wp2_with fail
    refine Calls.mono (int_any g n cap A [-2, 1, 1022, 1023, 1024, 9223372036854775807] w1.heap.size (-2) (9223372036854775807) _ hn HC.out (by omega) Lt1.out (by decide) (by decide) (by decide)) ?_
    rintro e w2 ⟨y, hya, hyb, rfl, hc, hg⟩
    replace Lt1 := Lib.hid (Lt1.out.grown hg (by omega))
    have lLt1 : w1.heap.size < w2.heap.size := Lt1.out.lt
    replace HC := Lib.hid hc
    replace HG := Lib.hid (grown_both HG.out hg)
    have s2 : w.heap.size ≤ w2.heap.size := HG.out.size
    clear hc hg
    clear Lt1
    go_wp2_with fail
    go_ret
    exact ⟨y, hya, hyb, rfl, HC.out, HG.out⟩
def DrawnLL (w : World) (e : Ending) (w' : World) : Prop :=
  ∃ (x y : Int), -2 ≤ x ∧ x ≤ 9223372036854775807 ∧ -2 ≤ y ∧ y ≤ 9223372036854775807 ∧ e = .returned (.tuple #[.int .i64 x, .int .i64 y]) ∧ Below w.heap.size w w'
theorem info_intL : (Try.prog.info? 3).map (fun i => (i.zero, i.size, i.bytes)) = some (some (.int .i64 0), 1, 8) := by kernel_rfl
theorem one_intL (z : Int) : ∀ u ∈ (#[Value.int .i64 z]).toList, u.oneCell' = true := by
  intro u hu
  simp only [List.mem_singleton] at hu
  subst hu
  rfl
def DrawnLO (w : World) (e : Ending) (w' : World) : Prop :=
  ∃ (A : Option Addr) (c : Nat) (l : List Int), e = .returned (.slice A l.length c) ∧ l.length ≤ 5 ∧ (∀ z ∈ l, -1 ≤ z ∧ z ≤ 11) ∧ Rd w' w.heap.size w'.heap.size 1 A l.length (i64s l) ∧ Below w.heap.size w w'
end Go.Proofs.Ytcankpiidjhhpaa
