/- TabDocument, of the program and of the model. No condition but the length. -/
import Derived.Test.YtejcioenoofjlaaRunE
import Derived.Test.YtejcioenoofjlaaTSite
import Derived.Test.YtejcioenoofjlaaSlI
namespace Go.Proofs.Ytejcioenoofjlaa
open Go Go.ChangeShapes Go.WideShapes Go.ChangeAt Go.RowKit Go.Lib Go.Shelf
set_option linter.unusedVariables false
set_option linter.unusedSimpArgs false
set_option maxRecDepth 100000
set_option maxHeartbeats 4000000 in
theorem impl_TabDocument (s0 : TSite) (l1 : List TNode) (A1 : Option Addr) (n1 c1 lo1 hi1 : Nat) (l2 : List TEdit) (A2 : Option Addr) (n2 c2 lo2 hi2 : Nat) (l3 : List Int) (A3 : Option Addr) (n3 c3 lo3 hi3 : Nat) (p4 : Int) (w : World) (b0 : Hid (TSite.fit s0)) (h1 : n1 ≤ 1048576) (r1 : Rd w lo1 hi1 5 A1 n1 (cNode l1)) (b1 : Hid (cNodeOk l1)) (h2 : n2 ≤ 1048576) (r2 : Rd w lo2 hi2 6 A2 n2 (cEdit l2)) (b2 : Hid (cEditOk l2)) (h3 : n3 ≤ 1048576) (r3 : Rd w lo3 hi3 1 A3 n3 (i64s l3)) (b3 : Hid (I64s l3)) :
    Calls Try.prog 71 #[.agg #[.int .i64 s0.f0, .int .i64 s0.f1, .slice A1 n1 c1, .slice A2 n2 c2, .slice A3 n3 c3, .int .i64 p4]] w (Makes 182 5 (mRun l1 l2).length (cNode (mRun l1 l2)) w) := by
  have HB0 := Lib.hid ((Below.refl w.heap.size w).alloc (Nat.le_refl _) (.cells #[.int .i64 s0.f0, .int .i64 s0.f1, .slice A1 n1 c1, .slice A2 n2 c2, .slice A3 n3 c3, .int .i64 p4] 110))
  have CR := Lib.hid (impl_RunEdits l1 A1 n1 c1 lo1 hi1 l2 A2 n2 c2 lo2 hi2 (w.alloc (.cells #[.int .i64 s0.f0, .int .i64 s0.f1, .slice A1 n1 c1, .slice A2 n2 c2, .slice A3 n3 c3, .int .i64 p4] 110)) h1 (r1.alloc _) b1 h2 (r2.alloc _) b2)
  clear r1 r2 r3 h1 h2 h3
  generalize mRun l1 l2 = M at CR ⊢
  generalize hml : M.length = k at CR ⊢
  clear hml
  go_enter Try.func71, Try.ntmps71
  go_wp2_with fail
  refine CR.out.mono ?_
  rintro e w1 ⟨A', c', rfl, hF, hb⟩
  have HF := Lib.hid (hF.mono (lo' := w.heap.size) (by simp) (Nat.le_refl _))
  have HB := Lib.hid (below_trans HB0.out hb (by simp))
  clear hF hb CR
  go_wp2_with fail
  go_ret
  exact ⟨A', c', rfl, HF.out, HB.out⟩
set_option maxHeartbeats 4000000 in
theorem spec_TabDocument (s0 : TSite) (l1 : List TNode) (A1 : Option Addr) (n1 c1 lo1 hi1 : Nat) (l2 : List TEdit) (A2 : Option Addr) (n2 c2 lo2 hi2 : Nat) (l3 : List Int) (A3 : Option Addr) (n3 c3 lo3 hi3 : Nat) (p4 : Int) (w : World) (b0 : Hid (TSite.fit s0)) (h1 : n1 ≤ 1048576) (r1 : Rd w lo1 hi1 5 A1 n1 (cNode l1)) (b1 : Hid (cNodeOk l1)) (h2 : n2 ≤ 1048576) (r2 : Rd w lo2 hi2 6 A2 n2 (cEdit l2)) (b2 : Hid (cEditOk l2)) (h3 : n3 ≤ 1048576) (r3 : Rd w lo3 hi3 1 A3 n3 (i64s l3)) (b3 : Hid (I64s l3)) :
    Calls Try.prog 69 #[.agg #[.int .i64 s0.f0, .int .i64 s0.f1, .slice A1 n1 c1, .slice A2 n2 c2, .slice A3 n3 c3, .int .i64 p4]] w (Makes 182 5 (mRun l1 l2).length (cNode (mRun l1 l2)) w) := by
  have HB0 := Lib.hid ((Below.refl w.heap.size w).alloc (Nat.le_refl _) (.cells #[.int .i64 s0.f0, .int .i64 s0.f1, .slice A1 n1 c1, .slice A2 n2 c2, .slice A3 n3 c3, .int .i64 p4] 110))
  have CR := Lib.hid (spec_RunEdits l1 A1 n1 c1 lo1 hi1 l2 A2 n2 c2 lo2 hi2 (w.alloc (.cells #[.int .i64 s0.f0, .int .i64 s0.f1, .slice A1 n1 c1, .slice A2 n2 c2, .slice A3 n3 c3, .int .i64 p4] 110)) h1 (r1.alloc _) b1 h2 (r2.alloc _) b2)
  clear r1 r2 r3 h1 h2 h3
  generalize mRun l1 l2 = M at CR ⊢
  generalize hml : M.length = k at CR ⊢
  clear hml
  go_enter Try.func69, Try.ntmps69
  go_wp2_with fail
  refine CR.out.mono ?_
  rintro e w1 ⟨A', c', rfl, hF, hb⟩
  have HF := Lib.hid (hF.mono (lo' := w.heap.size) (by simp) (Nat.le_refl _))
  have HB := Lib.hid (below_trans HB0.out hb (by simp))
  clear hF hb CR
  go_wp2_with fail
  go_ret
  exact ⟨A', c', rfl, HF.out, HB.out⟩
end Go.Proofs.Ytejcioenoofjlaa
