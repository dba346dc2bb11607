/- GrantText of the model. -/
import Derived.Test.YtkakdfphhnchhaaDoorGrTS1
import Derived.Test.YtkakdfphhnchhaaDoorGrTS2
import Derived.Test.YtkakdfphhnchhaaDoorGrTS3
import Derived.Test.YtkakdfphhnchhaaDoorGrTS4
import Derived.Deep.RegionHeld3
namespace Go.Proofs.YtkakdfphhnchhaaDoor
open Go Go.ChangeShapes Go.WideShapes Go.ChangeAt Go.RowKit Go.Lib
set_option linter.unusedVariables false
set_option linter.unusedSimpArgs false
set_option maxRecDepth 100000
set_option maxHeartbeats 16000000 in
theorem spec_GrantText' (a0 a1 a2 k a4 a5 : Int) (cl : Bool) (w : World) (hT : Pow10 w) (b0 : Hid (TGrant.fit ⟨a0, a1, a2, k, a4, a5, cl⟩)) :
    Calls Tryd.prog 30 #[.agg #[.int .i64 a0, .int .i64 a1, .int .i64 a2, .int .i64 k, .int .i64 a4, .int .i64 a5, .bool cl]] w (Says (.string ⟨(tGr ⟨a0, a1, a2, k, a4, a5, cl⟩).toArray⟩) w) := by
  cases hok : mIsGrant ⟨a0, a1, a2, k, a4, a5, cl⟩ with
  | true =>
    have hk := isGrant_kind hok
    dsimp only at hk
    rcases hk with rfl | rfl | rfl | rfl
    · exact spec_GrantText1 a0 a1 a2 a4 a5 cl w hT b0
    · exact spec_GrantText2 a0 a1 a2 a4 a5 cl w hT b0
    · exact spec_GrantText3 a0 a1 a2 a4 a5 cl w hT b0
    · exact spec_GrantText4 a0 a1 a2 a4 a5 cl w hT b0
  | false =>
    have C9 := fun W => spec_IsGrant ⟨a0, a1, a2, k, a4, a5, cl⟩ W
    have HB0 := Lib.hid ((Below.refl w.heap.size w).alloc (Nat.le_refl _) (.cells #[.int .i64 a0, .int .i64 a1, .int .i64 a2, .int .i64 k, .int .i64 a4, .int .i64 a5, .bool cl] 73))
    rw [hok] at C9
    have HE := Lib.hid (show tGr ⟨a0, a1, a2, k, a4, a5, cl⟩ = [] by unfold tGr; rw [hok]; rfl)
    rw [HE.out]
    clear hok
    go_enter Tryd.func30, Tryd.ntmps30
    go_wp2_with fail
    refine (C9 _).mono ?_
    rintro e w1 ⟨rfl, hb1⟩
    have HB1 := Lib.hid (below_trans HB0.out hb1 (by simp))
    clear hb1
    go_wp2_with fail
    go_ret
    exact ⟨rfl, HB1.out⟩
theorem spec_GrantText (g : TGrant) (w : World) (hT : Pow10 w) (b0 : Hid (TGrant.fit g)) :
    Calls Tryd.prog 30 #[.agg #[.int .i64 g.f0, .int .i64 g.f1, .int .i64 g.f2, .int .i64 g.f3, .int .i64 g.f4, .int .i64 g.f5, .bool g.f6]] w (Says (.string ⟨(tGr g).toArray⟩) w) := spec_GrantText' g.f0 g.f1 g.f2 g.f3 g.f4 g.f5 g.f6 w hT b0

end Go.Proofs.YtkakdfphhnchhaaDoor
