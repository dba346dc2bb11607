/- SealDeed of the model. -/
import Derived.Test.YtgemmddhkbfndaaDoorDeed
import Derived.Deep.RegionHeld3
namespace Go.Proofs.YtgemmddhkbfndaaDoor
open Go Go.ChangeShapes Go.WideShapes Go.ChangeAt Go.RowKit Go.Lib
set_option linter.unusedVariables false
set_option linter.unusedSimpArgs false
set_option maxRecDepth 100000
set_option maxHeartbeats 16000000 in
theorem spec_SealDeed (x : TDeed) (k1 k2 : Int) (w : World) (hT : Pow10 w) (Hx : Hid (TDeed.fit x)) (wk1 : (Lit.int .i64 k1).wf = true) (wk2 : (Lit.int .i64 k2).wf = true) : Calls Tryd.prog 4 #[vDeed x, .int .i64 k1, .int .i64 k2] w (Says (vDeed (mDeed x k1 k2)) w) := by
  have KB := deed_boxes w #[.int .i64 x.f0, .int .i64 x.f1, .int .i64 x.f2, .int .i64 0, .int .i64 0]
  cases hv1 : mValid k1
  · cases hv2 : mValid k2
    · skip
      have HV := Lib.hid (show mDeed x k1 k2 = ⟨x.f0, x.f1, x.f2, 0, 0⟩ by unfold mDeed mSealD; rw [hv1, hv2]; rfl)
      rw [HV.out]
      have C10 := spec_IsValidKey k1 _ (pow10_below hT KB.2.2) wk1
      rw [hv1] at C10
      replace C10 := Lib.hid C10
      have C20 := fun W hT => spec_IsValidKey k2 W hT wk2
      rw [hv2] at C20
      replace C20 := Lib.hid C20
      have HX := Lib.hid KB.1
      have HR := Lib.hid KB.2.1
      have HB := Lib.hid KB.2.2
      clear hv1 hv2 wk1 wk2 KB
      go_enter Tryd.func4, Tryd.ntmps4
      go_wp2_with fail
      refine Calls.mono (C10.out) ?_
      rintro e w1 ⟨rfl, hb1⟩
      replace HX := Lib.hid ((HX.out).new hb1)
      replace HR := Lib.hid ((HR.out).new hb1)
      replace HB := Lib.hid (below_trans (HB.out) hb1 (Nat.le_refl _))
      have lHX : w.heap.size < w1.heap.size := HX.out.lt
      have lHR : w.heap.size + 1 < w1.heap.size := HR.out.lt
      clear hb1
      have eHX0 := HX.out.at_ (j := 0) rfl
      have eHX1 := HX.out.at_ (j := 1) rfl
      have eHX2 := HX.out.at_ (j := 2) rfl
      have eHX3 := HX.out.at_ (j := 3) rfl
      have eHX4 := HX.out.at_ (j := 4) rfl
      have fHX0 := HX.out.free 0
      have fHX1 := HX.out.free 1
      have fHX2 := HX.out.free 2
      have fHX3 := HX.out.free 3
      have fHX4 := HX.out.free 4
      go_wp2_with fail
      refine Calls.mono (C20.out _ (pow10_below hT HB.out)) ?_
      rintro e w2 ⟨rfl, hb1⟩
      replace HX := Lib.hid ((HX.out).new hb1)
      replace HR := Lib.hid ((HR.out).new hb1)
      replace HB := Lib.hid (below_trans (HB.out) hb1 (Nat.le_refl _))
      have lHX : w.heap.size < w2.heap.size := HX.out.lt
      have lHR : w.heap.size + 1 < w2.heap.size := HR.out.lt
      clear hb1
      have eHX0 := HX.out.at_ (j := 0) rfl
      have eHX1 := HX.out.at_ (j := 1) rfl
      have eHX2 := HX.out.at_ (j := 2) rfl
      have eHX3 := HX.out.at_ (j := 3) rfl
      have eHX4 := HX.out.at_ (j := 4) rfl
      have fHX0 := HX.out.free 0
      have fHX1 := HX.out.free 1
      have fHX2 := HX.out.free 2
      have fHX3 := HX.out.free 3
      have fHX4 := HX.out.free 4
      have HR2 := HR
      go_wp2_with (refine wpList_store_row rfl 24 _ _ rfl (w.heap.size + 1) #[.int .i64 x.f0, .int .i64 x.f1, .int .i64 x.f2, .int .i64 0, .int .i64 0] rfl rfl 24 _ HR2.out (by kernel_rfl) (by kernel_rfl) (by kernel_rfl) ?_)
      have k0 := (box_row (cs := #[.int .i64 x.f0, .int .i64 x.f1, .int .i64 x.f2, .int .i64 0, .int .i64 0]) HR2.out).at_ (j := 0) rfl
      have k1 := (box_row (cs := #[.int .i64 x.f0, .int .i64 x.f1, .int .i64 x.f2, .int .i64 0, .int .i64 0]) HR2.out).at_ (j := 1) rfl
      have k2 := (box_row (cs := #[.int .i64 x.f0, .int .i64 x.f1, .int .i64 x.f2, .int .i64 0, .int .i64 0]) HR2.out).at_ (j := 2) rfl
      have k3 := (box_row (cs := #[.int .i64 x.f0, .int .i64 x.f1, .int .i64 x.f2, .int .i64 0, .int .i64 0]) HR2.out).at_ (j := 3) rfl
      have k4 := (box_row (cs := #[.int .i64 x.f0, .int .i64 x.f1, .int .i64 x.f2, .int .i64 0, .int .i64 0]) HR2.out).at_ (j := 4) rfl
      exact bodyPost_ret (v := vDeed ⟨x.f0, x.f1, x.f2, 0, 0⟩) (by simp [results, Tryd.results4, go_sem, k0, k1, k2, k3, k4]) rfl ⟨rfl, below_setRow HB.out (by omega) _⟩
    · skip
      have HV := Lib.hid (show mDeed x k1 k2 = ⟨x.f0, x.f1, x.f2, 0, mKHash k2 [2, x.f0, x.f1, x.f2]⟩ by unfold mDeed mSealD; rw [hv1, hv2]; rfl)
      rw [HV.out]
      have C10 := spec_IsValidKey k1 _ (pow10_below hT KB.2.2) wk1
      rw [hv1] at C10
      replace C10 := Lib.hid C10
      have C20 := fun W hT => spec_IsValidKey k2 W hT wk2
      rw [hv2] at C20
      replace C20 := Lib.hid C20
      have C21 := fun (W : World) (g : Nat) (hV : BoxAt W g 3 #[.int .i64 2, .int .i64 x.f0, .int .i64 x.f1, .int .i64 x.f2]) => spec_KeyedHash' k2 [2, x.f0, x.f1, x.f2] (some ⟨g, 0, none⟩) 4 4 g (g + 1) W wk2 (by decide) (rd_boxi hV) (deed_i64 Hx.out (by decide))
      generalize mKHash k2 [2, x.f0, x.f1, x.f2] = y at C21 ⊢
      replace C21 := Lib.hid C21
      have HX := Lib.hid KB.1
      have HR := Lib.hid KB.2.1
      have HB := Lib.hid KB.2.2
      clear hv1 hv2 wk1 wk2 KB
      go_enter Tryd.func4, Tryd.ntmps4
      go_wp2_with fail
      refine Calls.mono (C10.out) ?_
      rintro e w1 ⟨rfl, hb1⟩
      replace HX := Lib.hid ((HX.out).new hb1)
      replace HR := Lib.hid ((HR.out).new hb1)
      replace HB := Lib.hid (below_trans (HB.out) hb1 (Nat.le_refl _))
      have lHX : w.heap.size < w1.heap.size := HX.out.lt
      have lHR : w.heap.size + 1 < w1.heap.size := HR.out.lt
      clear hb1
      have eHX0 := HX.out.at_ (j := 0) rfl
      have eHX1 := HX.out.at_ (j := 1) rfl
      have eHX2 := HX.out.at_ (j := 2) rfl
      have eHX3 := HX.out.at_ (j := 3) rfl
      have eHX4 := HX.out.at_ (j := 4) rfl
      have fHX0 := HX.out.free 0
      have fHX1 := HX.out.free 1
      have fHX2 := HX.out.free 2
      have fHX3 := HX.out.free 3
      have fHX4 := HX.out.free 4
      go_wp2_with fail
      refine Calls.mono (C20.out _ (pow10_below hT HB.out)) ?_
      rintro e w2 ⟨rfl, hb1⟩
      replace HX := Lib.hid ((HX.out).new hb1)
      replace HR := Lib.hid ((HR.out).new hb1)
      replace HB := Lib.hid (below_trans (HB.out) hb1 (Nat.le_refl _))
      have lHX : w.heap.size < w2.heap.size := HX.out.lt
      have lHR : w.heap.size + 1 < w2.heap.size := HR.out.lt
      clear hb1
      have eHX0 := HX.out.at_ (j := 0) rfl
      have eHX1 := HX.out.at_ (j := 1) rfl
      have eHX2 := HX.out.at_ (j := 2) rfl
      have eHX3 := HX.out.at_ (j := 3) rfl
      have eHX4 := HX.out.at_ (j := 4) rfl
      have fHX0 := HX.out.free 0
      have fHX1 := HX.out.free 1
      have fHX2 := HX.out.free 2
      have fHX3 := HX.out.free 3
      have fHX4 := HX.out.free 4
      go_wp2_with fail
      refine Calls.mono (C21.out _ _ (box_new _ _ _)) ?_
      rintro e w3 ⟨rfl, hb1⟩
      replace HX := Lib.hid ((HX.out.alloc_ _).new hb1)
      replace HR := Lib.hid ((HR.out.alloc_ _).new hb1)
      have HU := Lib.hid (((box_new _ _ _)).new hb1)
      replace HB := Lib.hid (below_trans ((HB.out.alloc (by first | exact Nat.le_refl _ | (simp; done) | (simp; omega) | omega) _)) hb1 (Nat.le_refl _))
      have lHX : w.heap.size < w3.heap.size := HX.out.lt
      have lHR : w.heap.size + 1 < w3.heap.size := HR.out.lt
      have lHU : w2.heap.size < w3.heap.size := HU.out.lt
      clear hb1
      have eHX0 := HX.out.at_ (j := 0) rfl
      have eHX1 := HX.out.at_ (j := 1) rfl
      have eHX2 := HX.out.at_ (j := 2) rfl
      have eHX3 := HX.out.at_ (j := 3) rfl
      have eHX4 := HX.out.at_ (j := 4) rfl
      have fHX0 := HX.out.free 0
      have fHX1 := HX.out.free 1
      have fHX2 := HX.out.free 2
      have fHX3 := HX.out.free 3
      have fHX4 := HX.out.free 4
      have kHX0 := (bx_cell (u := .int .i64 y) (j := 4) HX.out).at_ (j := 0) rfl
      have kHX1 := (bx_cell (u := .int .i64 y) (j := 4) HX.out).at_ (j := 1) rfl
      have kHX2 := (bx_cell (u := .int .i64 y) (j := 4) HX.out).at_ (j := 2) rfl
      have kHX3 := (bx_cell (u := .int .i64 y) (j := 4) HX.out).at_ (j := 3) rfl
      have kHX4 := (bx_cell (u := .int .i64 y) (j := 4) HX.out).at_ (j := 4) rfl
      have HR2 := Lib.hid (bx_cell_far (g := w.heap.size) (j := 4) (u := .int .i64 y) HR.out (by omega))
      go_wp2_with (refine wpList_store_row rfl 24 _ _ rfl (w.heap.size + 1) #[.int .i64 x.f0, .int .i64 x.f1, .int .i64 x.f2, .int .i64 0, .int .i64 y] rfl rfl 24 _ HR2.out (by kernel_rfl) (by kernel_rfl) (by kernel_rfl) ?_)
      have k0 := (box_row (cs := #[.int .i64 x.f0, .int .i64 x.f1, .int .i64 x.f2, .int .i64 0, .int .i64 y]) HR2.out).at_ (j := 0) rfl
      have k1 := (box_row (cs := #[.int .i64 x.f0, .int .i64 x.f1, .int .i64 x.f2, .int .i64 0, .int .i64 y]) HR2.out).at_ (j := 1) rfl
      have k2 := (box_row (cs := #[.int .i64 x.f0, .int .i64 x.f1, .int .i64 x.f2, .int .i64 0, .int .i64 y]) HR2.out).at_ (j := 2) rfl
      have k3 := (box_row (cs := #[.int .i64 x.f0, .int .i64 x.f1, .int .i64 x.f2, .int .i64 0, .int .i64 y]) HR2.out).at_ (j := 3) rfl
      have k4 := (box_row (cs := #[.int .i64 x.f0, .int .i64 x.f1, .int .i64 x.f2, .int .i64 0, .int .i64 y]) HR2.out).at_ (j := 4) rfl
      exact bodyPost_ret (v := vDeed ⟨x.f0, x.f1, x.f2, 0, y⟩) (by simp [results, Tryd.results4, go_sem, k0, k1, k2, k3, k4]) rfl ⟨rfl, below_setRow (HB.out.setCell (by simp) _) (by omega) _⟩
  · cases hv2 : mValid k2
    · skip
      have HV := Lib.hid (show mDeed x k1 k2 = ⟨x.f0, x.f1, x.f2, mKHash k1 [1, x.f0, x.f1, x.f2], 0⟩ by unfold mDeed mSealD; rw [hv1, hv2]; rfl)
      rw [HV.out]
      have C10 := spec_IsValidKey k1 _ (pow10_below hT KB.2.2) wk1
      rw [hv1] at C10
      replace C10 := Lib.hid C10
      have C20 := fun W hT => spec_IsValidKey k2 W hT wk2
      rw [hv2] at C20
      replace C20 := Lib.hid C20
      have C11 := fun (W : World) (g : Nat) (hV : BoxAt W g 3 #[.int .i64 1, .int .i64 x.f0, .int .i64 x.f1, .int .i64 x.f2]) => spec_KeyedHash' k1 [1, x.f0, x.f1, x.f2] (some ⟨g, 0, none⟩) 4 4 g (g + 1) W wk1 (by decide) (rd_boxi hV) (deed_i64 Hx.out (by decide))
      generalize mKHash k1 [1, x.f0, x.f1, x.f2] = z at C11 ⊢
      replace C11 := Lib.hid C11
      have HX := Lib.hid KB.1
      have HR := Lib.hid KB.2.1
      have HB := Lib.hid KB.2.2
      clear hv1 hv2 wk1 wk2 KB
      go_enter Tryd.func4, Tryd.ntmps4
      go_wp2_with fail
      refine Calls.mono (C10.out) ?_
      rintro e w1 ⟨rfl, hb1⟩
      replace HX := Lib.hid ((HX.out).new hb1)
      replace HR := Lib.hid ((HR.out).new hb1)
      replace HB := Lib.hid (below_trans (HB.out) hb1 (Nat.le_refl _))
      have lHX : w.heap.size < w1.heap.size := HX.out.lt
      have lHR : w.heap.size + 1 < w1.heap.size := HR.out.lt
      clear hb1
      have eHX0 := HX.out.at_ (j := 0) rfl
      have eHX1 := HX.out.at_ (j := 1) rfl
      have eHX2 := HX.out.at_ (j := 2) rfl
      have eHX3 := HX.out.at_ (j := 3) rfl
      have eHX4 := HX.out.at_ (j := 4) rfl
      have fHX0 := HX.out.free 0
      have fHX1 := HX.out.free 1
      have fHX2 := HX.out.free 2
      have fHX3 := HX.out.free 3
      have fHX4 := HX.out.free 4
      go_wp2_with fail
      refine Calls.mono (C11.out _ _ (box_new _ _ _)) ?_
      rintro e w2 ⟨rfl, hb1⟩
      replace HX := Lib.hid ((HX.out.alloc_ _).new hb1)
      replace HR := Lib.hid ((HR.out.alloc_ _).new hb1)
      have HV := Lib.hid (((box_new _ _ _)).new hb1)
      replace HB := Lib.hid (below_trans ((HB.out.alloc (by first | exact Nat.le_refl _ | (simp; done) | (simp; omega) | omega) _)) hb1 (Nat.le_refl _))
      have lHX : w.heap.size < w2.heap.size := HX.out.lt
      have lHR : w.heap.size + 1 < w2.heap.size := HR.out.lt
      have lHV : w1.heap.size < w2.heap.size := HV.out.lt
      clear hb1
      have eHX0 := HX.out.at_ (j := 0) rfl
      have eHX1 := HX.out.at_ (j := 1) rfl
      have eHX2 := HX.out.at_ (j := 2) rfl
      have eHX3 := HX.out.at_ (j := 3) rfl
      have eHX4 := HX.out.at_ (j := 4) rfl
      have fHX0 := HX.out.free 0
      have fHX1 := HX.out.free 1
      have fHX2 := HX.out.free 2
      have fHX3 := HX.out.free 3
      have fHX4 := HX.out.free 4
      go_wp2_with fail
      refine Calls.mono (C20.out _ (pow10_below hT (HB.out.setCell (p := ⟨w.heap.size, 3, none⟩) (Nat.le_refl _) (.int .i64 z)))) ?_
      rintro e w3 ⟨rfl, hb1⟩
      replace HX := Lib.hid (((bx_cell (u := .int .i64 z) (j := 3) HX.out)).new hb1)
      replace HR := Lib.hid (((bx_cell_far (g := w.heap.size) (j := 3) (u := .int .i64 z) HR.out (by omega))).new hb1)
      replace HX := Lib.hid (show BoxAt w3 (w.heap.size) 24 #[.int .i64 x.f0, .int .i64 x.f1, .int .i64 x.f2, .int .i64 z, .int .i64 0] from HX.out)
      replace HB := Lib.hid (below_trans ((HB.out.setCell (by first | exact Nat.le_refl _ | (simp; done) | (simp; omega) | omega) _)) hb1 (Nat.le_refl _))
      have lHX : w.heap.size < w3.heap.size := HX.out.lt
      have lHR : w.heap.size + 1 < w3.heap.size := HR.out.lt
      clear hb1
      have eHX0 := HX.out.at_ (j := 0) rfl
      have eHX1 := HX.out.at_ (j := 1) rfl
      have eHX2 := HX.out.at_ (j := 2) rfl
      have eHX3 := HX.out.at_ (j := 3) rfl
      have eHX4 := HX.out.at_ (j := 4) rfl
      have fHX0 := HX.out.free 0
      have fHX1 := HX.out.free 1
      have fHX2 := HX.out.free 2
      have fHX3 := HX.out.free 3
      have fHX4 := HX.out.free 4
      have HR2 := HR
      go_wp2_with (refine wpList_store_row rfl 24 _ _ rfl (w.heap.size + 1) #[.int .i64 x.f0, .int .i64 x.f1, .int .i64 x.f2, .int .i64 z, .int .i64 0] rfl rfl 24 _ HR2.out (by kernel_rfl) (by kernel_rfl) (by kernel_rfl) ?_)
      have k0 := (box_row (cs := #[.int .i64 x.f0, .int .i64 x.f1, .int .i64 x.f2, .int .i64 z, .int .i64 0]) HR2.out).at_ (j := 0) rfl
      have k1 := (box_row (cs := #[.int .i64 x.f0, .int .i64 x.f1, .int .i64 x.f2, .int .i64 z, .int .i64 0]) HR2.out).at_ (j := 1) rfl
      have k2 := (box_row (cs := #[.int .i64 x.f0, .int .i64 x.f1, .int .i64 x.f2, .int .i64 z, .int .i64 0]) HR2.out).at_ (j := 2) rfl
      have k3 := (box_row (cs := #[.int .i64 x.f0, .int .i64 x.f1, .int .i64 x.f2, .int .i64 z, .int .i64 0]) HR2.out).at_ (j := 3) rfl
      have k4 := (box_row (cs := #[.int .i64 x.f0, .int .i64 x.f1, .int .i64 x.f2, .int .i64 z, .int .i64 0]) HR2.out).at_ (j := 4) rfl
      exact bodyPost_ret (v := vDeed ⟨x.f0, x.f1, x.f2, z, 0⟩) (by simp [results, Tryd.results4, go_sem, k0, k1, k2, k3, k4]) rfl ⟨rfl, below_setRow HB.out (by omega) _⟩
    · skip
      have HV := Lib.hid (show mDeed x k1 k2 = ⟨x.f0, x.f1, x.f2, mKHash k1 [1, x.f0, x.f1, x.f2], mKHash k2 [2, x.f0, x.f1, x.f2]⟩ by unfold mDeed mSealD; rw [hv1, hv2]; rfl)
      rw [HV.out]
      have C10 := spec_IsValidKey k1 _ (pow10_below hT KB.2.2) wk1
      rw [hv1] at C10
      replace C10 := Lib.hid C10
      have C20 := fun W hT => spec_IsValidKey k2 W hT wk2
      rw [hv2] at C20
      replace C20 := Lib.hid C20
      have C11 := fun (W : World) (g : Nat) (hV : BoxAt W g 3 #[.int .i64 1, .int .i64 x.f0, .int .i64 x.f1, .int .i64 x.f2]) => spec_KeyedHash' k1 [1, x.f0, x.f1, x.f2] (some ⟨g, 0, none⟩) 4 4 g (g + 1) W wk1 (by decide) (rd_boxi hV) (deed_i64 Hx.out (by decide))
      generalize mKHash k1 [1, x.f0, x.f1, x.f2] = z at C11 ⊢
      replace C11 := Lib.hid C11
      have C21 := fun (W : World) (g : Nat) (hV : BoxAt W g 3 #[.int .i64 2, .int .i64 x.f0, .int .i64 x.f1, .int .i64 x.f2]) => spec_KeyedHash' k2 [2, x.f0, x.f1, x.f2] (some ⟨g, 0, none⟩) 4 4 g (g + 1) W wk2 (by decide) (rd_boxi hV) (deed_i64 Hx.out (by decide))
      generalize mKHash k2 [2, x.f0, x.f1, x.f2] = y at C21 ⊢
      replace C21 := Lib.hid C21
      have HX := Lib.hid KB.1
      have HR := Lib.hid KB.2.1
      have HB := Lib.hid KB.2.2
      clear hv1 hv2 wk1 wk2 KB
      go_enter Tryd.func4, Tryd.ntmps4
      go_wp2_with fail
      refine Calls.mono (C10.out) ?_
      rintro e w1 ⟨rfl, hb1⟩
      replace HX := Lib.hid ((HX.out).new hb1)
      replace HR := Lib.hid ((HR.out).new hb1)
      replace HB := Lib.hid (below_trans (HB.out) hb1 (Nat.le_refl _))
      have lHX : w.heap.size < w1.heap.size := HX.out.lt
      have lHR : w.heap.size + 1 < w1.heap.size := HR.out.lt
      clear hb1
      have eHX0 := HX.out.at_ (j := 0) rfl
      have eHX1 := HX.out.at_ (j := 1) rfl
      have eHX2 := HX.out.at_ (j := 2) rfl
      have eHX3 := HX.out.at_ (j := 3) rfl
      have eHX4 := HX.out.at_ (j := 4) rfl
      have fHX0 := HX.out.free 0
      have fHX1 := HX.out.free 1
      have fHX2 := HX.out.free 2
      have fHX3 := HX.out.free 3
      have fHX4 := HX.out.free 4
      go_wp2_with fail
      refine Calls.mono (C11.out _ _ (box_new _ _ _)) ?_
      rintro e w2 ⟨rfl, hb1⟩
      replace HX := Lib.hid ((HX.out.alloc_ _).new hb1)
      replace HR := Lib.hid ((HR.out.alloc_ _).new hb1)
      have HV := Lib.hid (((box_new _ _ _)).new hb1)
      replace HB := Lib.hid (below_trans ((HB.out.alloc (by first | exact Nat.le_refl _ | (simp; done) | (simp; omega) | omega) _)) hb1 (Nat.le_refl _))
      have lHX : w.heap.size < w2.heap.size := HX.out.lt
      have lHR : w.heap.size + 1 < w2.heap.size := HR.out.lt
      have lHV : w1.heap.size < w2.heap.size := HV.out.lt
      clear hb1
      have eHX0 := HX.out.at_ (j := 0) rfl
      have eHX1 := HX.out.at_ (j := 1) rfl
      have eHX2 := HX.out.at_ (j := 2) rfl
      have eHX3 := HX.out.at_ (j := 3) rfl
      have eHX4 := HX.out.at_ (j := 4) rfl
      have fHX0 := HX.out.free 0
      have fHX1 := HX.out.free 1
      have fHX2 := HX.out.free 2
      have fHX3 := HX.out.free 3
      have fHX4 := HX.out.free 4
      go_wp2_with fail
      refine Calls.mono (C20.out _ (pow10_below hT (HB.out.setCell (p := ⟨w.heap.size, 3, none⟩) (Nat.le_refl _) (.int .i64 z)))) ?_
      rintro e w3 ⟨rfl, hb1⟩
      replace HX := Lib.hid (((bx_cell (u := .int .i64 z) (j := 3) HX.out)).new hb1)
      replace HR := Lib.hid (((bx_cell_far (g := w.heap.size) (j := 3) (u := .int .i64 z) HR.out (by omega))).new hb1)
      replace HX := Lib.hid (show BoxAt w3 (w.heap.size) 24 #[.int .i64 x.f0, .int .i64 x.f1, .int .i64 x.f2, .int .i64 z, .int .i64 0] from HX.out)
      replace HB := Lib.hid (below_trans ((HB.out.setCell (by first | exact Nat.le_refl _ | (simp; done) | (simp; omega) | omega) _)) hb1 (Nat.le_refl _))
      have lHX : w.heap.size < w3.heap.size := HX.out.lt
      have lHR : w.heap.size + 1 < w3.heap.size := HR.out.lt
      clear hb1
      have eHX0 := HX.out.at_ (j := 0) rfl
      have eHX1 := HX.out.at_ (j := 1) rfl
      have eHX2 := HX.out.at_ (j := 2) rfl
      have eHX3 := HX.out.at_ (j := 3) rfl
      have eHX4 := HX.out.at_ (j := 4) rfl
      have fHX0 := HX.out.free 0
      have fHX1 := HX.out.free 1
      have fHX2 := HX.out.free 2
      have fHX3 := HX.out.free 3
      have fHX4 := HX.out.free 4
      go_wp2_with fail
      refine Calls.mono (C21.out _ _ (box_new _ _ _)) ?_
      rintro e w4 ⟨rfl, hb1⟩
      replace HX := Lib.hid ((HX.out.alloc_ _).new hb1)
      replace HR := Lib.hid ((HR.out.alloc_ _).new hb1)
      have HU := Lib.hid (((box_new _ _ _)).new hb1)
      replace HB := Lib.hid (below_trans ((HB.out.alloc (by first | exact Nat.le_refl _ | (simp; done) | (simp; omega) | omega) _)) hb1 (Nat.le_refl _))
      have lHX : w.heap.size < w4.heap.size := HX.out.lt
      have lHR : w.heap.size + 1 < w4.heap.size := HR.out.lt
      have lHU : w3.heap.size < w4.heap.size := HU.out.lt
      clear hb1
      have eHX0 := HX.out.at_ (j := 0) rfl
      have eHX1 := HX.out.at_ (j := 1) rfl
      have eHX2 := HX.out.at_ (j := 2) rfl
      have eHX3 := HX.out.at_ (j := 3) rfl
      have eHX4 := HX.out.at_ (j := 4) rfl
      have fHX0 := HX.out.free 0
      have fHX1 := HX.out.free 1
      have fHX2 := HX.out.free 2
      have fHX3 := HX.out.free 3
      have fHX4 := HX.out.free 4
      have kHX0 := (bx_cell (u := .int .i64 y) (j := 4) HX.out).at_ (j := 0) rfl
      have kHX1 := (bx_cell (u := .int .i64 y) (j := 4) HX.out).at_ (j := 1) rfl
      have kHX2 := (bx_cell (u := .int .i64 y) (j := 4) HX.out).at_ (j := 2) rfl
      have kHX3 := (bx_cell (u := .int .i64 y) (j := 4) HX.out).at_ (j := 3) rfl
      have kHX4 := (bx_cell (u := .int .i64 y) (j := 4) HX.out).at_ (j := 4) rfl
      have HR2 := Lib.hid (bx_cell_far (g := w.heap.size) (j := 4) (u := .int .i64 y) HR.out (by omega))
      go_wp2_with (refine wpList_store_row rfl 24 _ _ rfl (w.heap.size + 1) #[.int .i64 x.f0, .int .i64 x.f1, .int .i64 x.f2, .int .i64 z, .int .i64 y] rfl rfl 24 _ HR2.out (by kernel_rfl) (by kernel_rfl) (by kernel_rfl) ?_)
      have k0 := (box_row (cs := #[.int .i64 x.f0, .int .i64 x.f1, .int .i64 x.f2, .int .i64 z, .int .i64 y]) HR2.out).at_ (j := 0) rfl
      have k1 := (box_row (cs := #[.int .i64 x.f0, .int .i64 x.f1, .int .i64 x.f2, .int .i64 z, .int .i64 y]) HR2.out).at_ (j := 1) rfl
      have k2 := (box_row (cs := #[.int .i64 x.f0, .int .i64 x.f1, .int .i64 x.f2, .int .i64 z, .int .i64 y]) HR2.out).at_ (j := 2) rfl
      have k3 := (box_row (cs := #[.int .i64 x.f0, .int .i64 x.f1, .int .i64 x.f2, .int .i64 z, .int .i64 y]) HR2.out).at_ (j := 3) rfl
      have k4 := (box_row (cs := #[.int .i64 x.f0, .int .i64 x.f1, .int .i64 x.f2, .int .i64 z, .int .i64 y]) HR2.out).at_ (j := 4) rfl
      exact bodyPost_ret (v := vDeed ⟨x.f0, x.f1, x.f2, z, y⟩) (by simp [results, Tryd.results4, go_sem, k0, k1, k2, k3, k4]) rfl ⟨rfl, below_setRow (HB.out.setCell (by simp) _) (by omega) _⟩

end Go.Proofs.YtgemmddhkbfndaaDoor
