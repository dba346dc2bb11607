/- Valid, what is needed of it. -/
import Derived.Test.YtkedacmpmancbaaGreatDoorVRgn
import Derived.Test.YtkedacmpmancbaaGreatDoorVIn
import Derived.Test.YtkedacmpmancbaaGreatDoorVErrIs
import Derived.Test.YtkedacmpmancbaaGreatDoorVEFrame
import Derived.Test.YtkedacmpmancbaaGreatDoorVFun
import Derived.Deep.RegionHeld3
namespace Go.Proofs.YtkedacmpmancbaaGreatDoor
open Go Go.ChangeShapes Go.WideShapes Go.ChangeAt Go.RowKit Go.Lib
set_option linter.unusedVariables false
set_option linter.unusedSimpArgs false
set_option maxRecDepth 100000
def mValid (k : Int) : Bool := inR k 1 2147483646
theorem impl_checkKey_yes (k : Int) (w : World) (h : mValid k = true) : Calls Tryz.prog 204 #[.int .i64 k] w (Says .nilIface w) := by
 have h : inR k 1 2147483646 = true := h
 go_enter Tryz.func204, Tryz.ntmps204
 go_wp2_with (go_at_call 86; refine (impl_in _ _ _ _).mono ?_; rintro e w1 ⟨rfl, rfl⟩)
 go_ret
 exact ⟨rfl, Below.refl _ _⟩
theorem impl_checkKey_no (k : Int) (a : Addr) (w : World) (hc : w.cell? ⟨0, 0, none⟩ = some (.iface 309 (.pointer (some a)))) (h : mValid k = false) : Calls Tryz.prog 204 #[.int .i64 k] w (Says (.iface 309 (.pointer (some a))) w) := by
 have h : inR k 1 2147483646 = false := h
 go_enter Tryz.func204, Tryz.ntmps204
 go_wp2_with (go_at_call 86; refine (impl_in _ _ _ _).mono ?_; rintro e w1 ⟨rfl, rfl⟩)
 go_ret
 exact ⟨rfl, Below.refl _ _⟩

set_option maxHeartbeats 4000000 in
theorem impl_IsValidKey (k : Int) (w : World) (hT : Pow10 w) (wf : (Lit.int .i64 k).wf = true) : Calls Tryz.prog 184 #[.int .i64 k] w (Says (.bool (mValid k)) w) := by
 obtain ⟨a, hc⟩ := key_cell hT
 clear hT
 cases h : mValid k
 ·
  have C0 := Lib.hid (fun W (hc : W.cell? ⟨0, 0, none⟩ = some (.iface 309 (.pointer (some a)))) => impl_checkKey_no k a W hc h)
  have C1 := Lib.hid (fun W => is_same a W)
  clear h wf
  go_enter Tryz.func184, Tryz.ntmps184
  go_wp2_with fail
  refine wp_region_held_drew (S := fun w' => Below w.heap.size w w') (by kernel_rfl) ?_ (fun hHeld => ?_)
  ·
   exact ((Below.refl _ _).drew)
  refine tl 0 3 hHeld rfl ?_ (by intro W hS; have cg := cell_nw hS hc; clear hS; go_simp; try with_reducible rfl); try simp only [ptl]
  refine tl 2 5 hHeld rfl ?_ (by intro W hS; have cg := cell_nw hS hc; clear hS; go_simp; try with_reducible rfl); try simp only [ptl]
  refine rd1 (i := 1) (o := ⟨some 4, _, _, _, _, _⟩) rfl (fun K hK => ?_)
  go_simp
  refine Calls.mono (C0.out _ (cell_nw hHeld hc)) ?_
  rintro e x1 ⟨rfl, hb1⟩
  refine hK.out _ _ (below_trans hHeld hb1 (Nat.le_refl _)) (fun hHeld' => ?_)
  clear hK K hHeld hb1; have hHeld := hHeld'; clear hHeld'
  try simp only [ptl]
  refine rd1 (i := 3) (o := ⟨some 6, _, _, _, _, _⟩) rfl (fun K hK => ?_)
  go_simp
  refine Calls.mono (C1.out _) ?_
  rintro e x2 ⟨rfl, hb1⟩
  refine hK.out _ _ (below_trans hHeld hb1 (Nat.le_refl _)) (fun hHeld' => ?_)
  clear hK K hHeld hb1; have hHeld := hHeld'; clear hHeld'
  try simp only [ptl]
  refine tl 4 7 hHeld rfl ?_ (by intro W hS; have cg := cell_nw hS hc; clear hS; go_simp; try with_reducible rfl); try simp only [ptl]
  refine tl 5 2 hHeld rfl ?_ (by intro W hS; have cg := cell_nw hS hc; clear hS; go_simp; try with_reducible rfl); try simp only [ptl]
  refine wpAnyH_done (by kernel_rfl) ?_ _
  go_wp2_with fail
  go_ret
  exact ⟨rfl, hHeld⟩
 ·
  have C0 := Lib.hid (fun W => impl_checkKey_yes k W h)
  have C1 := Lib.hid (fun W => is_nil a W)
  clear h wf
  go_enter Tryz.func184, Tryz.ntmps184
  go_wp2_with fail
  refine wp_region_held_drew (S := fun w' => Below w.heap.size w w') (by kernel_rfl) ?_ (fun hHeld => ?_)
  ·
   exact ((Below.refl _ _).drew)
  refine tl 0 3 hHeld rfl ?_ (by intro W hS; have cg := cell_nw hS hc; clear hS; go_simp; try with_reducible rfl); try simp only [ptl]
  refine tl 2 5 hHeld rfl ?_ (by intro W hS; have cg := cell_nw hS hc; clear hS; go_simp; try with_reducible rfl); try simp only [ptl]
  refine rd1 (i := 1) (o := ⟨some 4, _, _, _, _, _⟩) rfl (fun K hK => ?_)
  go_simp
  refine Calls.mono (C0.out _) ?_
  rintro e x1 ⟨rfl, hb1⟩
  refine hK.out _ _ (below_trans hHeld hb1 (Nat.le_refl _)) (fun hHeld' => ?_)
  clear hK K hHeld hb1; have hHeld := hHeld'; clear hHeld'
  try simp only [ptl]
  refine rd1 (i := 3) (o := ⟨some 6, _, _, _, _, _⟩) rfl (fun K hK => ?_)
  go_simp
  refine Calls.mono (C1.out _) ?_
  rintro e x2 ⟨rfl, hb1⟩
  refine hK.out _ _ (below_trans hHeld hb1 (Nat.le_refl _)) (fun hHeld' => ?_)
  clear hK K hHeld hb1; have hHeld := hHeld'; clear hHeld'
  try simp only [ptl]
  refine tl 4 7 hHeld rfl ?_ (by intro W hS; have cg := cell_nw hS hc; clear hS; go_simp; try with_reducible rfl); try simp only [ptl]
  refine tl 5 2 hHeld rfl ?_ (by intro W hS; have cg := cell_nw hS hc; clear hS; go_simp; try with_reducible rfl); try simp only [ptl]
  refine wpAnyH_done (by kernel_rfl) ?_ _
  go_wp2_with fail
  go_ret
  exact ⟨rfl, hHeld⟩
theorem spec_IsValidKey (k : Int) (w : World) (hT : Pow10 w) (wf : (Lit.int .i64 k).wf = true) : Calls Tryz.prog 120 #[.int .i64 k] w (Says (.bool (mValid k)) w) := by
 change Calls _ _ _ _ (Says (.bool (inR k 1 2147483646)) w)
 clear hT
 go_enter Tryz.func120, Tryz.ntmps120
 go_wp2_with (go_at_call 69; refine (spec_in _ _ _ _).mono ?_; rintro e w1 ⟨rfl, rfl⟩)
 go_ret
 exact ⟨rfl, Below.refl _ _⟩
end Go.Proofs.YtkedacmpmancbaaGreatDoor
