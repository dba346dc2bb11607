/- IsValidKey, of the program and of the model. -/
import Derived.Test.YtlnmgfbfpjfddaaDoorRgn
import Derived.Test.YtlnmgfbfpjfddaaDoorIn
import Derived.Test.YtlnmgfbfpjfddaaDoorErrIs
import Derived.Test.YtlnmgfbfpjfddaaDoorEFrame
import Derived.Test.YtlnmgfbfpjfddaaDoorFun
import Derived.Deep.RegionHeld3
namespace Go.Proofs.YtlnmgfbfpjfddaaDoor
open Go Go.ChangeShapes Go.WideShapes Go.ChangeAt Go.RowKit Go.Lib
set_option linter.unusedVariables false
set_option linter.unusedSimpArgs false
set_option maxRecDepth 100000
def mValid (k : Int) : Bool := inR k 1 2147483646
theorem impl_checkKey_yes (k : Int) (w : World) (h : mValid k = true) : Calls Tryd.prog 88 #[.int .i64 k] w (Says .nilIface w) := by
 have h : inR k 1 2147483646 = true := h
 go_enter Tryd.func88, Tryd.ntmps88
 go_wp2_with (go_at_call 44; refine (impl_in _ _ _ _).mono ?_; rintro e w1 ⟨rfl, rfl⟩)
 go_ret
 exact ⟨rfl, Below.refl _ _⟩
theorem impl_checkKey_no (k : Int) (a : Addr) (w : World) (hc : w.cell? ⟨0, 0, none⟩ = some (.iface 171 (.pointer (some a)))) (h : mValid k = false) : Calls Tryd.prog 88 #[.int .i64 k] w (Says (.iface 171 (.pointer (some a))) w) := by
 have h : inR k 1 2147483646 = false := h
 go_enter Tryd.func88, Tryd.ntmps88
 go_wp2_with (go_at_call 44; refine (impl_in _ _ _ _).mono ?_; rintro e w1 ⟨rfl, rfl⟩)
 go_ret
 exact ⟨rfl, Below.refl _ _⟩

set_option maxHeartbeats 4000000 in
theorem impl_IsValidKey (k : Int) (w : World) (hT : Pow10 w) (wf : (Lit.int .i64 k).wf = true) : Calls Tryd.prog 72 #[.int .i64 k] w (Says (.bool (mValid k)) w) := by
 obtain ⟨a, hc⟩ := key_cell hT
 clear hT
 cases h : mValid k
 ·
  have C0 := Lib.hid (fun W (hc : W.cell? ⟨0, 0, none⟩ = some (.iface 171 (.pointer (some a)))) => impl_checkKey_no k a W hc h)
  have C1 := Lib.hid (fun W => is_same a W)
  clear h wf
  go_enter Tryd.func72, Tryd.ntmps72
  go_wp2_with fail
  refine wp_region_held_drew (S := fun w' => Below w.heap.size w w') (by kernel_rfl) ?_ (fun hHeld => ?_)
  ·
   exact ((Below.refl _ _).drew)
  refine tk (i := 0) (oi := ⟨some 3, _, _, _, _, _⟩) (v := ?_) rfl hHeld ?_ ?_; rotate_left; (focus (intro W hS; have cg := cell_nw hS hc; clear hS; go_simp; try with_reducible rfl)); try simp only [ptl]
  refine tk (i := 2) (oi := ⟨some 5, _, _, _, _, _⟩) (v := ?_) rfl hHeld ?_ ?_; rotate_left; (focus (intro W hS; have cg := cell_nw hS hc; clear hS; go_simp; try with_reducible rfl)); try simp only [ptl]
  refine rd1 (i := 1) (o := ⟨some 4, _, _, _, _, _⟩) rfl (fun K hK => ?_)
  go_simp
  refine Calls.mono (C0.out _ (cell_nw hHeld hc)) ?_
  rintro e x1 ⟨rfl, hb1⟩
  refine hK.out _ _ (below_trans hHeld hb1 (Nat.le_refl _)) (fun hHeld' => ?_)
  clear hK K hHeld hb1; have hHeld := hHeld'; clear hHeld'
  try simp only [ptl]
  refine rd1 (i := 3) (o := ⟨some 6, _, _, _, _, _⟩) rfl (fun K hK => ?_)
  go_simp
  refine Calls.mono (C1.out _) ?_
  rintro e x2 ⟨rfl, hb1⟩
  refine hK.out _ _ (below_trans hHeld hb1 (Nat.le_refl _)) (fun hHeld' => ?_)
  clear hK K hHeld hb1; have hHeld := hHeld'; clear hHeld'
  try simp only [ptl]
  refine tk (i := 4) (oi := ⟨some 7, _, _, _, _, _⟩) (v := ?_) rfl hHeld ?_ ?_; rotate_left; (focus (intro W hS; have cg := cell_nw hS hc; clear hS; go_simp; try with_reducible rfl)); try simp only [ptl]
  refine tk (i := 5) (oi := ⟨some 2, _, _, _, _, _⟩) (v := ?_) rfl hHeld ?_ ?_; rotate_left; (focus (intro W hS; have cg := cell_nw hS hc; clear hS; go_simp; try with_reducible rfl)); try simp only [ptl]
  refine wpAnyH_done (by kernel_rfl) ?_ _
  go_wp2_with fail
  go_ret
  exact ⟨rfl, hHeld⟩
 ·
  have C0 := Lib.hid (fun W => impl_checkKey_yes k W h)
  have C1 := Lib.hid (fun W => is_nil a W)
  clear h wf
  go_enter Tryd.func72, Tryd.ntmps72
  go_wp2_with fail
  refine wp_region_held_drew (S := fun w' => Below w.heap.size w w') (by kernel_rfl) ?_ (fun hHeld => ?_)
  ·
   exact ((Below.refl _ _).drew)
  refine tk (i := 0) (oi := ⟨some 3, _, _, _, _, _⟩) (v := ?_) rfl hHeld ?_ ?_; rotate_left; (focus (intro W hS; have cg := cell_nw hS hc; clear hS; go_simp; try with_reducible rfl)); try simp only [ptl]
  refine tk (i := 2) (oi := ⟨some 5, _, _, _, _, _⟩) (v := ?_) rfl hHeld ?_ ?_; rotate_left; (focus (intro W hS; have cg := cell_nw hS hc; clear hS; go_simp; try with_reducible rfl)); try simp only [ptl]
  refine rd1 (i := 1) (o := ⟨some 4, _, _, _, _, _⟩) rfl (fun K hK => ?_)
  go_simp
  refine Calls.mono (C0.out _) ?_
  rintro e x1 ⟨rfl, hb1⟩
  refine hK.out _ _ (below_trans hHeld hb1 (Nat.le_refl _)) (fun hHeld' => ?_)
  clear hK K hHeld hb1; have hHeld := hHeld'; clear hHeld'
  try simp only [ptl]
  refine rd1 (i := 3) (o := ⟨some 6, _, _, _, _, _⟩) rfl (fun K hK => ?_)
  go_simp
  refine Calls.mono (C1.out _) ?_
  rintro e x2 ⟨rfl, hb1⟩
  refine hK.out _ _ (below_trans hHeld hb1 (Nat.le_refl _)) (fun hHeld' => ?_)
  clear hK K hHeld hb1; have hHeld := hHeld'; clear hHeld'
  try simp only [ptl]
  refine tk (i := 4) (oi := ⟨some 7, _, _, _, _, _⟩) (v := ?_) rfl hHeld ?_ ?_; rotate_left; (focus (intro W hS; have cg := cell_nw hS hc; clear hS; go_simp; try with_reducible rfl)); try simp only [ptl]
  refine tk (i := 5) (oi := ⟨some 2, _, _, _, _, _⟩) (v := ?_) rfl hHeld ?_ ?_; rotate_left; (focus (intro W hS; have cg := cell_nw hS hc; clear hS; go_simp; try with_reducible rfl)); try simp only [ptl]
  refine wpAnyH_done (by kernel_rfl) ?_ _
  go_wp2_with fail
  go_ret
  exact ⟨rfl, hHeld⟩
theorem spec_IsValidKey (k : Int) (w : World) (hT : Pow10 w) (wf : (Lit.int .i64 k).wf = true) : Calls Tryd.prog 99 #[.int .i64 k] w (Says (.bool (mValid k)) w) := by
 change Calls _ _ _ _ (Says (.bool (inR k 1 2147483646)) w)
 clear hT
 go_enter Tryd.func99, Tryd.ntmps99
 go_wp2_with (go_at_call 45; refine (spec_in _ _ _ _).mono ?_; rintro e w1 ⟨rfl, rfl⟩)
 go_ret
 exact ⟨rfl, Below.refl _ _⟩
end Go.Proofs.YtlnmgfbfpjfddaaDoor
