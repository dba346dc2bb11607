/- Mask, what is needed of it. -/
import Derived.Test.YtcankpiidjhhpaaYRgn
import Derived.Test.YtcankpiidjhhpaaYGb
import Derived.Deep.RegionHeld3
import Derived.Deep.LoopGhost
namespace Go.Proofs.Ytcankpiidjhhpaa
open Go Go.ChangeShapes Go.WideShapes Go.ChangeAt Go.RowKit Go.Lib
set_option linter.unusedVariables false
set_option linter.unusedSimpArgs false
set_option maxRecDepth 100000
def mHas (b : Int) (k : Nat) : Bool := b / ((2 ^ k : Nat) : Int) % 2 == 1
theorem box_cellM {w : World} {g j : Nat} {t : TypeId} {cs : Array Value} {u : Value} (h : BoxAt w g t cs) : BoxAt (w.setCell ⟨g, j, none⟩ u) g t (cs.setIfInBounds j u) := by
 unfold BoxAt at *
 simp [World.setCell, Array.getElem?_modify, h]
theorem bit1 {z : Int} (h0 : 0 ≤ z) (h1 : z ≤ 1022) : (bits .and .i64 z 2 != 0) = mHas z 1 := by
 obtain ⟨m, rfl⟩ := Int.eq_ofNat_of_zero_le h0
 have hm : m < 1023 := by omega
 have h : ∀ k : Fin 1023, (bits .and .i64 ((k.1 : Nat) : Int) 2 != 0) = mHas ((k.1 : Nat) : Int) 1 := by decide +kernel
 exact h ⟨m, hm⟩

theorem bit2 {z : Int} (h0 : 0 ≤ z) (h1 : z ≤ 1022) : (bits .and .i64 z 4 != 0) = mHas z 2 := by
 obtain ⟨m, rfl⟩ := Int.eq_ofNat_of_zero_le h0
 have hm : m < 1023 := by omega
 have h : ∀ k : Fin 1023, (bits .and .i64 ((k.1 : Nat) : Int) 4 != 0) = mHas ((k.1 : Nat) : Int) 2 := by decide +kernel
 exact h ⟨m, hm⟩

theorem bit3 {z : Int} (h0 : 0 ≤ z) (h1 : z ≤ 1022) : (bits .and .i64 z 8 != 0) = mHas z 3 := by
 obtain ⟨m, rfl⟩ := Int.eq_ofNat_of_zero_le h0
 have hm : m < 1023 := by omega
 have h : ∀ k : Fin 1023, (bits .and .i64 ((k.1 : Nat) : Int) 8 != 0) = mHas ((k.1 : Nat) : Int) 3 := by decide +kernel
 exact h ⟨m, hm⟩

theorem bit4 {z : Int} (h0 : 0 ≤ z) (h1 : z ≤ 1022) : (bits .and .i64 z 16 != 0) = mHas z 4 := by
 obtain ⟨m, rfl⟩ := Int.eq_ofNat_of_zero_le h0
 have hm : m < 1023 := by omega
 have h : ∀ k : Fin 1023, (bits .and .i64 ((k.1 : Nat) : Int) 16 != 0) = mHas ((k.1 : Nat) : Int) 4 := by decide +kernel
 exact h ⟨m, hm⟩

theorem bit5 {z : Int} (h0 : 0 ≤ z) (h1 : z ≤ 1022) : (bits .and .i64 z 32 != 0) = mHas z 5 := by
 obtain ⟨m, rfl⟩ := Int.eq_ofNat_of_zero_le h0
 have hm : m < 1023 := by omega
 have h : ∀ k : Fin 1023, (bits .and .i64 ((k.1 : Nat) : Int) 32 != 0) = mHas ((k.1 : Nat) : Int) 5 := by decide +kernel
 exact h ⟨m, hm⟩

theorem bit6 {z : Int} (h0 : 0 ≤ z) (h1 : z ≤ 1022) : (bits .and .i64 z 64 != 0) = mHas z 6 := by
 obtain ⟨m, rfl⟩ := Int.eq_ofNat_of_zero_le h0
 have hm : m < 1023 := by omega
 have h : ∀ k : Fin 1023, (bits .and .i64 ((k.1 : Nat) : Int) 64 != 0) = mHas ((k.1 : Nat) : Int) 6 := by decide +kernel
 exact h ⟨m, hm⟩

theorem bit7 {z : Int} (h0 : 0 ≤ z) (h1 : z ≤ 1022) : (bits .and .i64 z 128 != 0) = mHas z 7 := by
 obtain ⟨m, rfl⟩ := Int.eq_ofNat_of_zero_le h0
 have hm : m < 1023 := by omega
 have h : ∀ k : Fin 1023, (bits .and .i64 ((k.1 : Nat) : Int) 128 != 0) = mHas ((k.1 : Nat) : Int) 7 := by decide +kernel
 exact h ⟨m, hm⟩

theorem bit8 {z : Int} (h0 : 0 ≤ z) (h1 : z ≤ 1022) : (bits .and .i64 z 256 != 0) = mHas z 8 := by
 obtain ⟨m, rfl⟩ := Int.eq_ofNat_of_zero_le h0
 have hm : m < 1023 := by omega
 have h : ∀ k : Fin 1023, (bits .and .i64 ((k.1 : Nat) : Int) 256 != 0) = mHas ((k.1 : Nat) : Int) 8 := by decide +kernel
 exact h ⟨m, hm⟩

theorem bit9 {z : Int} (h0 : 0 ≤ z) (h1 : z ≤ 1022) : (bits .and .i64 z 512 != 0) = mHas z 9 := by
 obtain ⟨m, rfl⟩ := Int.eq_ofNat_of_zero_le h0
 have hm : m < 1023 := by omega
 have h : ∀ k : Fin 1023, (bits .and .i64 ((k.1 : Nat) : Int) 512 != 0) = mHas ((k.1 : Nat) : Int) 9 := by decide +kernel
 exact h ⟨m, hm⟩

set_option maxHeartbeats 4000000 in
theorem impl_has1 (b : Int) (v : Bool) (w : World) (h0 : 0 ≤ b) (h1 : b ≤ 1022) :
  Calls Try.prog 62 #[.agg #[.int .i64 b, .bool v], .int .i64 1] w (Says (.bool (mHas b 1)) w) := by
 have CI := Lib.hid (fun W => Calls.mono (impl_in 1 1 9 W) (R' := Says (.bool true) W) (by rintro e w1 ⟨rfl, rfl⟩; exact ⟨rfl, Below.refl _ _⟩))
 rw [← bit1 h0 h1]
 clear h0 h1
 go_enter Try.func62, Try.ntmps62
 go_wp2_with fail
 refine wp_region_held_drew (S := fun w' => BoxAt w' w.heap.size 82 #[.int .i64 b, .bool v] ∧ Below w.heap.size w w') (by kernel_rfl) ?_ (fun hHeld => ?_)
 ·
  exact ⟨(box_new w 82 #[.int .i64 b, .bool v]).drw, ((Below.refl _ _).alloc (Nat.le_refl _) _).drew⟩
 refine tk (i := 0) (oi := ⟨some 5, _, _, _, _, _⟩) (v := ?_) rfl hHeld ?_ ?_; rotate_left; (focus (intro _ _; go_simp; try with_reducible rfl)); try simp only [ptl]
 refine rd1 (i := 1) (o := ⟨some 6, _, _, _, _, _⟩) rfl (fun K hK => ?_)
 go_simp
 refine Calls.mono (CI.out _) ?_
 rintro e x1 ⟨rfl, hb1⟩
 refine hK.out _ _ ⟨hHeld.1.new hb1, below_trans hHeld.2 hb1 (Nat.le_refl _)⟩ (fun hHeld' => ?_)
 clear hK K hHeld hb1; have hHeld := hHeld'; clear hHeld'
 try simp only [ptl]
 refine tk (i := 2) (oi := ⟨some 7, _, _, _, _, _⟩) (v := ?_) rfl hHeld ?_ ?_; rotate_left; (focus (intro _ _; go_simp; try with_reducible rfl)); try simp only [ptl]
 refine tk (i := 3) (oi := ⟨some 8, _, _, _, _, _⟩) (v := ?_) rfl hHeld ?_ ?_; rotate_left; (focus (intro _ _; go_simp; try with_reducible rfl)); try simp only [ptl]
 refine tk (i := 4) (oi := ⟨some 9, _, _, _, _, _⟩) (v := ?_) rfl hHeld ?_ ?_; rotate_left; (focus (intro W hS; have c0_0 := (hS.1).at_ (j := 0) rfl; have c0_1 := (hS.1).at_ (j := 1) rfl; clear hS; go_simp; try with_reducible rfl)); try simp only [ptl]
 refine tk (i := 5) (oi := ⟨some 10, _, _, _, _, _⟩) (v := ?_) rfl hHeld ?_ ?_; rotate_left; (focus (intro _ _; go_simp; try with_reducible rfl)); try simp only [ptl]
 refine tk (i := 6) (oi := ⟨some 11, _, _, _, _, _⟩) (v := ?_) rfl hHeld ?_ ?_; rotate_left; (focus (intro _ _; go_simp; try with_reducible rfl)); try simp only [ptl]
 refine tk (i := 7) (oi := ⟨some 12, _, _, _, _, _⟩) (v := ?_) rfl hHeld ?_ ?_; rotate_left; (focus (intro _ _; go_simp; try with_reducible rfl)); try simp only [ptl]
 refine tk (i := 8) (oi := ⟨some 13, _, _, _, _, _⟩) (v := ?_) rfl hHeld ?_ ?_; rotate_left; (focus (intro _ _; go_simp; try with_reducible rfl)); try simp only [ptl]
 refine tk (i := 9) (oi := ⟨some 14, _, _, _, _, _⟩) (v := ?_) rfl hHeld ?_ ?_; rotate_left; (focus (intro _ _; go_simp; try with_reducible rfl)); try simp only [ptl]
 refine tk (i := 10) (oi := ⟨some 4, _, _, _, _, _⟩) (v := ?_) rfl hHeld ?_ ?_; rotate_left; (focus (intro _ _; go_simp; try with_reducible rfl)); try simp only [ptl]
 refine wpAnyH_done (by kernel_rfl) ?_ _
 go_wp2_with fail
 go_ret
 exact ⟨rfl, hHeld.2⟩

set_option maxHeartbeats 4000000 in
theorem impl_has2 (b : Int) (v : Bool) (w : World) (h0 : 0 ≤ b) (h1 : b ≤ 1022) :
  Calls Try.prog 62 #[.agg #[.int .i64 b, .bool v], .int .i64 2] w (Says (.bool (mHas b 2)) w) := by
 have CI := Lib.hid (fun W => Calls.mono (impl_in 2 1 9 W) (R' := Says (.bool true) W) (by rintro e w1 ⟨rfl, rfl⟩; exact ⟨rfl, Below.refl _ _⟩))
 rw [← bit2 h0 h1]
 clear h0 h1
 go_enter Try.func62, Try.ntmps62
 go_wp2_with fail
 refine wp_region_held_drew (S := fun w' => BoxAt w' w.heap.size 82 #[.int .i64 b, .bool v] ∧ Below w.heap.size w w') (by kernel_rfl) ?_ (fun hHeld => ?_)
 ·
  exact ⟨(box_new w 82 #[.int .i64 b, .bool v]).drw, ((Below.refl _ _).alloc (Nat.le_refl _) _).drew⟩
 refine tk (i := 0) (oi := ⟨some 5, _, _, _, _, _⟩) (v := ?_) rfl hHeld ?_ ?_; rotate_left; (focus (intro _ _; go_simp; try with_reducible rfl)); try simp only [ptl]
 refine rd1 (i := 1) (o := ⟨some 6, _, _, _, _, _⟩) rfl (fun K hK => ?_)
 go_simp
 refine Calls.mono (CI.out _) ?_
 rintro e x1 ⟨rfl, hb1⟩
 refine hK.out _ _ ⟨hHeld.1.new hb1, below_trans hHeld.2 hb1 (Nat.le_refl _)⟩ (fun hHeld' => ?_)
 clear hK K hHeld hb1; have hHeld := hHeld'; clear hHeld'
 try simp only [ptl]
 refine tk (i := 2) (oi := ⟨some 7, _, _, _, _, _⟩) (v := ?_) rfl hHeld ?_ ?_; rotate_left; (focus (intro _ _; go_simp; try with_reducible rfl)); try simp only [ptl]
 refine tk (i := 3) (oi := ⟨some 8, _, _, _, _, _⟩) (v := ?_) rfl hHeld ?_ ?_; rotate_left; (focus (intro _ _; go_simp; try with_reducible rfl)); try simp only [ptl]
 refine tk (i := 4) (oi := ⟨some 9, _, _, _, _, _⟩) (v := ?_) rfl hHeld ?_ ?_; rotate_left; (focus (intro W hS; have c0_0 := (hS.1).at_ (j := 0) rfl; have c0_1 := (hS.1).at_ (j := 1) rfl; clear hS; go_simp; try with_reducible rfl)); try simp only [ptl]
 refine tk (i := 5) (oi := ⟨some 10, _, _, _, _, _⟩) (v := ?_) rfl hHeld ?_ ?_; rotate_left; (focus (intro _ _; go_simp; try with_reducible rfl)); try simp only [ptl]
 refine tk (i := 6) (oi := ⟨some 11, _, _, _, _, _⟩) (v := ?_) rfl hHeld ?_ ?_; rotate_left; (focus (intro _ _; go_simp; try with_reducible rfl)); try simp only [ptl]
 refine tk (i := 7) (oi := ⟨some 12, _, _, _, _, _⟩) (v := ?_) rfl hHeld ?_ ?_; rotate_left; (focus (intro _ _; go_simp; try with_reducible rfl)); try simp only [ptl]
 refine tk (i := 8) (oi := ⟨some 13, _, _, _, _, _⟩) (v := ?_) rfl hHeld ?_ ?_; rotate_left; (focus (intro _ _; go_simp; try with_reducible rfl)); try simp only [ptl]
 refine tk (i := 9) (oi := ⟨some 14, _, _, _, _, _⟩) (v := ?_) rfl hHeld ?_ ?_; rotate_left; (focus (intro _ _; go_simp; try with_reducible rfl)); try simp only [ptl]
 refine tk (i := 10) (oi := ⟨some 4, _, _, _, _, _⟩) (v := ?_) rfl hHeld ?_ ?_; rotate_left; (focus (intro _ _; go_simp; try with_reducible rfl)); try simp only [ptl]
 refine wpAnyH_done (by kernel_rfl) ?_ _
 go_wp2_with fail
 go_ret
 exact ⟨rfl, hHeld.2⟩

set_option maxHeartbeats 4000000 in
theorem impl_has3 (b : Int) (v : Bool) (w : World) (h0 : 0 ≤ b) (h1 : b ≤ 1022) :
  Calls Try.prog 62 #[.agg #[.int .i64 b, .bool v], .int .i64 3] w (Says (.bool (mHas b 3)) w) := by
 have CI := Lib.hid (fun W => Calls.mono (impl_in 3 1 9 W) (R' := Says (.bool true) W) (by rintro e w1 ⟨rfl, rfl⟩; exact ⟨rfl, Below.refl _ _⟩))
 rw [← bit3 h0 h1]
 clear h0 h1
 go_enter Try.func62, Try.ntmps62
 go_wp2_with fail
 refine wp_region_held_drew (S := fun w' => BoxAt w' w.heap.size 82 #[.int .i64 b, .bool v] ∧ Below w.heap.size w w') (by kernel_rfl) ?_ (fun hHeld => ?_)
 ·
  exact ⟨(box_new w 82 #[.int .i64 b, .bool v]).drw, ((Below.refl _ _).alloc (Nat.le_refl _) _).drew⟩
 refine tk (i := 0) (oi := ⟨some 5, _, _, _, _, _⟩) (v := ?_) rfl hHeld ?_ ?_; rotate_left; (focus (intro _ _; go_simp; try with_reducible rfl)); try simp only [ptl]
 refine rd1 (i := 1) (o := ⟨some 6, _, _, _, _, _⟩) rfl (fun K hK => ?_)
 go_simp
 refine Calls.mono (CI.out _) ?_
 rintro e x1 ⟨rfl, hb1⟩
 refine hK.out _ _ ⟨hHeld.1.new hb1, below_trans hHeld.2 hb1 (Nat.le_refl _)⟩ (fun hHeld' => ?_)
 clear hK K hHeld hb1; have hHeld := hHeld'; clear hHeld'
 try simp only [ptl]
 refine tk (i := 2) (oi := ⟨some 7, _, _, _, _, _⟩) (v := ?_) rfl hHeld ?_ ?_; rotate_left; (focus (intro _ _; go_simp; try with_reducible rfl)); try simp only [ptl]
 refine tk (i := 3) (oi := ⟨some 8, _, _, _, _, _⟩) (v := ?_) rfl hHeld ?_ ?_; rotate_left; (focus (intro _ _; go_simp; try with_reducible rfl)); try simp only [ptl]
 refine tk (i := 4) (oi := ⟨some 9, _, _, _, _, _⟩) (v := ?_) rfl hHeld ?_ ?_; rotate_left; (focus (intro W hS; have c0_0 := (hS.1).at_ (j := 0) rfl; have c0_1 := (hS.1).at_ (j := 1) rfl; clear hS; go_simp; try with_reducible rfl)); try simp only [ptl]
 refine tk (i := 5) (oi := ⟨some 10, _, _, _, _, _⟩) (v := ?_) rfl hHeld ?_ ?_; rotate_left; (focus (intro _ _; go_simp; try with_reducible rfl)); try simp only [ptl]
 refine tk (i := 6) (oi := ⟨some 11, _, _, _, _, _⟩) (v := ?_) rfl hHeld ?_ ?_; rotate_left; (focus (intro _ _; go_simp; try with_reducible rfl)); try simp only [ptl]
 refine tk (i := 7) (oi := ⟨some 12, _, _, _, _, _⟩) (v := ?_) rfl hHeld ?_ ?_; rotate_left; (focus (intro _ _; go_simp; try with_reducible rfl)); try simp only [ptl]
 refine tk (i := 8) (oi := ⟨some 13, _, _, _, _, _⟩) (v := ?_) rfl hHeld ?_ ?_; rotate_left; (focus (intro _ _; go_simp; try with_reducible rfl)); try simp only [ptl]
 refine tk (i := 9) (oi := ⟨some 14, _, _, _, _, _⟩) (v := ?_) rfl hHeld ?_ ?_; rotate_left; (focus (intro _ _; go_simp; try with_reducible rfl)); try simp only [ptl]
 refine tk (i := 10) (oi := ⟨some 4, _, _, _, _, _⟩) (v := ?_) rfl hHeld ?_ ?_; rotate_left; (focus (intro _ _; go_simp; try with_reducible rfl)); try simp only [ptl]
 refine wpAnyH_done (by kernel_rfl) ?_ _
 go_wp2_with fail
 go_ret
 exact ⟨rfl, hHeld.2⟩

set_option maxHeartbeats 4000000 in
theorem impl_has4 (b : Int) (v : Bool) (w : World) (h0 : 0 ≤ b) (h1 : b ≤ 1022) :
  Calls Try.prog 62 #[.agg #[.int .i64 b, .bool v], .int .i64 4] w (Says (.bool (mHas b 4)) w) := by
 have CI := Lib.hid (fun W => Calls.mono (impl_in 4 1 9 W) (R' := Says (.bool true) W) (by rintro e w1 ⟨rfl, rfl⟩; exact ⟨rfl, Below.refl _ _⟩))
 rw [← bit4 h0 h1]
 clear h0 h1
 go_enter Try.func62, Try.ntmps62
 go_wp2_with fail
 refine wp_region_held_drew (S := fun w' => BoxAt w' w.heap.size 82 #[.int .i64 b, .bool v] ∧ Below w.heap.size w w') (by kernel_rfl) ?_ (fun hHeld => ?_)
 ·
  exact ⟨(box_new w 82 #[.int .i64 b, .bool v]).drw, ((Below.refl _ _).alloc (Nat.le_refl _) _).drew⟩
 refine tk (i := 0) (oi := ⟨some 5, _, _, _, _, _⟩) (v := ?_) rfl hHeld ?_ ?_; rotate_left; (focus (intro _ _; go_simp; try with_reducible rfl)); try simp only [ptl]
 refine rd1 (i := 1) (o := ⟨some 6, _, _, _, _, _⟩) rfl (fun K hK => ?_)
 go_simp
 refine Calls.mono (CI.out _) ?_
 rintro e x1 ⟨rfl, hb1⟩
 refine hK.out _ _ ⟨hHeld.1.new hb1, below_trans hHeld.2 hb1 (Nat.le_refl _)⟩ (fun hHeld' => ?_)
 clear hK K hHeld hb1; have hHeld := hHeld'; clear hHeld'
 try simp only [ptl]
 refine tk (i := 2) (oi := ⟨some 7, _, _, _, _, _⟩) (v := ?_) rfl hHeld ?_ ?_; rotate_left; (focus (intro _ _; go_simp; try with_reducible rfl)); try simp only [ptl]
 refine tk (i := 3) (oi := ⟨some 8, _, _, _, _, _⟩) (v := ?_) rfl hHeld ?_ ?_; rotate_left; (focus (intro _ _; go_simp; try with_reducible rfl)); try simp only [ptl]
 refine tk (i := 4) (oi := ⟨some 9, _, _, _, _, _⟩) (v := ?_) rfl hHeld ?_ ?_; rotate_left; (focus (intro W hS; have c0_0 := (hS.1).at_ (j := 0) rfl; have c0_1 := (hS.1).at_ (j := 1) rfl; clear hS; go_simp; try with_reducible rfl)); try simp only [ptl]
 refine tk (i := 5) (oi := ⟨some 10, _, _, _, _, _⟩) (v := ?_) rfl hHeld ?_ ?_; rotate_left; (focus (intro _ _; go_simp; try with_reducible rfl)); try simp only [ptl]
 refine tk (i := 6) (oi := ⟨some 11, _, _, _, _, _⟩) (v := ?_) rfl hHeld ?_ ?_; rotate_left; (focus (intro _ _; go_simp; try with_reducible rfl)); try simp only [ptl]
 refine tk (i := 7) (oi := ⟨some 12, _, _, _, _, _⟩) (v := ?_) rfl hHeld ?_ ?_; rotate_left; (focus (intro _ _; go_simp; try with_reducible rfl)); try simp only [ptl]
 refine tk (i := 8) (oi := ⟨some 13, _, _, _, _, _⟩) (v := ?_) rfl hHeld ?_ ?_; rotate_left; (focus (intro _ _; go_simp; try with_reducible rfl)); try simp only [ptl]
 refine tk (i := 9) (oi := ⟨some 14, _, _, _, _, _⟩) (v := ?_) rfl hHeld ?_ ?_; rotate_left; (focus (intro _ _; go_simp; try with_reducible rfl)); try simp only [ptl]
 refine tk (i := 10) (oi := ⟨some 4, _, _, _, _, _⟩) (v := ?_) rfl hHeld ?_ ?_; rotate_left; (focus (intro _ _; go_simp; try with_reducible rfl)); try simp only [ptl]
 refine wpAnyH_done (by kernel_rfl) ?_ _
 go_wp2_with fail
 go_ret
 exact ⟨rfl, hHeld.2⟩

set_option maxHeartbeats 4000000 in
theorem impl_has5 (b : Int) (v : Bool) (w : World) (h0 : 0 ≤ b) (h1 : b ≤ 1022) :
  Calls Try.prog 62 #[.agg #[.int .i64 b, .bool v], .int .i64 5] w (Says (.bool (mHas b 5)) w) := by
 have CI := Lib.hid (fun W => Calls.mono (impl_in 5 1 9 W) (R' := Says (.bool true) W) (by rintro e w1 ⟨rfl, rfl⟩; exact ⟨rfl, Below.refl _ _⟩))
 rw [← bit5 h0 h1]
 clear h0 h1
 go_enter Try.func62, Try.ntmps62
 go_wp2_with fail
 refine wp_region_held_drew (S := fun w' => BoxAt w' w.heap.size 82 #[.int .i64 b, .bool v] ∧ Below w.heap.size w w') (by kernel_rfl) ?_ (fun hHeld => ?_)
 ·
  exact ⟨(box_new w 82 #[.int .i64 b, .bool v]).drw, ((Below.refl _ _).alloc (Nat.le_refl _) _).drew⟩
 refine tk (i := 0) (oi := ⟨some 5, _, _, _, _, _⟩) (v := ?_) rfl hHeld ?_ ?_; rotate_left; (focus (intro _ _; go_simp; try with_reducible rfl)); try simp only [ptl]
 refine rd1 (i := 1) (o := ⟨some 6, _, _, _, _, _⟩) rfl (fun K hK => ?_)
 go_simp
 refine Calls.mono (CI.out _) ?_
 rintro e x1 ⟨rfl, hb1⟩
 refine hK.out _ _ ⟨hHeld.1.new hb1, below_trans hHeld.2 hb1 (Nat.le_refl _)⟩ (fun hHeld' => ?_)
 clear hK K hHeld hb1; have hHeld := hHeld'; clear hHeld'
 try simp only [ptl]
 refine tk (i := 2) (oi := ⟨some 7, _, _, _, _, _⟩) (v := ?_) rfl hHeld ?_ ?_; rotate_left; (focus (intro _ _; go_simp; try with_reducible rfl)); try simp only [ptl]
 refine tk (i := 3) (oi := ⟨some 8, _, _, _, _, _⟩) (v := ?_) rfl hHeld ?_ ?_; rotate_left; (focus (intro _ _; go_simp; try with_reducible rfl)); try simp only [ptl]
 refine tk (i := 4) (oi := ⟨some 9, _, _, _, _, _⟩) (v := ?_) rfl hHeld ?_ ?_; rotate_left; (focus (intro W hS; have c0_0 := (hS.1).at_ (j := 0) rfl; have c0_1 := (hS.1).at_ (j := 1) rfl; clear hS; go_simp; try with_reducible rfl)); try simp only [ptl]
 refine tk (i := 5) (oi := ⟨some 10, _, _, _, _, _⟩) (v := ?_) rfl hHeld ?_ ?_; rotate_left; (focus (intro _ _; go_simp; try with_reducible rfl)); try simp only [ptl]
 refine tk (i := 6) (oi := ⟨some 11, _, _, _, _, _⟩) (v := ?_) rfl hHeld ?_ ?_; rotate_left; (focus (intro _ _; go_simp; try with_reducible rfl)); try simp only [ptl]
 refine tk (i := 7) (oi := ⟨some 12, _, _, _, _, _⟩) (v := ?_) rfl hHeld ?_ ?_; rotate_left; (focus (intro _ _; go_simp; try with_reducible rfl)); try simp only [ptl]
 refine tk (i := 8) (oi := ⟨some 13, _, _, _, _, _⟩) (v := ?_) rfl hHeld ?_ ?_; rotate_left; (focus (intro _ _; go_simp; try with_reducible rfl)); try simp only [ptl]
 refine tk (i := 9) (oi := ⟨some 14, _, _, _, _, _⟩) (v := ?_) rfl hHeld ?_ ?_; rotate_left; (focus (intro _ _; go_simp; try with_reducible rfl)); try simp only [ptl]
 refine tk (i := 10) (oi := ⟨some 4, _, _, _, _, _⟩) (v := ?_) rfl hHeld ?_ ?_; rotate_left; (focus (intro _ _; go_simp; try with_reducible rfl)); try simp only [ptl]
 refine wpAnyH_done (by kernel_rfl) ?_ _
 go_wp2_with fail
 go_ret
 exact ⟨rfl, hHeld.2⟩

set_option maxHeartbeats 4000000 in
theorem impl_has6 (b : Int) (v : Bool) (w : World) (h0 : 0 ≤ b) (h1 : b ≤ 1022) :
  Calls Try.prog 62 #[.agg #[.int .i64 b, .bool v], .int .i64 6] w (Says (.bool (mHas b 6)) w) := by
 have CI := Lib.hid (fun W => Calls.mono (impl_in 6 1 9 W) (R' := Says (.bool true) W) (by rintro e w1 ⟨rfl, rfl⟩; exact ⟨rfl, Below.refl _ _⟩))
 rw [← bit6 h0 h1]
 clear h0 h1
 go_enter Try.func62, Try.ntmps62
 go_wp2_with fail
 refine wp_region_held_drew (S := fun w' => BoxAt w' w.heap.size 82 #[.int .i64 b, .bool v] ∧ Below w.heap.size w w') (by kernel_rfl) ?_ (fun hHeld => ?_)
 ·
  exact ⟨(box_new w 82 #[.int .i64 b, .bool v]).drw, ((Below.refl _ _).alloc (Nat.le_refl _) _).drew⟩
 refine tk (i := 0) (oi := ⟨some 5, _, _, _, _, _⟩) (v := ?_) rfl hHeld ?_ ?_; rotate_left; (focus (intro _ _; go_simp; try with_reducible rfl)); try simp only [ptl]
 refine rd1 (i := 1) (o := ⟨some 6, _, _, _, _, _⟩) rfl (fun K hK => ?_)
 go_simp
 refine Calls.mono (CI.out _) ?_
 rintro e x1 ⟨rfl, hb1⟩
 refine hK.out _ _ ⟨hHeld.1.new hb1, below_trans hHeld.2 hb1 (Nat.le_refl _)⟩ (fun hHeld' => ?_)
 clear hK K hHeld hb1; have hHeld := hHeld'; clear hHeld'
 try simp only [ptl]
 refine tk (i := 2) (oi := ⟨some 7, _, _, _, _, _⟩) (v := ?_) rfl hHeld ?_ ?_; rotate_left; (focus (intro _ _; go_simp; try with_reducible rfl)); try simp only [ptl]
 refine tk (i := 3) (oi := ⟨some 8, _, _, _, _, _⟩) (v := ?_) rfl hHeld ?_ ?_; rotate_left; (focus (intro _ _; go_simp; try with_reducible rfl)); try simp only [ptl]
 refine tk (i := 4) (oi := ⟨some 9, _, _, _, _, _⟩) (v := ?_) rfl hHeld ?_ ?_; rotate_left; (focus (intro W hS; have c0_0 := (hS.1).at_ (j := 0) rfl; have c0_1 := (hS.1).at_ (j := 1) rfl; clear hS; go_simp; try with_reducible rfl)); try simp only [ptl]
 refine tk (i := 5) (oi := ⟨some 10, _, _, _, _, _⟩) (v := ?_) rfl hHeld ?_ ?_; rotate_left; (focus (intro _ _; go_simp; try with_reducible rfl)); try simp only [ptl]
 refine tk (i := 6) (oi := ⟨some 11, _, _, _, _, _⟩) (v := ?_) rfl hHeld ?_ ?_; rotate_left; (focus (intro _ _; go_simp; try with_reducible rfl)); try simp only [ptl]
 refine tk (i := 7) (oi := ⟨some 12, _, _, _, _, _⟩) (v := ?_) rfl hHeld ?_ ?_; rotate_left; (focus (intro _ _; go_simp; try with_reducible rfl)); try simp only [ptl]
 refine tk (i := 8) (oi := ⟨some 13, _, _, _, _, _⟩) (v := ?_) rfl hHeld ?_ ?_; rotate_left; (focus (intro _ _; go_simp; try with_reducible rfl)); try simp only [ptl]
 refine tk (i := 9) (oi := ⟨some 14, _, _, _, _, _⟩) (v := ?_) rfl hHeld ?_ ?_; rotate_left; (focus (intro _ _; go_simp; try with_reducible rfl)); try simp only [ptl]
 refine tk (i := 10) (oi := ⟨some 4, _, _, _, _, _⟩) (v := ?_) rfl hHeld ?_ ?_; rotate_left; (focus (intro _ _; go_simp; try with_reducible rfl)); try simp only [ptl]
 refine wpAnyH_done (by kernel_rfl) ?_ _
 go_wp2_with fail
 go_ret
 exact ⟨rfl, hHeld.2⟩

set_option maxHeartbeats 4000000 in
theorem impl_has7 (b : Int) (v : Bool) (w : World) (h0 : 0 ≤ b) (h1 : b ≤ 1022) :
  Calls Try.prog 62 #[.agg #[.int .i64 b, .bool v], .int .i64 7] w (Says (.bool (mHas b 7)) w) := by
 have CI := Lib.hid (fun W => Calls.mono (impl_in 7 1 9 W) (R' := Says (.bool true) W) (by rintro e w1 ⟨rfl, rfl⟩; exact ⟨rfl, Below.refl _ _⟩))
 rw [← bit7 h0 h1]
 clear h0 h1
 go_enter Try.func62, Try.ntmps62
 go_wp2_with fail
 refine wp_region_held_drew (S := fun w' => BoxAt w' w.heap.size 82 #[.int .i64 b, .bool v] ∧ Below w.heap.size w w') (by kernel_rfl) ?_ (fun hHeld => ?_)
 ·
  exact ⟨(box_new w 82 #[.int .i64 b, .bool v]).drw, ((Below.refl _ _).alloc (Nat.le_refl _) _).drew⟩
 refine tk (i := 0) (oi := ⟨some 5, _, _, _, _, _⟩) (v := ?_) rfl hHeld ?_ ?_; rotate_left; (focus (intro _ _; go_simp; try with_reducible rfl)); try simp only [ptl]
 refine rd1 (i := 1) (o := ⟨some 6, _, _, _, _, _⟩) rfl (fun K hK => ?_)
 go_simp
 refine Calls.mono (CI.out _) ?_
 rintro e x1 ⟨rfl, hb1⟩
 refine hK.out _ _ ⟨hHeld.1.new hb1, below_trans hHeld.2 hb1 (Nat.le_refl _)⟩ (fun hHeld' => ?_)
 clear hK K hHeld hb1; have hHeld := hHeld'; clear hHeld'
 try simp only [ptl]
 refine tk (i := 2) (oi := ⟨some 7, _, _, _, _, _⟩) (v := ?_) rfl hHeld ?_ ?_; rotate_left; (focus (intro _ _; go_simp; try with_reducible rfl)); try simp only [ptl]
 refine tk (i := 3) (oi := ⟨some 8, _, _, _, _, _⟩) (v := ?_) rfl hHeld ?_ ?_; rotate_left; (focus (intro _ _; go_simp; try with_reducible rfl)); try simp only [ptl]
 refine tk (i := 4) (oi := ⟨some 9, _, _, _, _, _⟩) (v := ?_) rfl hHeld ?_ ?_; rotate_left; (focus (intro W hS; have c0_0 := (hS.1).at_ (j := 0) rfl; have c0_1 := (hS.1).at_ (j := 1) rfl; clear hS; go_simp; try with_reducible rfl)); try simp only [ptl]
 refine tk (i := 5) (oi := ⟨some 10, _, _, _, _, _⟩) (v := ?_) rfl hHeld ?_ ?_; rotate_left; (focus (intro _ _; go_simp; try with_reducible rfl)); try simp only [ptl]
 refine tk (i := 6) (oi := ⟨some 11, _, _, _, _, _⟩) (v := ?_) rfl hHeld ?_ ?_; rotate_left; (focus (intro _ _; go_simp; try with_reducible rfl)); try simp only [ptl]
 refine tk (i := 7) (oi := ⟨some 12, _, _, _, _, _⟩) (v := ?_) rfl hHeld ?_ ?_; rotate_left; (focus (intro _ _; go_simp; try with_reducible rfl)); try simp only [ptl]
 refine tk (i := 8) (oi := ⟨some 13, _, _, _, _, _⟩) (v := ?_) rfl hHeld ?_ ?_; rotate_left; (focus (intro _ _; go_simp; try with_reducible rfl)); try simp only [ptl]
 refine tk (i := 9) (oi := ⟨some 14, _, _, _, _, _⟩) (v := ?_) rfl hHeld ?_ ?_; rotate_left; (focus (intro _ _; go_simp; try with_reducible rfl)); try simp only [ptl]
 refine tk (i := 10) (oi := ⟨some 4, _, _, _, _, _⟩) (v := ?_) rfl hHeld ?_ ?_; rotate_left; (focus (intro _ _; go_simp; try with_reducible rfl)); try simp only [ptl]
 refine wpAnyH_done (by kernel_rfl) ?_ _
 go_wp2_with fail
 go_ret
 exact ⟨rfl, hHeld.2⟩

set_option maxHeartbeats 4000000 in
theorem impl_has8 (b : Int) (v : Bool) (w : World) (h0 : 0 ≤ b) (h1 : b ≤ 1022) :
  Calls Try.prog 62 #[.agg #[.int .i64 b, .bool v], .int .i64 8] w (Says (.bool (mHas b 8)) w) := by
 have CI := Lib.hid (fun W => Calls.mono (impl_in 8 1 9 W) (R' := Says (.bool true) W) (by rintro e w1 ⟨rfl, rfl⟩; exact ⟨rfl, Below.refl _ _⟩))
 rw [← bit8 h0 h1]
 clear h0 h1
 go_enter Try.func62, Try.ntmps62
 go_wp2_with fail
 refine wp_region_held_drew (S := fun w' => BoxAt w' w.heap.size 82 #[.int .i64 b, .bool v] ∧ Below w.heap.size w w') (by kernel_rfl) ?_ (fun hHeld => ?_)
 ·
  exact ⟨(box_new w 82 #[.int .i64 b, .bool v]).drw, ((Below.refl _ _).alloc (Nat.le_refl _) _).drew⟩
 refine tk (i := 0) (oi := ⟨some 5, _, _, _, _, _⟩) (v := ?_) rfl hHeld ?_ ?_; rotate_left; (focus (intro _ _; go_simp; try with_reducible rfl)); try simp only [ptl]
 refine rd1 (i := 1) (o := ⟨some 6, _, _, _, _, _⟩) rfl (fun K hK => ?_)
 go_simp
 refine Calls.mono (CI.out _) ?_
 rintro e x1 ⟨rfl, hb1⟩
 refine hK.out _ _ ⟨hHeld.1.new hb1, below_trans hHeld.2 hb1 (Nat.le_refl _)⟩ (fun hHeld' => ?_)
 clear hK K hHeld hb1; have hHeld := hHeld'; clear hHeld'
 try simp only [ptl]
 refine tk (i := 2) (oi := ⟨some 7, _, _, _, _, _⟩) (v := ?_) rfl hHeld ?_ ?_; rotate_left; (focus (intro _ _; go_simp; try with_reducible rfl)); try simp only [ptl]
 refine tk (i := 3) (oi := ⟨some 8, _, _, _, _, _⟩) (v := ?_) rfl hHeld ?_ ?_; rotate_left; (focus (intro _ _; go_simp; try with_reducible rfl)); try simp only [ptl]
 refine tk (i := 4) (oi := ⟨some 9, _, _, _, _, _⟩) (v := ?_) rfl hHeld ?_ ?_; rotate_left; (focus (intro W hS; have c0_0 := (hS.1).at_ (j := 0) rfl; have c0_1 := (hS.1).at_ (j := 1) rfl; clear hS; go_simp; try with_reducible rfl)); try simp only [ptl]
 refine tk (i := 5) (oi := ⟨some 10, _, _, _, _, _⟩) (v := ?_) rfl hHeld ?_ ?_; rotate_left; (focus (intro _ _; go_simp; try with_reducible rfl)); try simp only [ptl]
 refine tk (i := 6) (oi := ⟨some 11, _, _, _, _, _⟩) (v := ?_) rfl hHeld ?_ ?_; rotate_left; (focus (intro _ _; go_simp; try with_reducible rfl)); try simp only [ptl]
 refine tk (i := 7) (oi := ⟨some 12, _, _, _, _, _⟩) (v := ?_) rfl hHeld ?_ ?_; rotate_left; (focus (intro _ _; go_simp; try with_reducible rfl)); try simp only [ptl]
 refine tk (i := 8) (oi := ⟨some 13, _, _, _, _, _⟩) (v := ?_) rfl hHeld ?_ ?_; rotate_left; (focus (intro _ _; go_simp; try with_reducible rfl)); try simp only [ptl]
 refine tk (i := 9) (oi := ⟨some 14, _, _, _, _, _⟩) (v := ?_) rfl hHeld ?_ ?_; rotate_left; (focus (intro _ _; go_simp; try with_reducible rfl)); try simp only [ptl]
 refine tk (i := 10) (oi := ⟨some 4, _, _, _, _, _⟩) (v := ?_) rfl hHeld ?_ ?_; rotate_left; (focus (intro _ _; go_simp; try with_reducible rfl)); try simp only [ptl]
 refine wpAnyH_done (by kernel_rfl) ?_ _
 go_wp2_with fail
 go_ret
 exact ⟨rfl, hHeld.2⟩

set_option maxHeartbeats 4000000 in
theorem impl_has9 (b : Int) (v : Bool) (w : World) (h0 : 0 ≤ b) (h1 : b ≤ 1022) :
  Calls Try.prog 62 #[.agg #[.int .i64 b, .bool v], .int .i64 9] w (Says (.bool (mHas b 9)) w) := by
 have CI := Lib.hid (fun W => Calls.mono (impl_in 9 1 9 W) (R' := Says (.bool true) W) (by rintro e w1 ⟨rfl, rfl⟩; exact ⟨rfl, Below.refl _ _⟩))
 rw [← bit9 h0 h1]
 clear h0 h1
 go_enter Try.func62, Try.ntmps62
 go_wp2_with fail
 refine wp_region_held_drew (S := fun w' => BoxAt w' w.heap.size 82 #[.int .i64 b, .bool v] ∧ Below w.heap.size w w') (by kernel_rfl) ?_ (fun hHeld => ?_)
 ·
  exact ⟨(box_new w 82 #[.int .i64 b, .bool v]).drw, ((Below.refl _ _).alloc (Nat.le_refl _) _).drew⟩
 refine tk (i := 0) (oi := ⟨some 5, _, _, _, _, _⟩) (v := ?_) rfl hHeld ?_ ?_; rotate_left; (focus (intro _ _; go_simp; try with_reducible rfl)); try simp only [ptl]
 refine rd1 (i := 1) (o := ⟨some 6, _, _, _, _, _⟩) rfl (fun K hK => ?_)
 go_simp
 refine Calls.mono (CI.out _) ?_
 rintro e x1 ⟨rfl, hb1⟩
 refine hK.out _ _ ⟨hHeld.1.new hb1, below_trans hHeld.2 hb1 (Nat.le_refl _)⟩ (fun hHeld' => ?_)
 clear hK K hHeld hb1; have hHeld := hHeld'; clear hHeld'
 try simp only [ptl]
 refine tk (i := 2) (oi := ⟨some 7, _, _, _, _, _⟩) (v := ?_) rfl hHeld ?_ ?_; rotate_left; (focus (intro _ _; go_simp; try with_reducible rfl)); try simp only [ptl]
 refine tk (i := 3) (oi := ⟨some 8, _, _, _, _, _⟩) (v := ?_) rfl hHeld ?_ ?_; rotate_left; (focus (intro _ _; go_simp; try with_reducible rfl)); try simp only [ptl]
 refine tk (i := 4) (oi := ⟨some 9, _, _, _, _, _⟩) (v := ?_) rfl hHeld ?_ ?_; rotate_left; (focus (intro W hS; have c0_0 := (hS.1).at_ (j := 0) rfl; have c0_1 := (hS.1).at_ (j := 1) rfl; clear hS; go_simp; try with_reducible rfl)); try simp only [ptl]
 refine tk (i := 5) (oi := ⟨some 10, _, _, _, _, _⟩) (v := ?_) rfl hHeld ?_ ?_; rotate_left; (focus (intro _ _; go_simp; try with_reducible rfl)); try simp only [ptl]
 refine tk (i := 6) (oi := ⟨some 11, _, _, _, _, _⟩) (v := ?_) rfl hHeld ?_ ?_; rotate_left; (focus (intro _ _; go_simp; try with_reducible rfl)); try simp only [ptl]
 refine tk (i := 7) (oi := ⟨some 12, _, _, _, _, _⟩) (v := ?_) rfl hHeld ?_ ?_; rotate_left; (focus (intro _ _; go_simp; try with_reducible rfl)); try simp only [ptl]
 refine tk (i := 8) (oi := ⟨some 13, _, _, _, _, _⟩) (v := ?_) rfl hHeld ?_ ?_; rotate_left; (focus (intro _ _; go_simp; try with_reducible rfl)); try simp only [ptl]
 refine tk (i := 9) (oi := ⟨some 14, _, _, _, _, _⟩) (v := ?_) rfl hHeld ?_ ?_; rotate_left; (focus (intro _ _; go_simp; try with_reducible rfl)); try simp only [ptl]
 refine tk (i := 10) (oi := ⟨some 4, _, _, _, _, _⟩) (v := ?_) rfl hHeld ?_ ?_; rotate_left; (focus (intro _ _; go_simp; try with_reducible rfl)); try simp only [ptl]
 refine wpAnyH_done (by kernel_rfl) ?_ _
 go_wp2_with fail
 go_ret
 exact ⟨rfl, hHeld.2⟩

theorem impl_has (b : Int) (v : Bool) (w : World) (k : Nat) (hk : 1 ≤ k) (hk9 : k ≤ 9) (h0 : 0 ≤ b) (h1 : b ≤ 1022) :
  Calls Try.prog 62 #[.agg #[.int .i64 b, .bool v], .int .i64 (k : Int)] w (Says (.bool (mHas b k)) w) := by
 obtain rfl | rfl | rfl | rfl | rfl | rfl | rfl | rfl | rfl : k = 1 ∨ k = 2 ∨ k = 3 ∨ k = 4 ∨ k = 5 ∨ k = 6 ∨ k = 7 ∨ k = 8 ∨ k = 9 := by omega
 ·
  exact impl_has1 b v w h0 h1
 ·
  exact impl_has2 b v w h0 h1
 ·
  exact impl_has3 b v w h0 h1
 ·
  exact impl_has4 b v w h0 h1
 ·
  exact impl_has5 b v w h0 h1
 ·
  exact impl_has6 b v w h0 h1
 ·
  exact impl_has7 b v w h0 h1
 ·
  exact impl_has8 b v w h0 h1
 ·
  exact impl_has9 b v w h0 h1

set_option maxHeartbeats 4000000 in
theorem impl_maskOf (x : Int) (w : World) : Calls Try.prog 61 #[.int .i64 x] w (Says (.agg #[.int .i64 (if mIsLabel x then x else 0), .bool (mIsLabel x)]) w) := by
 have C0 := fun W => impl_IsLabel x W
 generalize mIsLabel x = r at C0 ⊢
 replace C0 := Lib.hid C0
 cases r
 ·
  go_enter Try.func61, Try.ntmps61
  go_wp2_with fail
  refine Calls.mono (C0.out _) ?_
  rintro e w1 ⟨rfl, hb1⟩
  have HX : BoxAt w1 w.heap.size 82 #[.int .i64 0, .bool false] := ((box_new w 82 #[.int .i64 0, .bool false]).new hb1)
  have hlt := HX.lt
  have c0 : w1.cell? ⟨w.heap.size, 0, none⟩ = some (.int .i64 0) := HX.at_ (j := 0) rfl
  have c1 : w1.cell? ⟨w.heap.size, 1, none⟩ = some (.bool false) := HX.at_ (j := 1) rfl
  have f0 := HX.free 0
  have f1 := HX.free 1
  have HB1 := Lib.hid (below_trans ((Below.refl _ _).alloc (Nat.le_refl _) _) hb1 (by simp))
  replace HX := Lib.hid HX
  clear hb1
  go_wp2_with fail
  have k0 := (box_cellM (u := .bool false) (j := 1) (box_cellM (u := .int .i64 0) (j := 0) HX.out)).at_ (j := 0) rfl
  have k1 := (box_cellM (u := .bool false) (j := 1) (box_cellM (u := .int .i64 0) (j := 0) HX.out)).at_ (j := 1) rfl
  exact bodyPost_ret (v := .agg #[.int .i64 0, .bool false]) (by simp [results, Try.results61, go_sem, k0, k1]) rfl ⟨rfl, (HB1.out.setCell (Nat.le_refl _) _).setCell (Nat.le_refl _) _⟩
 ·
  go_enter Try.func61, Try.ntmps61
  go_wp2_with fail
  refine Calls.mono (C0.out _) ?_
  rintro e w1 ⟨rfl, hb1⟩
  have HX : BoxAt w1 w.heap.size 82 #[.int .i64 0, .bool false] := ((box_new w 82 #[.int .i64 0, .bool false]).new hb1)
  have hlt := HX.lt
  have c0 : w1.cell? ⟨w.heap.size, 0, none⟩ = some (.int .i64 0) := HX.at_ (j := 0) rfl
  have c1 : w1.cell? ⟨w.heap.size, 1, none⟩ = some (.bool false) := HX.at_ (j := 1) rfl
  have f0 := HX.free 0
  have f1 := HX.free 1
  have HB1 := Lib.hid (below_trans ((Below.refl _ _).alloc (Nat.le_refl _) _) hb1 (by simp))
  replace HX := Lib.hid HX
  clear hb1
  go_wp2_with fail
  have k0 := (box_cellM (u := .bool true) (j := 1) (box_cellM (u := .int .i64 x) (j := 0) HX.out)).at_ (j := 0) rfl
  have k1 := (box_cellM (u := .bool true) (j := 1) (box_cellM (u := .int .i64 x) (j := 0) HX.out)).at_ (j := 1) rfl
  exact bodyPost_ret (v := .agg #[.int .i64 x, .bool true]) (by simp [results, Try.results61, go_sem, k0, k1]) rfl ⟨rfl, (HB1.out.setCell (Nat.le_refl _) _).setCell (Nat.le_refl _) _⟩

end Go.Proofs.Ytcankpiidjhhpaa
