/- MeetPatterns, of the program and of the model. -/
import Derived.Test.YtlnmgfbfpjfddaaDoorNarrower
namespace Go.Proofs.YtlnmgfbfpjfddaaDoor
open Go Go.ChangeShapes Go.WideShapes Go.ChangeAt Go.RowKit Go.Lib
set_option linter.unusedVariables false
set_option linter.unusedSimpArgs false
set_option maxRecDepth 100000
/-- The number that is left where two options meet. -/
def meet1 (all a b : Int) : Int := if a = all then b else a
theorem box_cell {w : World} {g j : Nat} {t : TypeId} {cs : Array Value} {u : Value} (h : BoxAt w g t cs) : BoxAt (w.setCell ⟨g, j, none⟩ u) g t (cs.setIfInBounds j u) := by
  unfold BoxAt at *
  simp [World.setCell, Array.getElem?_modify, h]
theorem box_cell_far {w : World} {g k j : Nat} {t : TypeId} {cs : Array Value} {u : Value} (h : BoxAt w k t cs) (hne : k ≠ g) : BoxAt (w.setCell ⟨g, j, none⟩ u) k t cs :=
  (Below.heap_setCell w ⟨g, j, none⟩ u k hne).trans h

set_option maxHeartbeats 4000000 in
theorem impl_narrow0 (g : Nat) (a0 a1 b : Int) (w : World) (hB : BoxAt w g 73 #[.bool (a0 != 0), .int .i64 a0, .bool (a1 != -1), .int .i64 a1]) :
    Calls Tryd.prog 42 #[.pointer (some ⟨g, 0, none⟩), .agg #[.bool (b != 0), .int .i64 b]] w
      fun e w' => e = .returned (.bool (mTakes 0 b (meet1 0 a0 b))) ∧ BoxAt w' g 73 #[.bool ((meet1 0 a0 b) != 0), .int .i64 (meet1 0 a0 b), .bool (a1 != -1), .int .i64 a1] ∧ Chg g (g + 1) w w' := by
  have hlt := hB.lt
  have hne : w.heap.size ≠ g := by omega
  have C0 := fun W => impl_takes 0 b (meet1 0 a0 b) W
  generalize hT : mTakes 0 b (meet1 0 a0 b) = r at C0 ⊢
  clear hT
  have f0 := hB.free 0
  have f1 := hB.free 1
  by_cases ha : a0 = 0
  · subst ha
    have HM := Lib.hid (show meet1 0 0 b = b from by simp [meet1])
    have c0 : w.cell? ⟨g, 0, none⟩ = some (.bool false) := hB.at_ rfl
    have c1 : w.cell? ⟨g, 1, none⟩ = some (.int .i64 0) := hB.at_ rfl
    rw [HM.out] at C0
    go_enter Tryd.func42, Tryd.ntmps42
    go_wp2_with fail
    have K0 : BoxAt (((w.setCell ⟨g, 0, none⟩ (.bool (b != 0))).setCell ⟨g, 1, none⟩ (.int .i64 b)).alloc (.cells #[.bool (b != 0), .int .i64 b] 71)).drew g 73 #[.bool (b != 0), .int .i64 b, .bool (a1 != -1), .int .i64 a1] := ((box_cell (box_cell hB)).alloc_ _).drw
    have K1 : BoxAt (((w.setCell ⟨g, 0, none⟩ (.bool (b != 0))).setCell ⟨g, 1, none⟩ (.int .i64 b)).alloc (.cells #[.bool (b != 0), .int .i64 b] 71)).drew w.heap.size 71 #[.bool (b != 0), .int .i64 b] := by
      have := (box_new ((w.setCell ⟨g, 0, none⟩ (.bool (b != 0))).setCell ⟨g, 1, none⟩ (.int .i64 b)) 71 #[.bool (b != 0), .int .i64 b]).drw
      simpa using this
    have HCh : Chg g (g + 1) w (((w.setCell ⟨g, 0, none⟩ (.bool (b != 0))).setCell ⟨g, 1, none⟩ (.int .i64 b)).alloc (.cells #[.bool (b != 0), .int .i64 b] 71)).drew :=
      (((((Chg.refl g (g + 1) w).set_ (p := ⟨g, 0, none⟩) (.inl ⟨Nat.le_refl _, by simp⟩) _).set_ (p := ⟨g, 1, none⟩) (.inl ⟨Nat.le_refl _, by simp⟩) _).alloc _).drewN 1)
    refine wp_region_held_drew (S := fun w' => BoxAt w' g 73 #[.bool (b != 0), .int .i64 b, .bool (a1 != -1), .int .i64 a1] ∧ BoxAt w' w.heap.size 71 #[.bool (b != 0), .int .i64 b] ∧ Chg g (g + 1) w w') (by kernel_rfl) ?_ (fun hHeld => ?_)
    · exact ⟨K0, K1, HCh⟩
    refine wpAnyH_take (i := 0) (oi := ⟨some 13, _, _, _, _, _⟩) (v := ?_) rfl (by kernel_rfl) (by kernel_rfl) (by kernel_rfl) (fun _ _ _ h => h) (Or.inl ⟨by kernel_rfl, ?_⟩) hHeld ?_
    rotate_left
    focus (intro W hS; have c0_0 := (hS.1).at_ (j := 0) rfl; have c0_1 := (hS.1).at_ (j := 1) rfl; have c0_2 := (hS.1).at_ (j := 2) rfl; have c0_3 := (hS.1).at_ (j := 3) rfl; have c1_0 := (hS.2.1).at_ (j := 0) rfl; have c1_1 := (hS.2.1).at_ (j := 1) rfl; clear hS; first | (go_simp; done) | (go_simp; with_reducible rfl))
    try simp only [Act.put, List.setIfInBounds_toArray, List.set_cons_zero, List.set_cons_succ]
    refine wpAnyH_take (i := 1) (oi := ⟨some 14, _, _, _, _, _⟩) (v := ?_) rfl (by kernel_rfl) (by kernel_rfl) (by kernel_rfl) (fun _ _ _ h => h) (Or.inl ⟨by kernel_rfl, ?_⟩) hHeld ?_
    rotate_left
    focus (intro W hS; have c0_0 := (hS.1).at_ (j := 0) rfl; have c0_1 := (hS.1).at_ (j := 1) rfl; have c0_2 := (hS.1).at_ (j := 2) rfl; have c0_3 := (hS.1).at_ (j := 3) rfl; have c1_0 := (hS.2.1).at_ (j := 0) rfl; have c1_1 := (hS.2.1).at_ (j := 1) rfl; clear hS; first | (go_simp; done) | (go_simp; with_reducible rfl))
    try simp only [Act.put, List.setIfInBounds_toArray, List.set_cons_zero, List.set_cons_succ]
    refine wpAnyH_take (i := 2) (oi := ⟨some 15, _, _, _, _, _⟩) (v := ?_) rfl (by kernel_rfl) (by kernel_rfl) (by kernel_rfl) (fun _ _ _ h => h) (Or.inl ⟨by kernel_rfl, ?_⟩) hHeld ?_
    rotate_left
    focus (intro W hS; have c0_0 := (hS.1).at_ (j := 0) rfl; have c0_1 := (hS.1).at_ (j := 1) rfl; have c0_2 := (hS.1).at_ (j := 2) rfl; have c0_3 := (hS.1).at_ (j := 3) rfl; have c1_0 := (hS.2.1).at_ (j := 0) rfl; have c1_1 := (hS.2.1).at_ (j := 1) rfl; clear hS; first | (go_simp; done) | (go_simp; with_reducible rfl))
    try simp only [Act.put, List.setIfInBounds_toArray, List.set_cons_zero, List.set_cons_succ]
    refine wpAnyH_take (i := 3) (oi := ⟨some 16, _, _, _, _, _⟩) (v := ?_) rfl (by kernel_rfl) (by kernel_rfl) (by kernel_rfl) (fun _ _ _ h => h) (Or.inl ⟨by kernel_rfl, ?_⟩) hHeld ?_
    rotate_left
    focus (intro W hS; have c0_0 := (hS.1).at_ (j := 0) rfl; have c0_1 := (hS.1).at_ (j := 1) rfl; have c0_2 := (hS.1).at_ (j := 2) rfl; have c0_3 := (hS.1).at_ (j := 3) rfl; have c1_0 := (hS.2.1).at_ (j := 0) rfl; have c1_1 := (hS.2.1).at_ (j := 1) rfl; clear hS; first | (go_simp; done) | (go_simp; with_reducible rfl))
    try simp only [Act.put, List.setIfInBounds_toArray, List.set_cons_zero, List.set_cons_succ]
    refine wpAnyH_take (i := 4) (oi := ⟨some 17, _, _, _, _, _⟩) (v := ?_) rfl (by kernel_rfl) (by kernel_rfl) (by kernel_rfl) (fun _ _ _ h => h) (Or.inl ⟨by kernel_rfl, ?_⟩) hHeld ?_
    rotate_left
    focus (intro W hS; have c0_0 := (hS.1).at_ (j := 0) rfl; have c0_1 := (hS.1).at_ (j := 1) rfl; have c0_2 := (hS.1).at_ (j := 2) rfl; have c0_3 := (hS.1).at_ (j := 3) rfl; have c1_0 := (hS.2.1).at_ (j := 0) rfl; have c1_1 := (hS.2.1).at_ (j := 1) rfl; clear hS; first | (go_simp; done) | (go_simp; with_reducible rfl))
    try simp only [Act.put, List.setIfInBounds_toArray, List.set_cons_zero, List.set_cons_succ]
    refine wpAnyH_ready (rs := [5]) (by kernel_rfl) (by simp) ?_
    refine AllReadyH.cons (o := ⟨some 18, _, _, _, _, _⟩) rfl (fun K hK => ?_) AllReadyH.nil
    go_simp
    refine Calls.mono (C0 _) ?_
    rintro e x1 ⟨rfl, hb1⟩
    refine hK.out _ _ ⟨hHeld.1.new hb1, hHeld.2.1.new hb1, Chg.trans hHeld.2.2 (chg_of_new hb1)⟩ (fun hHeld' => ?_)
    clear hK K hHeld hb1
    have hHeld := hHeld'
    clear hHeld'
    try simp only [Act.put, List.setIfInBounds_toArray, List.set_cons_zero, List.set_cons_succ]
    refine wpAnyH_take (i := 6) (oi := ⟨some 4, _, _, _, _, _⟩) (v := ?_) rfl (by kernel_rfl) (by kernel_rfl) (by kernel_rfl) (fun _ _ _ h => h) (Or.inl ⟨by kernel_rfl, ?_⟩) hHeld ?_
    rotate_left
    focus (intro W hS; have c0_0 := (hS.1).at_ (j := 0) rfl; have c0_1 := (hS.1).at_ (j := 1) rfl; have c0_2 := (hS.1).at_ (j := 2) rfl; have c0_3 := (hS.1).at_ (j := 3) rfl; have c1_0 := (hS.2.1).at_ (j := 0) rfl; have c1_1 := (hS.2.1).at_ (j := 1) rfl; clear hS; first | (go_simp; done) | (go_simp; with_reducible rfl))
    try simp only [Act.put, List.setIfInBounds_toArray, List.set_cons_zero, List.set_cons_succ]
    refine wpAnyH_done (by kernel_rfl) ?_ _
    go_wp2_with fail
    go_ret
    exact ⟨rfl, by rw [HM.out]; exact hHeld.1, hHeld.2.2⟩
  · have HM := Lib.hid (show meet1 0 a0 b = a0 from by simp [meet1, ha])
    have hb : (a0 != 0) = true := by simpa using ha
    have c0 : w.cell? ⟨g, 0, none⟩ = some (.bool true) := by rw [← hb]; exact hB.at_ rfl
    have c1 : w.cell? ⟨g, 1, none⟩ = some (.int .i64 a0) := hB.at_ rfl
    clear hb
    rw [HM.out] at C0
    go_enter Tryd.func42, Tryd.ntmps42
    go_wp2_with fail
    have K0 := (hB.alloc_ (.cells #[.bool (b != 0), .int .i64 b] 71)).drw
    have K1 := (box_new w 71 #[.bool (b != 0), .int .i64 b]).drw
    have HCh : Chg g (g + 1) w (w.alloc (.cells #[.bool (b != 0), .int .i64 b] 71)).drew := (((Chg.refl g (g + 1) w).alloc _).drewN 1)
    refine wp_region_held_drew (S := fun w' => BoxAt w' g 73 #[.bool (a0 != 0), .int .i64 a0, .bool (a1 != -1), .int .i64 a1] ∧ BoxAt w' w.heap.size 71 #[.bool (b != 0), .int .i64 b] ∧ Chg g (g + 1) w w') (by kernel_rfl) ?_ (fun hHeld => ?_)
    · exact ⟨K0, K1, HCh⟩
    refine wpAnyH_take (i := 0) (oi := ⟨some 13, _, _, _, _, _⟩) (v := ?_) rfl (by kernel_rfl) (by kernel_rfl) (by kernel_rfl) (fun _ _ _ h => h) (Or.inl ⟨by kernel_rfl, ?_⟩) hHeld ?_
    rotate_left
    focus (intro W hS; have c0_0 := (hS.1).at_ (j := 0) rfl; have c0_1 := (hS.1).at_ (j := 1) rfl; have c0_2 := (hS.1).at_ (j := 2) rfl; have c0_3 := (hS.1).at_ (j := 3) rfl; have c1_0 := (hS.2.1).at_ (j := 0) rfl; have c1_1 := (hS.2.1).at_ (j := 1) rfl; clear hS; first | (go_simp; done) | (go_simp; with_reducible rfl))
    try simp only [Act.put, List.setIfInBounds_toArray, List.set_cons_zero, List.set_cons_succ]
    refine wpAnyH_take (i := 1) (oi := ⟨some 14, _, _, _, _, _⟩) (v := ?_) rfl (by kernel_rfl) (by kernel_rfl) (by kernel_rfl) (fun _ _ _ h => h) (Or.inl ⟨by kernel_rfl, ?_⟩) hHeld ?_
    rotate_left
    focus (intro W hS; have c0_0 := (hS.1).at_ (j := 0) rfl; have c0_1 := (hS.1).at_ (j := 1) rfl; have c0_2 := (hS.1).at_ (j := 2) rfl; have c0_3 := (hS.1).at_ (j := 3) rfl; have c1_0 := (hS.2.1).at_ (j := 0) rfl; have c1_1 := (hS.2.1).at_ (j := 1) rfl; clear hS; first | (go_simp; done) | (go_simp; with_reducible rfl))
    try simp only [Act.put, List.setIfInBounds_toArray, List.set_cons_zero, List.set_cons_succ]
    refine wpAnyH_take (i := 2) (oi := ⟨some 15, _, _, _, _, _⟩) (v := ?_) rfl (by kernel_rfl) (by kernel_rfl) (by kernel_rfl) (fun _ _ _ h => h) (Or.inl ⟨by kernel_rfl, ?_⟩) hHeld ?_
    rotate_left
    focus (intro W hS; have c0_0 := (hS.1).at_ (j := 0) rfl; have c0_1 := (hS.1).at_ (j := 1) rfl; have c0_2 := (hS.1).at_ (j := 2) rfl; have c0_3 := (hS.1).at_ (j := 3) rfl; have c1_0 := (hS.2.1).at_ (j := 0) rfl; have c1_1 := (hS.2.1).at_ (j := 1) rfl; clear hS; first | (go_simp; done) | (go_simp; with_reducible rfl))
    try simp only [Act.put, List.setIfInBounds_toArray, List.set_cons_zero, List.set_cons_succ]
    refine wpAnyH_take (i := 3) (oi := ⟨some 16, _, _, _, _, _⟩) (v := ?_) rfl (by kernel_rfl) (by kernel_rfl) (by kernel_rfl) (fun _ _ _ h => h) (Or.inl ⟨by kernel_rfl, ?_⟩) hHeld ?_
    rotate_left
    focus (intro W hS; have c0_0 := (hS.1).at_ (j := 0) rfl; have c0_1 := (hS.1).at_ (j := 1) rfl; have c0_2 := (hS.1).at_ (j := 2) rfl; have c0_3 := (hS.1).at_ (j := 3) rfl; have c1_0 := (hS.2.1).at_ (j := 0) rfl; have c1_1 := (hS.2.1).at_ (j := 1) rfl; clear hS; first | (go_simp; done) | (go_simp; with_reducible rfl))
    try simp only [Act.put, List.setIfInBounds_toArray, List.set_cons_zero, List.set_cons_succ]
    refine wpAnyH_take (i := 4) (oi := ⟨some 17, _, _, _, _, _⟩) (v := ?_) rfl (by kernel_rfl) (by kernel_rfl) (by kernel_rfl) (fun _ _ _ h => h) (Or.inl ⟨by kernel_rfl, ?_⟩) hHeld ?_
    rotate_left
    focus (intro W hS; have c0_0 := (hS.1).at_ (j := 0) rfl; have c0_1 := (hS.1).at_ (j := 1) rfl; have c0_2 := (hS.1).at_ (j := 2) rfl; have c0_3 := (hS.1).at_ (j := 3) rfl; have c1_0 := (hS.2.1).at_ (j := 0) rfl; have c1_1 := (hS.2.1).at_ (j := 1) rfl; clear hS; first | (go_simp; done) | (go_simp; with_reducible rfl))
    try simp only [Act.put, List.setIfInBounds_toArray, List.set_cons_zero, List.set_cons_succ]
    refine wpAnyH_ready (rs := [5]) (by kernel_rfl) (by simp) ?_
    refine AllReadyH.cons (o := ⟨some 18, _, _, _, _, _⟩) rfl (fun K hK => ?_) AllReadyH.nil
    go_simp
    refine Calls.mono (C0 _) ?_
    rintro e x1 ⟨rfl, hb1⟩
    refine hK.out _ _ ⟨hHeld.1.new hb1, hHeld.2.1.new hb1, Chg.trans hHeld.2.2 (chg_of_new hb1)⟩ (fun hHeld' => ?_)
    clear hK K hHeld hb1
    have hHeld := hHeld'
    clear hHeld'
    try simp only [Act.put, List.setIfInBounds_toArray, List.set_cons_zero, List.set_cons_succ]
    refine wpAnyH_take (i := 6) (oi := ⟨some 4, _, _, _, _, _⟩) (v := ?_) rfl (by kernel_rfl) (by kernel_rfl) (by kernel_rfl) (fun _ _ _ h => h) (Or.inl ⟨by kernel_rfl, ?_⟩) hHeld ?_
    rotate_left
    focus (intro W hS; have c0_0 := (hS.1).at_ (j := 0) rfl; have c0_1 := (hS.1).at_ (j := 1) rfl; have c0_2 := (hS.1).at_ (j := 2) rfl; have c0_3 := (hS.1).at_ (j := 3) rfl; have c1_0 := (hS.2.1).at_ (j := 0) rfl; have c1_1 := (hS.2.1).at_ (j := 1) rfl; clear hS; first | (go_simp; done) | (go_simp; with_reducible rfl))
    try simp only [Act.put, List.setIfInBounds_toArray, List.set_cons_zero, List.set_cons_succ]
    refine wpAnyH_done (by kernel_rfl) ?_ _
    go_wp2_with fail
    go_ret
    exact ⟨rfl, by rw [HM.out]; exact hHeld.1, hHeld.2.2⟩

set_option maxHeartbeats 4000000 in
theorem impl_narrow2 (g : Nat) (a0 a1 b : Int) (w : World) (hB : BoxAt w g 73 #[.bool (a0 != 0), .int .i64 a0, .bool (a1 != -1), .int .i64 a1]) :
    Calls Tryd.prog 42 #[.pointer (some ⟨g, 2, none⟩), .agg #[.bool (b != (-1)), .int .i64 b]] w
      fun e w' => e = .returned (.bool (mTakes (-1) b (meet1 (-1) a1 b))) ∧ BoxAt w' g 73 #[.bool (a0 != 0), .int .i64 a0, .bool ((meet1 (-1) a1 b) != -1), .int .i64 (meet1 (-1) a1 b)] ∧ Chg g (g + 1) w w' := by
  have hlt := hB.lt
  have hne : w.heap.size ≠ g := by omega
  have C0 := fun W => impl_takes (-1) b (meet1 (-1) a1 b) W
  generalize hT : mTakes (-1) b (meet1 (-1) a1 b) = r at C0 ⊢
  clear hT
  have f0 := hB.free 2
  have f1 := hB.free 3
  by_cases ha : a1 = (-1)
  · subst ha
    have HM := Lib.hid (show meet1 (-1) (-1) b = b from by simp [meet1])
    have c0 : w.cell? ⟨g, 2, none⟩ = some (.bool false) := hB.at_ rfl
    have c1 : w.cell? ⟨g, 3, none⟩ = some (.int .i64 (-1)) := hB.at_ rfl
    rw [HM.out] at C0
    go_enter Tryd.func42, Tryd.ntmps42
    go_wp2_with fail
    have K0 : BoxAt (((w.setCell ⟨g, 2, none⟩ (.bool (b != (-1)))).setCell ⟨g, 3, none⟩ (.int .i64 b)).alloc (.cells #[.bool (b != (-1)), .int .i64 b] 71)).drew g 73 #[.bool (a0 != 0), .int .i64 a0, .bool (b != -1), .int .i64 b] := ((box_cell (box_cell hB)).alloc_ _).drw
    have K1 : BoxAt (((w.setCell ⟨g, 2, none⟩ (.bool (b != (-1)))).setCell ⟨g, 3, none⟩ (.int .i64 b)).alloc (.cells #[.bool (b != (-1)), .int .i64 b] 71)).drew w.heap.size 71 #[.bool (b != (-1)), .int .i64 b] := by
      have := (box_new ((w.setCell ⟨g, 2, none⟩ (.bool (b != (-1)))).setCell ⟨g, 3, none⟩ (.int .i64 b)) 71 #[.bool (b != (-1)), .int .i64 b]).drw
      simpa using this
    have HCh : Chg g (g + 1) w (((w.setCell ⟨g, 2, none⟩ (.bool (b != (-1)))).setCell ⟨g, 3, none⟩ (.int .i64 b)).alloc (.cells #[.bool (b != (-1)), .int .i64 b] 71)).drew :=
      (((((Chg.refl g (g + 1) w).set_ (p := ⟨g, 2, none⟩) (.inl ⟨Nat.le_refl _, by simp⟩) _).set_ (p := ⟨g, 3, none⟩) (.inl ⟨Nat.le_refl _, by simp⟩) _).alloc _).drewN 1)
    refine wp_region_held_drew (S := fun w' => BoxAt w' g 73 #[.bool (a0 != 0), .int .i64 a0, .bool (b != -1), .int .i64 b] ∧ BoxAt w' w.heap.size 71 #[.bool (b != (-1)), .int .i64 b] ∧ Chg g (g + 1) w w') (by kernel_rfl) ?_ (fun hHeld => ?_)
    · exact ⟨K0, K1, HCh⟩
    refine wpAnyH_take (i := 0) (oi := ⟨some 13, _, _, _, _, _⟩) (v := ?_) rfl (by kernel_rfl) (by kernel_rfl) (by kernel_rfl) (fun _ _ _ h => h) (Or.inl ⟨by kernel_rfl, ?_⟩) hHeld ?_
    rotate_left
    focus (intro W hS; have c0_0 := (hS.1).at_ (j := 0) rfl; have c0_1 := (hS.1).at_ (j := 1) rfl; have c0_2 := (hS.1).at_ (j := 2) rfl; have c0_3 := (hS.1).at_ (j := 3) rfl; have c1_0 := (hS.2.1).at_ (j := 0) rfl; have c1_1 := (hS.2.1).at_ (j := 1) rfl; clear hS; first | (go_simp; done) | (go_simp; with_reducible rfl))
    try simp only [Act.put, List.setIfInBounds_toArray, List.set_cons_zero, List.set_cons_succ]
    refine wpAnyH_take (i := 1) (oi := ⟨some 14, _, _, _, _, _⟩) (v := ?_) rfl (by kernel_rfl) (by kernel_rfl) (by kernel_rfl) (fun _ _ _ h => h) (Or.inl ⟨by kernel_rfl, ?_⟩) hHeld ?_
    rotate_left
    focus (intro W hS; have c0_0 := (hS.1).at_ (j := 0) rfl; have c0_1 := (hS.1).at_ (j := 1) rfl; have c0_2 := (hS.1).at_ (j := 2) rfl; have c0_3 := (hS.1).at_ (j := 3) rfl; have c1_0 := (hS.2.1).at_ (j := 0) rfl; have c1_1 := (hS.2.1).at_ (j := 1) rfl; clear hS; first | (go_simp; done) | (go_simp; with_reducible rfl))
    try simp only [Act.put, List.setIfInBounds_toArray, List.set_cons_zero, List.set_cons_succ]
    refine wpAnyH_take (i := 2) (oi := ⟨some 15, _, _, _, _, _⟩) (v := ?_) rfl (by kernel_rfl) (by kernel_rfl) (by kernel_rfl) (fun _ _ _ h => h) (Or.inl ⟨by kernel_rfl, ?_⟩) hHeld ?_
    rotate_left
    focus (intro W hS; have c0_0 := (hS.1).at_ (j := 0) rfl; have c0_1 := (hS.1).at_ (j := 1) rfl; have c0_2 := (hS.1).at_ (j := 2) rfl; have c0_3 := (hS.1).at_ (j := 3) rfl; have c1_0 := (hS.2.1).at_ (j := 0) rfl; have c1_1 := (hS.2.1).at_ (j := 1) rfl; clear hS; first | (go_simp; done) | (go_simp; with_reducible rfl))
    try simp only [Act.put, List.setIfInBounds_toArray, List.set_cons_zero, List.set_cons_succ]
    refine wpAnyH_take (i := 3) (oi := ⟨some 16, _, _, _, _, _⟩) (v := ?_) rfl (by kernel_rfl) (by kernel_rfl) (by kernel_rfl) (fun _ _ _ h => h) (Or.inl ⟨by kernel_rfl, ?_⟩) hHeld ?_
    rotate_left
    focus (intro W hS; have c0_0 := (hS.1).at_ (j := 0) rfl; have c0_1 := (hS.1).at_ (j := 1) rfl; have c0_2 := (hS.1).at_ (j := 2) rfl; have c0_3 := (hS.1).at_ (j := 3) rfl; have c1_0 := (hS.2.1).at_ (j := 0) rfl; have c1_1 := (hS.2.1).at_ (j := 1) rfl; clear hS; first | (go_simp; done) | (go_simp; with_reducible rfl))
    try simp only [Act.put, List.setIfInBounds_toArray, List.set_cons_zero, List.set_cons_succ]
    refine wpAnyH_take (i := 4) (oi := ⟨some 17, _, _, _, _, _⟩) (v := ?_) rfl (by kernel_rfl) (by kernel_rfl) (by kernel_rfl) (fun _ _ _ h => h) (Or.inl ⟨by kernel_rfl, ?_⟩) hHeld ?_
    rotate_left
    focus (intro W hS; have c0_0 := (hS.1).at_ (j := 0) rfl; have c0_1 := (hS.1).at_ (j := 1) rfl; have c0_2 := (hS.1).at_ (j := 2) rfl; have c0_3 := (hS.1).at_ (j := 3) rfl; have c1_0 := (hS.2.1).at_ (j := 0) rfl; have c1_1 := (hS.2.1).at_ (j := 1) rfl; clear hS; first | (go_simp; done) | (go_simp; with_reducible rfl))
    try simp only [Act.put, List.setIfInBounds_toArray, List.set_cons_zero, List.set_cons_succ]
    refine wpAnyH_ready (rs := [5]) (by kernel_rfl) (by simp) ?_
    refine AllReadyH.cons (o := ⟨some 18, _, _, _, _, _⟩) rfl (fun K hK => ?_) AllReadyH.nil
    go_simp
    refine Calls.mono (C0 _) ?_
    rintro e x1 ⟨rfl, hb1⟩
    refine hK.out _ _ ⟨hHeld.1.new hb1, hHeld.2.1.new hb1, Chg.trans hHeld.2.2 (chg_of_new hb1)⟩ (fun hHeld' => ?_)
    clear hK K hHeld hb1
    have hHeld := hHeld'
    clear hHeld'
    try simp only [Act.put, List.setIfInBounds_toArray, List.set_cons_zero, List.set_cons_succ]
    refine wpAnyH_take (i := 6) (oi := ⟨some 4, _, _, _, _, _⟩) (v := ?_) rfl (by kernel_rfl) (by kernel_rfl) (by kernel_rfl) (fun _ _ _ h => h) (Or.inl ⟨by kernel_rfl, ?_⟩) hHeld ?_
    rotate_left
    focus (intro W hS; have c0_0 := (hS.1).at_ (j := 0) rfl; have c0_1 := (hS.1).at_ (j := 1) rfl; have c0_2 := (hS.1).at_ (j := 2) rfl; have c0_3 := (hS.1).at_ (j := 3) rfl; have c1_0 := (hS.2.1).at_ (j := 0) rfl; have c1_1 := (hS.2.1).at_ (j := 1) rfl; clear hS; first | (go_simp; done) | (go_simp; with_reducible rfl))
    try simp only [Act.put, List.setIfInBounds_toArray, List.set_cons_zero, List.set_cons_succ]
    refine wpAnyH_done (by kernel_rfl) ?_ _
    go_wp2_with fail
    go_ret
    exact ⟨rfl, by rw [HM.out]; exact hHeld.1, hHeld.2.2⟩
  · have HM := Lib.hid (show meet1 (-1) a1 b = a1 from by simp [meet1, ha])
    have hb : (a1 != (-1)) = true := by simpa using ha
    have c0 : w.cell? ⟨g, 2, none⟩ = some (.bool true) := by rw [← hb]; exact hB.at_ rfl
    have c1 : w.cell? ⟨g, 3, none⟩ = some (.int .i64 a1) := hB.at_ rfl
    clear hb
    rw [HM.out] at C0
    go_enter Tryd.func42, Tryd.ntmps42
    go_wp2_with fail
    have K0 := (hB.alloc_ (.cells #[.bool (b != (-1)), .int .i64 b] 71)).drw
    have K1 := (box_new w 71 #[.bool (b != (-1)), .int .i64 b]).drw
    have HCh : Chg g (g + 1) w (w.alloc (.cells #[.bool (b != (-1)), .int .i64 b] 71)).drew := (((Chg.refl g (g + 1) w).alloc _).drewN 1)
    refine wp_region_held_drew (S := fun w' => BoxAt w' g 73 #[.bool (a0 != 0), .int .i64 a0, .bool (a1 != -1), .int .i64 a1] ∧ BoxAt w' w.heap.size 71 #[.bool (b != (-1)), .int .i64 b] ∧ Chg g (g + 1) w w') (by kernel_rfl) ?_ (fun hHeld => ?_)
    · exact ⟨K0, K1, HCh⟩
    refine wpAnyH_take (i := 0) (oi := ⟨some 13, _, _, _, _, _⟩) (v := ?_) rfl (by kernel_rfl) (by kernel_rfl) (by kernel_rfl) (fun _ _ _ h => h) (Or.inl ⟨by kernel_rfl, ?_⟩) hHeld ?_
    rotate_left
    focus (intro W hS; have c0_0 := (hS.1).at_ (j := 0) rfl; have c0_1 := (hS.1).at_ (j := 1) rfl; have c0_2 := (hS.1).at_ (j := 2) rfl; have c0_3 := (hS.1).at_ (j := 3) rfl; have c1_0 := (hS.2.1).at_ (j := 0) rfl; have c1_1 := (hS.2.1).at_ (j := 1) rfl; clear hS; first | (go_simp; done) | (go_simp; with_reducible rfl))
    try simp only [Act.put, List.setIfInBounds_toArray, List.set_cons_zero, List.set_cons_succ]
    refine wpAnyH_take (i := 1) (oi := ⟨some 14, _, _, _, _, _⟩) (v := ?_) rfl (by kernel_rfl) (by kernel_rfl) (by kernel_rfl) (fun _ _ _ h => h) (Or.inl ⟨by kernel_rfl, ?_⟩) hHeld ?_
    rotate_left
    focus (intro W hS; have c0_0 := (hS.1).at_ (j := 0) rfl; have c0_1 := (hS.1).at_ (j := 1) rfl; have c0_2 := (hS.1).at_ (j := 2) rfl; have c0_3 := (hS.1).at_ (j := 3) rfl; have c1_0 := (hS.2.1).at_ (j := 0) rfl; have c1_1 := (hS.2.1).at_ (j := 1) rfl; clear hS; first | (go_simp; done) | (go_simp; with_reducible rfl))
    try simp only [Act.put, List.setIfInBounds_toArray, List.set_cons_zero, List.set_cons_succ]
    refine wpAnyH_take (i := 2) (oi := ⟨some 15, _, _, _, _, _⟩) (v := ?_) rfl (by kernel_rfl) (by kernel_rfl) (by kernel_rfl) (fun _ _ _ h => h) (Or.inl ⟨by kernel_rfl, ?_⟩) hHeld ?_
    rotate_left
    focus (intro W hS; have c0_0 := (hS.1).at_ (j := 0) rfl; have c0_1 := (hS.1).at_ (j := 1) rfl; have c0_2 := (hS.1).at_ (j := 2) rfl; have c0_3 := (hS.1).at_ (j := 3) rfl; have c1_0 := (hS.2.1).at_ (j := 0) rfl; have c1_1 := (hS.2.1).at_ (j := 1) rfl; clear hS; first | (go_simp; done) | (go_simp; with_reducible rfl))
    try simp only [Act.put, List.setIfInBounds_toArray, List.set_cons_zero, List.set_cons_succ]
    refine wpAnyH_take (i := 3) (oi := ⟨some 16, _, _, _, _, _⟩) (v := ?_) rfl (by kernel_rfl) (by kernel_rfl) (by kernel_rfl) (fun _ _ _ h => h) (Or.inl ⟨by kernel_rfl, ?_⟩) hHeld ?_
    rotate_left
    focus (intro W hS; have c0_0 := (hS.1).at_ (j := 0) rfl; have c0_1 := (hS.1).at_ (j := 1) rfl; have c0_2 := (hS.1).at_ (j := 2) rfl; have c0_3 := (hS.1).at_ (j := 3) rfl; have c1_0 := (hS.2.1).at_ (j := 0) rfl; have c1_1 := (hS.2.1).at_ (j := 1) rfl; clear hS; first | (go_simp; done) | (go_simp; with_reducible rfl))
    try simp only [Act.put, List.setIfInBounds_toArray, List.set_cons_zero, List.set_cons_succ]
    refine wpAnyH_take (i := 4) (oi := ⟨some 17, _, _, _, _, _⟩) (v := ?_) rfl (by kernel_rfl) (by kernel_rfl) (by kernel_rfl) (fun _ _ _ h => h) (Or.inl ⟨by kernel_rfl, ?_⟩) hHeld ?_
    rotate_left
    focus (intro W hS; have c0_0 := (hS.1).at_ (j := 0) rfl; have c0_1 := (hS.1).at_ (j := 1) rfl; have c0_2 := (hS.1).at_ (j := 2) rfl; have c0_3 := (hS.1).at_ (j := 3) rfl; have c1_0 := (hS.2.1).at_ (j := 0) rfl; have c1_1 := (hS.2.1).at_ (j := 1) rfl; clear hS; first | (go_simp; done) | (go_simp; with_reducible rfl))
    try simp only [Act.put, List.setIfInBounds_toArray, List.set_cons_zero, List.set_cons_succ]
    refine wpAnyH_ready (rs := [5]) (by kernel_rfl) (by simp) ?_
    refine AllReadyH.cons (o := ⟨some 18, _, _, _, _, _⟩) rfl (fun K hK => ?_) AllReadyH.nil
    go_simp
    refine Calls.mono (C0 _) ?_
    rintro e x1 ⟨rfl, hb1⟩
    refine hK.out _ _ ⟨hHeld.1.new hb1, hHeld.2.1.new hb1, Chg.trans hHeld.2.2 (chg_of_new hb1)⟩ (fun hHeld' => ?_)
    clear hK K hHeld hb1
    have hHeld := hHeld'
    clear hHeld'
    try simp only [Act.put, List.setIfInBounds_toArray, List.set_cons_zero, List.set_cons_succ]
    refine wpAnyH_take (i := 6) (oi := ⟨some 4, _, _, _, _, _⟩) (v := ?_) rfl (by kernel_rfl) (by kernel_rfl) (by kernel_rfl) (fun _ _ _ h => h) (Or.inl ⟨by kernel_rfl, ?_⟩) hHeld ?_
    rotate_left
    focus (intro W hS; have c0_0 := (hS.1).at_ (j := 0) rfl; have c0_1 := (hS.1).at_ (j := 1) rfl; have c0_2 := (hS.1).at_ (j := 2) rfl; have c0_3 := (hS.1).at_ (j := 3) rfl; have c1_0 := (hS.2.1).at_ (j := 0) rfl; have c1_1 := (hS.2.1).at_ (j := 1) rfl; clear hS; first | (go_simp; done) | (go_simp; with_reducible rfl))
    try simp only [Act.put, List.setIfInBounds_toArray, List.set_cons_zero, List.set_cons_succ]
    refine wpAnyH_done (by kernel_rfl) ?_ _
    go_wp2_with fail
    go_ret
    exact ⟨rfl, by rw [HM.out]; exact hHeld.1, hHeld.2.2⟩

def mMeetOk (p q : TPattern) : Bool := mIsPattern p && mIsPattern q && mTakes 0 q.f0 (meet1 0 p.f0 q.f0) && mTakes (-1) q.f1 (meet1 (-1) p.f1 q.f1)
def mMeet (p q : TPattern) : TPattern := if mMeetOk p q = true then ⟨meet1 0 p.f0 q.f0, meet1 (-1) p.f1 q.f1⟩ else ⟨0, 0⟩
theorem mMeet_yes {p q : TPattern} (h : mMeetOk p q = true) : mMeet p q = ⟨meet1 0 p.f0 q.f0, meet1 (-1) p.f1 q.f1⟩ := by unfold mMeet; rw [if_pos h]
theorem mMeet_no {p q : TPattern} (h : mMeetOk p q = false) : mMeet p q = ⟨0, 0⟩ := by unfold mMeet; rw [if_neg (by rw [h]; decide)]
structure MBase (w wx : World) (p q : TPattern) : Prop where
  bp : BoxAt wx w.heap.size 25 #[.int .i64 p.f0, .int .i64 p.f1]
  bq : BoxAt wx (w.heap.size + 1) 25 #[.int .i64 q.f0, .int .i64 q.f1]
  br : BoxAt wx (w.heap.size + 1 + 1) 25 #[.int .i64 0, .int .i64 0]
  below : Below w.heap.size w wx
theorem MBase.new {w wx w1 : World} {p q : TPattern} (h : MBase w wx p q) (hb : Below wx.heap.size wx w1) : MBase w w1 p q :=
  ⟨h.bp.new hb, h.bq.new hb, h.br.new hb, below_trans h.below hb (Nat.le_refl _)⟩
structure MeetS (w wx : World) (g5 g6 : Nat) (x y : Int) (q : TPattern) : Prop where
  b5 : BoxAt wx g5 73 #[.bool (x != 0), .int .i64 x, .bool (y != -1), .int .i64 y]
  b6 : BoxAt wx g6 73 #[.bool (q.f0 != 0), .int .i64 q.f0, .bool (q.f1 != -1), .int .i64 q.f1]
  br : BoxAt wx (w.heap.size + 1 + 1) 25 #[.int .i64 0, .int .i64 0]
  ne : g5 ≠ g6
  l5 : w.heap.size + 3 ≤ g5
  l6 : w.heap.size + 3 ≤ g6
  below : Below w.heap.size w wx
theorem MeetS.narrow {w wx w1 : World} {g5 g6 : Nat} {x y x1 y1 : Int} {q : TPattern} (h : MeetS w wx g5 g6 x y q) (hB : BoxAt w1 g5 73 #[.bool (x1 != 0), .int .i64 x1, .bool (y1 != -1), .int .i64 y1]) (hc : Chg g5 (g5 + 1) wx w1) : MeetS w w1 g5 g6 x1 y1 q :=
  ⟨hB, h.b6.chg hc (by have := h.ne; omega), h.br.chg hc (by have := h.l5; omega), h.ne, h.l5, h.l6, ⟨hc.os.trans h.below.os, hc.tape.trans h.below.tape, hc.output.trans h.below.output, Nat.le_trans h.below.size hc.size, fun i hi => (hc.block i (Nat.lt_of_lt_of_le hi h.below.size) (by have := h.l5; omega)).trans (h.below.block i hi)⟩⟩
theorem MeetS.new {w wx w1 : World} {g5 g6 : Nat} {x y : Int} {q : TPattern} (h : MeetS w wx g5 g6 x y q) (hb : Below wx.heap.size wx w1) : MeetS w w1 g5 g6 x y q :=
  ⟨h.b5.new hb, h.b6.new hb, h.br.new hb, h.ne, h.l5, h.l6, below_trans h.below hb (Nat.le_refl _)⟩
theorem impl_pattern (x y : Int) (w : World) : Calls Tryd.prog 43 #[.agg #[.bool (x != 0), .int .i64 x, .bool (y != -1), .int .i64 y]] w (Says (vPat ⟨x, y⟩) w) := by
  go_enter Tryd.func43, Tryd.ntmps43
  go_wp2
  exact bodyPost_ret (v := vPat ⟨x, y⟩) (by simp [results, Tryd.results43, go_sem]) rfl ⟨rfl, by repeat (first | with_reducible exact Below.refl _ _ | (with_reducible refine below_step ?_ (by assumption) (by first | omega | (simp; done) | (simp <;> omega))) | (with_reducible refine Below.alloc ?_ (by first | omega | (simp; done) | (simp <;> omega)) _) | (with_reducible refine Below.setCell ?_ (by first | omega | (simp; done) | (simp <;> omega)) _) | (with_reducible refine Below.drew ?_) | (with_reducible refine below_dN ?_ _) | (refine Below.alloc ?_ (by first | omega | (simp; done) | (simp <;> omega)) _))⟩

set_option maxHeartbeats 40000000 in
theorem impl_MeetPatterns (p q : TPattern) (w : World) :
    Calls Tryd.prog 9 #[vPat p, vPat q] w (Says (.tuple #[vPat (mMeet p q), .bool (mMeetOk p q)]) w) := by
  have C0 := fun W => impl_IsPattern p W
  have C1 := fun W => impl_IsPattern q W
  have HX := Lib.hid (show mMeetOk p q = (mIsPattern p && mIsPattern q && mTakes 0 q.f0 (meet1 0 p.f0 q.f0) && mTakes (-1) q.f1 (meet1 (-1) p.f1 q.f1)) from rfl)
  generalize mIsPattern p = b0 at C0 HX
  generalize mIsPattern q = b1 at C1 HX
  replace C0 := Lib.hid C0
  replace C1 := Lib.hid C1
  have KB0 : BoxAt (((w.alloc (.cells #[.int .i64 p.f0, .int .i64 p.f1] 25)).alloc (.cells #[.int .i64 q.f0, .int .i64 q.f1] 25)).alloc (.cells #[.int .i64 0, .int .i64 0] 25)) w.heap.size 25 #[.int .i64 p.f0, .int .i64 p.f1] := (((by simpa using box_new w 25 #[.int .i64 p.f0, .int .i64 p.f1] : BoxAt (w.alloc (.cells #[.int .i64 p.f0, .int .i64 p.f1] 25)) w.heap.size 25 #[.int .i64 p.f0, .int .i64 p.f1])).alloc_ (.cells #[.int .i64 q.f0, .int .i64 q.f1] 25)).alloc_ (.cells #[.int .i64 0, .int .i64 0] 25)
  have KB1 : BoxAt (((w.alloc (.cells #[.int .i64 p.f0, .int .i64 p.f1] 25)).alloc (.cells #[.int .i64 q.f0, .int .i64 q.f1] 25)).alloc (.cells #[.int .i64 0, .int .i64 0] 25)) (w.heap.size + 1) 25 #[.int .i64 q.f0, .int .i64 q.f1] := ((by simpa using box_new (w.alloc (.cells #[.int .i64 p.f0, .int .i64 p.f1] 25)) 25 #[.int .i64 q.f0, .int .i64 q.f1] : BoxAt ((w.alloc (.cells #[.int .i64 p.f0, .int .i64 p.f1] 25)).alloc (.cells #[.int .i64 q.f0, .int .i64 q.f1] 25)) (w.heap.size + 1) 25 #[.int .i64 q.f0, .int .i64 q.f1])).alloc_ (.cells #[.int .i64 0, .int .i64 0] 25)
  have KB2 : BoxAt (((w.alloc (.cells #[.int .i64 p.f0, .int .i64 p.f1] 25)).alloc (.cells #[.int .i64 q.f0, .int .i64 q.f1] 25)).alloc (.cells #[.int .i64 0, .int .i64 0] 25)) (w.heap.size + 1 + 1) 25 #[.int .i64 0, .int .i64 0] := (by simpa using box_new ((w.alloc (.cells #[.int .i64 p.f0, .int .i64 p.f1] 25)).alloc (.cells #[.int .i64 q.f0, .int .i64 q.f1] 25)) 25 #[.int .i64 0, .int .i64 0] : BoxAt (((w.alloc (.cells #[.int .i64 p.f0, .int .i64 p.f1] 25)).alloc (.cells #[.int .i64 q.f0, .int .i64 q.f1] 25)).alloc (.cells #[.int .i64 0, .int .i64 0] 25)) (w.heap.size + 1 + 1) 25 #[.int .i64 0, .int .i64 0])
  have HBw : Below w.heap.size w (((w.alloc (.cells #[.int .i64 p.f0, .int .i64 p.f1] 25)).alloc (.cells #[.int .i64 q.f0, .int .i64 q.f1] 25)).alloc (.cells #[.int .i64 0, .int .i64 0] 25)) := ((((Below.refl _ _).alloc (by first | exact Nat.le_refl _ | (simp; done) | (simp; omega)) _).alloc (by first | exact Nat.le_refl _ | (simp; done) | (simp; omega)) _).alloc (by first | exact Nat.le_refl _ | (simp; done) | (simp; omega)) _)
  have HS := Lib.hid (⟨KB0, KB1, KB2, HBw⟩ : MBase w _ p q)
  clear KB0 KB1 KB2 HBw
  cases b0
  · have HO := Lib.hid (show mMeetOk p q = false from HX.out)
    rw [mMeet_no HO.out, HO.out]
    go_enter Tryd.func9, Tryd.ntmps9
    go_wp2_with ((go_at_call 10; (first | (with_reducible refine Calls.mono (C0.out _) ?_) | (with_reducible refine Calls.mono (C1.out _) ?_)); rintro e w1 ⟨rfl, hb1⟩; (replace HS := Lib.hid (HS.out.new hb1)); (have ebp0 := HS.out.bp.at_ (j := 0) rfl); (have ebp1 := HS.out.bp.at_ (j := 1) rfl); (have ebq0 := HS.out.bq.at_ (j := 0) rfl); (have ebq1 := HS.out.bq.at_ (j := 1) rfl); (have ebr0 := HS.out.br.at_ (j := 0) rfl); (have ebr1 := HS.out.br.at_ (j := 1) rfl); (have f0 := HS.out.br.free 0); (have f1 := HS.out.br.free 1); clear hb1))
    have k0 := (box_cell (u := .int .i64 0) (j := 1) (box_cell (u := .int .i64 0) (j := 0) HS.out.br)).at_ (j := 0) rfl; have k1 := (box_cell (u := .int .i64 0) (j := 1) (box_cell (u := .int .i64 0) (j := 0) HS.out.br)).at_ (j := 1) rfl
    exact bodyPost_ret (v := .tuple #[vPat ⟨0, 0⟩, .bool false]) (by simp [results, Tryd.results9, go_sem, k0, k1]) rfl ⟨rfl, by exact (HS.out.below.setCell (by simp; try omega) _).setCell (by simp; try omega) _⟩
  · cases b1
    · have HO := Lib.hid (show mMeetOk p q = false from HX.out)
      rw [mMeet_no HO.out, HO.out]
      go_enter Tryd.func9, Tryd.ntmps9
      go_wp2_with ((go_at_call 10; (first | (with_reducible refine Calls.mono (C0.out _) ?_) | (with_reducible refine Calls.mono (C1.out _) ?_)); rintro e w1 ⟨rfl, hb1⟩; (replace HS := Lib.hid (HS.out.new hb1)); (have ebp0 := HS.out.bp.at_ (j := 0) rfl); (have ebp1 := HS.out.bp.at_ (j := 1) rfl); (have ebq0 := HS.out.bq.at_ (j := 0) rfl); (have ebq1 := HS.out.bq.at_ (j := 1) rfl); (have ebr0 := HS.out.br.at_ (j := 0) rfl); (have ebr1 := HS.out.br.at_ (j := 1) rfl); (have f0 := HS.out.br.free 0); (have f1 := HS.out.br.free 1); clear hb1))
      have k0 := (box_cell (u := .int .i64 0) (j := 1) (box_cell (u := .int .i64 0) (j := 0) HS.out.br)).at_ (j := 0) rfl; have k1 := (box_cell (u := .int .i64 0) (j := 1) (box_cell (u := .int .i64 0) (j := 0) HS.out.br)).at_ (j := 1) rfl
      exact bodyPost_ret (v := .tuple #[vPat ⟨0, 0⟩, .bool false]) (by simp [results, Tryd.results9, go_sem, k0, k1]) rfl ⟨rfl, by exact (HS.out.below.setCell (by simp; try omega) _).setCell (by simp; try omega) _⟩
    · go_enter Tryd.func9, Tryd.ntmps9
      go_upto_region 3 with ((go_at_call 10; (first | (with_reducible refine Calls.mono (C0.out _) ?_) | (with_reducible refine Calls.mono (C1.out _) ?_)); rintro e w1 ⟨rfl, hb1⟩; (replace HS := Lib.hid (HS.out.new hb1)); (have ebp0 := HS.out.bp.at_ (j := 0) rfl); (have ebp1 := HS.out.bp.at_ (j := 1) rfl); (have ebq0 := HS.out.bq.at_ (j := 0) rfl); (have ebq1 := HS.out.bq.at_ (j := 1) rfl); (have ebr0 := HS.out.br.at_ (j := 0) rfl); (have ebr1 := HS.out.br.at_ (j := 1) rfl); (have f0 := HS.out.br.free 0); (have f1 := HS.out.br.free 1); clear hb1))
      go_cut [6, 7] (fun s5 s6 wx => ∃ g5 g6 : Nat, s5 = .pointer (some ⟨g5, 0, none⟩) ∧ s6 = .pointer (some ⟨g6, 0, none⟩) ∧ MeetS w wx g5 g6 p.f0 p.f1 q)
      case first =>
        refine wp_region_held_drew (S := fun w' => BoxAt w' w.heap.size 25 #[.int .i64 p.f0, .int .i64 p.f1] ∧ BoxAt w' (w.heap.size + 1) 25 #[.int .i64 q.f0, .int .i64 q.f1] ∧ BoxAt w' (w.heap.size + 1 + 1) 25 #[.int .i64 0, .int .i64 0] ∧ Below w.heap.size w w') (by kernel_rfl) ?_ (fun hHeld => ?_)
        · exact ⟨HS.out.bp.drw, HS.out.bq.drw, HS.out.br.drw, HS.out.below.drew⟩
        generalize (World.drew _) = x0 at hHeld ⊢
        refine wpAnyH_take (i := 0) (oi := ⟨some 17, _, _, _, _, _⟩) (v := ?_) rfl (by kernel_rfl) (by kernel_rfl) (by kernel_rfl) (fun _ _ _ h => h) (Or.inl ⟨by kernel_rfl, ?_⟩) hHeld ?_
        rotate_left
        focus (intro W hS; have c0_0 := (hS.1).at_ (j := 0) rfl; have c0_1 := (hS.1).at_ (j := 1) rfl; have c1_0 := (hS.2.1).at_ (j := 0) rfl; have c1_1 := (hS.2.1).at_ (j := 1) rfl; have c2_0 := (hS.2.2.1).at_ (j := 0) rfl; have c2_1 := (hS.2.2.1).at_ (j := 1) rfl; clear hS; first | (go_simp; done) | (go_simp; with_reducible rfl))
        try simp only [Act.put, List.setIfInBounds_toArray, List.set_cons_zero, List.set_cons_succ]
        refine wpAnyH_take (i := 2) (oi := ⟨some 19, _, _, _, _, _⟩) (v := ?_) rfl (by kernel_rfl) (by kernel_rfl) (by kernel_rfl) (fun _ _ _ h => h) (Or.inl ⟨by kernel_rfl, ?_⟩) hHeld ?_
        rotate_left
        focus (intro W hS; have c0_0 := (hS.1).at_ (j := 0) rfl; have c0_1 := (hS.1).at_ (j := 1) rfl; have c1_0 := (hS.2.1).at_ (j := 0) rfl; have c1_1 := (hS.2.1).at_ (j := 1) rfl; have c2_0 := (hS.2.2.1).at_ (j := 0) rfl; have c2_1 := (hS.2.2.1).at_ (j := 1) rfl; clear hS; first | (go_simp; done) | (go_simp; with_reducible rfl))
        try simp only [Act.put, List.setIfInBounds_toArray, List.set_cons_zero, List.set_cons_succ]
        refine wpAnyH_ready (rs := [1, 4, 5]) (by kernel_rfl) (by simp) ?_
        refine AllReadyH.cons (o := ⟨some 18, _, _, _, _, _⟩) rfl (fun K hK => ?_) ?_
        · skip
          go_simp
          refine Calls.mono (impl_scopeOf p _) ?_
          rintro e x1 ⟨rfl, hb1⟩
          refine hK.out _ _ ⟨hHeld.1.new hb1, hHeld.2.1.new hb1, hHeld.2.2.1.new hb1, below_trans hHeld.2.2.2 hb1 (Nat.le_refl _)⟩ (fun hHeld' => ?_)
          clear hK K hHeld hb1
          have hHeld := hHeld'
          clear hHeld'
          try simp only [Act.put, List.setIfInBounds_toArray, List.set_cons_zero, List.set_cons_succ]
          refine wpAnyH_ready (rs := [3, 4, 5]) (by kernel_rfl) (by simp) ?_
          refine AllReadyH.cons (o := ⟨some 20, _, _, _, _, _⟩) rfl (fun K hK => ?_) ?_
          · skip
            go_simp
            refine Calls.mono (impl_scopeOf q _) ?_
            rintro e x2 ⟨rfl, hb1⟩
            refine hK.out _ _ ⟨hHeld.1.new hb1, hHeld.2.1.new hb1, hHeld.2.2.1.new hb1, below_trans hHeld.2.2.2 hb1 (Nat.le_refl _)⟩ (fun hHeld' => ?_)
            clear hK K hHeld hb1
            have hHeld := hHeld'
            clear hHeld'
            try simp only [Act.put, List.setIfInBounds_toArray, List.set_cons_zero, List.set_cons_succ]
            refine wpAnyH_ready (rs := [4, 5]) (by kernel_rfl) (by simp) ?_
            refine AllReadyH.cons (o := ⟨some 6, _, _, _, _, _⟩) rfl (fun K hK => ?_) ?_
            · skip
              go_simp
              have GA := box_new (x2) 73 #[.bool false, .int .i64 0, .bool false, .int .i64 0]
              have hb1 := (Below.refl (x2).heap.size (x2)).alloc (Nat.le_refl _) (.cells #[.bool false, .int .i64 0, .bool false, .int .i64 0] 73)
              have LA : w.heap.size + 3 ≤ (x2).heap.size := by have := (hHeld.1).lt; have := (hHeld.2.1).lt; have := (hHeld.2.2.1).lt; have := (hHeld.2.2.2).size; omega
              generalize (x2).alloc (.cells #[.bool false, .int .i64 0, .bool false, .int .i64 0] 73) = x3 at hb1 GA  ⊢
              generalize hg : (x2).heap.size = gA at GA LA  ⊢
              clear hg
              refine hK.out _ _ ⟨hHeld.1.new hb1, hHeld.2.1.new hb1, hHeld.2.2.1.new hb1, below_trans hHeld.2.2.2 hb1 (Nat.le_refl _)⟩ (fun hHeld' => ?_)
              clear hK K hHeld hb1
              have hHeld := hHeld'
              clear hHeld'
              try simp only [Act.put, List.setIfInBounds_toArray, List.set_cons_zero, List.set_cons_succ]
              refine wpAnyH_ready (rs := [5]) (by kernel_rfl) (by simp) ?_
              refine AllReadyH.cons (o := ⟨some 7, _, _, _, _, _⟩) rfl (fun K hK => ?_) AllReadyH.nil
              go_simp
              have GB := box_new (x3) 73 #[.bool false, .int .i64 0, .bool false, .int .i64 0]
              have hb1 := (Below.refl (x3).heap.size (x3)).alloc (Nat.le_refl _) (.cells #[.bool false, .int .i64 0, .bool false, .int .i64 0] 73)
              have LB : w.heap.size + 3 ≤ (x3).heap.size := by have := (hHeld.1).lt; have := (hHeld.2.1).lt; have := (hHeld.2.2.1).lt; have := (hHeld.2.2.2).size; omega
              have NAB : gA < (x3).heap.size := GA.lt
              replace GA := GA.new hb1
              generalize (x3).alloc (.cells #[.bool false, .int .i64 0, .bool false, .int .i64 0] 73) = x4 at hb1 GB GA ⊢
              generalize hg : (x3).heap.size = gB at GB LB NAB ⊢
              clear hg
              refine hK.out _ _ ⟨hHeld.1.new hb1, hHeld.2.1.new hb1, hHeld.2.2.1.new hb1, below_trans hHeld.2.2.2 hb1 (Nat.le_refl _)⟩ (fun hHeld' => ?_)
              clear hK K hHeld hb1
              have hHeld := hHeld'
              clear hHeld'
              try simp only [Act.put, List.setIfInBounds_toArray, List.set_cons_zero, List.set_cons_succ]
              refine wpAnyH_ready (rs := [6]) (by kernel_rfl) (by simp) ?_
              refine AllReadyH.cons (o := ⟨none, _, _, _, _, _⟩) rfl (fun K hK => ?_) AllReadyH.nil
              rw [if_pos (by rfl)]
              refine wp_store_row 73 _ _ rfl gA #[.bool (p.f0 != 0), .int .i64 p.f0, .bool (p.f1 != -1), .int .i64 p.f1] rfl rfl 73 _ GA (by kernel_rfl) (by kernel_rfl) (by kernel_rfl) ?_
              replace GA := box_row (cs := #[.bool (p.f0 != 0), .int .i64 p.f0, .bool (p.f1 != -1), .int .i64 p.f1]) GA
              replace GB := box_far (cs := #[.bool (p.f0 != 0), .int .i64 p.f0, .bool (p.f1 != -1), .int .i64 p.f1]) (g := gA) GB (by omega)
              have hc1 := chg_row x4 gA #[.bool (p.f0 != 0), .int .i64 p.f0, .bool (p.f1 != -1), .int .i64 p.f1]
              have hHeld2 : BoxAt (World.setRow x4 gA #[.bool (p.f0 != 0), .int .i64 p.f0, .bool (p.f1 != -1), .int .i64 p.f1]) w.heap.size 25 #[.int .i64 p.f0, .int .i64 p.f1] ∧ BoxAt (World.setRow x4 gA #[.bool (p.f0 != 0), .int .i64 p.f0, .bool (p.f1 != -1), .int .i64 p.f1]) (w.heap.size + 1) 25 #[.int .i64 q.f0, .int .i64 q.f1] ∧ BoxAt (World.setRow x4 gA #[.bool (p.f0 != 0), .int .i64 p.f0, .bool (p.f1 != -1), .int .i64 p.f1]) (w.heap.size + 1 + 1) 25 #[.int .i64 0, .int .i64 0] ∧ Below w.heap.size w (World.setRow x4 gA #[.bool (p.f0 != 0), .int .i64 p.f0, .bool (p.f1 != -1), .int .i64 p.f1]) := ⟨hHeld.1.chg hc1 (by omega), hHeld.2.1.chg hc1 (by omega), hHeld.2.2.1.chg hc1 (by omega), below_setRow hHeld.2.2.2 (by omega) _⟩
              clear hc1
              generalize World.setRow x4 gA #[.bool (p.f0 != 0), .int .i64 p.f0, .bool (p.f1 != -1), .int .i64 p.f1] = x5 at hHeld2 GA GB ⊢
              refine hK.out _ _ hHeld2 (fun hHeld' => ?_)
              clear hHeld2
              clear hK K hHeld
              have hHeld := hHeld'
              clear hHeld'
              try simp only [Act.put, List.setIfInBounds_toArray, List.set_cons_zero, List.set_cons_succ]
              refine wpAnyH_ready (rs := [7]) (by kernel_rfl) (by simp) ?_
              refine AllReadyH.cons (o := ⟨none, _, _, _, _, _⟩) rfl (fun K hK => ?_) AllReadyH.nil
              rw [if_pos (by rfl)]
              refine wp_store_row 73 _ _ rfl gB #[.bool (q.f0 != 0), .int .i64 q.f0, .bool (q.f1 != -1), .int .i64 q.f1] rfl rfl 73 _ GB (by kernel_rfl) (by kernel_rfl) (by kernel_rfl) ?_
              replace GA := box_far (cs := #[.bool (q.f0 != 0), .int .i64 q.f0, .bool (q.f1 != -1), .int .i64 q.f1]) (g := gB) GA (by omega)
              replace GB := box_row (cs := #[.bool (q.f0 != 0), .int .i64 q.f0, .bool (q.f1 != -1), .int .i64 q.f1]) GB
              have hc1 := chg_row x5 gB #[.bool (q.f0 != 0), .int .i64 q.f0, .bool (q.f1 != -1), .int .i64 q.f1]
              have hHeld2 : BoxAt (World.setRow x5 gB #[.bool (q.f0 != 0), .int .i64 q.f0, .bool (q.f1 != -1), .int .i64 q.f1]) w.heap.size 25 #[.int .i64 p.f0, .int .i64 p.f1] ∧ BoxAt (World.setRow x5 gB #[.bool (q.f0 != 0), .int .i64 q.f0, .bool (q.f1 != -1), .int .i64 q.f1]) (w.heap.size + 1) 25 #[.int .i64 q.f0, .int .i64 q.f1] ∧ BoxAt (World.setRow x5 gB #[.bool (q.f0 != 0), .int .i64 q.f0, .bool (q.f1 != -1), .int .i64 q.f1]) (w.heap.size + 1 + 1) 25 #[.int .i64 0, .int .i64 0] ∧ Below w.heap.size w (World.setRow x5 gB #[.bool (q.f0 != 0), .int .i64 q.f0, .bool (q.f1 != -1), .int .i64 q.f1]) := ⟨hHeld.1.chg hc1 (by omega), hHeld.2.1.chg hc1 (by omega), hHeld.2.2.1.chg hc1 (by omega), below_setRow hHeld.2.2.2 (by omega) _⟩
              clear hc1
              generalize World.setRow x5 gB #[.bool (q.f0 != 0), .int .i64 q.f0, .bool (q.f1 != -1), .int .i64 q.f1] = x6 at hHeld2 GA GB ⊢
              refine hK.out _ _ hHeld2 (fun hHeld' => ?_)
              clear hHeld2
              clear hK K hHeld
              have hHeld := hHeld'
              clear hHeld'
              try simp only [Act.put, List.setIfInBounds_toArray, List.set_cons_zero, List.set_cons_succ]
              refine wpAnyH_done (by kernel_rfl) ?_ _
              go_wp2_with fail
              go_meet
              exact ⟨gA, gB, rfl, rfl, GA, GB, hHeld.2.2.1, by omega, LA, LB, hHeld.2.2.2⟩
            refine AllReadyH.cons (o := ⟨some 7, _, _, _, _, _⟩) rfl (fun K hK => ?_) ?_
            · skip
              go_simp
              have GB := box_new (x2) 73 #[.bool false, .int .i64 0, .bool false, .int .i64 0]
              have hb1 := (Below.refl (x2).heap.size (x2)).alloc (Nat.le_refl _) (.cells #[.bool false, .int .i64 0, .bool false, .int .i64 0] 73)
              have LB : w.heap.size + 3 ≤ (x2).heap.size := by have := (hHeld.1).lt; have := (hHeld.2.1).lt; have := (hHeld.2.2.1).lt; have := (hHeld.2.2.2).size; omega
              generalize (x2).alloc (.cells #[.bool false, .int .i64 0, .bool false, .int .i64 0] 73) = x3 at hb1 GB  ⊢
              generalize hg : (x2).heap.size = gB at GB LB  ⊢
              clear hg
              refine hK.out _ _ ⟨hHeld.1.new hb1, hHeld.2.1.new hb1, hHeld.2.2.1.new hb1, below_trans hHeld.2.2.2 hb1 (Nat.le_refl _)⟩ (fun hHeld' => ?_)
              clear hK K hHeld hb1
              have hHeld := hHeld'
              clear hHeld'
              try simp only [Act.put, List.setIfInBounds_toArray, List.set_cons_zero, List.set_cons_succ]
              refine wpAnyH_ready (rs := [4]) (by kernel_rfl) (by simp) ?_
              refine AllReadyH.cons (o := ⟨some 6, _, _, _, _, _⟩) rfl (fun K hK => ?_) AllReadyH.nil
              go_simp
              have GA := box_new (x3) 73 #[.bool false, .int .i64 0, .bool false, .int .i64 0]
              have hb1 := (Below.refl (x3).heap.size (x3)).alloc (Nat.le_refl _) (.cells #[.bool false, .int .i64 0, .bool false, .int .i64 0] 73)
              have LA : w.heap.size + 3 ≤ (x3).heap.size := by have := (hHeld.1).lt; have := (hHeld.2.1).lt; have := (hHeld.2.2.1).lt; have := (hHeld.2.2.2).size; omega
              have NBA : gB < (x3).heap.size := GB.lt
              replace GB := GB.new hb1
              generalize (x3).alloc (.cells #[.bool false, .int .i64 0, .bool false, .int .i64 0] 73) = x4 at hb1 GA GB ⊢
              generalize hg : (x3).heap.size = gA at GA LA NBA ⊢
              clear hg
              refine hK.out _ _ ⟨hHeld.1.new hb1, hHeld.2.1.new hb1, hHeld.2.2.1.new hb1, below_trans hHeld.2.2.2 hb1 (Nat.le_refl _)⟩ (fun hHeld' => ?_)
              clear hK K hHeld hb1
              have hHeld := hHeld'
              clear hHeld'
              try simp only [Act.put, List.setIfInBounds_toArray, List.set_cons_zero, List.set_cons_succ]
              refine wpAnyH_ready (rs := [6]) (by kernel_rfl) (by simp) ?_
              refine AllReadyH.cons (o := ⟨none, _, _, _, _, _⟩) rfl (fun K hK => ?_) AllReadyH.nil
              rw [if_pos (by rfl)]
              refine wp_store_row 73 _ _ rfl gA #[.bool (p.f0 != 0), .int .i64 p.f0, .bool (p.f1 != -1), .int .i64 p.f1] rfl rfl 73 _ GA (by kernel_rfl) (by kernel_rfl) (by kernel_rfl) ?_
              replace GB := box_far (cs := #[.bool (p.f0 != 0), .int .i64 p.f0, .bool (p.f1 != -1), .int .i64 p.f1]) (g := gA) GB (by omega)
              replace GA := box_row (cs := #[.bool (p.f0 != 0), .int .i64 p.f0, .bool (p.f1 != -1), .int .i64 p.f1]) GA
              have hc1 := chg_row x4 gA #[.bool (p.f0 != 0), .int .i64 p.f0, .bool (p.f1 != -1), .int .i64 p.f1]
              have hHeld2 : BoxAt (World.setRow x4 gA #[.bool (p.f0 != 0), .int .i64 p.f0, .bool (p.f1 != -1), .int .i64 p.f1]) w.heap.size 25 #[.int .i64 p.f0, .int .i64 p.f1] ∧ BoxAt (World.setRow x4 gA #[.bool (p.f0 != 0), .int .i64 p.f0, .bool (p.f1 != -1), .int .i64 p.f1]) (w.heap.size + 1) 25 #[.int .i64 q.f0, .int .i64 q.f1] ∧ BoxAt (World.setRow x4 gA #[.bool (p.f0 != 0), .int .i64 p.f0, .bool (p.f1 != -1), .int .i64 p.f1]) (w.heap.size + 1 + 1) 25 #[.int .i64 0, .int .i64 0] ∧ Below w.heap.size w (World.setRow x4 gA #[.bool (p.f0 != 0), .int .i64 p.f0, .bool (p.f1 != -1), .int .i64 p.f1]) := ⟨hHeld.1.chg hc1 (by omega), hHeld.2.1.chg hc1 (by omega), hHeld.2.2.1.chg hc1 (by omega), below_setRow hHeld.2.2.2 (by omega) _⟩
              clear hc1
              generalize World.setRow x4 gA #[.bool (p.f0 != 0), .int .i64 p.f0, .bool (p.f1 != -1), .int .i64 p.f1] = x5 at hHeld2 GB GA ⊢
              refine hK.out _ _ hHeld2 (fun hHeld' => ?_)
              clear hHeld2
              clear hK K hHeld
              have hHeld := hHeld'
              clear hHeld'
              try simp only [Act.put, List.setIfInBounds_toArray, List.set_cons_zero, List.set_cons_succ]
              refine wpAnyH_ready (rs := [7]) (by kernel_rfl) (by simp) ?_
              refine AllReadyH.cons (o := ⟨none, _, _, _, _, _⟩) rfl (fun K hK => ?_) AllReadyH.nil
              rw [if_pos (by rfl)]
              refine wp_store_row 73 _ _ rfl gB #[.bool (q.f0 != 0), .int .i64 q.f0, .bool (q.f1 != -1), .int .i64 q.f1] rfl rfl 73 _ GB (by kernel_rfl) (by kernel_rfl) (by kernel_rfl) ?_
              replace GB := box_row (cs := #[.bool (q.f0 != 0), .int .i64 q.f0, .bool (q.f1 != -1), .int .i64 q.f1]) GB
              replace GA := box_far (cs := #[.bool (q.f0 != 0), .int .i64 q.f0, .bool (q.f1 != -1), .int .i64 q.f1]) (g := gB) GA (by omega)
              have hc1 := chg_row x5 gB #[.bool (q.f0 != 0), .int .i64 q.f0, .bool (q.f1 != -1), .int .i64 q.f1]
              have hHeld2 : BoxAt (World.setRow x5 gB #[.bool (q.f0 != 0), .int .i64 q.f0, .bool (q.f1 != -1), .int .i64 q.f1]) w.heap.size 25 #[.int .i64 p.f0, .int .i64 p.f1] ∧ BoxAt (World.setRow x5 gB #[.bool (q.f0 != 0), .int .i64 q.f0, .bool (q.f1 != -1), .int .i64 q.f1]) (w.heap.size + 1) 25 #[.int .i64 q.f0, .int .i64 q.f1] ∧ BoxAt (World.setRow x5 gB #[.bool (q.f0 != 0), .int .i64 q.f0, .bool (q.f1 != -1), .int .i64 q.f1]) (w.heap.size + 1 + 1) 25 #[.int .i64 0, .int .i64 0] ∧ Below w.heap.size w (World.setRow x5 gB #[.bool (q.f0 != 0), .int .i64 q.f0, .bool (q.f1 != -1), .int .i64 q.f1]) := ⟨hHeld.1.chg hc1 (by omega), hHeld.2.1.chg hc1 (by omega), hHeld.2.2.1.chg hc1 (by omega), below_setRow hHeld.2.2.2 (by omega) _⟩
              clear hc1
              generalize World.setRow x5 gB #[.bool (q.f0 != 0), .int .i64 q.f0, .bool (q.f1 != -1), .int .i64 q.f1] = x6 at hHeld2 GB GA ⊢
              refine hK.out _ _ hHeld2 (fun hHeld' => ?_)
              clear hHeld2
              clear hK K hHeld
              have hHeld := hHeld'
              clear hHeld'
              try simp only [Act.put, List.setIfInBounds_toArray, List.set_cons_zero, List.set_cons_succ]
              refine wpAnyH_done (by kernel_rfl) ?_ _
              go_wp2_with fail
              go_meet
              exact ⟨gA, gB, rfl, rfl, GA, GB, hHeld.2.2.1, by omega, LA, LB, hHeld.2.2.2⟩
            exact AllReadyH.nil
          refine AllReadyH.cons (o := ⟨some 6, _, _, _, _, _⟩) rfl (fun K hK => ?_) ?_
          · skip
            go_simp
            have GA := box_new (x1) 73 #[.bool false, .int .i64 0, .bool false, .int .i64 0]
            have hb1 := (Below.refl (x1).heap.size (x1)).alloc (Nat.le_refl _) (.cells #[.bool false, .int .i64 0, .bool false, .int .i64 0] 73)
            have LA : w.heap.size + 3 ≤ (x1).heap.size := by have := (hHeld.1).lt; have := (hHeld.2.1).lt; have := (hHeld.2.2.1).lt; have := (hHeld.2.2.2).size; omega
            generalize (x1).alloc (.cells #[.bool false, .int .i64 0, .bool false, .int .i64 0] 73) = x2 at hb1 GA  ⊢
            generalize hg : (x1).heap.size = gA at GA LA  ⊢
            clear hg
            refine hK.out _ _ ⟨hHeld.1.new hb1, hHeld.2.1.new hb1, hHeld.2.2.1.new hb1, below_trans hHeld.2.2.2 hb1 (Nat.le_refl _)⟩ (fun hHeld' => ?_)
            clear hK K hHeld hb1
            have hHeld := hHeld'
            clear hHeld'
            try simp only [Act.put, List.setIfInBounds_toArray, List.set_cons_zero, List.set_cons_succ]
            refine wpAnyH_ready (rs := [3, 5]) (by kernel_rfl) (by simp) ?_
            refine AllReadyH.cons (o := ⟨some 20, _, _, _, _, _⟩) rfl (fun K hK => ?_) ?_
            · skip
              go_simp
              refine Calls.mono (impl_scopeOf q _) ?_
              rintro e x3 ⟨rfl, hb1⟩
              replace GA := GA.new hb1
              refine hK.out _ _ ⟨hHeld.1.new hb1, hHeld.2.1.new hb1, hHeld.2.2.1.new hb1, below_trans hHeld.2.2.2 hb1 (Nat.le_refl _)⟩ (fun hHeld' => ?_)
              clear hK K hHeld hb1
              have hHeld := hHeld'
              clear hHeld'
              try simp only [Act.put, List.setIfInBounds_toArray, List.set_cons_zero, List.set_cons_succ]
              refine wpAnyH_ready (rs := [5]) (by kernel_rfl) (by simp) ?_
              refine AllReadyH.cons (o := ⟨some 7, _, _, _, _, _⟩) rfl (fun K hK => ?_) AllReadyH.nil
              go_simp
              have GB := box_new (x3) 73 #[.bool false, .int .i64 0, .bool false, .int .i64 0]
              have hb1 := (Below.refl (x3).heap.size (x3)).alloc (Nat.le_refl _) (.cells #[.bool false, .int .i64 0, .bool false, .int .i64 0] 73)
              have LB : w.heap.size + 3 ≤ (x3).heap.size := by have := (hHeld.1).lt; have := (hHeld.2.1).lt; have := (hHeld.2.2.1).lt; have := (hHeld.2.2.2).size; omega
              have NAB : gA < (x3).heap.size := GA.lt
              replace GA := GA.new hb1
              generalize (x3).alloc (.cells #[.bool false, .int .i64 0, .bool false, .int .i64 0] 73) = x4 at hb1 GB GA ⊢
              generalize hg : (x3).heap.size = gB at GB LB NAB ⊢
              clear hg
              refine hK.out _ _ ⟨hHeld.1.new hb1, hHeld.2.1.new hb1, hHeld.2.2.1.new hb1, below_trans hHeld.2.2.2 hb1 (Nat.le_refl _)⟩ (fun hHeld' => ?_)
              clear hK K hHeld hb1
              have hHeld := hHeld'
              clear hHeld'
              try simp only [Act.put, List.setIfInBounds_toArray, List.set_cons_zero, List.set_cons_succ]
              refine wpAnyH_ready (rs := [6]) (by kernel_rfl) (by simp) ?_
              refine AllReadyH.cons (o := ⟨none, _, _, _, _, _⟩) rfl (fun K hK => ?_) AllReadyH.nil
              rw [if_pos (by rfl)]
              refine wp_store_row 73 _ _ rfl gA #[.bool (p.f0 != 0), .int .i64 p.f0, .bool (p.f1 != -1), .int .i64 p.f1] rfl rfl 73 _ GA (by kernel_rfl) (by kernel_rfl) (by kernel_rfl) ?_
              replace GA := box_row (cs := #[.bool (p.f0 != 0), .int .i64 p.f0, .bool (p.f1 != -1), .int .i64 p.f1]) GA
              replace GB := box_far (cs := #[.bool (p.f0 != 0), .int .i64 p.f0, .bool (p.f1 != -1), .int .i64 p.f1]) (g := gA) GB (by omega)
              have hc1 := chg_row x4 gA #[.bool (p.f0 != 0), .int .i64 p.f0, .bool (p.f1 != -1), .int .i64 p.f1]
              have hHeld2 : BoxAt (World.setRow x4 gA #[.bool (p.f0 != 0), .int .i64 p.f0, .bool (p.f1 != -1), .int .i64 p.f1]) w.heap.size 25 #[.int .i64 p.f0, .int .i64 p.f1] ∧ BoxAt (World.setRow x4 gA #[.bool (p.f0 != 0), .int .i64 p.f0, .bool (p.f1 != -1), .int .i64 p.f1]) (w.heap.size + 1) 25 #[.int .i64 q.f0, .int .i64 q.f1] ∧ BoxAt (World.setRow x4 gA #[.bool (p.f0 != 0), .int .i64 p.f0, .bool (p.f1 != -1), .int .i64 p.f1]) (w.heap.size + 1 + 1) 25 #[.int .i64 0, .int .i64 0] ∧ Below w.heap.size w (World.setRow x4 gA #[.bool (p.f0 != 0), .int .i64 p.f0, .bool (p.f1 != -1), .int .i64 p.f1]) := ⟨hHeld.1.chg hc1 (by omega), hHeld.2.1.chg hc1 (by omega), hHeld.2.2.1.chg hc1 (by omega), below_setRow hHeld.2.2.2 (by omega) _⟩
              clear hc1
              generalize World.setRow x4 gA #[.bool (p.f0 != 0), .int .i64 p.f0, .bool (p.f1 != -1), .int .i64 p.f1] = x5 at hHeld2 GA GB ⊢
              refine hK.out _ _ hHeld2 (fun hHeld' => ?_)
              clear hHeld2
              clear hK K hHeld
              have hHeld := hHeld'
              clear hHeld'
              try simp only [Act.put, List.setIfInBounds_toArray, List.set_cons_zero, List.set_cons_succ]
              refine wpAnyH_ready (rs := [7]) (by kernel_rfl) (by simp) ?_
              refine AllReadyH.cons (o := ⟨none, _, _, _, _, _⟩) rfl (fun K hK => ?_) AllReadyH.nil
              rw [if_pos (by rfl)]
              refine wp_store_row 73 _ _ rfl gB #[.bool (q.f0 != 0), .int .i64 q.f0, .bool (q.f1 != -1), .int .i64 q.f1] rfl rfl 73 _ GB (by kernel_rfl) (by kernel_rfl) (by kernel_rfl) ?_
              replace GA := box_far (cs := #[.bool (q.f0 != 0), .int .i64 q.f0, .bool (q.f1 != -1), .int .i64 q.f1]) (g := gB) GA (by omega)
              replace GB := box_row (cs := #[.bool (q.f0 != 0), .int .i64 q.f0, .bool (q.f1 != -1), .int .i64 q.f1]) GB
              have hc1 := chg_row x5 gB #[.bool (q.f0 != 0), .int .i64 q.f0, .bool (q.f1 != -1), .int .i64 q.f1]
              have hHeld2 : BoxAt (World.setRow x5 gB #[.bool (q.f0 != 0), .int .i64 q.f0, .bool (q.f1 != -1), .int .i64 q.f1]) w.heap.size 25 #[.int .i64 p.f0, .int .i64 p.f1] ∧ BoxAt (World.setRow x5 gB #[.bool (q.f0 != 0), .int .i64 q.f0, .bool (q.f1 != -1), .int .i64 q.f1]) (w.heap.size + 1) 25 #[.int .i64 q.f0, .int .i64 q.f1] ∧ BoxAt (World.setRow x5 gB #[.bool (q.f0 != 0), .int .i64 q.f0, .bool (q.f1 != -1), .int .i64 q.f1]) (w.heap.size + 1 + 1) 25 #[.int .i64 0, .int .i64 0] ∧ Below w.heap.size w (World.setRow x5 gB #[.bool (q.f0 != 0), .int .i64 q.f0, .bool (q.f1 != -1), .int .i64 q.f1]) := ⟨hHeld.1.chg hc1 (by omega), hHeld.2.1.chg hc1 (by omega), hHeld.2.2.1.chg hc1 (by omega), below_setRow hHeld.2.2.2 (by omega) _⟩
              clear hc1
              generalize World.setRow x5 gB #[.bool (q.f0 != 0), .int .i64 q.f0, .bool (q.f1 != -1), .int .i64 q.f1] = x6 at hHeld2 GA GB ⊢
              refine hK.out _ _ hHeld2 (fun hHeld' => ?_)
              clear hHeld2
              clear hK K hHeld
              have hHeld := hHeld'
              clear hHeld'
              try simp only [Act.put, List.setIfInBounds_toArray, List.set_cons_zero, List.set_cons_succ]
              refine wpAnyH_done (by kernel_rfl) ?_ _
              go_wp2_with fail
              go_meet
              exact ⟨gA, gB, rfl, rfl, GA, GB, hHeld.2.2.1, by omega, LA, LB, hHeld.2.2.2⟩
            refine AllReadyH.cons (o := ⟨some 7, _, _, _, _, _⟩) rfl (fun K hK => ?_) ?_
            · skip
              go_simp
              have GB := box_new (x2) 73 #[.bool false, .int .i64 0, .bool false, .int .i64 0]
              have hb1 := (Below.refl (x2).heap.size (x2)).alloc (Nat.le_refl _) (.cells #[.bool false, .int .i64 0, .bool false, .int .i64 0] 73)
              have LB : w.heap.size + 3 ≤ (x2).heap.size := by have := (hHeld.1).lt; have := (hHeld.2.1).lt; have := (hHeld.2.2.1).lt; have := (hHeld.2.2.2).size; omega
              have NAB : gA < (x2).heap.size := GA.lt
              replace GA := GA.new hb1
              generalize (x2).alloc (.cells #[.bool false, .int .i64 0, .bool false, .int .i64 0] 73) = x3 at hb1 GB GA ⊢
              generalize hg : (x2).heap.size = gB at GB LB NAB ⊢
              clear hg
              refine hK.out _ _ ⟨hHeld.1.new hb1, hHeld.2.1.new hb1, hHeld.2.2.1.new hb1, below_trans hHeld.2.2.2 hb1 (Nat.le_refl _)⟩ (fun hHeld' => ?_)
              clear hK K hHeld hb1
              have hHeld := hHeld'
              clear hHeld'
              try simp only [Act.put, List.setIfInBounds_toArray, List.set_cons_zero, List.set_cons_succ]
              refine wpAnyH_ready (rs := [3]) (by kernel_rfl) (by simp) ?_
              refine AllReadyH.cons (o := ⟨some 20, _, _, _, _, _⟩) rfl (fun K hK => ?_) AllReadyH.nil
              go_simp
              refine Calls.mono (impl_scopeOf q _) ?_
              rintro e x4 ⟨rfl, hb1⟩
              replace GA := GA.new hb1
              replace GB := GB.new hb1
              refine hK.out _ _ ⟨hHeld.1.new hb1, hHeld.2.1.new hb1, hHeld.2.2.1.new hb1, below_trans hHeld.2.2.2 hb1 (Nat.le_refl _)⟩ (fun hHeld' => ?_)
              clear hK K hHeld hb1
              have hHeld := hHeld'
              clear hHeld'
              try simp only [Act.put, List.setIfInBounds_toArray, List.set_cons_zero, List.set_cons_succ]
              refine wpAnyH_ready (rs := [6]) (by kernel_rfl) (by simp) ?_
              refine AllReadyH.cons (o := ⟨none, _, _, _, _, _⟩) rfl (fun K hK => ?_) AllReadyH.nil
              rw [if_pos (by rfl)]
              refine wp_store_row 73 _ _ rfl gA #[.bool (p.f0 != 0), .int .i64 p.f0, .bool (p.f1 != -1), .int .i64 p.f1] rfl rfl 73 _ GA (by kernel_rfl) (by kernel_rfl) (by kernel_rfl) ?_
              replace GA := box_row (cs := #[.bool (p.f0 != 0), .int .i64 p.f0, .bool (p.f1 != -1), .int .i64 p.f1]) GA
              replace GB := box_far (cs := #[.bool (p.f0 != 0), .int .i64 p.f0, .bool (p.f1 != -1), .int .i64 p.f1]) (g := gA) GB (by omega)
              have hc1 := chg_row x4 gA #[.bool (p.f0 != 0), .int .i64 p.f0, .bool (p.f1 != -1), .int .i64 p.f1]
              have hHeld2 : BoxAt (World.setRow x4 gA #[.bool (p.f0 != 0), .int .i64 p.f0, .bool (p.f1 != -1), .int .i64 p.f1]) w.heap.size 25 #[.int .i64 p.f0, .int .i64 p.f1] ∧ BoxAt (World.setRow x4 gA #[.bool (p.f0 != 0), .int .i64 p.f0, .bool (p.f1 != -1), .int .i64 p.f1]) (w.heap.size + 1) 25 #[.int .i64 q.f0, .int .i64 q.f1] ∧ BoxAt (World.setRow x4 gA #[.bool (p.f0 != 0), .int .i64 p.f0, .bool (p.f1 != -1), .int .i64 p.f1]) (w.heap.size + 1 + 1) 25 #[.int .i64 0, .int .i64 0] ∧ Below w.heap.size w (World.setRow x4 gA #[.bool (p.f0 != 0), .int .i64 p.f0, .bool (p.f1 != -1), .int .i64 p.f1]) := ⟨hHeld.1.chg hc1 (by omega), hHeld.2.1.chg hc1 (by omega), hHeld.2.2.1.chg hc1 (by omega), below_setRow hHeld.2.2.2 (by omega) _⟩
              clear hc1
              generalize World.setRow x4 gA #[.bool (p.f0 != 0), .int .i64 p.f0, .bool (p.f1 != -1), .int .i64 p.f1] = x5 at hHeld2 GA GB ⊢
              refine hK.out _ _ hHeld2 (fun hHeld' => ?_)
              clear hHeld2
              clear hK K hHeld
              have hHeld := hHeld'
              clear hHeld'
              try simp only [Act.put, List.setIfInBounds_toArray, List.set_cons_zero, List.set_cons_succ]
              refine wpAnyH_ready (rs := [7]) (by kernel_rfl) (by simp) ?_
              refine AllReadyH.cons (o := ⟨none, _, _, _, _, _⟩) rfl (fun K hK => ?_) AllReadyH.nil
              rw [if_pos (by rfl)]
              refine wp_store_row 73 _ _ rfl gB #[.bool (q.f0 != 0), .int .i64 q.f0, .bool (q.f1 != -1), .int .i64 q.f1] rfl rfl 73 _ GB (by kernel_rfl) (by kernel_rfl) (by kernel_rfl) ?_
              replace GA := box_far (cs := #[.bool (q.f0 != 0), .int .i64 q.f0, .bool (q.f1 != -1), .int .i64 q.f1]) (g := gB) GA (by omega)
              replace GB := box_row (cs := #[.bool (q.f0 != 0), .int .i64 q.f0, .bool (q.f1 != -1), .int .i64 q.f1]) GB
              have hc1 := chg_row x5 gB #[.bool (q.f0 != 0), .int .i64 q.f0, .bool (q.f1 != -1), .int .i64 q.f1]
              have hHeld2 : BoxAt (World.setRow x5 gB #[.bool (q.f0 != 0), .int .i64 q.f0, .bool (q.f1 != -1), .int .i64 q.f1]) w.heap.size 25 #[.int .i64 p.f0, .int .i64 p.f1] ∧ BoxAt (World.setRow x5 gB #[.bool (q.f0 != 0), .int .i64 q.f0, .bool (q.f1 != -1), .int .i64 q.f1]) (w.heap.size + 1) 25 #[.int .i64 q.f0, .int .i64 q.f1] ∧ BoxAt (World.setRow x5 gB #[.bool (q.f0 != 0), .int .i64 q.f0, .bool (q.f1 != -1), .int .i64 q.f1]) (w.heap.size + 1 + 1) 25 #[.int .i64 0, .int .i64 0] ∧ Below w.heap.size w (World.setRow x5 gB #[.bool (q.f0 != 0), .int .i64 q.f0, .bool (q.f1 != -1), .int .i64 q.f1]) := ⟨hHeld.1.chg hc1 (by omega), hHeld.2.1.chg hc1 (by omega), hHeld.2.2.1.chg hc1 (by omega), below_setRow hHeld.2.2.2 (by omega) _⟩
              clear hc1
              generalize World.setRow x5 gB #[.bool (q.f0 != 0), .int .i64 q.f0, .bool (q.f1 != -1), .int .i64 q.f1] = x6 at hHeld2 GA GB ⊢
              refine hK.out _ _ hHeld2 (fun hHeld' => ?_)
              clear hHeld2
              clear hK K hHeld
              have hHeld := hHeld'
              clear hHeld'
              try simp only [Act.put, List.setIfInBounds_toArray, List.set_cons_zero, List.set_cons_succ]
              refine wpAnyH_done (by kernel_rfl) ?_ _
              go_wp2_with fail
              go_meet
              exact ⟨gA, gB, rfl, rfl, GA, GB, hHeld.2.2.1, by omega, LA, LB, hHeld.2.2.2⟩
            exact AllReadyH.nil
          refine AllReadyH.cons (o := ⟨some 7, _, _, _, _, _⟩) rfl (fun K hK => ?_) ?_
          · skip
            go_simp
            have GB := box_new (x1) 73 #[.bool false, .int .i64 0, .bool false, .int .i64 0]
            have hb1 := (Below.refl (x1).heap.size (x1)).alloc (Nat.le_refl _) (.cells #[.bool false, .int .i64 0, .bool false, .int .i64 0] 73)
            have LB : w.heap.size + 3 ≤ (x1).heap.size := by have := (hHeld.1).lt; have := (hHeld.2.1).lt; have := (hHeld.2.2.1).lt; have := (hHeld.2.2.2).size; omega
            generalize (x1).alloc (.cells #[.bool false, .int .i64 0, .bool false, .int .i64 0] 73) = x2 at hb1 GB  ⊢
            generalize hg : (x1).heap.size = gB at GB LB  ⊢
            clear hg
            refine hK.out _ _ ⟨hHeld.1.new hb1, hHeld.2.1.new hb1, hHeld.2.2.1.new hb1, below_trans hHeld.2.2.2 hb1 (Nat.le_refl _)⟩ (fun hHeld' => ?_)
            clear hK K hHeld hb1
            have hHeld := hHeld'
            clear hHeld'
            try simp only [Act.put, List.setIfInBounds_toArray, List.set_cons_zero, List.set_cons_succ]
            refine wpAnyH_ready (rs := [3, 4]) (by kernel_rfl) (by simp) ?_
            refine AllReadyH.cons (o := ⟨some 20, _, _, _, _, _⟩) rfl (fun K hK => ?_) ?_
            · skip
              go_simp
              refine Calls.mono (impl_scopeOf q _) ?_
              rintro e x3 ⟨rfl, hb1⟩
              replace GB := GB.new hb1
              refine hK.out _ _ ⟨hHeld.1.new hb1, hHeld.2.1.new hb1, hHeld.2.2.1.new hb1, below_trans hHeld.2.2.2 hb1 (Nat.le_refl _)⟩ (fun hHeld' => ?_)
              clear hK K hHeld hb1
              have hHeld := hHeld'
              clear hHeld'
              try simp only [Act.put, List.setIfInBounds_toArray, List.set_cons_zero, List.set_cons_succ]
              refine wpAnyH_ready (rs := [4]) (by kernel_rfl) (by simp) ?_
              refine AllReadyH.cons (o := ⟨some 6, _, _, _, _, _⟩) rfl (fun K hK => ?_) AllReadyH.nil
              go_simp
              have GA := box_new (x3) 73 #[.bool false, .int .i64 0, .bool false, .int .i64 0]
              have hb1 := (Below.refl (x3).heap.size (x3)).alloc (Nat.le_refl _) (.cells #[.bool false, .int .i64 0, .bool false, .int .i64 0] 73)
              have LA : w.heap.size + 3 ≤ (x3).heap.size := by have := (hHeld.1).lt; have := (hHeld.2.1).lt; have := (hHeld.2.2.1).lt; have := (hHeld.2.2.2).size; omega
              have NBA : gB < (x3).heap.size := GB.lt
              replace GB := GB.new hb1
              generalize (x3).alloc (.cells #[.bool false, .int .i64 0, .bool false, .int .i64 0] 73) = x4 at hb1 GA GB ⊢
              generalize hg : (x3).heap.size = gA at GA LA NBA ⊢
              clear hg
              refine hK.out _ _ ⟨hHeld.1.new hb1, hHeld.2.1.new hb1, hHeld.2.2.1.new hb1, below_trans hHeld.2.2.2 hb1 (Nat.le_refl _)⟩ (fun hHeld' => ?_)
              clear hK K hHeld hb1
              have hHeld := hHeld'
              clear hHeld'
              try simp only [Act.put, List.setIfInBounds_toArray, List.set_cons_zero, List.set_cons_succ]
              refine wpAnyH_ready (rs := [6]) (by kernel_rfl) (by simp) ?_
              refine AllReadyH.cons (o := ⟨none, _, _, _, _, _⟩) rfl (fun K hK => ?_) AllReadyH.nil
              rw [if_pos (by rfl)]
              refine wp_store_row 73 _ _ rfl gA #[.bool (p.f0 != 0), .int .i64 p.f0, .bool (p.f1 != -1), .int .i64 p.f1] rfl rfl 73 _ GA (by kernel_rfl) (by kernel_rfl) (by kernel_rfl) ?_
              replace GB := box_far (cs := #[.bool (p.f0 != 0), .int .i64 p.f0, .bool (p.f1 != -1), .int .i64 p.f1]) (g := gA) GB (by omega)
              replace GA := box_row (cs := #[.bool (p.f0 != 0), .int .i64 p.f0, .bool (p.f1 != -1), .int .i64 p.f1]) GA
              have hc1 := chg_row x4 gA #[.bool (p.f0 != 0), .int .i64 p.f0, .bool (p.f1 != -1), .int .i64 p.f1]
              have hHeld2 : BoxAt (World.setRow x4 gA #[.bool (p.f0 != 0), .int .i64 p.f0, .bool (p.f1 != -1), .int .i64 p.f1]) w.heap.size 25 #[.int .i64 p.f0, .int .i64 p.f1] ∧ BoxAt (World.setRow x4 gA #[.bool (p.f0 != 0), .int .i64 p.f0, .bool (p.f1 != -1), .int .i64 p.f1]) (w.heap.size + 1) 25 #[.int .i64 q.f0, .int .i64 q.f1] ∧ BoxAt (World.setRow x4 gA #[.bool (p.f0 != 0), .int .i64 p.f0, .bool (p.f1 != -1), .int .i64 p.f1]) (w.heap.size + 1 + 1) 25 #[.int .i64 0, .int .i64 0] ∧ Below w.heap.size w (World.setRow x4 gA #[.bool (p.f0 != 0), .int .i64 p.f0, .bool (p.f1 != -1), .int .i64 p.f1]) := ⟨hHeld.1.chg hc1 (by omega), hHeld.2.1.chg hc1 (by omega), hHeld.2.2.1.chg hc1 (by omega), below_setRow hHeld.2.2.2 (by omega) _⟩
              clear hc1
              generalize World.setRow x4 gA #[.bool (p.f0 != 0), .int .i64 p.f0, .bool (p.f1 != -1), .int .i64 p.f1] = x5 at hHeld2 GB GA ⊢
              refine hK.out _ _ hHeld2 (fun hHeld' => ?_)
              clear hHeld2
              clear hK K hHeld
              have hHeld := hHeld'
              clear hHeld'
              try simp only [Act.put, List.setIfInBounds_toArray, List.set_cons_zero, List.set_cons_succ]
              refine wpAnyH_ready (rs := [7]) (by kernel_rfl) (by simp) ?_
              refine AllReadyH.cons (o := ⟨none, _, _, _, _, _⟩) rfl (fun K hK => ?_) AllReadyH.nil
              rw [if_pos (by rfl)]
              refine wp_store_row 73 _ _ rfl gB #[.bool (q.f0 != 0), .int .i64 q.f0, .bool (q.f1 != -1), .int .i64 q.f1] rfl rfl 73 _ GB (by kernel_rfl) (by kernel_rfl) (by kernel_rfl) ?_
              replace GB := box_row (cs := #[.bool (q.f0 != 0), .int .i64 q.f0, .bool (q.f1 != -1), .int .i64 q.f1]) GB
              replace GA := box_far (cs := #[.bool (q.f0 != 0), .int .i64 q.f0, .bool (q.f1 != -1), .int .i64 q.f1]) (g := gB) GA (by omega)
              have hc1 := chg_row x5 gB #[.bool (q.f0 != 0), .int .i64 q.f0, .bool (q.f1 != -1), .int .i64 q.f1]
              have hHeld2 : BoxAt (World.setRow x5 gB #[.bool (q.f0 != 0), .int .i64 q.f0, .bool (q.f1 != -1), .int .i64 q.f1]) w.heap.size 25 #[.int .i64 p.f0, .int .i64 p.f1] ∧ BoxAt (World.setRow x5 gB #[.bool (q.f0 != 0), .int .i64 q.f0, .bool (q.f1 != -1), .int .i64 q.f1]) (w.heap.size + 1) 25 #[.int .i64 q.f0, .int .i64 q.f1] ∧ BoxAt (World.setRow x5 gB #[.bool (q.f0 != 0), .int .i64 q.f0, .bool (q.f1 != -1), .int .i64 q.f1]) (w.heap.size + 1 + 1) 25 #[.int .i64 0, .int .i64 0] ∧ Below w.heap.size w (World.setRow x5 gB #[.bool (q.f0 != 0), .int .i64 q.f0, .bool (q.f1 != -1), .int .i64 q.f1]) := ⟨hHeld.1.chg hc1 (by omega), hHeld.2.1.chg hc1 (by omega), hHeld.2.2.1.chg hc1 (by omega), below_setRow hHeld.2.2.2 (by omega) _⟩
              clear hc1
              generalize World.setRow x5 gB #[.bool (q.f0 != 0), .int .i64 q.f0, .bool (q.f1 != -1), .int .i64 q.f1] = x6 at hHeld2 GB GA ⊢
              refine hK.out _ _ hHeld2 (fun hHeld' => ?_)
              clear hHeld2
              clear hK K hHeld
              have hHeld := hHeld'
              clear hHeld'
              try simp only [Act.put, List.setIfInBounds_toArray, List.set_cons_zero, List.set_cons_succ]
              refine wpAnyH_done (by kernel_rfl) ?_ _
              go_wp2_with fail
              go_meet
              exact ⟨gA, gB, rfl, rfl, GA, GB, hHeld.2.2.1, by omega, LA, LB, hHeld.2.2.2⟩
            refine AllReadyH.cons (o := ⟨some 6, _, _, _, _, _⟩) rfl (fun K hK => ?_) ?_
            · skip
              go_simp
              have GA := box_new (x2) 73 #[.bool false, .int .i64 0, .bool false, .int .i64 0]
              have hb1 := (Below.refl (x2).heap.size (x2)).alloc (Nat.le_refl _) (.cells #[.bool false, .int .i64 0, .bool false, .int .i64 0] 73)
              have LA : w.heap.size + 3 ≤ (x2).heap.size := by have := (hHeld.1).lt; have := (hHeld.2.1).lt; have := (hHeld.2.2.1).lt; have := (hHeld.2.2.2).size; omega
              have NBA : gB < (x2).heap.size := GB.lt
              replace GB := GB.new hb1
              generalize (x2).alloc (.cells #[.bool false, .int .i64 0, .bool false, .int .i64 0] 73) = x3 at hb1 GA GB ⊢
              generalize hg : (x2).heap.size = gA at GA LA NBA ⊢
              clear hg
              refine hK.out _ _ ⟨hHeld.1.new hb1, hHeld.2.1.new hb1, hHeld.2.2.1.new hb1, below_trans hHeld.2.2.2 hb1 (Nat.le_refl _)⟩ (fun hHeld' => ?_)
              clear hK K hHeld hb1
              have hHeld := hHeld'
              clear hHeld'
              try simp only [Act.put, List.setIfInBounds_toArray, List.set_cons_zero, List.set_cons_succ]
              refine wpAnyH_ready (rs := [3]) (by kernel_rfl) (by simp) ?_
              refine AllReadyH.cons (o := ⟨some 20, _, _, _, _, _⟩) rfl (fun K hK => ?_) AllReadyH.nil
              go_simp
              refine Calls.mono (impl_scopeOf q _) ?_
              rintro e x4 ⟨rfl, hb1⟩
              replace GB := GB.new hb1
              replace GA := GA.new hb1
              refine hK.out _ _ ⟨hHeld.1.new hb1, hHeld.2.1.new hb1, hHeld.2.2.1.new hb1, below_trans hHeld.2.2.2 hb1 (Nat.le_refl _)⟩ (fun hHeld' => ?_)
              clear hK K hHeld hb1
              have hHeld := hHeld'
              clear hHeld'
              try simp only [Act.put, List.setIfInBounds_toArray, List.set_cons_zero, List.set_cons_succ]
              refine wpAnyH_ready (rs := [6]) (by kernel_rfl) (by simp) ?_
              refine AllReadyH.cons (o := ⟨none, _, _, _, _, _⟩) rfl (fun K hK => ?_) AllReadyH.nil
              rw [if_pos (by rfl)]
              refine wp_store_row 73 _ _ rfl gA #[.bool (p.f0 != 0), .int .i64 p.f0, .bool (p.f1 != -1), .int .i64 p.f1] rfl rfl 73 _ GA (by kernel_rfl) (by kernel_rfl) (by kernel_rfl) ?_
              replace GB := box_far (cs := #[.bool (p.f0 != 0), .int .i64 p.f0, .bool (p.f1 != -1), .int .i64 p.f1]) (g := gA) GB (by omega)
              replace GA := box_row (cs := #[.bool (p.f0 != 0), .int .i64 p.f0, .bool (p.f1 != -1), .int .i64 p.f1]) GA
              have hc1 := chg_row x4 gA #[.bool (p.f0 != 0), .int .i64 p.f0, .bool (p.f1 != -1), .int .i64 p.f1]
              have hHeld2 : BoxAt (World.setRow x4 gA #[.bool (p.f0 != 0), .int .i64 p.f0, .bool (p.f1 != -1), .int .i64 p.f1]) w.heap.size 25 #[.int .i64 p.f0, .int .i64 p.f1] ∧ BoxAt (World.setRow x4 gA #[.bool (p.f0 != 0), .int .i64 p.f0, .bool (p.f1 != -1), .int .i64 p.f1]) (w.heap.size + 1) 25 #[.int .i64 q.f0, .int .i64 q.f1] ∧ BoxAt (World.setRow x4 gA #[.bool (p.f0 != 0), .int .i64 p.f0, .bool (p.f1 != -1), .int .i64 p.f1]) (w.heap.size + 1 + 1) 25 #[.int .i64 0, .int .i64 0] ∧ Below w.heap.size w (World.setRow x4 gA #[.bool (p.f0 != 0), .int .i64 p.f0, .bool (p.f1 != -1), .int .i64 p.f1]) := ⟨hHeld.1.chg hc1 (by omega), hHeld.2.1.chg hc1 (by omega), hHeld.2.2.1.chg hc1 (by omega), below_setRow hHeld.2.2.2 (by omega) _⟩
              clear hc1
              generalize World.setRow x4 gA #[.bool (p.f0 != 0), .int .i64 p.f0, .bool (p.f1 != -1), .int .i64 p.f1] = x5 at hHeld2 GB GA ⊢
              refine hK.out _ _ hHeld2 (fun hHeld' => ?_)
              clear hHeld2
              clear hK K hHeld
              have hHeld := hHeld'
              clear hHeld'
              try simp only [Act.put, List.setIfInBounds_toArray, List.set_cons_zero, List.set_cons_succ]
              refine wpAnyH_ready (rs := [7]) (by kernel_rfl) (by simp) ?_
              refine AllReadyH.cons (o := ⟨none, _, _, _, _, _⟩) rfl (fun K hK => ?_) AllReadyH.nil
              rw [if_pos (by rfl)]
              refine wp_store_row 73 _ _ rfl gB #[.bool (q.f0 != 0), .int .i64 q.f0, .bool (q.f1 != -1), .int .i64 q.f1] rfl rfl 73 _ GB (by kernel_rfl) (by kernel_rfl) (by kernel_rfl) ?_
              replace GB := box_row (cs := #[.bool (q.f0 != 0), .int .i64 q.f0, .bool (q.f1 != -1), .int .i64 q.f1]) GB
              replace GA := box_far (cs := #[.bool (q.f0 != 0), .int .i64 q.f0, .bool (q.f1 != -1), .int .i64 q.f1]) (g := gB) GA (by omega)
              have hc1 := chg_row x5 gB #[.bool (q.f0 != 0), .int .i64 q.f0, .bool (q.f1 != -1), .int .i64 q.f1]
              have hHeld2 : BoxAt (World.setRow x5 gB #[.bool (q.f0 != 0), .int .i64 q.f0, .bool (q.f1 != -1), .int .i64 q.f1]) w.heap.size 25 #[.int .i64 p.f0, .int .i64 p.f1] ∧ BoxAt (World.setRow x5 gB #[.bool (q.f0 != 0), .int .i64 q.f0, .bool (q.f1 != -1), .int .i64 q.f1]) (w.heap.size + 1) 25 #[.int .i64 q.f0, .int .i64 q.f1] ∧ BoxAt (World.setRow x5 gB #[.bool (q.f0 != 0), .int .i64 q.f0, .bool (q.f1 != -1), .int .i64 q.f1]) (w.heap.size + 1 + 1) 25 #[.int .i64 0, .int .i64 0] ∧ Below w.heap.size w (World.setRow x5 gB #[.bool (q.f0 != 0), .int .i64 q.f0, .bool (q.f1 != -1), .int .i64 q.f1]) := ⟨hHeld.1.chg hc1 (by omega), hHeld.2.1.chg hc1 (by omega), hHeld.2.2.1.chg hc1 (by omega), below_setRow hHeld.2.2.2 (by omega) _⟩
              clear hc1
              generalize World.setRow x5 gB #[.bool (q.f0 != 0), .int .i64 q.f0, .bool (q.f1 != -1), .int .i64 q.f1] = x6 at hHeld2 GB GA ⊢
              refine hK.out _ _ hHeld2 (fun hHeld' => ?_)
              clear hHeld2
              clear hK K hHeld
              have hHeld := hHeld'
              clear hHeld'
              try simp only [Act.put, List.setIfInBounds_toArray, List.set_cons_zero, List.set_cons_succ]
              refine wpAnyH_done (by kernel_rfl) ?_ _
              go_wp2_with fail
              go_meet
              exact ⟨gA, gB, rfl, rfl, GA, GB, hHeld.2.2.1, by omega, LA, LB, hHeld.2.2.2⟩
            exact AllReadyH.nil
          exact AllReadyH.nil
        refine AllReadyH.cons (o := ⟨some 6, _, _, _, _, _⟩) rfl (fun K hK => ?_) ?_
        · skip
          go_simp
          have GA := box_new (x0) 73 #[.bool false, .int .i64 0, .bool false, .int .i64 0]
          have hb1 := (Below.refl (x0).heap.size (x0)).alloc (Nat.le_refl _) (.cells #[.bool false, .int .i64 0, .bool false, .int .i64 0] 73)
          have LA : w.heap.size + 3 ≤ (x0).heap.size := by have := (hHeld.1).lt; have := (hHeld.2.1).lt; have := (hHeld.2.2.1).lt; have := (hHeld.2.2.2).size; omega
          generalize (x0).alloc (.cells #[.bool false, .int .i64 0, .bool false, .int .i64 0] 73) = x1 at hb1 GA  ⊢
          generalize hg : (x0).heap.size = gA at GA LA  ⊢
          clear hg
          refine hK.out _ _ ⟨hHeld.1.new hb1, hHeld.2.1.new hb1, hHeld.2.2.1.new hb1, below_trans hHeld.2.2.2 hb1 (Nat.le_refl _)⟩ (fun hHeld' => ?_)
          clear hK K hHeld hb1
          have hHeld := hHeld'
          clear hHeld'
          try simp only [Act.put, List.setIfInBounds_toArray, List.set_cons_zero, List.set_cons_succ]
          refine wpAnyH_ready (rs := [1, 5]) (by kernel_rfl) (by simp) ?_
          refine AllReadyH.cons (o := ⟨some 18, _, _, _, _, _⟩) rfl (fun K hK => ?_) ?_
          · skip
            go_simp
            refine Calls.mono (impl_scopeOf p _) ?_
            rintro e x2 ⟨rfl, hb1⟩
            replace GA := GA.new hb1
            refine hK.out _ _ ⟨hHeld.1.new hb1, hHeld.2.1.new hb1, hHeld.2.2.1.new hb1, below_trans hHeld.2.2.2 hb1 (Nat.le_refl _)⟩ (fun hHeld' => ?_)
            clear hK K hHeld hb1
            have hHeld := hHeld'
            clear hHeld'
            try simp only [Act.put, List.setIfInBounds_toArray, List.set_cons_zero, List.set_cons_succ]
            refine wpAnyH_ready (rs := [3, 5]) (by kernel_rfl) (by simp) ?_
            refine AllReadyH.cons (o := ⟨some 20, _, _, _, _, _⟩) rfl (fun K hK => ?_) ?_
            · skip
              go_simp
              refine Calls.mono (impl_scopeOf q _) ?_
              rintro e x3 ⟨rfl, hb1⟩
              replace GA := GA.new hb1
              refine hK.out _ _ ⟨hHeld.1.new hb1, hHeld.2.1.new hb1, hHeld.2.2.1.new hb1, below_trans hHeld.2.2.2 hb1 (Nat.le_refl _)⟩ (fun hHeld' => ?_)
              clear hK K hHeld hb1
              have hHeld := hHeld'
              clear hHeld'
              try simp only [Act.put, List.setIfInBounds_toArray, List.set_cons_zero, List.set_cons_succ]
              refine wpAnyH_ready (rs := [5]) (by kernel_rfl) (by simp) ?_
              refine AllReadyH.cons (o := ⟨some 7, _, _, _, _, _⟩) rfl (fun K hK => ?_) AllReadyH.nil
              go_simp
              have GB := box_new (x3) 73 #[.bool false, .int .i64 0, .bool false, .int .i64 0]
              have hb1 := (Below.refl (x3).heap.size (x3)).alloc (Nat.le_refl _) (.cells #[.bool false, .int .i64 0, .bool false, .int .i64 0] 73)
              have LB : w.heap.size + 3 ≤ (x3).heap.size := by have := (hHeld.1).lt; have := (hHeld.2.1).lt; have := (hHeld.2.2.1).lt; have := (hHeld.2.2.2).size; omega
              have NAB : gA < (x3).heap.size := GA.lt
              replace GA := GA.new hb1
              generalize (x3).alloc (.cells #[.bool false, .int .i64 0, .bool false, .int .i64 0] 73) = x4 at hb1 GB GA ⊢
              generalize hg : (x3).heap.size = gB at GB LB NAB ⊢
              clear hg
              refine hK.out _ _ ⟨hHeld.1.new hb1, hHeld.2.1.new hb1, hHeld.2.2.1.new hb1, below_trans hHeld.2.2.2 hb1 (Nat.le_refl _)⟩ (fun hHeld' => ?_)
              clear hK K hHeld hb1
              have hHeld := hHeld'
              clear hHeld'
              try simp only [Act.put, List.setIfInBounds_toArray, List.set_cons_zero, List.set_cons_succ]
              refine wpAnyH_ready (rs := [6]) (by kernel_rfl) (by simp) ?_
              refine AllReadyH.cons (o := ⟨none, _, _, _, _, _⟩) rfl (fun K hK => ?_) AllReadyH.nil
              rw [if_pos (by rfl)]
              refine wp_store_row 73 _ _ rfl gA #[.bool (p.f0 != 0), .int .i64 p.f0, .bool (p.f1 != -1), .int .i64 p.f1] rfl rfl 73 _ GA (by kernel_rfl) (by kernel_rfl) (by kernel_rfl) ?_
              replace GA := box_row (cs := #[.bool (p.f0 != 0), .int .i64 p.f0, .bool (p.f1 != -1), .int .i64 p.f1]) GA
              replace GB := box_far (cs := #[.bool (p.f0 != 0), .int .i64 p.f0, .bool (p.f1 != -1), .int .i64 p.f1]) (g := gA) GB (by omega)
              have hc1 := chg_row x4 gA #[.bool (p.f0 != 0), .int .i64 p.f0, .bool (p.f1 != -1), .int .i64 p.f1]
              have hHeld2 : BoxAt (World.setRow x4 gA #[.bool (p.f0 != 0), .int .i64 p.f0, .bool (p.f1 != -1), .int .i64 p.f1]) w.heap.size 25 #[.int .i64 p.f0, .int .i64 p.f1] ∧ BoxAt (World.setRow x4 gA #[.bool (p.f0 != 0), .int .i64 p.f0, .bool (p.f1 != -1), .int .i64 p.f1]) (w.heap.size + 1) 25 #[.int .i64 q.f0, .int .i64 q.f1] ∧ BoxAt (World.setRow x4 gA #[.bool (p.f0 != 0), .int .i64 p.f0, .bool (p.f1 != -1), .int .i64 p.f1]) (w.heap.size + 1 + 1) 25 #[.int .i64 0, .int .i64 0] ∧ Below w.heap.size w (World.setRow x4 gA #[.bool (p.f0 != 0), .int .i64 p.f0, .bool (p.f1 != -1), .int .i64 p.f1]) := ⟨hHeld.1.chg hc1 (by omega), hHeld.2.1.chg hc1 (by omega), hHeld.2.2.1.chg hc1 (by omega), below_setRow hHeld.2.2.2 (by omega) _⟩
              clear hc1
              generalize World.setRow x4 gA #[.bool (p.f0 != 0), .int .i64 p.f0, .bool (p.f1 != -1), .int .i64 p.f1] = x5 at hHeld2 GA GB ⊢
              refine hK.out _ _ hHeld2 (fun hHeld' => ?_)
              clear hHeld2
              clear hK K hHeld
              have hHeld := hHeld'
              clear hHeld'
              try simp only [Act.put, List.setIfInBounds_toArray, List.set_cons_zero, List.set_cons_succ]
              refine wpAnyH_ready (rs := [7]) (by kernel_rfl) (by simp) ?_
              refine AllReadyH.cons (o := ⟨none, _, _, _, _, _⟩) rfl (fun K hK => ?_) AllReadyH.nil
              rw [if_pos (by rfl)]
              refine wp_store_row 73 _ _ rfl gB #[.bool (q.f0 != 0), .int .i64 q.f0, .bool (q.f1 != -1), .int .i64 q.f1] rfl rfl 73 _ GB (by kernel_rfl) (by kernel_rfl) (by kernel_rfl) ?_
              replace GA := box_far (cs := #[.bool (q.f0 != 0), .int .i64 q.f0, .bool (q.f1 != -1), .int .i64 q.f1]) (g := gB) GA (by omega)
              replace GB := box_row (cs := #[.bool (q.f0 != 0), .int .i64 q.f0, .bool (q.f1 != -1), .int .i64 q.f1]) GB
              have hc1 := chg_row x5 gB #[.bool (q.f0 != 0), .int .i64 q.f0, .bool (q.f1 != -1), .int .i64 q.f1]
              have hHeld2 : BoxAt (World.setRow x5 gB #[.bool (q.f0 != 0), .int .i64 q.f0, .bool (q.f1 != -1), .int .i64 q.f1]) w.heap.size 25 #[.int .i64 p.f0, .int .i64 p.f1] ∧ BoxAt (World.setRow x5 gB #[.bool (q.f0 != 0), .int .i64 q.f0, .bool (q.f1 != -1), .int .i64 q.f1]) (w.heap.size + 1) 25 #[.int .i64 q.f0, .int .i64 q.f1] ∧ BoxAt (World.setRow x5 gB #[.bool (q.f0 != 0), .int .i64 q.f0, .bool (q.f1 != -1), .int .i64 q.f1]) (w.heap.size + 1 + 1) 25 #[.int .i64 0, .int .i64 0] ∧ Below w.heap.size w (World.setRow x5 gB #[.bool (q.f0 != 0), .int .i64 q.f0, .bool (q.f1 != -1), .int .i64 q.f1]) := ⟨hHeld.1.chg hc1 (by omega), hHeld.2.1.chg hc1 (by omega), hHeld.2.2.1.chg hc1 (by omega), below_setRow hHeld.2.2.2 (by omega) _⟩
              clear hc1
              generalize World.setRow x5 gB #[.bool (q.f0 != 0), .int .i64 q.f0, .bool (q.f1 != -1), .int .i64 q.f1] = x6 at hHeld2 GA GB ⊢
              refine hK.out _ _ hHeld2 (fun hHeld' => ?_)
              clear hHeld2
              clear hK K hHeld
              have hHeld := hHeld'
              clear hHeld'
              try simp only [Act.put, List.setIfInBounds_toArray, List.set_cons_zero, List.set_cons_succ]
              refine wpAnyH_done (by kernel_rfl) ?_ _
              go_wp2_with fail
              go_meet
              exact ⟨gA, gB, rfl, rfl, GA, GB, hHeld.2.2.1, by omega, LA, LB, hHeld.2.2.2⟩
            refine AllReadyH.cons (o := ⟨some 7, _, _, _, _, _⟩) rfl (fun K hK => ?_) ?_
            · skip
              go_simp
              have GB := box_new (x2) 73 #[.bool false, .int .i64 0, .bool false, .int .i64 0]
              have hb1 := (Below.refl (x2).heap.size (x2)).alloc (Nat.le_refl _) (.cells #[.bool false, .int .i64 0, .bool false, .int .i64 0] 73)
              have LB : w.heap.size + 3 ≤ (x2).heap.size := by have := (hHeld.1).lt; have := (hHeld.2.1).lt; have := (hHeld.2.2.1).lt; have := (hHeld.2.2.2).size; omega
              have NAB : gA < (x2).heap.size := GA.lt
              replace GA := GA.new hb1
              generalize (x2).alloc (.cells #[.bool false, .int .i64 0, .bool false, .int .i64 0] 73) = x3 at hb1 GB GA ⊢
              generalize hg : (x2).heap.size = gB at GB LB NAB ⊢
              clear hg
              refine hK.out _ _ ⟨hHeld.1.new hb1, hHeld.2.1.new hb1, hHeld.2.2.1.new hb1, below_trans hHeld.2.2.2 hb1 (Nat.le_refl _)⟩ (fun hHeld' => ?_)
              clear hK K hHeld hb1
              have hHeld := hHeld'
              clear hHeld'
              try simp only [Act.put, List.setIfInBounds_toArray, List.set_cons_zero, List.set_cons_succ]
              refine wpAnyH_ready (rs := [3]) (by kernel_rfl) (by simp) ?_
              refine AllReadyH.cons (o := ⟨some 20, _, _, _, _, _⟩) rfl (fun K hK => ?_) AllReadyH.nil
              go_simp
              refine Calls.mono (impl_scopeOf q _) ?_
              rintro e x4 ⟨rfl, hb1⟩
              replace GA := GA.new hb1
              replace GB := GB.new hb1
              refine hK.out _ _ ⟨hHeld.1.new hb1, hHeld.2.1.new hb1, hHeld.2.2.1.new hb1, below_trans hHeld.2.2.2 hb1 (Nat.le_refl _)⟩ (fun hHeld' => ?_)
              clear hK K hHeld hb1
              have hHeld := hHeld'
              clear hHeld'
              try simp only [Act.put, List.setIfInBounds_toArray, List.set_cons_zero, List.set_cons_succ]
              refine wpAnyH_ready (rs := [6]) (by kernel_rfl) (by simp) ?_
              refine AllReadyH.cons (o := ⟨none, _, _, _, _, _⟩) rfl (fun K hK => ?_) AllReadyH.nil
              rw [if_pos (by rfl)]
              refine wp_store_row 73 _ _ rfl gA #[.bool (p.f0 != 0), .int .i64 p.f0, .bool (p.f1 != -1), .int .i64 p.f1] rfl rfl 73 _ GA (by kernel_rfl) (by kernel_rfl) (by kernel_rfl) ?_
              replace GA := box_row (cs := #[.bool (p.f0 != 0), .int .i64 p.f0, .bool (p.f1 != -1), .int .i64 p.f1]) GA
              replace GB := box_far (cs := #[.bool (p.f0 != 0), .int .i64 p.f0, .bool (p.f1 != -1), .int .i64 p.f1]) (g := gA) GB (by omega)
              have hc1 := chg_row x4 gA #[.bool (p.f0 != 0), .int .i64 p.f0, .bool (p.f1 != -1), .int .i64 p.f1]
              have hHeld2 : BoxAt (World.setRow x4 gA #[.bool (p.f0 != 0), .int .i64 p.f0, .bool (p.f1 != -1), .int .i64 p.f1]) w.heap.size 25 #[.int .i64 p.f0, .int .i64 p.f1] ∧ BoxAt (World.setRow x4 gA #[.bool (p.f0 != 0), .int .i64 p.f0, .bool (p.f1 != -1), .int .i64 p.f1]) (w.heap.size + 1) 25 #[.int .i64 q.f0, .int .i64 q.f1] ∧ BoxAt (World.setRow x4 gA #[.bool (p.f0 != 0), .int .i64 p.f0, .bool (p.f1 != -1), .int .i64 p.f1]) (w.heap.size + 1 + 1) 25 #[.int .i64 0, .int .i64 0] ∧ Below w.heap.size w (World.setRow x4 gA #[.bool (p.f0 != 0), .int .i64 p.f0, .bool (p.f1 != -1), .int .i64 p.f1]) := ⟨hHeld.1.chg hc1 (by omega), hHeld.2.1.chg hc1 (by omega), hHeld.2.2.1.chg hc1 (by omega), below_setRow hHeld.2.2.2 (by omega) _⟩
              clear hc1
              generalize World.setRow x4 gA #[.bool (p.f0 != 0), .int .i64 p.f0, .bool (p.f1 != -1), .int .i64 p.f1] = x5 at hHeld2 GA GB ⊢
              refine hK.out _ _ hHeld2 (fun hHeld' => ?_)
              clear hHeld2
              clear hK K hHeld
              have hHeld := hHeld'
              clear hHeld'
              try simp only [Act.put, List.setIfInBounds_toArray, List.set_cons_zero, List.set_cons_succ]
              refine wpAnyH_ready (rs := [7]) (by kernel_rfl) (by simp) ?_
              refine AllReadyH.cons (o := ⟨none, _, _, _, _, _⟩) rfl (fun K hK => ?_) AllReadyH.nil
              rw [if_pos (by rfl)]
              refine wp_store_row 73 _ _ rfl gB #[.bool (q.f0 != 0), .int .i64 q.f0, .bool (q.f1 != -1), .int .i64 q.f1] rfl rfl 73 _ GB (by kernel_rfl) (by kernel_rfl) (by kernel_rfl) ?_
              replace GA := box_far (cs := #[.bool (q.f0 != 0), .int .i64 q.f0, .bool (q.f1 != -1), .int .i64 q.f1]) (g := gB) GA (by omega)
              replace GB := box_row (cs := #[.bool (q.f0 != 0), .int .i64 q.f0, .bool (q.f1 != -1), .int .i64 q.f1]) GB
              have hc1 := chg_row x5 gB #[.bool (q.f0 != 0), .int .i64 q.f0, .bool (q.f1 != -1), .int .i64 q.f1]
              have hHeld2 : BoxAt (World.setRow x5 gB #[.bool (q.f0 != 0), .int .i64 q.f0, .bool (q.f1 != -1), .int .i64 q.f1]) w.heap.size 25 #[.int .i64 p.f0, .int .i64 p.f1] ∧ BoxAt (World.setRow x5 gB #[.bool (q.f0 != 0), .int .i64 q.f0, .bool (q.f1 != -1), .int .i64 q.f1]) (w.heap.size + 1) 25 #[.int .i64 q.f0, .int .i64 q.f1] ∧ BoxAt (World.setRow x5 gB #[.bool (q.f0 != 0), .int .i64 q.f0, .bool (q.f1 != -1), .int .i64 q.f1]) (w.heap.size + 1 + 1) 25 #[.int .i64 0, .int .i64 0] ∧ Below w.heap.size w (World.setRow x5 gB #[.bool (q.f0 != 0), .int .i64 q.f0, .bool (q.f1 != -1), .int .i64 q.f1]) := ⟨hHeld.1.chg hc1 (by omega), hHeld.2.1.chg hc1 (by omega), hHeld.2.2.1.chg hc1 (by omega), below_setRow hHeld.2.2.2 (by omega) _⟩
              clear hc1
              generalize World.setRow x5 gB #[.bool (q.f0 != 0), .int .i64 q.f0, .bool (q.f1 != -1), .int .i64 q.f1] = x6 at hHeld2 GA GB ⊢
              refine hK.out _ _ hHeld2 (fun hHeld' => ?_)
              clear hHeld2
              clear hK K hHeld
              have hHeld := hHeld'
              clear hHeld'
              try simp only [Act.put, List.setIfInBounds_toArray, List.set_cons_zero, List.set_cons_succ]
              refine wpAnyH_done (by kernel_rfl) ?_ _
              go_wp2_with fail
              go_meet
              exact ⟨gA, gB, rfl, rfl, GA, GB, hHeld.2.2.1, by omega, LA, LB, hHeld.2.2.2⟩
            exact AllReadyH.nil
          refine AllReadyH.cons (o := ⟨some 7, _, _, _, _, _⟩) rfl (fun K hK => ?_) ?_
          · skip
            go_simp
            have GB := box_new (x1) 73 #[.bool false, .int .i64 0, .bool false, .int .i64 0]
            have hb1 := (Below.refl (x1).heap.size (x1)).alloc (Nat.le_refl _) (.cells #[.bool false, .int .i64 0, .bool false, .int .i64 0] 73)
            have LB : w.heap.size + 3 ≤ (x1).heap.size := by have := (hHeld.1).lt; have := (hHeld.2.1).lt; have := (hHeld.2.2.1).lt; have := (hHeld.2.2.2).size; omega
            have NAB : gA < (x1).heap.size := GA.lt
            replace GA := GA.new hb1
            generalize (x1).alloc (.cells #[.bool false, .int .i64 0, .bool false, .int .i64 0] 73) = x2 at hb1 GB GA ⊢
            generalize hg : (x1).heap.size = gB at GB LB NAB ⊢
            clear hg
            refine hK.out _ _ ⟨hHeld.1.new hb1, hHeld.2.1.new hb1, hHeld.2.2.1.new hb1, below_trans hHeld.2.2.2 hb1 (Nat.le_refl _)⟩ (fun hHeld' => ?_)
            clear hK K hHeld hb1
            have hHeld := hHeld'
            clear hHeld'
            try simp only [Act.put, List.setIfInBounds_toArray, List.set_cons_zero, List.set_cons_succ]
            refine wpAnyH_ready (rs := [1]) (by kernel_rfl) (by simp) ?_
            refine AllReadyH.cons (o := ⟨some 18, _, _, _, _, _⟩) rfl (fun K hK => ?_) AllReadyH.nil
            go_simp
            refine Calls.mono (impl_scopeOf p _) ?_
            rintro e x3 ⟨rfl, hb1⟩
            replace GA := GA.new hb1
            replace GB := GB.new hb1
            refine hK.out _ _ ⟨hHeld.1.new hb1, hHeld.2.1.new hb1, hHeld.2.2.1.new hb1, below_trans hHeld.2.2.2 hb1 (Nat.le_refl _)⟩ (fun hHeld' => ?_)
            clear hK K hHeld hb1
            have hHeld := hHeld'
            clear hHeld'
            try simp only [Act.put, List.setIfInBounds_toArray, List.set_cons_zero, List.set_cons_succ]
            refine wpAnyH_ready (rs := [3]) (by kernel_rfl) (by simp) ?_
            refine AllReadyH.cons (o := ⟨some 20, _, _, _, _, _⟩) rfl (fun K hK => ?_) AllReadyH.nil
            go_simp
            refine Calls.mono (impl_scopeOf q _) ?_
            rintro e x4 ⟨rfl, hb1⟩
            replace GA := GA.new hb1
            replace GB := GB.new hb1
            refine hK.out _ _ ⟨hHeld.1.new hb1, hHeld.2.1.new hb1, hHeld.2.2.1.new hb1, below_trans hHeld.2.2.2 hb1 (Nat.le_refl _)⟩ (fun hHeld' => ?_)
            clear hK K hHeld hb1
            have hHeld := hHeld'
            clear hHeld'
            try simp only [Act.put, List.setIfInBounds_toArray, List.set_cons_zero, List.set_cons_succ]
            refine wpAnyH_ready (rs := [6]) (by kernel_rfl) (by simp) ?_
            refine AllReadyH.cons (o := ⟨none, _, _, _, _, _⟩) rfl (fun K hK => ?_) AllReadyH.nil
            rw [if_pos (by rfl)]
            refine wp_store_row 73 _ _ rfl gA #[.bool (p.f0 != 0), .int .i64 p.f0, .bool (p.f1 != -1), .int .i64 p.f1] rfl rfl 73 _ GA (by kernel_rfl) (by kernel_rfl) (by kernel_rfl) ?_
            replace GA := box_row (cs := #[.bool (p.f0 != 0), .int .i64 p.f0, .bool (p.f1 != -1), .int .i64 p.f1]) GA
            replace GB := box_far (cs := #[.bool (p.f0 != 0), .int .i64 p.f0, .bool (p.f1 != -1), .int .i64 p.f1]) (g := gA) GB (by omega)
            have hc1 := chg_row x4 gA #[.bool (p.f0 != 0), .int .i64 p.f0, .bool (p.f1 != -1), .int .i64 p.f1]
            have hHeld2 : BoxAt (World.setRow x4 gA #[.bool (p.f0 != 0), .int .i64 p.f0, .bool (p.f1 != -1), .int .i64 p.f1]) w.heap.size 25 #[.int .i64 p.f0, .int .i64 p.f1] ∧ BoxAt (World.setRow x4 gA #[.bool (p.f0 != 0), .int .i64 p.f0, .bool (p.f1 != -1), .int .i64 p.f1]) (w.heap.size + 1) 25 #[.int .i64 q.f0, .int .i64 q.f1] ∧ BoxAt (World.setRow x4 gA #[.bool (p.f0 != 0), .int .i64 p.f0, .bool (p.f1 != -1), .int .i64 p.f1]) (w.heap.size + 1 + 1) 25 #[.int .i64 0, .int .i64 0] ∧ Below w.heap.size w (World.setRow x4 gA #[.bool (p.f0 != 0), .int .i64 p.f0, .bool (p.f1 != -1), .int .i64 p.f1]) := ⟨hHeld.1.chg hc1 (by omega), hHeld.2.1.chg hc1 (by omega), hHeld.2.2.1.chg hc1 (by omega), below_setRow hHeld.2.2.2 (by omega) _⟩
            clear hc1
            generalize World.setRow x4 gA #[.bool (p.f0 != 0), .int .i64 p.f0, .bool (p.f1 != -1), .int .i64 p.f1] = x5 at hHeld2 GA GB ⊢
            refine hK.out _ _ hHeld2 (fun hHeld' => ?_)
            clear hHeld2
            clear hK K hHeld
            have hHeld := hHeld'
            clear hHeld'
            try simp only [Act.put, List.setIfInBounds_toArray, List.set_cons_zero, List.set_cons_succ]
            refine wpAnyH_ready (rs := [7]) (by kernel_rfl) (by simp) ?_
            refine AllReadyH.cons (o := ⟨none, _, _, _, _, _⟩) rfl (fun K hK => ?_) AllReadyH.nil
            rw [if_pos (by rfl)]
            refine wp_store_row 73 _ _ rfl gB #[.bool (q.f0 != 0), .int .i64 q.f0, .bool (q.f1 != -1), .int .i64 q.f1] rfl rfl 73 _ GB (by kernel_rfl) (by kernel_rfl) (by kernel_rfl) ?_
            replace GA := box_far (cs := #[.bool (q.f0 != 0), .int .i64 q.f0, .bool (q.f1 != -1), .int .i64 q.f1]) (g := gB) GA (by omega)
            replace GB := box_row (cs := #[.bool (q.f0 != 0), .int .i64 q.f0, .bool (q.f1 != -1), .int .i64 q.f1]) GB
            have hc1 := chg_row x5 gB #[.bool (q.f0 != 0), .int .i64 q.f0, .bool (q.f1 != -1), .int .i64 q.f1]
            have hHeld2 : BoxAt (World.setRow x5 gB #[.bool (q.f0 != 0), .int .i64 q.f0, .bool (q.f1 != -1), .int .i64 q.f1]) w.heap.size 25 #[.int .i64 p.f0, .int .i64 p.f1] ∧ BoxAt (World.setRow x5 gB #[.bool (q.f0 != 0), .int .i64 q.f0, .bool (q.f1 != -1), .int .i64 q.f1]) (w.heap.size + 1) 25 #[.int .i64 q.f0, .int .i64 q.f1] ∧ BoxAt (World.setRow x5 gB #[.bool (q.f0 != 0), .int .i64 q.f0, .bool (q.f1 != -1), .int .i64 q.f1]) (w.heap.size + 1 + 1) 25 #[.int .i64 0, .int .i64 0] ∧ Below w.heap.size w (World.setRow x5 gB #[.bool (q.f0 != 0), .int .i64 q.f0, .bool (q.f1 != -1), .int .i64 q.f1]) := ⟨hHeld.1.chg hc1 (by omega), hHeld.2.1.chg hc1 (by omega), hHeld.2.2.1.chg hc1 (by omega), below_setRow hHeld.2.2.2 (by omega) _⟩
            clear hc1
            generalize World.setRow x5 gB #[.bool (q.f0 != 0), .int .i64 q.f0, .bool (q.f1 != -1), .int .i64 q.f1] = x6 at hHeld2 GA GB ⊢
            refine hK.out _ _ hHeld2 (fun hHeld' => ?_)
            clear hHeld2
            clear hK K hHeld
            have hHeld := hHeld'
            clear hHeld'
            try simp only [Act.put, List.setIfInBounds_toArray, List.set_cons_zero, List.set_cons_succ]
            refine wpAnyH_done (by kernel_rfl) ?_ _
            go_wp2_with fail
            go_meet
            exact ⟨gA, gB, rfl, rfl, GA, GB, hHeld.2.2.1, by omega, LA, LB, hHeld.2.2.2⟩
          exact AllReadyH.nil
        refine AllReadyH.cons (o := ⟨some 7, _, _, _, _, _⟩) rfl (fun K hK => ?_) ?_
        · skip
          go_simp
          have GB := box_new (x0) 73 #[.bool false, .int .i64 0, .bool false, .int .i64 0]
          have hb1 := (Below.refl (x0).heap.size (x0)).alloc (Nat.le_refl _) (.cells #[.bool false, .int .i64 0, .bool false, .int .i64 0] 73)
          have LB : w.heap.size + 3 ≤ (x0).heap.size := by have := (hHeld.1).lt; have := (hHeld.2.1).lt; have := (hHeld.2.2.1).lt; have := (hHeld.2.2.2).size; omega
          generalize (x0).alloc (.cells #[.bool false, .int .i64 0, .bool false, .int .i64 0] 73) = x1 at hb1 GB  ⊢
          generalize hg : (x0).heap.size = gB at GB LB  ⊢
          clear hg
          refine hK.out _ _ ⟨hHeld.1.new hb1, hHeld.2.1.new hb1, hHeld.2.2.1.new hb1, below_trans hHeld.2.2.2 hb1 (Nat.le_refl _)⟩ (fun hHeld' => ?_)
          clear hK K hHeld hb1
          have hHeld := hHeld'
          clear hHeld'
          try simp only [Act.put, List.setIfInBounds_toArray, List.set_cons_zero, List.set_cons_succ]
          refine wpAnyH_ready (rs := [1, 4]) (by kernel_rfl) (by simp) ?_
          refine AllReadyH.cons (o := ⟨some 18, _, _, _, _, _⟩) rfl (fun K hK => ?_) ?_
          · skip
            go_simp
            refine Calls.mono (impl_scopeOf p _) ?_
            rintro e x2 ⟨rfl, hb1⟩
            replace GB := GB.new hb1
            refine hK.out _ _ ⟨hHeld.1.new hb1, hHeld.2.1.new hb1, hHeld.2.2.1.new hb1, below_trans hHeld.2.2.2 hb1 (Nat.le_refl _)⟩ (fun hHeld' => ?_)
            clear hK K hHeld hb1
            have hHeld := hHeld'
            clear hHeld'
            try simp only [Act.put, List.setIfInBounds_toArray, List.set_cons_zero, List.set_cons_succ]
            refine wpAnyH_ready (rs := [3, 4]) (by kernel_rfl) (by simp) ?_
            refine AllReadyH.cons (o := ⟨some 20, _, _, _, _, _⟩) rfl (fun K hK => ?_) ?_
            · skip
              go_simp
              refine Calls.mono (impl_scopeOf q _) ?_
              rintro e x3 ⟨rfl, hb1⟩
              replace GB := GB.new hb1
              refine hK.out _ _ ⟨hHeld.1.new hb1, hHeld.2.1.new hb1, hHeld.2.2.1.new hb1, below_trans hHeld.2.2.2 hb1 (Nat.le_refl _)⟩ (fun hHeld' => ?_)
              clear hK K hHeld hb1
              have hHeld := hHeld'
              clear hHeld'
              try simp only [Act.put, List.setIfInBounds_toArray, List.set_cons_zero, List.set_cons_succ]
              refine wpAnyH_ready (rs := [4]) (by kernel_rfl) (by simp) ?_
              refine AllReadyH.cons (o := ⟨some 6, _, _, _, _, _⟩) rfl (fun K hK => ?_) AllReadyH.nil
              go_simp
              have GA := box_new (x3) 73 #[.bool false, .int .i64 0, .bool false, .int .i64 0]
              have hb1 := (Below.refl (x3).heap.size (x3)).alloc (Nat.le_refl _) (.cells #[.bool false, .int .i64 0, .bool false, .int .i64 0] 73)
              have LA : w.heap.size + 3 ≤ (x3).heap.size := by have := (hHeld.1).lt; have := (hHeld.2.1).lt; have := (hHeld.2.2.1).lt; have := (hHeld.2.2.2).size; omega
              have NBA : gB < (x3).heap.size := GB.lt
              replace GB := GB.new hb1
              generalize (x3).alloc (.cells #[.bool false, .int .i64 0, .bool false, .int .i64 0] 73) = x4 at hb1 GA GB ⊢
              generalize hg : (x3).heap.size = gA at GA LA NBA ⊢
              clear hg
              refine hK.out _ _ ⟨hHeld.1.new hb1, hHeld.2.1.new hb1, hHeld.2.2.1.new hb1, below_trans hHeld.2.2.2 hb1 (Nat.le_refl _)⟩ (fun hHeld' => ?_)
              clear hK K hHeld hb1
              have hHeld := hHeld'
              clear hHeld'
              try simp only [Act.put, List.setIfInBounds_toArray, List.set_cons_zero, List.set_cons_succ]
              refine wpAnyH_ready (rs := [6]) (by kernel_rfl) (by simp) ?_
              refine AllReadyH.cons (o := ⟨none, _, _, _, _, _⟩) rfl (fun K hK => ?_) AllReadyH.nil
              rw [if_pos (by rfl)]
              refine wp_store_row 73 _ _ rfl gA #[.bool (p.f0 != 0), .int .i64 p.f0, .bool (p.f1 != -1), .int .i64 p.f1] rfl rfl 73 _ GA (by kernel_rfl) (by kernel_rfl) (by kernel_rfl) ?_
              replace GB := box_far (cs := #[.bool (p.f0 != 0), .int .i64 p.f0, .bool (p.f1 != -1), .int .i64 p.f1]) (g := gA) GB (by omega)
              replace GA := box_row (cs := #[.bool (p.f0 != 0), .int .i64 p.f0, .bool (p.f1 != -1), .int .i64 p.f1]) GA
              have hc1 := chg_row x4 gA #[.bool (p.f0 != 0), .int .i64 p.f0, .bool (p.f1 != -1), .int .i64 p.f1]
              have hHeld2 : BoxAt (World.setRow x4 gA #[.bool (p.f0 != 0), .int .i64 p.f0, .bool (p.f1 != -1), .int .i64 p.f1]) w.heap.size 25 #[.int .i64 p.f0, .int .i64 p.f1] ∧ BoxAt (World.setRow x4 gA #[.bool (p.f0 != 0), .int .i64 p.f0, .bool (p.f1 != -1), .int .i64 p.f1]) (w.heap.size + 1) 25 #[.int .i64 q.f0, .int .i64 q.f1] ∧ BoxAt (World.setRow x4 gA #[.bool (p.f0 != 0), .int .i64 p.f0, .bool (p.f1 != -1), .int .i64 p.f1]) (w.heap.size + 1 + 1) 25 #[.int .i64 0, .int .i64 0] ∧ Below w.heap.size w (World.setRow x4 gA #[.bool (p.f0 != 0), .int .i64 p.f0, .bool (p.f1 != -1), .int .i64 p.f1]) := ⟨hHeld.1.chg hc1 (by omega), hHeld.2.1.chg hc1 (by omega), hHeld.2.2.1.chg hc1 (by omega), below_setRow hHeld.2.2.2 (by omega) _⟩
              clear hc1
              generalize World.setRow x4 gA #[.bool (p.f0 != 0), .int .i64 p.f0, .bool (p.f1 != -1), .int .i64 p.f1] = x5 at hHeld2 GB GA ⊢
              refine hK.out _ _ hHeld2 (fun hHeld' => ?_)
              clear hHeld2
              clear hK K hHeld
              have hHeld := hHeld'
              clear hHeld'
              try simp only [Act.put, List.setIfInBounds_toArray, List.set_cons_zero, List.set_cons_succ]
              refine wpAnyH_ready (rs := [7]) (by kernel_rfl) (by simp) ?_
              refine AllReadyH.cons (o := ⟨none, _, _, _, _, _⟩) rfl (fun K hK => ?_) AllReadyH.nil
              rw [if_pos (by rfl)]
              refine wp_store_row 73 _ _ rfl gB #[.bool (q.f0 != 0), .int .i64 q.f0, .bool (q.f1 != -1), .int .i64 q.f1] rfl rfl 73 _ GB (by kernel_rfl) (by kernel_rfl) (by kernel_rfl) ?_
              replace GB := box_row (cs := #[.bool (q.f0 != 0), .int .i64 q.f0, .bool (q.f1 != -1), .int .i64 q.f1]) GB
              replace GA := box_far (cs := #[.bool (q.f0 != 0), .int .i64 q.f0, .bool (q.f1 != -1), .int .i64 q.f1]) (g := gB) GA (by omega)
              have hc1 := chg_row x5 gB #[.bool (q.f0 != 0), .int .i64 q.f0, .bool (q.f1 != -1), .int .i64 q.f1]
              have hHeld2 : BoxAt (World.setRow x5 gB #[.bool (q.f0 != 0), .int .i64 q.f0, .bool (q.f1 != -1), .int .i64 q.f1]) w.heap.size 25 #[.int .i64 p.f0, .int .i64 p.f1] ∧ BoxAt (World.setRow x5 gB #[.bool (q.f0 != 0), .int .i64 q.f0, .bool (q.f1 != -1), .int .i64 q.f1]) (w.heap.size + 1) 25 #[.int .i64 q.f0, .int .i64 q.f1] ∧ BoxAt (World.setRow x5 gB #[.bool (q.f0 != 0), .int .i64 q.f0, .bool (q.f1 != -1), .int .i64 q.f1]) (w.heap.size + 1 + 1) 25 #[.int .i64 0, .int .i64 0] ∧ Below w.heap.size w (World.setRow x5 gB #[.bool (q.f0 != 0), .int .i64 q.f0, .bool (q.f1 != -1), .int .i64 q.f1]) := ⟨hHeld.1.chg hc1 (by omega), hHeld.2.1.chg hc1 (by omega), hHeld.2.2.1.chg hc1 (by omega), below_setRow hHeld.2.2.2 (by omega) _⟩
              clear hc1
              generalize World.setRow x5 gB #[.bool (q.f0 != 0), .int .i64 q.f0, .bool (q.f1 != -1), .int .i64 q.f1] = x6 at hHeld2 GB GA ⊢
              refine hK.out _ _ hHeld2 (fun hHeld' => ?_)
              clear hHeld2
              clear hK K hHeld
              have hHeld := hHeld'
              clear hHeld'
              try simp only [Act.put, List.setIfInBounds_toArray, List.set_cons_zero, List.set_cons_succ]
              refine wpAnyH_done (by kernel_rfl) ?_ _
              go_wp2_with fail
              go_meet
              exact ⟨gA, gB, rfl, rfl, GA, GB, hHeld.2.2.1, by omega, LA, LB, hHeld.2.2.2⟩
            refine AllReadyH.cons (o := ⟨some 6, _, _, _, _, _⟩) rfl (fun K hK => ?_) ?_
            · skip
              go_simp
              have GA := box_new (x2) 73 #[.bool false, .int .i64 0, .bool false, .int .i64 0]
              have hb1 := (Below.refl (x2).heap.size (x2)).alloc (Nat.le_refl _) (.cells #[.bool false, .int .i64 0, .bool false, .int .i64 0] 73)
              have LA : w.heap.size + 3 ≤ (x2).heap.size := by have := (hHeld.1).lt; have := (hHeld.2.1).lt; have := (hHeld.2.2.1).lt; have := (hHeld.2.2.2).size; omega
              have NBA : gB < (x2).heap.size := GB.lt
              replace GB := GB.new hb1
              generalize (x2).alloc (.cells #[.bool false, .int .i64 0, .bool false, .int .i64 0] 73) = x3 at hb1 GA GB ⊢
              generalize hg : (x2).heap.size = gA at GA LA NBA ⊢
              clear hg
              refine hK.out _ _ ⟨hHeld.1.new hb1, hHeld.2.1.new hb1, hHeld.2.2.1.new hb1, below_trans hHeld.2.2.2 hb1 (Nat.le_refl _)⟩ (fun hHeld' => ?_)
              clear hK K hHeld hb1
              have hHeld := hHeld'
              clear hHeld'
              try simp only [Act.put, List.setIfInBounds_toArray, List.set_cons_zero, List.set_cons_succ]
              refine wpAnyH_ready (rs := [3]) (by kernel_rfl) (by simp) ?_
              refine AllReadyH.cons (o := ⟨some 20, _, _, _, _, _⟩) rfl (fun K hK => ?_) AllReadyH.nil
              go_simp
              refine Calls.mono (impl_scopeOf q _) ?_
              rintro e x4 ⟨rfl, hb1⟩
              replace GB := GB.new hb1
              replace GA := GA.new hb1
              refine hK.out _ _ ⟨hHeld.1.new hb1, hHeld.2.1.new hb1, hHeld.2.2.1.new hb1, below_trans hHeld.2.2.2 hb1 (Nat.le_refl _)⟩ (fun hHeld' => ?_)
              clear hK K hHeld hb1
              have hHeld := hHeld'
              clear hHeld'
              try simp only [Act.put, List.setIfInBounds_toArray, List.set_cons_zero, List.set_cons_succ]
              refine wpAnyH_ready (rs := [6]) (by kernel_rfl) (by simp) ?_
              refine AllReadyH.cons (o := ⟨none, _, _, _, _, _⟩) rfl (fun K hK => ?_) AllReadyH.nil
              rw [if_pos (by rfl)]
              refine wp_store_row 73 _ _ rfl gA #[.bool (p.f0 != 0), .int .i64 p.f0, .bool (p.f1 != -1), .int .i64 p.f1] rfl rfl 73 _ GA (by kernel_rfl) (by kernel_rfl) (by kernel_rfl) ?_
              replace GB := box_far (cs := #[.bool (p.f0 != 0), .int .i64 p.f0, .bool (p.f1 != -1), .int .i64 p.f1]) (g := gA) GB (by omega)
              replace GA := box_row (cs := #[.bool (p.f0 != 0), .int .i64 p.f0, .bool (p.f1 != -1), .int .i64 p.f1]) GA
              have hc1 := chg_row x4 gA #[.bool (p.f0 != 0), .int .i64 p.f0, .bool (p.f1 != -1), .int .i64 p.f1]
              have hHeld2 : BoxAt (World.setRow x4 gA #[.bool (p.f0 != 0), .int .i64 p.f0, .bool (p.f1 != -1), .int .i64 p.f1]) w.heap.size 25 #[.int .i64 p.f0, .int .i64 p.f1] ∧ BoxAt (World.setRow x4 gA #[.bool (p.f0 != 0), .int .i64 p.f0, .bool (p.f1 != -1), .int .i64 p.f1]) (w.heap.size + 1) 25 #[.int .i64 q.f0, .int .i64 q.f1] ∧ BoxAt (World.setRow x4 gA #[.bool (p.f0 != 0), .int .i64 p.f0, .bool (p.f1 != -1), .int .i64 p.f1]) (w.heap.size + 1 + 1) 25 #[.int .i64 0, .int .i64 0] ∧ Below w.heap.size w (World.setRow x4 gA #[.bool (p.f0 != 0), .int .i64 p.f0, .bool (p.f1 != -1), .int .i64 p.f1]) := ⟨hHeld.1.chg hc1 (by omega), hHeld.2.1.chg hc1 (by omega), hHeld.2.2.1.chg hc1 (by omega), below_setRow hHeld.2.2.2 (by omega) _⟩
              clear hc1
              generalize World.setRow x4 gA #[.bool (p.f0 != 0), .int .i64 p.f0, .bool (p.f1 != -1), .int .i64 p.f1] = x5 at hHeld2 GB GA ⊢
              refine hK.out _ _ hHeld2 (fun hHeld' => ?_)
              clear hHeld2
              clear hK K hHeld
              have hHeld := hHeld'
              clear hHeld'
              try simp only [Act.put, List.setIfInBounds_toArray, List.set_cons_zero, List.set_cons_succ]
              refine wpAnyH_ready (rs := [7]) (by kernel_rfl) (by simp) ?_
              refine AllReadyH.cons (o := ⟨none, _, _, _, _, _⟩) rfl (fun K hK => ?_) AllReadyH.nil
              rw [if_pos (by rfl)]
              refine wp_store_row 73 _ _ rfl gB #[.bool (q.f0 != 0), .int .i64 q.f0, .bool (q.f1 != -1), .int .i64 q.f1] rfl rfl 73 _ GB (by kernel_rfl) (by kernel_rfl) (by kernel_rfl) ?_
              replace GB := box_row (cs := #[.bool (q.f0 != 0), .int .i64 q.f0, .bool (q.f1 != -1), .int .i64 q.f1]) GB
              replace GA := box_far (cs := #[.bool (q.f0 != 0), .int .i64 q.f0, .bool (q.f1 != -1), .int .i64 q.f1]) (g := gB) GA (by omega)
              have hc1 := chg_row x5 gB #[.bool (q.f0 != 0), .int .i64 q.f0, .bool (q.f1 != -1), .int .i64 q.f1]
              have hHeld2 : BoxAt (World.setRow x5 gB #[.bool (q.f0 != 0), .int .i64 q.f0, .bool (q.f1 != -1), .int .i64 q.f1]) w.heap.size 25 #[.int .i64 p.f0, .int .i64 p.f1] ∧ BoxAt (World.setRow x5 gB #[.bool (q.f0 != 0), .int .i64 q.f0, .bool (q.f1 != -1), .int .i64 q.f1]) (w.heap.size + 1) 25 #[.int .i64 q.f0, .int .i64 q.f1] ∧ BoxAt (World.setRow x5 gB #[.bool (q.f0 != 0), .int .i64 q.f0, .bool (q.f1 != -1), .int .i64 q.f1]) (w.heap.size + 1 + 1) 25 #[.int .i64 0, .int .i64 0] ∧ Below w.heap.size w (World.setRow x5 gB #[.bool (q.f0 != 0), .int .i64 q.f0, .bool (q.f1 != -1), .int .i64 q.f1]) := ⟨hHeld.1.chg hc1 (by omega), hHeld.2.1.chg hc1 (by omega), hHeld.2.2.1.chg hc1 (by omega), below_setRow hHeld.2.2.2 (by omega) _⟩
              clear hc1
              generalize World.setRow x5 gB #[.bool (q.f0 != 0), .int .i64 q.f0, .bool (q.f1 != -1), .int .i64 q.f1] = x6 at hHeld2 GB GA ⊢
              refine hK.out _ _ hHeld2 (fun hHeld' => ?_)
              clear hHeld2
              clear hK K hHeld
              have hHeld := hHeld'
              clear hHeld'
              try simp only [Act.put, List.setIfInBounds_toArray, List.set_cons_zero, List.set_cons_succ]
              refine wpAnyH_done (by kernel_rfl) ?_ _
              go_wp2_with fail
              go_meet
              exact ⟨gA, gB, rfl, rfl, GA, GB, hHeld.2.2.1, by omega, LA, LB, hHeld.2.2.2⟩
            exact AllReadyH.nil
          refine AllReadyH.cons (o := ⟨some 6, _, _, _, _, _⟩) rfl (fun K hK => ?_) ?_
          · skip
            go_simp
            have GA := box_new (x1) 73 #[.bool false, .int .i64 0, .bool false, .int .i64 0]
            have hb1 := (Below.refl (x1).heap.size (x1)).alloc (Nat.le_refl _) (.cells #[.bool false, .int .i64 0, .bool false, .int .i64 0] 73)
            have LA : w.heap.size + 3 ≤ (x1).heap.size := by have := (hHeld.1).lt; have := (hHeld.2.1).lt; have := (hHeld.2.2.1).lt; have := (hHeld.2.2.2).size; omega
            have NBA : gB < (x1).heap.size := GB.lt
            replace GB := GB.new hb1
            generalize (x1).alloc (.cells #[.bool false, .int .i64 0, .bool false, .int .i64 0] 73) = x2 at hb1 GA GB ⊢
            generalize hg : (x1).heap.size = gA at GA LA NBA ⊢
            clear hg
            refine hK.out _ _ ⟨hHeld.1.new hb1, hHeld.2.1.new hb1, hHeld.2.2.1.new hb1, below_trans hHeld.2.2.2 hb1 (Nat.le_refl _)⟩ (fun hHeld' => ?_)
            clear hK K hHeld hb1
            have hHeld := hHeld'
            clear hHeld'
            try simp only [Act.put, List.setIfInBounds_toArray, List.set_cons_zero, List.set_cons_succ]
            refine wpAnyH_ready (rs := [1]) (by kernel_rfl) (by simp) ?_
            refine AllReadyH.cons (o := ⟨some 18, _, _, _, _, _⟩) rfl (fun K hK => ?_) AllReadyH.nil
            go_simp
            refine Calls.mono (impl_scopeOf p _) ?_
            rintro e x3 ⟨rfl, hb1⟩
            replace GB := GB.new hb1
            replace GA := GA.new hb1
            refine hK.out _ _ ⟨hHeld.1.new hb1, hHeld.2.1.new hb1, hHeld.2.2.1.new hb1, below_trans hHeld.2.2.2 hb1 (Nat.le_refl _)⟩ (fun hHeld' => ?_)
            clear hK K hHeld hb1
            have hHeld := hHeld'
            clear hHeld'
            try simp only [Act.put, List.setIfInBounds_toArray, List.set_cons_zero, List.set_cons_succ]
            refine wpAnyH_ready (rs := [3]) (by kernel_rfl) (by simp) ?_
            refine AllReadyH.cons (o := ⟨some 20, _, _, _, _, _⟩) rfl (fun K hK => ?_) AllReadyH.nil
            go_simp
            refine Calls.mono (impl_scopeOf q _) ?_
            rintro e x4 ⟨rfl, hb1⟩
            replace GB := GB.new hb1
            replace GA := GA.new hb1
            refine hK.out _ _ ⟨hHeld.1.new hb1, hHeld.2.1.new hb1, hHeld.2.2.1.new hb1, below_trans hHeld.2.2.2 hb1 (Nat.le_refl _)⟩ (fun hHeld' => ?_)
            clear hK K hHeld hb1
            have hHeld := hHeld'
            clear hHeld'
            try simp only [Act.put, List.setIfInBounds_toArray, List.set_cons_zero, List.set_cons_succ]
            refine wpAnyH_ready (rs := [6]) (by kernel_rfl) (by simp) ?_
            refine AllReadyH.cons (o := ⟨none, _, _, _, _, _⟩) rfl (fun K hK => ?_) AllReadyH.nil
            rw [if_pos (by rfl)]
            refine wp_store_row 73 _ _ rfl gA #[.bool (p.f0 != 0), .int .i64 p.f0, .bool (p.f1 != -1), .int .i64 p.f1] rfl rfl 73 _ GA (by kernel_rfl) (by kernel_rfl) (by kernel_rfl) ?_
            replace GB := box_far (cs := #[.bool (p.f0 != 0), .int .i64 p.f0, .bool (p.f1 != -1), .int .i64 p.f1]) (g := gA) GB (by omega)
            replace GA := box_row (cs := #[.bool (p.f0 != 0), .int .i64 p.f0, .bool (p.f1 != -1), .int .i64 p.f1]) GA
            have hc1 := chg_row x4 gA #[.bool (p.f0 != 0), .int .i64 p.f0, .bool (p.f1 != -1), .int .i64 p.f1]
            have hHeld2 : BoxAt (World.setRow x4 gA #[.bool (p.f0 != 0), .int .i64 p.f0, .bool (p.f1 != -1), .int .i64 p.f1]) w.heap.size 25 #[.int .i64 p.f0, .int .i64 p.f1] ∧ BoxAt (World.setRow x4 gA #[.bool (p.f0 != 0), .int .i64 p.f0, .bool (p.f1 != -1), .int .i64 p.f1]) (w.heap.size + 1) 25 #[.int .i64 q.f0, .int .i64 q.f1] ∧ BoxAt (World.setRow x4 gA #[.bool (p.f0 != 0), .int .i64 p.f0, .bool (p.f1 != -1), .int .i64 p.f1]) (w.heap.size + 1 + 1) 25 #[.int .i64 0, .int .i64 0] ∧ Below w.heap.size w (World.setRow x4 gA #[.bool (p.f0 != 0), .int .i64 p.f0, .bool (p.f1 != -1), .int .i64 p.f1]) := ⟨hHeld.1.chg hc1 (by omega), hHeld.2.1.chg hc1 (by omega), hHeld.2.2.1.chg hc1 (by omega), below_setRow hHeld.2.2.2 (by omega) _⟩
            clear hc1
            generalize World.setRow x4 gA #[.bool (p.f0 != 0), .int .i64 p.f0, .bool (p.f1 != -1), .int .i64 p.f1] = x5 at hHeld2 GB GA ⊢
            refine hK.out _ _ hHeld2 (fun hHeld' => ?_)
            clear hHeld2
            clear hK K hHeld
            have hHeld := hHeld'
            clear hHeld'
            try simp only [Act.put, List.setIfInBounds_toArray, List.set_cons_zero, List.set_cons_succ]
            refine wpAnyH_ready (rs := [7]) (by kernel_rfl) (by simp) ?_
            refine AllReadyH.cons (o := ⟨none, _, _, _, _, _⟩) rfl (fun K hK => ?_) AllReadyH.nil
            rw [if_pos (by rfl)]
            refine wp_store_row 73 _ _ rfl gB #[.bool (q.f0 != 0), .int .i64 q.f0, .bool (q.f1 != -1), .int .i64 q.f1] rfl rfl 73 _ GB (by kernel_rfl) (by kernel_rfl) (by kernel_rfl) ?_
            replace GB := box_row (cs := #[.bool (q.f0 != 0), .int .i64 q.f0, .bool (q.f1 != -1), .int .i64 q.f1]) GB
            replace GA := box_far (cs := #[.bool (q.f0 != 0), .int .i64 q.f0, .bool (q.f1 != -1), .int .i64 q.f1]) (g := gB) GA (by omega)
            have hc1 := chg_row x5 gB #[.bool (q.f0 != 0), .int .i64 q.f0, .bool (q.f1 != -1), .int .i64 q.f1]
            have hHeld2 : BoxAt (World.setRow x5 gB #[.bool (q.f0 != 0), .int .i64 q.f0, .bool (q.f1 != -1), .int .i64 q.f1]) w.heap.size 25 #[.int .i64 p.f0, .int .i64 p.f1] ∧ BoxAt (World.setRow x5 gB #[.bool (q.f0 != 0), .int .i64 q.f0, .bool (q.f1 != -1), .int .i64 q.f1]) (w.heap.size + 1) 25 #[.int .i64 q.f0, .int .i64 q.f1] ∧ BoxAt (World.setRow x5 gB #[.bool (q.f0 != 0), .int .i64 q.f0, .bool (q.f1 != -1), .int .i64 q.f1]) (w.heap.size + 1 + 1) 25 #[.int .i64 0, .int .i64 0] ∧ Below w.heap.size w (World.setRow x5 gB #[.bool (q.f0 != 0), .int .i64 q.f0, .bool (q.f1 != -1), .int .i64 q.f1]) := ⟨hHeld.1.chg hc1 (by omega), hHeld.2.1.chg hc1 (by omega), hHeld.2.2.1.chg hc1 (by omega), below_setRow hHeld.2.2.2 (by omega) _⟩
            clear hc1
            generalize World.setRow x5 gB #[.bool (q.f0 != 0), .int .i64 q.f0, .bool (q.f1 != -1), .int .i64 q.f1] = x6 at hHeld2 GB GA ⊢
            refine hK.out _ _ hHeld2 (fun hHeld' => ?_)
            clear hHeld2
            clear hK K hHeld
            have hHeld := hHeld'
            clear hHeld'
            try simp only [Act.put, List.setIfInBounds_toArray, List.set_cons_zero, List.set_cons_succ]
            refine wpAnyH_done (by kernel_rfl) ?_ _
            go_wp2_with fail
            go_meet
            exact ⟨gA, gB, rfl, rfl, GA, GB, hHeld.2.2.1, by omega, LA, LB, hHeld.2.2.2⟩
          exact AllReadyH.nil
        exact AllReadyH.nil
      case rest =>
        obtain ⟨g5, g6, rfl, rfl, HM⟩ := hcut
        have N0 := fun W h => impl_narrow0 g5 p.f0 p.f1 q.f0 W h
        have N1 := fun W h => impl_narrow2 g5 (meet1 0 p.f0 q.f0) p.f1 q.f1 W h
        have N2 := fun W => impl_pattern (meet1 0 p.f0 q.f0) (meet1 (-1) p.f1 q.f1) W
        generalize mTakes 0 q.f0 (meet1 0 p.f0 q.f0) = t0 at N0 HX
        generalize mTakes (-1) q.f1 (meet1 (-1) p.f1 q.f1) = t1 at N1 HX
        replace N0 := Lib.hid N0
        replace N1 := Lib.hid N1
        replace N2 := Lib.hid N2
        replace HM := Lib.hid HM
        clear HS
        have eb50 := HM.out.b5.at_ (j := 0) rfl
        have eb51 := HM.out.b5.at_ (j := 1) rfl
        have eb52 := HM.out.b5.at_ (j := 2) rfl
        have eb53 := HM.out.b5.at_ (j := 3) rfl
        have eb60 := HM.out.b6.at_ (j := 0) rfl
        have eb61 := HM.out.b6.at_ (j := 1) rfl
        have eb62 := HM.out.b6.at_ (j := 2) rfl
        have eb63 := HM.out.b6.at_ (j := 3) rfl
        have ebr0 := HM.out.br.at_ (j := 0) rfl
        have ebr1 := HM.out.br.at_ (j := 1) rfl
        have f0 := HM.out.br.free 0
        have f1 := HM.out.br.free 1
        cases t0
        · skip
          have HO := Lib.hid (show mMeetOk p q = false from HX.out)
          go_wp2_with (first | (go_at_call 42; (first | (with_reducible refine Calls.mono (N0.out _ HM.out.b5) ?_) | (with_reducible refine Calls.mono (N1.out _ HM.out.b5) ?_)); rintro e w1 ⟨rfl, hB1, hch1⟩; (replace HM := Lib.hid (HM.out.narrow hB1 hch1)); (have eb50 := HM.out.b5.at_ (j := 0) rfl); (have eb51 := HM.out.b5.at_ (j := 1) rfl); (have eb52 := HM.out.b5.at_ (j := 2) rfl); (have eb53 := HM.out.b5.at_ (j := 3) rfl); (have eb60 := HM.out.b6.at_ (j := 0) rfl); (have eb61 := HM.out.b6.at_ (j := 1) rfl); (have eb62 := HM.out.b6.at_ (j := 2) rfl); (have eb63 := HM.out.b6.at_ (j := 3) rfl); (have ebr0 := HM.out.br.at_ (j := 0) rfl); (have ebr1 := HM.out.br.at_ (j := 1) rfl); (have f0 := HM.out.br.free 0); (have f1 := HM.out.br.free 1); clear hB1 hch1) | (go_at_call 43; refine Calls.mono (N2.out _) ?_; rintro e w1 ⟨rfl, hb1⟩; (replace HM := Lib.hid (HM.out.new hb1)); (have eb50 := HM.out.b5.at_ (j := 0) rfl); (have eb51 := HM.out.b5.at_ (j := 1) rfl); (have eb52 := HM.out.b5.at_ (j := 2) rfl); (have eb53 := HM.out.b5.at_ (j := 3) rfl); (have eb60 := HM.out.b6.at_ (j := 0) rfl); (have eb61 := HM.out.b6.at_ (j := 1) rfl); (have eb62 := HM.out.b6.at_ (j := 2) rfl); (have eb63 := HM.out.b6.at_ (j := 3) rfl); (have ebr0 := HM.out.br.at_ (j := 0) rfl); (have ebr1 := HM.out.br.at_ (j := 1) rfl); (have f0 := HM.out.br.free 0); (have f1 := HM.out.br.free 1); clear hb1))
          rw [mMeet_no HO.out, HO.out]
          have k0 := (box_cell (u := .int .i64 0) (j := 1) (box_cell (u := .int .i64 0) (j := 0) HM.out.br)).at_ (j := 0) rfl; have k1 := (box_cell (u := .int .i64 0) (j := 1) (box_cell (u := .int .i64 0) (j := 0) HM.out.br)).at_ (j := 1) rfl
          exact bodyPost_ret (v := .tuple #[vPat ⟨0, 0⟩, .bool false]) (by simp [results, Tryd.results9, go_sem, k0, k1]) rfl ⟨rfl, by exact (HM.out.below.setCell (by simp; try omega) _).setCell (by simp; try omega) _⟩
        · skip
          cases t1
          · skip
            have HO := Lib.hid (show mMeetOk p q = false from HX.out)
            go_wp2_with (first | (go_at_call 42; (first | (with_reducible refine Calls.mono (N0.out _ HM.out.b5) ?_) | (with_reducible refine Calls.mono (N1.out _ HM.out.b5) ?_)); rintro e w1 ⟨rfl, hB1, hch1⟩; (replace HM := Lib.hid (HM.out.narrow hB1 hch1)); (have eb50 := HM.out.b5.at_ (j := 0) rfl); (have eb51 := HM.out.b5.at_ (j := 1) rfl); (have eb52 := HM.out.b5.at_ (j := 2) rfl); (have eb53 := HM.out.b5.at_ (j := 3) rfl); (have eb60 := HM.out.b6.at_ (j := 0) rfl); (have eb61 := HM.out.b6.at_ (j := 1) rfl); (have eb62 := HM.out.b6.at_ (j := 2) rfl); (have eb63 := HM.out.b6.at_ (j := 3) rfl); (have ebr0 := HM.out.br.at_ (j := 0) rfl); (have ebr1 := HM.out.br.at_ (j := 1) rfl); (have f0 := HM.out.br.free 0); (have f1 := HM.out.br.free 1); clear hB1 hch1) | (go_at_call 43; refine Calls.mono (N2.out _) ?_; rintro e w1 ⟨rfl, hb1⟩; (replace HM := Lib.hid (HM.out.new hb1)); (have eb50 := HM.out.b5.at_ (j := 0) rfl); (have eb51 := HM.out.b5.at_ (j := 1) rfl); (have eb52 := HM.out.b5.at_ (j := 2) rfl); (have eb53 := HM.out.b5.at_ (j := 3) rfl); (have eb60 := HM.out.b6.at_ (j := 0) rfl); (have eb61 := HM.out.b6.at_ (j := 1) rfl); (have eb62 := HM.out.b6.at_ (j := 2) rfl); (have eb63 := HM.out.b6.at_ (j := 3) rfl); (have ebr0 := HM.out.br.at_ (j := 0) rfl); (have ebr1 := HM.out.br.at_ (j := 1) rfl); (have f0 := HM.out.br.free 0); (have f1 := HM.out.br.free 1); clear hb1))
            rw [mMeet_no HO.out, HO.out]
            have k0 := (box_cell (u := .int .i64 0) (j := 1) (box_cell (u := .int .i64 0) (j := 0) HM.out.br)).at_ (j := 0) rfl; have k1 := (box_cell (u := .int .i64 0) (j := 1) (box_cell (u := .int .i64 0) (j := 0) HM.out.br)).at_ (j := 1) rfl
            exact bodyPost_ret (v := .tuple #[vPat ⟨0, 0⟩, .bool false]) (by simp [results, Tryd.results9, go_sem, k0, k1]) rfl ⟨rfl, by exact (HM.out.below.setCell (by simp; try omega) _).setCell (by simp; try omega) _⟩
          · skip
            have HO := Lib.hid (show mMeetOk p q = true from HX.out)
            go_wp2_with (first | (go_at_call 42; (first | (with_reducible refine Calls.mono (N0.out _ HM.out.b5) ?_) | (with_reducible refine Calls.mono (N1.out _ HM.out.b5) ?_)); rintro e w1 ⟨rfl, hB1, hch1⟩; (replace HM := Lib.hid (HM.out.narrow hB1 hch1)); (have eb50 := HM.out.b5.at_ (j := 0) rfl); (have eb51 := HM.out.b5.at_ (j := 1) rfl); (have eb52 := HM.out.b5.at_ (j := 2) rfl); (have eb53 := HM.out.b5.at_ (j := 3) rfl); (have eb60 := HM.out.b6.at_ (j := 0) rfl); (have eb61 := HM.out.b6.at_ (j := 1) rfl); (have eb62 := HM.out.b6.at_ (j := 2) rfl); (have eb63 := HM.out.b6.at_ (j := 3) rfl); (have ebr0 := HM.out.br.at_ (j := 0) rfl); (have ebr1 := HM.out.br.at_ (j := 1) rfl); (have f0 := HM.out.br.free 0); (have f1 := HM.out.br.free 1); clear hB1 hch1) | (go_at_call 43; refine Calls.mono (N2.out _) ?_; rintro e w1 ⟨rfl, hb1⟩; (replace HM := Lib.hid (HM.out.new hb1)); (have eb50 := HM.out.b5.at_ (j := 0) rfl); (have eb51 := HM.out.b5.at_ (j := 1) rfl); (have eb52 := HM.out.b5.at_ (j := 2) rfl); (have eb53 := HM.out.b5.at_ (j := 3) rfl); (have eb60 := HM.out.b6.at_ (j := 0) rfl); (have eb61 := HM.out.b6.at_ (j := 1) rfl); (have eb62 := HM.out.b6.at_ (j := 2) rfl); (have eb63 := HM.out.b6.at_ (j := 3) rfl); (have ebr0 := HM.out.br.at_ (j := 0) rfl); (have ebr1 := HM.out.br.at_ (j := 1) rfl); (have f0 := HM.out.br.free 0); (have f1 := HM.out.br.free 1); clear hb1))
            rw [mMeet_yes HO.out, HO.out]
            have k0 := (box_cell (u := .int .i64 (meet1 (-1) p.f1 q.f1)) (j := 1) (box_cell (u := .int .i64 (meet1 0 p.f0 q.f0)) (j := 0) HM.out.br)).at_ (j := 0) rfl; have k1 := (box_cell (u := .int .i64 (meet1 (-1) p.f1 q.f1)) (j := 1) (box_cell (u := .int .i64 (meet1 0 p.f0 q.f0)) (j := 0) HM.out.br)).at_ (j := 1) rfl
            exact bodyPost_ret (v := .tuple #[vPat ⟨(meet1 0 p.f0 q.f0), (meet1 (-1) p.f1 q.f1)⟩, .bool true]) (by simp [results, Tryd.results9, go_sem, k0, k1]) rfl ⟨rfl, by exact (HM.out.below.setCell (by simp; try omega) _).setCell (by simp; try omega) _⟩


theorem meet_spec (p q : TPattern) (x0 x1 : Int) (h0 : x0 = if q.f0 = 0 then p.f0 else q.f0) (h1 : x1 = if q.f1 = -1 then p.f1 else q.f1) :
    mMeetOk p q = (mIsNarrower ⟨x0, x1⟩ p && mIsNarrower ⟨x0, x1⟩ q) ∧ (mMeetOk p q = true → x0 = meet1 0 p.f0 q.f0 ∧ x1 = meet1 (-1) p.f1 q.f1) := by
  obtain ⟨p0, p1⟩ := p
  obtain ⟨q0, q1⟩ := q
  simp only at h0 h1
  have key : ∀ (a b : Bool), (a = true ↔ b = true) → a = b := fun a b h => by rw [Bool.eq_iff_iff]; exact h
  constructor
  · apply key
    simp only [mMeetOk, mIsNarrower, mIsPattern, mTakes, inR, meet1, Bool.and_eq_true, Bool.or_eq_true, beq_iff_eq, decide_eq_true_eq]
    split at h0 <;> split at h1 <;> subst h0 <;> subst h1 <;> split <;> split <;> omega
  · simp only [mMeetOk, mIsPattern, mTakes, inR, meet1, Bool.and_eq_true, Bool.or_eq_true, beq_iff_eq, decide_eq_true_eq]
    split at h0 <;> split at h1 <;> subst h0 <;> subst h1 <;> split <;> split <;> omega

end Go.Proofs.YtlnmgfbfpjfddaaDoor
