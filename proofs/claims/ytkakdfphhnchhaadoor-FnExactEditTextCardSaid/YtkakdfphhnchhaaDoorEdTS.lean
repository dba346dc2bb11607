/- EditText of the model. -/
import Derived.Test.YtkakdfphhnchhaaDoorEdT
import Derived.Deep.RegionHeld3
namespace Go.Proofs.YtkakdfphhnchhaaDoor
open Go Go.ChangeShapes Go.WideShapes Go.ChangeAt Go.RowKit Go.Lib
set_option linter.unusedVariables false
set_option linter.unusedSimpArgs false
set_option maxRecDepth 100000
set_option maxHeartbeats 16000000 in
theorem spec_EditText' (k a1 a2 a3 a4 a5 : Int) (w : World) (hT : Pow10 w) (b0 : Hid (TEdit.fit ⟨k, a1, a2, a3, a4, a5⟩)) :
    Calls Tryd.prog 21 #[.agg #[.int .i64 k, .int .i64 a1, .int .i64 a2, .int .i64 a3, .int .i64 a4, .int .i64 a5]] w (Says (.string ⟨(tEd ⟨k, a1, a2, a3, a4, a5⟩).toArray⟩) w) := by
  have HT := Lib.hid hT
  obtain ⟨f0, f1, f2, f3, f4, f5⟩ := b0.out
  dsimp only at f0 f1 f2 f3 f4 f5
  have hx1 := itoa_in f1
  have hx2 := itoa_in f2
  have hx3 := itoa_in f3
  have hx4 := itoa_in f4
  have hx5 := itoa_in f5
  have C5 := Lib.hid (says_spec a5 f5)
  have C1 := Lib.hid (says_spec a1 f1)
  have C2 := Lib.hid (says_spec a2 f2)
  have C3 := Lib.hid (says_spec a3 f3)
  have C4 := Lib.hid (says_spec a4 f4)
  have KB0 := Lib.hid (box_new w 59 #[.int .i64 k, .int .i64 a1, .int .i64 a2, .int .i64 a3, .int .i64 a4, .int .i64 a5])
  have HB0 := Lib.hid ((Below.refl w.heap.size w).alloc (Nat.le_refl _) (.cells #[.int .i64 k, .int .i64 a1, .int .i64 a2, .int .i64 a3, .int .i64 a4, .int .i64 a5] 59))
  clear hT b0 f0 f1 f2 f3 f4 f5
  by_cases hk : k = 1 ∨ k = 2 ∨ k = 3 ∨ k = 4
  · rcases hk with rfl | rfl | rfl | rfl
    · skip
      rw [show tEd ⟨1, a1, a2, a3, a4, a5⟩ = Lib.join ([97, 100, 100] :: [itoa a1, itoa a2, itoa a3, itoa a4]) [32] ++ [32, 64] ++ itoa a5 from rfl]
      generalize itoa a1 = X1 at C1 hx1 ⊢
      generalize itoa a2 = X2 at C2 hx2 ⊢
      generalize itoa a3 = X3 at C3 hx3 ⊢
      generalize itoa a4 = X4 at C4 hx4 ⊢
      generalize itoa a5 = X5 at C5 hx5 ⊢
      obtain ⟨J0, HJ0⟩ : ∃ J : List UInt8, Hid ([97, 100, 100, 32] ++ X1 = J) := ⟨_, Lib.hid rfl⟩
      have hj0 : J0.length ≤ 60 := by rw [← HJ0.out]; simp only [List.length_append, List.length_cons, List.length_nil]; omega
      have hc0 : ∀ W, (Op.stringOp .add ⟨#[97, 100, 100, 32]⟩ ⟨X1.toArray⟩).run Tryd.prog W = .ok (.string ⟨J0.toArray⟩) W := fun W => by rw [← HJ0.out]; exact cat_lists [97, 100, 100, 32] X1 (by first | omega | (simp; done)) (by first | omega | (simp; done)) W
      obtain ⟨J1, HJ1⟩ : ∃ J : List UInt8, Hid (J0 ++ [32] = J) := ⟨_, Lib.hid rfl⟩
      have hj1 : J1.length ≤ 90 := by rw [← HJ1.out]; simp only [List.length_append, List.length_cons, List.length_nil]; omega
      have hc1 : ∀ W, (Op.stringOp .add ⟨J0.toArray⟩ ⟨#[32]⟩).run Tryd.prog W = .ok (.string ⟨J1.toArray⟩) W := fun W => by rw [← HJ1.out]; exact cat_lists J0 [32] (by first | omega | (simp; done)) (by first | omega | (simp; done)) W
      obtain ⟨J2, HJ2⟩ : ∃ J : List UInt8, Hid (J1 ++ X2 = J) := ⟨_, Lib.hid rfl⟩
      have hj2 : J2.length ≤ 120 := by rw [← HJ2.out]; simp only [List.length_append, List.length_cons, List.length_nil]; omega
      have hc2 : ∀ W, (Op.stringOp .add ⟨J1.toArray⟩ ⟨X2.toArray⟩).run Tryd.prog W = .ok (.string ⟨J2.toArray⟩) W := fun W => by rw [← HJ2.out]; exact cat_lists J1 X2 (by first | omega | (simp; done)) (by first | omega | (simp; done)) W
      obtain ⟨J3, HJ3⟩ : ∃ J : List UInt8, Hid (J2 ++ [32] = J) := ⟨_, Lib.hid rfl⟩
      have hj3 : J3.length ≤ 150 := by rw [← HJ3.out]; simp only [List.length_append, List.length_cons, List.length_nil]; omega
      have hc3 : ∀ W, (Op.stringOp .add ⟨J2.toArray⟩ ⟨#[32]⟩).run Tryd.prog W = .ok (.string ⟨J3.toArray⟩) W := fun W => by rw [← HJ3.out]; exact cat_lists J2 [32] (by first | omega | (simp; done)) (by first | omega | (simp; done)) W
      obtain ⟨J4, HJ4⟩ : ∃ J : List UInt8, Hid (J3 ++ X3 = J) := ⟨_, Lib.hid rfl⟩
      have hj4 : J4.length ≤ 180 := by rw [← HJ4.out]; simp only [List.length_append, List.length_cons, List.length_nil]; omega
      have hc4 : ∀ W, (Op.stringOp .add ⟨J3.toArray⟩ ⟨X3.toArray⟩).run Tryd.prog W = .ok (.string ⟨J4.toArray⟩) W := fun W => by rw [← HJ4.out]; exact cat_lists J3 X3 (by first | omega | (simp; done)) (by first | omega | (simp; done)) W
      obtain ⟨J5, HJ5⟩ : ∃ J : List UInt8, Hid (J4 ++ [32] = J) := ⟨_, Lib.hid rfl⟩
      have hj5 : J5.length ≤ 210 := by rw [← HJ5.out]; simp only [List.length_append, List.length_cons, List.length_nil]; omega
      have hc5 : ∀ W, (Op.stringOp .add ⟨J4.toArray⟩ ⟨#[32]⟩).run Tryd.prog W = .ok (.string ⟨J5.toArray⟩) W := fun W => by rw [← HJ5.out]; exact cat_lists J4 [32] (by first | omega | (simp; done)) (by first | omega | (simp; done)) W
      obtain ⟨J6, HJ6⟩ : ∃ J : List UInt8, Hid (J5 ++ X4 = J) := ⟨_, Lib.hid rfl⟩
      have hj6 : J6.length ≤ 240 := by rw [← HJ6.out]; simp only [List.length_append, List.length_cons, List.length_nil]; omega
      have hc6 : ∀ W, (Op.stringOp .add ⟨J5.toArray⟩ ⟨X4.toArray⟩).run Tryd.prog W = .ok (.string ⟨J6.toArray⟩) W := fun W => by rw [← HJ6.out]; exact cat_lists J5 X4 (by first | omega | (simp; done)) (by first | omega | (simp; done)) W
      obtain ⟨J7, HJ7⟩ : ∃ J : List UInt8, Hid (J6 ++ [32, 64] = J) := ⟨_, Lib.hid rfl⟩
      have hj7 : J7.length ≤ 270 := by rw [← HJ7.out]; simp only [List.length_append, List.length_cons, List.length_nil]; omega
      have hc7 : ∀ W, (Op.stringOp .add ⟨J6.toArray⟩ ⟨#[32, 64]⟩).run Tryd.prog W = .ok (.string ⟨J7.toArray⟩) W := fun W => by rw [← HJ7.out]; exact cat_lists J6 [32, 64] (by first | omega | (simp; done)) (by first | omega | (simp; done)) W
      obtain ⟨J8, HJ8⟩ : ∃ J : List UInt8, Hid (J7 ++ X5 = J) := ⟨_, Lib.hid rfl⟩
      have hj8 : J8.length ≤ 300 := by rw [← HJ8.out]; simp only [List.length_append, List.length_cons, List.length_nil]; omega
      have hc8 : ∀ W, (Op.stringOp .add ⟨J7.toArray⟩ ⟨X5.toArray⟩).run Tryd.prog W = .ok (.string ⟨J8.toArray⟩) W := fun W => by rw [← HJ8.out]; exact cat_lists J7 X5 (by first | omega | (simp; done)) (by first | omega | (simp; done)) W
      rw [show Lib.join ([97, 100, 100] :: [X1, X2, X3, X4]) [32] ++ [32, 64] ++ X5 = J8 by rw [show Lib.join ([97, 100, 100] :: [X1, X2, X3, X4]) [32] = [97, 100, 100, 32] ++ X1 ++ [32] ++ X2 ++ [32] ++ X3 ++ [32] ++ X4 by simp [Lib.join_cons, Lib.joinTail], HJ0.out, HJ1.out, HJ2.out, HJ3.out, HJ4.out, HJ5.out, HJ6.out, HJ7.out, HJ8.out]]
      go_enter Tryd.func21, Tryd.ntmps21
      go_wp2_with fail
      refine (C1.out _ (pow10_below HT.out HB0.out)).mono ?_
      rintro e w1 ⟨rfl, hb1⟩
      have HB1 := Lib.hid (below_trans HB0.out hb1 (by simp))
      have KB1 := Lib.hid (KB0.out.new hb1)
      clear hb1
      have e0 := KB1.out.at_ (j := 0) rfl
      have e1 := KB1.out.at_ (j := 1) rfl
      have e2 := KB1.out.at_ (j := 2) rfl
      have e3 := KB1.out.at_ (j := 3) rfl
      have e4 := KB1.out.at_ (j := 4) rfl
      have e5 := KB1.out.at_ (j := 5) rfl
      go_wp2_with fail
      refine wp_region_held_drew (S := fun w' => BoxAt w' w.heap.size 59 #[.int .i64 1, .int .i64 a1, .int .i64 a2, .int .i64 a3, .int .i64 a4, .int .i64 a5] ∧ Below w.heap.size w w') (by kernel_rfl) ?_ (fun hHeld => ?_)
      · exact ⟨KB1.out.drw, HB1.out.drew⟩
      refine wpAnyH_take (i := 0) (oi := ⟨some 11, _, _, _, _, _⟩) (v := ?_) rfl (by kernel_rfl) (by kernel_rfl) (by kernel_rfl) (fun _ _ _ h => h) (Or.inl ⟨by kernel_rfl, ?_⟩) hHeld ?_
      rotate_left
      focus (intro W hS; have c0_0 := (hS.1).at_ (j := 0) rfl; have c0_1 := (hS.1).at_ (j := 1) rfl; have c0_2 := (hS.1).at_ (j := 2) rfl; have c0_3 := (hS.1).at_ (j := 3) rfl; have c0_4 := (hS.1).at_ (j := 4) rfl; have c0_5 := (hS.1).at_ (j := 5) rfl; clear hS; first | (go_simp; done) | (go_simp; with_reducible rfl))
      try simp only [Act.put, List.setIfInBounds_toArray, List.set_cons_zero, List.set_cons_succ]
      refine wpAnyH_take (i := 1) (oi := ⟨some 12, _, _, _, _, _⟩) (v := ?_) rfl (by kernel_rfl) (by kernel_rfl) (by kernel_rfl) (fun _ _ _ h => h) (Or.inl ⟨by kernel_rfl, ?_⟩) hHeld ?_
      rotate_left
      focus (intro W hS; have c0_0 := (hS.1).at_ (j := 0) rfl; have c0_1 := (hS.1).at_ (j := 1) rfl; have c0_2 := (hS.1).at_ (j := 2) rfl; have c0_3 := (hS.1).at_ (j := 3) rfl; have c0_4 := (hS.1).at_ (j := 4) rfl; have c0_5 := (hS.1).at_ (j := 5) rfl; clear hS; first | (go_simp; done) | (go_simp; with_reducible rfl))
      try simp only [Act.put, List.setIfInBounds_toArray, List.set_cons_zero, List.set_cons_succ]
      refine wpAnyH_take (i := 2) (oi := ⟨some 13, _, _, _, _, _⟩) (v := ?_) rfl (by kernel_rfl) (by kernel_rfl) (by kernel_rfl) (fun _ _ _ h => h) (Or.inl ⟨by kernel_rfl, ?_⟩) hHeld ?_
      rotate_left
      focus (intro W hS; have c0_0 := (hS.1).at_ (j := 0) rfl; have c0_1 := (hS.1).at_ (j := 1) rfl; have c0_2 := (hS.1).at_ (j := 2) rfl; have c0_3 := (hS.1).at_ (j := 3) rfl; have c0_4 := (hS.1).at_ (j := 4) rfl; have c0_5 := (hS.1).at_ (j := 5) rfl; clear hS; first | (go_simp; done) | (go_simp; with_reducible rfl))
      try simp only [Act.put, List.setIfInBounds_toArray, List.set_cons_zero, List.set_cons_succ]
      refine wpAnyH_take (i := 3) (oi := ⟨some 14, _, _, _, _, _⟩) (v := ?_) rfl (by kernel_rfl) (by kernel_rfl) (by kernel_rfl) (fun _ _ _ h => h) (Or.inl ⟨by kernel_rfl, ?_⟩) hHeld ?_
      rotate_left
      focus (intro W hS; have c0_0 := (hS.1).at_ (j := 0) rfl; have c0_1 := (hS.1).at_ (j := 1) rfl; have c0_2 := (hS.1).at_ (j := 2) rfl; have c0_3 := (hS.1).at_ (j := 3) rfl; have c0_4 := (hS.1).at_ (j := 4) rfl; have c0_5 := (hS.1).at_ (j := 5) rfl; clear hS; first | (go_simp; done) | (go_simp; with_reducible rfl))
      try simp only [Act.put, List.setIfInBounds_toArray, List.set_cons_zero, List.set_cons_succ]
      refine wpAnyH_take (i := 4) (oi := ⟨some 15, _, _, _, _, _⟩) (v := ?_) rfl (by kernel_rfl) (by kernel_rfl) (by kernel_rfl) (fun _ _ _ h => h) (Or.inl ⟨by kernel_rfl, ?_⟩) hHeld ?_
      rotate_left
      focus (intro W hS; have c0_0 := (hS.1).at_ (j := 0) rfl; have c0_1 := (hS.1).at_ (j := 1) rfl; have c0_2 := (hS.1).at_ (j := 2) rfl; have c0_3 := (hS.1).at_ (j := 3) rfl; have c0_4 := (hS.1).at_ (j := 4) rfl; have c0_5 := (hS.1).at_ (j := 5) rfl; clear hS; first | (go_simp; done) | (go_simp; with_reducible rfl))
      try simp only [Act.put, List.setIfInBounds_toArray, List.set_cons_zero, List.set_cons_succ]
      refine wpAnyH_take (i := 8) (oi := ⟨some 19, _, _, _, _, _⟩) (v := ?_) rfl (by kernel_rfl) (by kernel_rfl) (by kernel_rfl) (fun _ _ _ h => h) (Or.inl ⟨by kernel_rfl, ?_⟩) hHeld ?_
      rotate_left
      focus (intro W hS; have c0_0 := (hS.1).at_ (j := 0) rfl; have c0_1 := (hS.1).at_ (j := 1) rfl; have c0_2 := (hS.1).at_ (j := 2) rfl; have c0_3 := (hS.1).at_ (j := 3) rfl; have c0_4 := (hS.1).at_ (j := 4) rfl; have c0_5 := (hS.1).at_ (j := 5) rfl; clear hS; first | (go_simp; done) | (go_simp; with_reducible rfl))
      try simp only [Act.put, List.setIfInBounds_toArray, List.set_cons_zero, List.set_cons_succ]
      refine wpAnyH_take (i := 9) (oi := ⟨some 20, _, _, _, _, _⟩) (v := ?_) rfl (by kernel_rfl) (by kernel_rfl) (by kernel_rfl) (fun _ _ _ h => h) (Or.inl ⟨by kernel_rfl, ?_⟩) hHeld ?_
      rotate_left
      focus (intro W hS; have c0_0 := (hS.1).at_ (j := 0) rfl; have c0_1 := (hS.1).at_ (j := 1) rfl; have c0_2 := (hS.1).at_ (j := 2) rfl; have c0_3 := (hS.1).at_ (j := 3) rfl; have c0_4 := (hS.1).at_ (j := 4) rfl; have c0_5 := (hS.1).at_ (j := 5) rfl; clear hS; first | (go_simp; done) | (go_simp; with_reducible rfl))
      try simp only [Act.put, List.setIfInBounds_toArray, List.set_cons_zero, List.set_cons_succ]
      refine wpAnyH_take (i := 13) (oi := ⟨some 24, _, _, _, _, _⟩) (v := ?_) rfl (by kernel_rfl) (by kernel_rfl) (by kernel_rfl) (fun _ _ _ h => h) (Or.inl ⟨by kernel_rfl, ?_⟩) hHeld ?_
      rotate_left
      focus (intro W hS; have c0_0 := (hS.1).at_ (j := 0) rfl; have c0_1 := (hS.1).at_ (j := 1) rfl; have c0_2 := (hS.1).at_ (j := 2) rfl; have c0_3 := (hS.1).at_ (j := 3) rfl; have c0_4 := (hS.1).at_ (j := 4) rfl; have c0_5 := (hS.1).at_ (j := 5) rfl; clear hS; first | (go_simp; done) | (go_simp; with_reducible rfl))
      try simp only [Act.put, List.setIfInBounds_toArray, List.set_cons_zero, List.set_cons_succ]
      refine wpAnyH_take (i := 14) (oi := ⟨some 25, _, _, _, _, _⟩) (v := ?_) rfl (by kernel_rfl) (by kernel_rfl) (by kernel_rfl) (fun _ _ _ h => h) (Or.inl ⟨by kernel_rfl, ?_⟩) hHeld ?_
      rotate_left
      focus (intro W hS; have c0_0 := (hS.1).at_ (j := 0) rfl; have c0_1 := (hS.1).at_ (j := 1) rfl; have c0_2 := (hS.1).at_ (j := 2) rfl; have c0_3 := (hS.1).at_ (j := 3) rfl; have c0_4 := (hS.1).at_ (j := 4) rfl; have c0_5 := (hS.1).at_ (j := 5) rfl; clear hS; first | (go_simp; done) | (go_simp; with_reducible rfl))
      try simp only [Act.put, List.setIfInBounds_toArray, List.set_cons_zero, List.set_cons_succ]
      refine wpAnyH_ready (rs := [5]) (by kernel_rfl) (by simp) ?_
      refine AllReadyH.cons (o := ⟨some 16, _, _, _, _, _⟩) rfl (fun K hK => ?_) AllReadyH.nil
      go_simp
      refine Calls.mono (C2.out _ (pow10_below HT.out hHeld.2)) ?_
      rintro e x1 ⟨rfl, hb1⟩
      refine hK.out _ _ ⟨hHeld.1.new hb1, below_trans hHeld.2 hb1 (Nat.le_refl _)⟩ (fun hHeld' => ?_)
      clear hK K hHeld hb1
      have hHeld := hHeld'
      clear hHeld'
      try simp only [Act.put, List.setIfInBounds_toArray, List.set_cons_zero, List.set_cons_succ]
      refine wpAnyH_take (i := 6) (oi := ⟨some 17, _, _, _, _, _⟩) (v := ?_) rfl (by kernel_rfl) (by kernel_rfl) (by kernel_rfl) (fun _ _ _ h => h) (Or.inl ⟨by kernel_rfl, ?_⟩) hHeld ?_
      rotate_left
      focus (intro W hS; have c0_0 := (hS.1).at_ (j := 0) rfl; have c0_1 := (hS.1).at_ (j := 1) rfl; have c0_2 := (hS.1).at_ (j := 2) rfl; have c0_3 := (hS.1).at_ (j := 3) rfl; have c0_4 := (hS.1).at_ (j := 4) rfl; have c0_5 := (hS.1).at_ (j := 5) rfl; clear hS; first | (go_simp; done) | (go_simp; with_reducible rfl))
      try simp only [Act.put, List.setIfInBounds_toArray, List.set_cons_zero, List.set_cons_succ]
      refine wpAnyH_take (i := 7) (oi := ⟨some 18, _, _, _, _, _⟩) (v := ?_) rfl (by kernel_rfl) (by kernel_rfl) (by kernel_rfl) (fun _ _ _ h => h) (Or.inl ⟨by kernel_rfl, ?_⟩) hHeld ?_
      rotate_left
      focus (intro W hS; have c0_0 := (hS.1).at_ (j := 0) rfl; have c0_1 := (hS.1).at_ (j := 1) rfl; have c0_2 := (hS.1).at_ (j := 2) rfl; have c0_3 := (hS.1).at_ (j := 3) rfl; have c0_4 := (hS.1).at_ (j := 4) rfl; have c0_5 := (hS.1).at_ (j := 5) rfl; clear hS; first | (go_simp; done) | (go_simp; with_reducible rfl))
      try simp only [Act.put, List.setIfInBounds_toArray, List.set_cons_zero, List.set_cons_succ]
      refine wpAnyH_ready (rs := [10]) (by kernel_rfl) (by simp) ?_
      refine AllReadyH.cons (o := ⟨some 21, _, _, _, _, _⟩) rfl (fun K hK => ?_) AllReadyH.nil
      go_simp
      refine Calls.mono (C3.out _ (pow10_below HT.out hHeld.2)) ?_
      rintro e x2 ⟨rfl, hb1⟩
      refine hK.out _ _ ⟨hHeld.1.new hb1, below_trans hHeld.2 hb1 (Nat.le_refl _)⟩ (fun hHeld' => ?_)
      clear hK K hHeld hb1
      have hHeld := hHeld'
      clear hHeld'
      try simp only [Act.put, List.setIfInBounds_toArray, List.set_cons_zero, List.set_cons_succ]
      refine wpAnyH_take (i := 11) (oi := ⟨some 22, _, _, _, _, _⟩) (v := ?_) rfl (by kernel_rfl) (by kernel_rfl) (by kernel_rfl) (fun _ _ _ h => h) (Or.inl ⟨by kernel_rfl, ?_⟩) hHeld ?_
      rotate_left
      focus (intro W hS; have c0_0 := (hS.1).at_ (j := 0) rfl; have c0_1 := (hS.1).at_ (j := 1) rfl; have c0_2 := (hS.1).at_ (j := 2) rfl; have c0_3 := (hS.1).at_ (j := 3) rfl; have c0_4 := (hS.1).at_ (j := 4) rfl; have c0_5 := (hS.1).at_ (j := 5) rfl; clear hS; first | (go_simp; done) | (go_simp; with_reducible rfl))
      try simp only [Act.put, List.setIfInBounds_toArray, List.set_cons_zero, List.set_cons_succ]
      refine wpAnyH_take (i := 12) (oi := ⟨some 23, _, _, _, _, _⟩) (v := ?_) rfl (by kernel_rfl) (by kernel_rfl) (by kernel_rfl) (fun _ _ _ h => h) (Or.inl ⟨by kernel_rfl, ?_⟩) hHeld ?_
      rotate_left
      focus (intro W hS; have c0_0 := (hS.1).at_ (j := 0) rfl; have c0_1 := (hS.1).at_ (j := 1) rfl; have c0_2 := (hS.1).at_ (j := 2) rfl; have c0_3 := (hS.1).at_ (j := 3) rfl; have c0_4 := (hS.1).at_ (j := 4) rfl; have c0_5 := (hS.1).at_ (j := 5) rfl; clear hS; first | (go_simp; done) | (go_simp; with_reducible rfl))
      try simp only [Act.put, List.setIfInBounds_toArray, List.set_cons_zero, List.set_cons_succ]
      refine wpAnyH_ready (rs := [15]) (by kernel_rfl) (by simp) ?_
      refine AllReadyH.cons (o := ⟨some 26, _, _, _, _, _⟩) rfl (fun K hK => ?_) AllReadyH.nil
      go_simp
      refine Calls.mono (C4.out _ (pow10_below HT.out hHeld.2)) ?_
      rintro e x3 ⟨rfl, hb1⟩
      refine hK.out _ _ ⟨hHeld.1.new hb1, below_trans hHeld.2 hb1 (Nat.le_refl _)⟩ (fun hHeld' => ?_)
      clear hK K hHeld hb1
      have hHeld := hHeld'
      clear hHeld'
      try simp only [Act.put, List.setIfInBounds_toArray, List.set_cons_zero, List.set_cons_succ]
      refine wpAnyH_take (i := 16) (oi := ⟨some 27, _, _, _, _, _⟩) (v := ?_) rfl (by kernel_rfl) (by kernel_rfl) (by kernel_rfl) (fun _ _ _ h => h) (Or.inl ⟨by kernel_rfl, ?_⟩) hHeld ?_
      rotate_left
      focus (intro W hS; have c0_0 := (hS.1).at_ (j := 0) rfl; have c0_1 := (hS.1).at_ (j := 1) rfl; have c0_2 := (hS.1).at_ (j := 2) rfl; have c0_3 := (hS.1).at_ (j := 3) rfl; have c0_4 := (hS.1).at_ (j := 4) rfl; have c0_5 := (hS.1).at_ (j := 5) rfl; clear hS; first | (go_simp; done) | (go_simp; with_reducible rfl))
      try simp only [Act.put, List.setIfInBounds_toArray, List.set_cons_zero, List.set_cons_succ]
      refine wpAnyH_take (i := 17) (oi := ⟨some 3, _, _, _, _, _⟩) (v := ?_) rfl (by kernel_rfl) (by kernel_rfl) (by kernel_rfl) (fun _ _ _ h => h) (Or.inl ⟨by kernel_rfl, ?_⟩) hHeld ?_
      rotate_left
      focus (intro W hS; have c0_0 := (hS.1).at_ (j := 0) rfl; have c0_1 := (hS.1).at_ (j := 1) rfl; have c0_2 := (hS.1).at_ (j := 2) rfl; have c0_3 := (hS.1).at_ (j := 3) rfl; have c0_4 := (hS.1).at_ (j := 4) rfl; have c0_5 := (hS.1).at_ (j := 5) rfl; clear hS; first | (go_simp; done) | (go_simp; with_reducible rfl))
      try simp only [Act.put, List.setIfInBounds_toArray, List.set_cons_zero, List.set_cons_succ]
      refine wpAnyH_done (by kernel_rfl) ?_ _
      have KB2 := Lib.hid hHeld.1
      have HB2 := Lib.hid hHeld.2
      clear hHeld e0 e1 e2 e3 e4 e5
      have e0 := KB2.out.at_ (j := 0) rfl
      have e1 := KB2.out.at_ (j := 1) rfl
      have e2 := KB2.out.at_ (j := 2) rfl
      have e3 := KB2.out.at_ (j := 3) rfl
      have e4 := KB2.out.at_ (j := 4) rfl
      have e5 := KB2.out.at_ (j := 5) rfl
      go_wp2_with fail
      refine (C5.out _ (pow10_below HT.out HB2.out)).mono ?_
      rintro e w3 ⟨rfl, hb3⟩
      have HB3 := Lib.hid (below_trans HB2.out hb3 (Nat.le_refl _))
      have KB3 := Lib.hid (KB2.out.new hb3)
      clear hb3
      have e0 := KB3.out.at_ (j := 0) rfl
      have e1 := KB3.out.at_ (j := 1) rfl
      have e2 := KB3.out.at_ (j := 2) rfl
      have e3 := KB3.out.at_ (j := 3) rfl
      have e4 := KB3.out.at_ (j := 4) rfl
      have e5 := KB3.out.at_ (j := 5) rfl
      go_wp2_with fail
      go_ret
      exact ⟨rfl, HB3.out⟩
    · skip
      rw [show tEd ⟨2, a1, a2, a3, a4, a5⟩ = Lib.join ([100, 114, 111, 112] :: [itoa a1]) [32] ++ [32, 64] ++ itoa a5 from rfl]
      generalize itoa a1 = X1 at C1 hx1 ⊢
      generalize itoa a2 = X2 at C2 hx2 ⊢
      generalize itoa a3 = X3 at C3 hx3 ⊢
      generalize itoa a4 = X4 at C4 hx4 ⊢
      generalize itoa a5 = X5 at C5 hx5 ⊢
      obtain ⟨J0, HJ0⟩ : ∃ J : List UInt8, Hid ([100, 114, 111, 112, 32] ++ X1 = J) := ⟨_, Lib.hid rfl⟩
      have hj0 : J0.length ≤ 60 := by rw [← HJ0.out]; simp only [List.length_append, List.length_cons, List.length_nil]; omega
      have hc0 : ∀ W, (Op.stringOp .add ⟨#[100, 114, 111, 112, 32]⟩ ⟨X1.toArray⟩).run Tryd.prog W = .ok (.string ⟨J0.toArray⟩) W := fun W => by rw [← HJ0.out]; exact cat_lists [100, 114, 111, 112, 32] X1 (by first | omega | (simp; done)) (by first | omega | (simp; done)) W
      obtain ⟨J1, HJ1⟩ : ∃ J : List UInt8, Hid (J0 ++ [32, 64] = J) := ⟨_, Lib.hid rfl⟩
      have hj1 : J1.length ≤ 90 := by rw [← HJ1.out]; simp only [List.length_append, List.length_cons, List.length_nil]; omega
      have hc1 : ∀ W, (Op.stringOp .add ⟨J0.toArray⟩ ⟨#[32, 64]⟩).run Tryd.prog W = .ok (.string ⟨J1.toArray⟩) W := fun W => by rw [← HJ1.out]; exact cat_lists J0 [32, 64] (by first | omega | (simp; done)) (by first | omega | (simp; done)) W
      obtain ⟨J2, HJ2⟩ : ∃ J : List UInt8, Hid (J1 ++ X5 = J) := ⟨_, Lib.hid rfl⟩
      have hj2 : J2.length ≤ 120 := by rw [← HJ2.out]; simp only [List.length_append, List.length_cons, List.length_nil]; omega
      have hc2 : ∀ W, (Op.stringOp .add ⟨J1.toArray⟩ ⟨X5.toArray⟩).run Tryd.prog W = .ok (.string ⟨J2.toArray⟩) W := fun W => by rw [← HJ2.out]; exact cat_lists J1 X5 (by first | omega | (simp; done)) (by first | omega | (simp; done)) W
      rw [show Lib.join ([100, 114, 111, 112] :: [X1]) [32] ++ [32, 64] ++ X5 = J2 by rw [show Lib.join ([100, 114, 111, 112] :: [X1]) [32] = [100, 114, 111, 112, 32] ++ X1 by simp [Lib.join_cons, Lib.joinTail], HJ0.out, HJ1.out, HJ2.out]]
      go_enter Tryd.func21, Tryd.ntmps21
      go_wp2_with fail
      refine (C1.out _ (pow10_below HT.out HB0.out)).mono ?_
      rintro e w1 ⟨rfl, hb1⟩
      have HB1 := Lib.hid (below_trans HB0.out hb1 (by simp))
      have KB1 := Lib.hid (KB0.out.new hb1)
      clear hb1
      have e0 := KB1.out.at_ (j := 0) rfl
      have e1 := KB1.out.at_ (j := 1) rfl
      have e2 := KB1.out.at_ (j := 2) rfl
      have e3 := KB1.out.at_ (j := 3) rfl
      have e4 := KB1.out.at_ (j := 4) rfl
      have e5 := KB1.out.at_ (j := 5) rfl
      go_wp2_with fail
      refine (C5.out _ (pow10_below HT.out HB1.out)).mono ?_
      rintro e w2 ⟨rfl, hb2⟩
      have HB2 := Lib.hid (below_trans HB1.out hb2 (Nat.le_refl _))
      have KB2 := Lib.hid (KB1.out.new hb2)
      clear hb2
      have e0 := KB2.out.at_ (j := 0) rfl
      have e1 := KB2.out.at_ (j := 1) rfl
      have e2 := KB2.out.at_ (j := 2) rfl
      have e3 := KB2.out.at_ (j := 3) rfl
      have e4 := KB2.out.at_ (j := 4) rfl
      have e5 := KB2.out.at_ (j := 5) rfl
      go_wp2_with fail
      go_ret
      exact ⟨rfl, HB2.out⟩
    · skip
      rw [show tEd ⟨3, a1, a2, a3, a4, a5⟩ = Lib.join ([116, 101, 120, 116] :: [itoa a1, itoa a4]) [32] ++ [32, 64] ++ itoa a5 from rfl]
      generalize itoa a1 = X1 at C1 hx1 ⊢
      generalize itoa a2 = X2 at C2 hx2 ⊢
      generalize itoa a3 = X3 at C3 hx3 ⊢
      generalize itoa a4 = X4 at C4 hx4 ⊢
      generalize itoa a5 = X5 at C5 hx5 ⊢
      obtain ⟨J0, HJ0⟩ : ∃ J : List UInt8, Hid ([116, 101, 120, 116, 32] ++ X1 = J) := ⟨_, Lib.hid rfl⟩
      have hj0 : J0.length ≤ 60 := by rw [← HJ0.out]; simp only [List.length_append, List.length_cons, List.length_nil]; omega
      have hc0 : ∀ W, (Op.stringOp .add ⟨#[116, 101, 120, 116, 32]⟩ ⟨X1.toArray⟩).run Tryd.prog W = .ok (.string ⟨J0.toArray⟩) W := fun W => by rw [← HJ0.out]; exact cat_lists [116, 101, 120, 116, 32] X1 (by first | omega | (simp; done)) (by first | omega | (simp; done)) W
      obtain ⟨J1, HJ1⟩ : ∃ J : List UInt8, Hid (J0 ++ [32] = J) := ⟨_, Lib.hid rfl⟩
      have hj1 : J1.length ≤ 90 := by rw [← HJ1.out]; simp only [List.length_append, List.length_cons, List.length_nil]; omega
      have hc1 : ∀ W, (Op.stringOp .add ⟨J0.toArray⟩ ⟨#[32]⟩).run Tryd.prog W = .ok (.string ⟨J1.toArray⟩) W := fun W => by rw [← HJ1.out]; exact cat_lists J0 [32] (by first | omega | (simp; done)) (by first | omega | (simp; done)) W
      obtain ⟨J2, HJ2⟩ : ∃ J : List UInt8, Hid (J1 ++ X4 = J) := ⟨_, Lib.hid rfl⟩
      have hj2 : J2.length ≤ 120 := by rw [← HJ2.out]; simp only [List.length_append, List.length_cons, List.length_nil]; omega
      have hc2 : ∀ W, (Op.stringOp .add ⟨J1.toArray⟩ ⟨X4.toArray⟩).run Tryd.prog W = .ok (.string ⟨J2.toArray⟩) W := fun W => by rw [← HJ2.out]; exact cat_lists J1 X4 (by first | omega | (simp; done)) (by first | omega | (simp; done)) W
      obtain ⟨J3, HJ3⟩ : ∃ J : List UInt8, Hid (J2 ++ [32, 64] = J) := ⟨_, Lib.hid rfl⟩
      have hj3 : J3.length ≤ 150 := by rw [← HJ3.out]; simp only [List.length_append, List.length_cons, List.length_nil]; omega
      have hc3 : ∀ W, (Op.stringOp .add ⟨J2.toArray⟩ ⟨#[32, 64]⟩).run Tryd.prog W = .ok (.string ⟨J3.toArray⟩) W := fun W => by rw [← HJ3.out]; exact cat_lists J2 [32, 64] (by first | omega | (simp; done)) (by first | omega | (simp; done)) W
      obtain ⟨J4, HJ4⟩ : ∃ J : List UInt8, Hid (J3 ++ X5 = J) := ⟨_, Lib.hid rfl⟩
      have hj4 : J4.length ≤ 180 := by rw [← HJ4.out]; simp only [List.length_append, List.length_cons, List.length_nil]; omega
      have hc4 : ∀ W, (Op.stringOp .add ⟨J3.toArray⟩ ⟨X5.toArray⟩).run Tryd.prog W = .ok (.string ⟨J4.toArray⟩) W := fun W => by rw [← HJ4.out]; exact cat_lists J3 X5 (by first | omega | (simp; done)) (by first | omega | (simp; done)) W
      rw [show Lib.join ([116, 101, 120, 116] :: [X1, X4]) [32] ++ [32, 64] ++ X5 = J4 by rw [show Lib.join ([116, 101, 120, 116] :: [X1, X4]) [32] = [116, 101, 120, 116, 32] ++ X1 ++ [32] ++ X4 by simp [Lib.join_cons, Lib.joinTail], HJ0.out, HJ1.out, HJ2.out, HJ3.out, HJ4.out]]
      go_enter Tryd.func21, Tryd.ntmps21
      go_wp2_with fail
      refine (C1.out _ (pow10_below HT.out HB0.out)).mono ?_
      rintro e w1 ⟨rfl, hb1⟩
      have HB1 := Lib.hid (below_trans HB0.out hb1 (by simp))
      have KB1 := Lib.hid (KB0.out.new hb1)
      clear hb1
      have e0 := KB1.out.at_ (j := 0) rfl
      have e1 := KB1.out.at_ (j := 1) rfl
      have e2 := KB1.out.at_ (j := 2) rfl
      have e3 := KB1.out.at_ (j := 3) rfl
      have e4 := KB1.out.at_ (j := 4) rfl
      have e5 := KB1.out.at_ (j := 5) rfl
      go_wp2_with fail
      refine (C4.out _ (pow10_below HT.out HB1.out)).mono ?_
      rintro e w2 ⟨rfl, hb2⟩
      have HB2 := Lib.hid (below_trans HB1.out hb2 (Nat.le_refl _))
      have KB2 := Lib.hid (KB1.out.new hb2)
      clear hb2
      have e0 := KB2.out.at_ (j := 0) rfl
      have e1 := KB2.out.at_ (j := 1) rfl
      have e2 := KB2.out.at_ (j := 2) rfl
      have e3 := KB2.out.at_ (j := 3) rfl
      have e4 := KB2.out.at_ (j := 4) rfl
      have e5 := KB2.out.at_ (j := 5) rfl
      go_wp2_with fail
      refine (C5.out _ (pow10_below HT.out HB2.out)).mono ?_
      rintro e w3 ⟨rfl, hb3⟩
      have HB3 := Lib.hid (below_trans HB2.out hb3 (Nat.le_refl _))
      have KB3 := Lib.hid (KB2.out.new hb3)
      clear hb3
      have e0 := KB3.out.at_ (j := 0) rfl
      have e1 := KB3.out.at_ (j := 1) rfl
      have e2 := KB3.out.at_ (j := 2) rfl
      have e3 := KB3.out.at_ (j := 3) rfl
      have e4 := KB3.out.at_ (j := 4) rfl
      have e5 := KB3.out.at_ (j := 5) rfl
      go_wp2_with fail
      go_ret
      exact ⟨rfl, HB3.out⟩
    · skip
      rw [show tEd ⟨4, a1, a2, a3, a4, a5⟩ = Lib.join ([109, 111, 118, 101] :: [itoa a1, itoa a2]) [32] ++ [32, 64] ++ itoa a5 from rfl]
      generalize itoa a1 = X1 at C1 hx1 ⊢
      generalize itoa a2 = X2 at C2 hx2 ⊢
      generalize itoa a3 = X3 at C3 hx3 ⊢
      generalize itoa a4 = X4 at C4 hx4 ⊢
      generalize itoa a5 = X5 at C5 hx5 ⊢
      obtain ⟨J0, HJ0⟩ : ∃ J : List UInt8, Hid ([109, 111, 118, 101, 32] ++ X1 = J) := ⟨_, Lib.hid rfl⟩
      have hj0 : J0.length ≤ 60 := by rw [← HJ0.out]; simp only [List.length_append, List.length_cons, List.length_nil]; omega
      have hc0 : ∀ W, (Op.stringOp .add ⟨#[109, 111, 118, 101, 32]⟩ ⟨X1.toArray⟩).run Tryd.prog W = .ok (.string ⟨J0.toArray⟩) W := fun W => by rw [← HJ0.out]; exact cat_lists [109, 111, 118, 101, 32] X1 (by first | omega | (simp; done)) (by first | omega | (simp; done)) W
      obtain ⟨J1, HJ1⟩ : ∃ J : List UInt8, Hid (J0 ++ [32] = J) := ⟨_, Lib.hid rfl⟩
      have hj1 : J1.length ≤ 90 := by rw [← HJ1.out]; simp only [List.length_append, List.length_cons, List.length_nil]; omega
      have hc1 : ∀ W, (Op.stringOp .add ⟨J0.toArray⟩ ⟨#[32]⟩).run Tryd.prog W = .ok (.string ⟨J1.toArray⟩) W := fun W => by rw [← HJ1.out]; exact cat_lists J0 [32] (by first | omega | (simp; done)) (by first | omega | (simp; done)) W
      obtain ⟨J2, HJ2⟩ : ∃ J : List UInt8, Hid (J1 ++ X2 = J) := ⟨_, Lib.hid rfl⟩
      have hj2 : J2.length ≤ 120 := by rw [← HJ2.out]; simp only [List.length_append, List.length_cons, List.length_nil]; omega
      have hc2 : ∀ W, (Op.stringOp .add ⟨J1.toArray⟩ ⟨X2.toArray⟩).run Tryd.prog W = .ok (.string ⟨J2.toArray⟩) W := fun W => by rw [← HJ2.out]; exact cat_lists J1 X2 (by first | omega | (simp; done)) (by first | omega | (simp; done)) W
      obtain ⟨J3, HJ3⟩ : ∃ J : List UInt8, Hid (J2 ++ [32, 64] = J) := ⟨_, Lib.hid rfl⟩
      have hj3 : J3.length ≤ 150 := by rw [← HJ3.out]; simp only [List.length_append, List.length_cons, List.length_nil]; omega
      have hc3 : ∀ W, (Op.stringOp .add ⟨J2.toArray⟩ ⟨#[32, 64]⟩).run Tryd.prog W = .ok (.string ⟨J3.toArray⟩) W := fun W => by rw [← HJ3.out]; exact cat_lists J2 [32, 64] (by first | omega | (simp; done)) (by first | omega | (simp; done)) W
      obtain ⟨J4, HJ4⟩ : ∃ J : List UInt8, Hid (J3 ++ X5 = J) := ⟨_, Lib.hid rfl⟩
      have hj4 : J4.length ≤ 180 := by rw [← HJ4.out]; simp only [List.length_append, List.length_cons, List.length_nil]; omega
      have hc4 : ∀ W, (Op.stringOp .add ⟨J3.toArray⟩ ⟨X5.toArray⟩).run Tryd.prog W = .ok (.string ⟨J4.toArray⟩) W := fun W => by rw [← HJ4.out]; exact cat_lists J3 X5 (by first | omega | (simp; done)) (by first | omega | (simp; done)) W
      rw [show Lib.join ([109, 111, 118, 101] :: [X1, X2]) [32] ++ [32, 64] ++ X5 = J4 by rw [show Lib.join ([109, 111, 118, 101] :: [X1, X2]) [32] = [109, 111, 118, 101, 32] ++ X1 ++ [32] ++ X2 by simp [Lib.join_cons, Lib.joinTail], HJ0.out, HJ1.out, HJ2.out, HJ3.out, HJ4.out]]
      go_enter Tryd.func21, Tryd.ntmps21
      go_wp2_with fail
      refine (C1.out _ (pow10_below HT.out HB0.out)).mono ?_
      rintro e w1 ⟨rfl, hb1⟩
      have HB1 := Lib.hid (below_trans HB0.out hb1 (by simp))
      have KB1 := Lib.hid (KB0.out.new hb1)
      clear hb1
      have e0 := KB1.out.at_ (j := 0) rfl
      have e1 := KB1.out.at_ (j := 1) rfl
      have e2 := KB1.out.at_ (j := 2) rfl
      have e3 := KB1.out.at_ (j := 3) rfl
      have e4 := KB1.out.at_ (j := 4) rfl
      have e5 := KB1.out.at_ (j := 5) rfl
      go_wp2_with fail
      refine (C2.out _ (pow10_below HT.out HB1.out)).mono ?_
      rintro e w2 ⟨rfl, hb2⟩
      have HB2 := Lib.hid (below_trans HB1.out hb2 (Nat.le_refl _))
      have KB2 := Lib.hid (KB1.out.new hb2)
      clear hb2
      have e0 := KB2.out.at_ (j := 0) rfl
      have e1 := KB2.out.at_ (j := 1) rfl
      have e2 := KB2.out.at_ (j := 2) rfl
      have e3 := KB2.out.at_ (j := 3) rfl
      have e4 := KB2.out.at_ (j := 4) rfl
      have e5 := KB2.out.at_ (j := 5) rfl
      go_wp2_with fail
      refine (C5.out _ (pow10_below HT.out HB2.out)).mono ?_
      rintro e w3 ⟨rfl, hb3⟩
      have HB3 := Lib.hid (below_trans HB2.out hb3 (Nat.le_refl _))
      have KB3 := Lib.hid (KB2.out.new hb3)
      clear hb3
      have e0 := KB3.out.at_ (j := 0) rfl
      have e1 := KB3.out.at_ (j := 1) rfl
      have e2 := KB3.out.at_ (j := 2) rfl
      have e3 := KB3.out.at_ (j := 3) rfl
      have e4 := KB3.out.at_ (j := 4) rfl
      have e5 := KB3.out.at_ (j := 5) rfl
      go_wp2_with fail
      go_ret
      exact ⟨rfl, HB3.out⟩
  · have HI : inR k 1 4 = false := by rw [inR_false]; omega
    have HE : tEd ⟨k, a1, a2, a3, a4, a5⟩ = [] := by unfold tEd; rw [HI]; rfl
    rw [HE]
    have q1 : (k == 1) = false := by simp; omega
    have q2 : (k == 2) = false := by simp; omega
    have q3 : (k == 3) = false := by simp; omega
    have q4 : (k == 4) = false := by simp; omega
    clear HI HE hk
    generalize itoa a1 = X1 at C1 hx1
    go_enter Tryd.func21, Tryd.ntmps21
    go_wp2_with fail
    refine (C1.out _ (pow10_below HT.out HB0.out)).mono ?_
    rintro e w1 ⟨rfl, hb1⟩
    have HB1 := Lib.hid (below_trans HB0.out hb1 (by simp))
    have KB1 := Lib.hid (KB0.out.new hb1)
    clear hb1
    have e0 := KB1.out.at_ (j := 0) rfl
    have e1 := KB1.out.at_ (j := 1) rfl
    have e2 := KB1.out.at_ (j := 2) rfl
    have e3 := KB1.out.at_ (j := 3) rfl
    have e4 := KB1.out.at_ (j := 4) rfl
    have e5 := KB1.out.at_ (j := 5) rfl
    go_wp2_with fail
    go_ret
    exact ⟨rfl, HB1.out⟩
theorem spec_EditText (e : TEdit) (w : World) (hT : Pow10 w) (b0 : Hid (TEdit.fit e)) :
    Calls Tryd.prog 21 #[.agg #[.int .i64 e.f0, .int .i64 e.f1, .int .i64 e.f2, .int .i64 e.f3, .int .i64 e.f4, .int .i64 e.f5]] w (Says (.string ⟨(tEd e).toArray⟩) w) := spec_EditText' e.f0 e.f1 e.f2 e.f3 e.f4 e.f5 w hT b0

end Go.Proofs.YtkakdfphhnchhaaDoor
