/- DocumentText of the program. -/
import Derived.Test.YtpefeihpoafkdaaDoorLst
import Derived.Test.YtpefeihpoafkdaaDoorTxJoin
import Derived.Test.YtpefeihpoafkdaaDoorTNode
import Derived.Test.YtpefeihpoafkdaaDoorFun
import Derived.Deep.RegionHeld3
import Derived.Deep.LoopGhost
import Derived.Lib.Join
import Derived.Deep.OwnRows
namespace Go.Proofs.YtpefeihpoafkdaaDoor
open Go Go.ChangeShapes Go.WideShapes Go.ChangeAt Go.RowKit Go.Lib
set_option linter.unusedVariables false
set_option linter.unusedSimpArgs false
set_option maxRecDepth 100000
def tNd (x : TNode) : List UInt8 := itoa x.f0 ++ [60] ++ itoa x.f1 ++ [58] ++ itoa x.f2 ++ [46] ++ itoa x.f3 ++ [64] ++ itoa x.f4
theorem tNd_len {x : TNode} (hf : x.fit) : (tNd x).length ≤ 120 := by
  obtain ⟨f0, f1, f2, f3, f4⟩ := hf
  have := itoa_in f0
  have := itoa_in f1
  have := itoa_in f2
  have := itoa_in f3
  have := itoa_in f4
  unfold tNd
  simp only [List.length_append, List.length_cons, List.length_nil]
  omega
theorem tNd_ne (x : TNode) : tNd x ≠ [] := by unfold tNd; simp

set_option maxHeartbeats 16000000 in
theorem impl_nodeText (x : TNode) (w : World) (hT : Pow10 w) (b0 : Hid x.fit) : Calls Tryd.prog 17 #[.agg #[.int .i64 x.f0, .int .i64 x.f1, .int .i64 x.f2, .int .i64 x.f3, .int .i64 x.f4]] w (Says (.string ⟨(tNd x).toArray⟩) w) := by
  have HT := Lib.hid hT
  have hf := b0.out
  obtain ⟨f0, f1, f2, f3, f4⟩ := hf
  have C0 := Lib.hid (says_impl x.f0 f0)
  have hx0 := itoa_in f0
  have C1 := Lib.hid (says_impl x.f1 f1)
  have hx1 := itoa_in f1
  have C2 := Lib.hid (says_impl x.f2 f2)
  have hx2 := itoa_in f2
  have C3 := Lib.hid (says_impl x.f3 f3)
  have hx3 := itoa_in f3
  have C4 := Lib.hid (says_impl x.f4 f4)
  have hx4 := itoa_in f4
  unfold tNd at ⊢
  generalize itoa x.f0 = X0 at C0 hx0 ⊢
  generalize itoa x.f1 = X1 at C1 hx1 ⊢
  generalize itoa x.f2 = X2 at C2 hx2 ⊢
  generalize itoa x.f3 = X3 at C3 hx3 ⊢
  generalize itoa x.f4 = X4 at C4 hx4 ⊢
  clear f0 f1 f2 f3 f4
  have KB0 := Lib.hid (box_new w 38 #[.int .i64 x.f0, .int .i64 x.f1, .int .i64 x.f2, .int .i64 x.f3, .int .i64 x.f4])
  have HB0 := Lib.hid ((Below.refl w.heap.size w).alloc (Nat.le_refl _) (.cells #[.int .i64 x.f0, .int .i64 x.f1, .int .i64 x.f2, .int .i64 x.f3, .int .i64 x.f4] 38))
  clear hT b0
  obtain ⟨J0, HJ0⟩ : ∃ Jx : List UInt8, Hid ((X0 : List UInt8) ++ [60] = Jx) := ⟨_, Lib.hid rfl⟩
  have hj0 : J0.length ≤ 60 := by rw [← HJ0.out]; simp only [List.length_append, List.length_cons, List.length_nil]; omega
  have hc0 : ∀ W, (Op.stringOp .add ⟨X0.toArray⟩ ⟨#[60]⟩).run Tryd.prog W = .ok (.string ⟨J0.toArray⟩) W := fun W => by rw [← HJ0.out]; exact cat_bigs X0 [60] (by first | omega | (simp; done)) (by first | omega | (simp; done)) W
  obtain ⟨J1, HJ1⟩ : ∃ Jx : List UInt8, Hid ((J0 : List UInt8) ++ X1 = Jx) := ⟨_, Lib.hid rfl⟩
  have hj1 : J1.length ≤ 90 := by rw [← HJ1.out]; simp only [List.length_append, List.length_cons, List.length_nil]; omega
  have hc1 : ∀ W, (Op.stringOp .add ⟨J0.toArray⟩ ⟨X1.toArray⟩).run Tryd.prog W = .ok (.string ⟨J1.toArray⟩) W := fun W => by rw [← HJ1.out]; exact cat_bigs J0 X1 (by first | omega | (simp; done)) (by first | omega | (simp; done)) W
  obtain ⟨J2, HJ2⟩ : ∃ Jx : List UInt8, Hid ((J1 : List UInt8) ++ [58] = Jx) := ⟨_, Lib.hid rfl⟩
  have hj2 : J2.length ≤ 120 := by rw [← HJ2.out]; simp only [List.length_append, List.length_cons, List.length_nil]; omega
  have hc2 : ∀ W, (Op.stringOp .add ⟨J1.toArray⟩ ⟨#[58]⟩).run Tryd.prog W = .ok (.string ⟨J2.toArray⟩) W := fun W => by rw [← HJ2.out]; exact cat_bigs J1 [58] (by first | omega | (simp; done)) (by first | omega | (simp; done)) W
  obtain ⟨J3, HJ3⟩ : ∃ Jx : List UInt8, Hid ((J2 : List UInt8) ++ X2 = Jx) := ⟨_, Lib.hid rfl⟩
  have hj3 : J3.length ≤ 150 := by rw [← HJ3.out]; simp only [List.length_append, List.length_cons, List.length_nil]; omega
  have hc3 : ∀ W, (Op.stringOp .add ⟨J2.toArray⟩ ⟨X2.toArray⟩).run Tryd.prog W = .ok (.string ⟨J3.toArray⟩) W := fun W => by rw [← HJ3.out]; exact cat_bigs J2 X2 (by first | omega | (simp; done)) (by first | omega | (simp; done)) W
  obtain ⟨J4, HJ4⟩ : ∃ Jx : List UInt8, Hid ((J3 : List UInt8) ++ [46] = Jx) := ⟨_, Lib.hid rfl⟩
  have hj4 : J4.length ≤ 180 := by rw [← HJ4.out]; simp only [List.length_append, List.length_cons, List.length_nil]; omega
  have hc4 : ∀ W, (Op.stringOp .add ⟨J3.toArray⟩ ⟨#[46]⟩).run Tryd.prog W = .ok (.string ⟨J4.toArray⟩) W := fun W => by rw [← HJ4.out]; exact cat_bigs J3 [46] (by first | omega | (simp; done)) (by first | omega | (simp; done)) W
  obtain ⟨J5, HJ5⟩ : ∃ Jx : List UInt8, Hid ((J4 : List UInt8) ++ X3 = Jx) := ⟨_, Lib.hid rfl⟩
  have hj5 : J5.length ≤ 210 := by rw [← HJ5.out]; simp only [List.length_append, List.length_cons, List.length_nil]; omega
  have hc5 : ∀ W, (Op.stringOp .add ⟨J4.toArray⟩ ⟨X3.toArray⟩).run Tryd.prog W = .ok (.string ⟨J5.toArray⟩) W := fun W => by rw [← HJ5.out]; exact cat_bigs J4 X3 (by first | omega | (simp; done)) (by first | omega | (simp; done)) W
  obtain ⟨J6, HJ6⟩ : ∃ Jx : List UInt8, Hid ((J5 : List UInt8) ++ [64] = Jx) := ⟨_, Lib.hid rfl⟩
  have hj6 : J6.length ≤ 240 := by rw [← HJ6.out]; simp only [List.length_append, List.length_cons, List.length_nil]; omega
  have hc6 : ∀ W, (Op.stringOp .add ⟨J5.toArray⟩ ⟨#[64]⟩).run Tryd.prog W = .ok (.string ⟨J6.toArray⟩) W := fun W => by rw [← HJ6.out]; exact cat_bigs J5 [64] (by first | omega | (simp; done)) (by first | omega | (simp; done)) W
  obtain ⟨J7, HJ7⟩ : ∃ Jx : List UInt8, Hid ((J6 : List UInt8) ++ X4 = Jx) := ⟨_, Lib.hid rfl⟩
  have hj7 : J7.length ≤ 270 := by rw [← HJ7.out]; simp only [List.length_append, List.length_cons, List.length_nil]; omega
  have hc7 : ∀ W, (Op.stringOp .add ⟨J6.toArray⟩ ⟨X4.toArray⟩).run Tryd.prog W = .ok (.string ⟨J7.toArray⟩) W := fun W => by rw [← HJ7.out]; exact cat_bigs J6 X4 (by first | omega | (simp; done)) (by first | omega | (simp; done)) W
  rw [HJ0.out, HJ1.out, HJ2.out, HJ3.out, HJ4.out, HJ5.out, HJ6.out, HJ7.out]
  go_enter Tryd.func17, Tryd.ntmps17
  go_wp2_with fail
  refine wp_region_held_drew (S := fun w' => BoxAt w' w.heap.size 38 #[.int .i64 x.f0, .int .i64 x.f1, .int .i64 x.f2, .int .i64 x.f3, .int .i64 x.f4] ∧ Below w.heap.size w w') (by kernel_rfl) ?_ (fun hHeld => ?_)
  · exact ⟨KB0.out.drw, HB0.out.drew⟩
  refine wpAnyH_take (i := 0) (oi := ⟨some 3, _, _, _, _, _⟩) (v := ?_) rfl (by kernel_rfl) (by kernel_rfl) (by kernel_rfl) (fun _ _ _ h => h) (Or.inl ⟨by kernel_rfl, ?_⟩) hHeld ?_
  rotate_left
  focus (intro W hS; have c0_0 := (hS.1).at_ (j := 0) rfl; have c0_1 := (hS.1).at_ (j := 1) rfl; have c0_2 := (hS.1).at_ (j := 2) rfl; have c0_3 := (hS.1).at_ (j := 3) rfl; have c0_4 := (hS.1).at_ (j := 4) rfl; clear hS; first | (go_simp; done) | (go_simp; with_reducible rfl))
  try simp only [Act.put, List.setIfInBounds_toArray, List.set_cons_zero, List.set_cons_succ]
  refine wpAnyH_take (i := 1) (oi := ⟨some 4, _, _, _, _, _⟩) (v := ?_) rfl (by kernel_rfl) (by kernel_rfl) (by kernel_rfl) (fun _ _ _ h => h) (Or.inl ⟨by kernel_rfl, ?_⟩) hHeld ?_
  rotate_left
  focus (intro W hS; have c0_0 := (hS.1).at_ (j := 0) rfl; have c0_1 := (hS.1).at_ (j := 1) rfl; have c0_2 := (hS.1).at_ (j := 2) rfl; have c0_3 := (hS.1).at_ (j := 3) rfl; have c0_4 := (hS.1).at_ (j := 4) rfl; clear hS; first | (go_simp; done) | (go_simp; with_reducible rfl))
  try simp only [Act.put, List.setIfInBounds_toArray, List.set_cons_zero, List.set_cons_succ]
  refine wpAnyH_take (i := 4) (oi := ⟨some 7, _, _, _, _, _⟩) (v := ?_) rfl (by kernel_rfl) (by kernel_rfl) (by kernel_rfl) (fun _ _ _ h => h) (Or.inl ⟨by kernel_rfl, ?_⟩) hHeld ?_
  rotate_left
  focus (intro W hS; have c0_0 := (hS.1).at_ (j := 0) rfl; have c0_1 := (hS.1).at_ (j := 1) rfl; have c0_2 := (hS.1).at_ (j := 2) rfl; have c0_3 := (hS.1).at_ (j := 3) rfl; have c0_4 := (hS.1).at_ (j := 4) rfl; clear hS; first | (go_simp; done) | (go_simp; with_reducible rfl))
  try simp only [Act.put, List.setIfInBounds_toArray, List.set_cons_zero, List.set_cons_succ]
  refine wpAnyH_take (i := 5) (oi := ⟨some 8, _, _, _, _, _⟩) (v := ?_) rfl (by kernel_rfl) (by kernel_rfl) (by kernel_rfl) (fun _ _ _ h => h) (Or.inl ⟨by kernel_rfl, ?_⟩) hHeld ?_
  rotate_left
  focus (intro W hS; have c0_0 := (hS.1).at_ (j := 0) rfl; have c0_1 := (hS.1).at_ (j := 1) rfl; have c0_2 := (hS.1).at_ (j := 2) rfl; have c0_3 := (hS.1).at_ (j := 3) rfl; have c0_4 := (hS.1).at_ (j := 4) rfl; clear hS; first | (go_simp; done) | (go_simp; with_reducible rfl))
  try simp only [Act.put, List.setIfInBounds_toArray, List.set_cons_zero, List.set_cons_succ]
  refine wpAnyH_take (i := 9) (oi := ⟨some 12, _, _, _, _, _⟩) (v := ?_) rfl (by kernel_rfl) (by kernel_rfl) (by kernel_rfl) (fun _ _ _ h => h) (Or.inl ⟨by kernel_rfl, ?_⟩) hHeld ?_
  rotate_left
  focus (intro W hS; have c0_0 := (hS.1).at_ (j := 0) rfl; have c0_1 := (hS.1).at_ (j := 1) rfl; have c0_2 := (hS.1).at_ (j := 2) rfl; have c0_3 := (hS.1).at_ (j := 3) rfl; have c0_4 := (hS.1).at_ (j := 4) rfl; clear hS; first | (go_simp; done) | (go_simp; with_reducible rfl))
  try simp only [Act.put, List.setIfInBounds_toArray, List.set_cons_zero, List.set_cons_succ]
  refine wpAnyH_take (i := 10) (oi := ⟨some 13, _, _, _, _, _⟩) (v := ?_) rfl (by kernel_rfl) (by kernel_rfl) (by kernel_rfl) (fun _ _ _ h => h) (Or.inl ⟨by kernel_rfl, ?_⟩) hHeld ?_
  rotate_left
  focus (intro W hS; have c0_0 := (hS.1).at_ (j := 0) rfl; have c0_1 := (hS.1).at_ (j := 1) rfl; have c0_2 := (hS.1).at_ (j := 2) rfl; have c0_3 := (hS.1).at_ (j := 3) rfl; have c0_4 := (hS.1).at_ (j := 4) rfl; clear hS; first | (go_simp; done) | (go_simp; with_reducible rfl))
  try simp only [Act.put, List.setIfInBounds_toArray, List.set_cons_zero, List.set_cons_succ]
  refine wpAnyH_take (i := 14) (oi := ⟨some 17, _, _, _, _, _⟩) (v := ?_) rfl (by kernel_rfl) (by kernel_rfl) (by kernel_rfl) (fun _ _ _ h => h) (Or.inl ⟨by kernel_rfl, ?_⟩) hHeld ?_
  rotate_left
  focus (intro W hS; have c0_0 := (hS.1).at_ (j := 0) rfl; have c0_1 := (hS.1).at_ (j := 1) rfl; have c0_2 := (hS.1).at_ (j := 2) rfl; have c0_3 := (hS.1).at_ (j := 3) rfl; have c0_4 := (hS.1).at_ (j := 4) rfl; clear hS; first | (go_simp; done) | (go_simp; with_reducible rfl))
  try simp only [Act.put, List.setIfInBounds_toArray, List.set_cons_zero, List.set_cons_succ]
  refine wpAnyH_take (i := 15) (oi := ⟨some 18, _, _, _, _, _⟩) (v := ?_) rfl (by kernel_rfl) (by kernel_rfl) (by kernel_rfl) (fun _ _ _ h => h) (Or.inl ⟨by kernel_rfl, ?_⟩) hHeld ?_
  rotate_left
  focus (intro W hS; have c0_0 := (hS.1).at_ (j := 0) rfl; have c0_1 := (hS.1).at_ (j := 1) rfl; have c0_2 := (hS.1).at_ (j := 2) rfl; have c0_3 := (hS.1).at_ (j := 3) rfl; have c0_4 := (hS.1).at_ (j := 4) rfl; clear hS; first | (go_simp; done) | (go_simp; with_reducible rfl))
  try simp only [Act.put, List.setIfInBounds_toArray, List.set_cons_zero, List.set_cons_succ]
  refine wpAnyH_take (i := 19) (oi := ⟨some 22, _, _, _, _, _⟩) (v := ?_) rfl (by kernel_rfl) (by kernel_rfl) (by kernel_rfl) (fun _ _ _ h => h) (Or.inl ⟨by kernel_rfl, ?_⟩) hHeld ?_
  rotate_left
  focus (intro W hS; have c0_0 := (hS.1).at_ (j := 0) rfl; have c0_1 := (hS.1).at_ (j := 1) rfl; have c0_2 := (hS.1).at_ (j := 2) rfl; have c0_3 := (hS.1).at_ (j := 3) rfl; have c0_4 := (hS.1).at_ (j := 4) rfl; clear hS; first | (go_simp; done) | (go_simp; with_reducible rfl))
  try simp only [Act.put, List.setIfInBounds_toArray, List.set_cons_zero, List.set_cons_succ]
  refine wpAnyH_take (i := 20) (oi := ⟨some 23, _, _, _, _, _⟩) (v := ?_) rfl (by kernel_rfl) (by kernel_rfl) (by kernel_rfl) (fun _ _ _ h => h) (Or.inl ⟨by kernel_rfl, ?_⟩) hHeld ?_
  rotate_left
  focus (intro W hS; have c0_0 := (hS.1).at_ (j := 0) rfl; have c0_1 := (hS.1).at_ (j := 1) rfl; have c0_2 := (hS.1).at_ (j := 2) rfl; have c0_3 := (hS.1).at_ (j := 3) rfl; have c0_4 := (hS.1).at_ (j := 4) rfl; clear hS; first | (go_simp; done) | (go_simp; with_reducible rfl))
  try simp only [Act.put, List.setIfInBounds_toArray, List.set_cons_zero, List.set_cons_succ]
  refine wpAnyH_ready (rs := [2]) (by kernel_rfl) (by simp) ?_
  refine AllReadyH.cons (o := ⟨some 5, _, _, _, _, _⟩) rfl (fun K hK => ?_) AllReadyH.nil
  go_simp
  refine Calls.mono (C0.out _ (pow10_below HT.out hHeld.2)) ?_
  rintro e x1 ⟨rfl, hb1⟩
  refine hK.out _ _ ⟨hHeld.1.new hb1, below_trans hHeld.2 hb1 (Nat.le_refl _)⟩ (fun hHeld' => ?_)
  clear hK K hHeld hb1
  have hHeld := hHeld'
  clear hHeld'
  try simp only [Act.put, List.setIfInBounds_toArray, List.set_cons_zero, List.set_cons_succ]
  refine wpAnyH_take (i := 3) (oi := ⟨some 6, _, _, _, _, _⟩) (v := ?_) rfl (by kernel_rfl) (by kernel_rfl) (by kernel_rfl) (fun _ _ _ h => h) (Or.inl ⟨by kernel_rfl, ?_⟩) hHeld ?_
  rotate_left
  focus (intro W hS; have c0_0 := (hS.1).at_ (j := 0) rfl; have c0_1 := (hS.1).at_ (j := 1) rfl; have c0_2 := (hS.1).at_ (j := 2) rfl; have c0_3 := (hS.1).at_ (j := 3) rfl; have c0_4 := (hS.1).at_ (j := 4) rfl; clear hS; first | (go_simp; done) | (go_simp; with_reducible rfl))
  try simp only [Act.put, List.setIfInBounds_toArray, List.set_cons_zero, List.set_cons_succ]
  refine wpAnyH_ready (rs := [6]) (by kernel_rfl) (by simp) ?_
  refine AllReadyH.cons (o := ⟨some 9, _, _, _, _, _⟩) rfl (fun K hK => ?_) AllReadyH.nil
  go_simp
  refine Calls.mono (C1.out _ (pow10_below HT.out hHeld.2)) ?_
  rintro e x2 ⟨rfl, hb1⟩
  refine hK.out _ _ ⟨hHeld.1.new hb1, below_trans hHeld.2 hb1 (Nat.le_refl _)⟩ (fun hHeld' => ?_)
  clear hK K hHeld hb1
  have hHeld := hHeld'
  clear hHeld'
  try simp only [Act.put, List.setIfInBounds_toArray, List.set_cons_zero, List.set_cons_succ]
  refine wpAnyH_take (i := 7) (oi := ⟨some 10, _, _, _, _, _⟩) (v := ?_) rfl (by kernel_rfl) (by kernel_rfl) (by kernel_rfl) (fun _ _ _ h => h) (Or.inl ⟨by kernel_rfl, ?_⟩) hHeld ?_
  rotate_left
  focus (intro W hS; have c0_0 := (hS.1).at_ (j := 0) rfl; have c0_1 := (hS.1).at_ (j := 1) rfl; have c0_2 := (hS.1).at_ (j := 2) rfl; have c0_3 := (hS.1).at_ (j := 3) rfl; have c0_4 := (hS.1).at_ (j := 4) rfl; clear hS; first | (go_simp; done) | (go_simp; with_reducible rfl))
  try simp only [Act.put, List.setIfInBounds_toArray, List.set_cons_zero, List.set_cons_succ]
  refine wpAnyH_take (i := 8) (oi := ⟨some 11, _, _, _, _, _⟩) (v := ?_) rfl (by kernel_rfl) (by kernel_rfl) (by kernel_rfl) (fun _ _ _ h => h) (Or.inl ⟨by kernel_rfl, ?_⟩) hHeld ?_
  rotate_left
  focus (intro W hS; have c0_0 := (hS.1).at_ (j := 0) rfl; have c0_1 := (hS.1).at_ (j := 1) rfl; have c0_2 := (hS.1).at_ (j := 2) rfl; have c0_3 := (hS.1).at_ (j := 3) rfl; have c0_4 := (hS.1).at_ (j := 4) rfl; clear hS; first | (go_simp; done) | (go_simp; with_reducible rfl))
  try simp only [Act.put, List.setIfInBounds_toArray, List.set_cons_zero, List.set_cons_succ]
  refine wpAnyH_ready (rs := [11]) (by kernel_rfl) (by simp) ?_
  refine AllReadyH.cons (o := ⟨some 14, _, _, _, _, _⟩) rfl (fun K hK => ?_) AllReadyH.nil
  go_simp
  refine Calls.mono (C2.out _ (pow10_below HT.out hHeld.2)) ?_
  rintro e x3 ⟨rfl, hb1⟩
  refine hK.out _ _ ⟨hHeld.1.new hb1, below_trans hHeld.2 hb1 (Nat.le_refl _)⟩ (fun hHeld' => ?_)
  clear hK K hHeld hb1
  have hHeld := hHeld'
  clear hHeld'
  try simp only [Act.put, List.setIfInBounds_toArray, List.set_cons_zero, List.set_cons_succ]
  refine wpAnyH_take (i := 12) (oi := ⟨some 15, _, _, _, _, _⟩) (v := ?_) rfl (by kernel_rfl) (by kernel_rfl) (by kernel_rfl) (fun _ _ _ h => h) (Or.inl ⟨by kernel_rfl, ?_⟩) hHeld ?_
  rotate_left
  focus (intro W hS; have c0_0 := (hS.1).at_ (j := 0) rfl; have c0_1 := (hS.1).at_ (j := 1) rfl; have c0_2 := (hS.1).at_ (j := 2) rfl; have c0_3 := (hS.1).at_ (j := 3) rfl; have c0_4 := (hS.1).at_ (j := 4) rfl; clear hS; first | (go_simp; done) | (go_simp; with_reducible rfl))
  try simp only [Act.put, List.setIfInBounds_toArray, List.set_cons_zero, List.set_cons_succ]
  refine wpAnyH_take (i := 13) (oi := ⟨some 16, _, _, _, _, _⟩) (v := ?_) rfl (by kernel_rfl) (by kernel_rfl) (by kernel_rfl) (fun _ _ _ h => h) (Or.inl ⟨by kernel_rfl, ?_⟩) hHeld ?_
  rotate_left
  focus (intro W hS; have c0_0 := (hS.1).at_ (j := 0) rfl; have c0_1 := (hS.1).at_ (j := 1) rfl; have c0_2 := (hS.1).at_ (j := 2) rfl; have c0_3 := (hS.1).at_ (j := 3) rfl; have c0_4 := (hS.1).at_ (j := 4) rfl; clear hS; first | (go_simp; done) | (go_simp; with_reducible rfl))
  try simp only [Act.put, List.setIfInBounds_toArray, List.set_cons_zero, List.set_cons_succ]
  refine wpAnyH_ready (rs := [16]) (by kernel_rfl) (by simp) ?_
  refine AllReadyH.cons (o := ⟨some 19, _, _, _, _, _⟩) rfl (fun K hK => ?_) AllReadyH.nil
  go_simp
  refine Calls.mono (C3.out _ (pow10_below HT.out hHeld.2)) ?_
  rintro e x4 ⟨rfl, hb1⟩
  refine hK.out _ _ ⟨hHeld.1.new hb1, below_trans hHeld.2 hb1 (Nat.le_refl _)⟩ (fun hHeld' => ?_)
  clear hK K hHeld hb1
  have hHeld := hHeld'
  clear hHeld'
  try simp only [Act.put, List.setIfInBounds_toArray, List.set_cons_zero, List.set_cons_succ]
  refine wpAnyH_take (i := 17) (oi := ⟨some 20, _, _, _, _, _⟩) (v := ?_) rfl (by kernel_rfl) (by kernel_rfl) (by kernel_rfl) (fun _ _ _ h => h) (Or.inl ⟨by kernel_rfl, ?_⟩) hHeld ?_
  rotate_left
  focus (intro W hS; have c0_0 := (hS.1).at_ (j := 0) rfl; have c0_1 := (hS.1).at_ (j := 1) rfl; have c0_2 := (hS.1).at_ (j := 2) rfl; have c0_3 := (hS.1).at_ (j := 3) rfl; have c0_4 := (hS.1).at_ (j := 4) rfl; clear hS; first | (go_simp; done) | (go_simp; with_reducible rfl))
  try simp only [Act.put, List.setIfInBounds_toArray, List.set_cons_zero, List.set_cons_succ]
  refine wpAnyH_take (i := 18) (oi := ⟨some 21, _, _, _, _, _⟩) (v := ?_) rfl (by kernel_rfl) (by kernel_rfl) (by kernel_rfl) (fun _ _ _ h => h) (Or.inl ⟨by kernel_rfl, ?_⟩) hHeld ?_
  rotate_left
  focus (intro W hS; have c0_0 := (hS.1).at_ (j := 0) rfl; have c0_1 := (hS.1).at_ (j := 1) rfl; have c0_2 := (hS.1).at_ (j := 2) rfl; have c0_3 := (hS.1).at_ (j := 3) rfl; have c0_4 := (hS.1).at_ (j := 4) rfl; clear hS; first | (go_simp; done) | (go_simp; with_reducible rfl))
  try simp only [Act.put, List.setIfInBounds_toArray, List.set_cons_zero, List.set_cons_succ]
  refine wpAnyH_ready (rs := [21]) (by kernel_rfl) (by simp) ?_
  refine AllReadyH.cons (o := ⟨some 24, _, _, _, _, _⟩) rfl (fun K hK => ?_) AllReadyH.nil
  go_simp
  refine Calls.mono (C4.out _ (pow10_below HT.out hHeld.2)) ?_
  rintro e x5 ⟨rfl, hb1⟩
  refine hK.out _ _ ⟨hHeld.1.new hb1, below_trans hHeld.2 hb1 (Nat.le_refl _)⟩ (fun hHeld' => ?_)
  clear hK K hHeld hb1
  have hHeld := hHeld'
  clear hHeld'
  try simp only [Act.put, List.setIfInBounds_toArray, List.set_cons_zero, List.set_cons_succ]
  refine wpAnyH_take (i := 22) (oi := ⟨some 25, _, _, _, _, _⟩) (v := ?_) rfl (by kernel_rfl) (by kernel_rfl) (by kernel_rfl) (fun _ _ _ h => h) (Or.inl ⟨by kernel_rfl, ?_⟩) hHeld ?_
  rotate_left
  focus (intro W hS; have c0_0 := (hS.1).at_ (j := 0) rfl; have c0_1 := (hS.1).at_ (j := 1) rfl; have c0_2 := (hS.1).at_ (j := 2) rfl; have c0_3 := (hS.1).at_ (j := 3) rfl; have c0_4 := (hS.1).at_ (j := 4) rfl; clear hS; first | (go_simp; done) | (go_simp; with_reducible rfl))
  try simp only [Act.put, List.setIfInBounds_toArray, List.set_cons_zero, List.set_cons_succ]
  refine wpAnyH_take (i := 23) (oi := ⟨some 2, _, _, _, _, _⟩) (v := ?_) rfl (by kernel_rfl) (by kernel_rfl) (by kernel_rfl) (fun _ _ _ h => h) (Or.inl ⟨by kernel_rfl, ?_⟩) hHeld ?_
  rotate_left
  focus (intro W hS; have c0_0 := (hS.1).at_ (j := 0) rfl; have c0_1 := (hS.1).at_ (j := 1) rfl; have c0_2 := (hS.1).at_ (j := 2) rfl; have c0_3 := (hS.1).at_ (j := 3) rfl; have c0_4 := (hS.1).at_ (j := 4) rfl; clear hS; first | (go_simp; done) | (go_simp; with_reducible rfl))
  try simp only [Act.put, List.setIfInBounds_toArray, List.set_cons_zero, List.set_cons_succ]
  refine wpAnyH_done (by kernel_rfl) ?_ _
  go_wp2_with fail
  go_ret
  exact ⟨rfl, hHeld.2⟩

set_option maxHeartbeats 16000000 in
theorem impl_DocumentText (l : List TNode) (A : Option Addr) (n c lo hi : Nat) (w : World) (hT : Pow10 w) (hn : n ≤ 1048576) (hr : Rd w lo hi 5 A n (cNode l)) (b0 : Hid (cNodeOk l)) :
    Calls Tryd.prog 8 #[.slice A n c] w (Says (.string ⟨(lTx (l.map tNd)).toArray⟩) w) := by
  have HL := Lib.hid (rd_len TNode.len hr (by decide))
  have HLm := Lib.hid (show (l.map tNd).length = n by rw [List.length_map, HL.out])
  by_cases h0 : n = 0
  · have HE := Lib.hid (show lTx (l.map tNd) = [45] by unfold lTx; rw [if_pos (by rw [HLm.out]; exact h0)])
    rw [HE.out]
    have hT0 : ((n : Int) == 0) = true := by simpa using h0
    go_enter Tryd.func8, Tryd.ntmps8
    go_wp2_with fail
    go_ret
    exact ⟨rfl, Below.refl _ _⟩
  · have HE := Lib.hid (show lTx (l.map tNd) = Lib.join (l.map tNd) [32] by unfold lTx; rw [if_neg (by rw [HLm.out]; exact h0)])
    rw [HE.out]
    have hT0 : ((n : Int) == 0) = false := by simpa using h0
    have HF := Lib.hid (fun x (h : x ∈ l) => b0.out x h)
    have HM := Lib.hid (in_map (l := l) (f := tNd) (m := 120) (fun x hx => tNd_len (b0.out x hx)))
    have hmk : ∀ W, (Instr.makeSlice 41 (.int .i64 n) (.int .i64 n)).run Tryd.prog W = .ok (.slice (some ⟨W.heap.size, 0, none⟩) n n) (W.alloc (.cells (madeCells #[.string ⟨#[]⟩] n) 9)) := fun W => run_make_row' (P := Tryd.prog) 41 9 (.string ⟨#[]⟩) 16 Tryd.underlying41 info_str rfl .i64 .i64 n (by omega) (by omega) W
    have CJ := Lib.hid (fun (W : World) (A1 : Option Addr) (c1 lo1 hi1 : Nat) (hc : n ≤ c1) (h : Rd W lo1 hi1 1 A1 n ((l.map tNd).map vTx)) => join_tx (l.map tNd) A1 n c1 lo1 hi1 [32] W (by omega) hn hc (by have := jn_len (sep := [32]) (by decide) 120 _ HM.out; rw [HLm.out] at this; omega) h)
    have HR := Lib.hid hr
    have HT := Lib.hid hT
    generalize Lib.join (l.map tNd) [32] = J at CJ ⊢
    clear hr hT b0 HE HM
    obtain ⟨ts, hts⟩ : ∃ ts, l.map tNd = ts := ⟨_, rfl⟩
    have HTs := Lib.hid hts
    rw [hts] at HLm CJ
    clear hts
    go_enter Tryd.func8, Tryd.ntmps8
    go_wp2_with fail
    go_loopg [14] n (fun gg i wr => ∃ k : Nat, k ≤ n ∧ n - k ≤ gg ∧ i = .int .i64 k ∧ Hid (Pre wr w.heap.size 9 n (ts.map vTx) k) ∧ Hid (Below w.heap.size w wr))
    case atStart => exact ⟨0, Nat.zero_le _, by omega, rfl, Lib.hid (pre_start (by rw [size_madeCells])), Lib.hid ((Below.refl _ _).alloc (Nat.le_refl _) _)⟩
    case round =>
      obtain ⟨k, hk, hg, rfl, HP, HB⟩ := hrel
      have HS := Lib.hid HB.out.size
      by_cases hlt : k < n
      · obtain ⟨b, off, x, rfl, _, _, hz, hc⟩ := rd_elem TNode.len (HR.out.new HB.out) HL.out hlt
        have c0 : wr.cell? ⟨b, off + k * 5, none⟩ = _ := hc 0 _ rfl
        have c1 := hc 1 _ rfl
        have c2 := hc 2 _ rfl
        have c3 := hc 3 _ rfl
        have c4 := hc 4 _ rfl
        have HV : Hid ((ts.map vTx)[k]? = some (vTx (tNd x))) := Lib.hid (by rw [← HTs.out, List.getElem?_map, List.getElem?_map, hz]; rfl)
        have C0 := Lib.hid (fun W hW => impl_nodeText x W hW (Lib.hid (HF.out x (List.mem_of_getElem? hz))))
        generalize tNd x = X at C0 HV
        clear hz hc
        go_wp2_with fail
        refine Calls.mono (C0.out _ (pow10_below HT.out (HB.out.alloc HS.out _))) ?_
        rintro e w1 ⟨rfl, hb1⟩
        have HP1 := Lib.hid ((HP.out.new ((Below.refl _ _).alloc (Nat.le_refl _) _)).new hb1)
        have HB1 := Lib.hid (below_trans (HB.out.alloc HS.out _) hb1 (by simp))
        obtain ⟨q0, d0⟩ := HP1.out.cell (j := k) hlt
        have g0 := HP1.out.frozen k
        clear hb1 c0 c1 c2 c3 c4
        go_wp2_with fail
        go_roundg (n - (k + 1))
        case measure => omega
        case rel => exact ⟨k + 1, by omega, by omega, by go_num, Lib.hid (HP1.out.step HV.out), Lib.hid (HB1.out.setCell (by simp) _)⟩
      · obtain rfl : n = k := by omega
        have HRd := Lib.hid ((HP.out.at_ (by omega) |> fun h => Pre.fr (size := 1) (lo := 0) (hi := wr.heap.size) (by simpa using h) (by omega) (by have := HP.out.lt; exact this) (by unfold maxLen; omega) (by rw [List.length_map, HLm.out]; omega)).rd)
        have C1 := Lib.hid (CJ.out wr _ n _ _ (Nat.le_refl _) HRd.out)
        clear CJ HRd
        go_wp2_with fail
        refine C1.out.mono ?_
        rintro e w2 ⟨rfl, hb2⟩
        have HB2 := Lib.hid (below_trans HB.out hb2 (Nat.le_refl _))
        clear hb2
        go_wp2_with fail
        go_ret
        exact ⟨rfl, HB2.out⟩

end Go.Proofs.YtpefeihpoafkdaaDoor
