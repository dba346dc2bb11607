/- SnapshotText, of the program and of the model. -/
import Derived.Test.YtmelfgimhilhbaaDoorTxt
import Derived.Test.YtmelfgimhilhbaaDoorRSnapshot
import Derived.Test.YtmelfgimhilhbaaDoorReg
import Derived.Deep.RegionHeld3
namespace Go.Proofs.YtmelfgimhilhbaaDoor
open Go Go.ChangeShapes Go.WideShapes Go.ChangeAt Go.RowKit Go.Lib
set_option linter.unusedVariables false
set_option linter.unusedSimpArgs false
set_option maxRecDepth 100000
def tSnap (a b n : Int) : List UInt8 := itoa a ++ [32] ++ itoa b ++ [32] ++ itoa n
set_option maxHeartbeats 8000000 in
theorem impl_SnapshotText (p0 p1 p2 : Int) (l3 : List TGrant) (A3 : Option Addr) (n3 c3 lo3 hi3 : Nat) (l4 : List TFlow) (A4 : Option Addr) (n4 c4 lo4 hi4 : Nat) (l5 : List TRule) (A5 : Option Addr) (n5 c5 lo5 hi5 : Nat) (l6 : List TOp) (A6 : Option Addr) (n6 c6 lo6 hi6 : Nat) (p7 : Int) (l8 : List TStored) (A8 : Option Addr) (n8 c8 lo8 hi8 : Nat) (w : World) (hT : Pow10 w) (wf0 : (Lit.int .i64 p0).wf = true) (wf1 : (Lit.int .i64 p1).wf = true) (wf2 : (Lit.int .i64 p2).wf = true) (h3 : n3 ≤ 1048576) (r3 : Rd w lo3 hi3 7 A3 n3 (cGrant l3)) (b3 : Hid (cGrantOk l3)) (h4 : n4 ≤ 1048576) (r4 : Rd w lo4 hi4 3 A4 n4 (cFlow l4)) (b4 : Hid (cFlowOk l4)) (h5 : n5 ≤ 1048576) (r5 : Rd w lo5 hi5 8 A5 n5 (cRule l5)) (b5 : Hid (cRuleOk l5)) (h6 : n6 ≤ 1048576) (r6 : Rd w lo6 hi6 4 A6 n6 (cOp l6)) (b6 : Hid (cOpOk l6)) (wf7 : (Lit.int .i64 p7).wf = true) (h8 : n8 ≤ 1048576) (r8 : Rd w lo8 hi8 4 A8 n8 (cStored l8)) (b8 : Hid (cStoredOk l8)) :
    Calls Tryd.prog 20 #[.agg #[.int .i64 p0, .int .i64 p1, .int .i64 p2, .slice A3 n3 c3, .slice A4 n4 c4, .slice A5 n5 c5, .slice A6 n6 c6, .int .i64 p7, .slice A8 n8 c8]] w (Says (.string ⟨(tSnap p0 p2 (l8.length : Int)).toArray⟩) w) := by
  have HL8 := rd_len TStored.len r8 (by decide)
  rw [HL8]
  clear r3 r4 r5 r6 r8 HL8
  have HT := Lib.hid hT
  have g0 : -9223372036854775808 ≤ p0 ∧ p0 ≤ 9223372036854775807 := by have h := wf0; simp [Lit.wf] at h; exact ⟨h.1, h.2⟩
  have g2 : -9223372036854775808 ≤ p2 ∧ p2 ≤ 9223372036854775807 := by have h := wf2; simp [Lit.wf] at h; exact ⟨h.1, h.2⟩
  have g8 : -9223372036854775808 ≤ (n8 : Int) ∧ (n8 : Int) ≤ 9223372036854775807 := by omega
  have C0 := Lib.hid (says_impl p0 g0)
  have C1 := Lib.hid (says_impl p2 g2)
  have C2 := Lib.hid (says_impl (n8 : Int) g8)
  have hx := itoa_in g0
  have hy := itoa_in g2
  have hz := itoa_in g8
  unfold tSnap
  generalize itoa p0 = X at C0 hx ⊢
  generalize itoa p2 = Y at C1 hy ⊢
  generalize itoa (n8 : Int) = Z at C2 hz ⊢
  have KB := Lib.hid (box_new w 62 #[.int .i64 p0, .int .i64 p1, .int .i64 p2, .slice A3 n3 c3, .slice A4 n4 c4, .slice A5 n5 c5, .slice A6 n6 c6, .int .i64 p7, .slice A8 n8 c8])
  have HB := Lib.hid ((Below.refl w.heap.size w).alloc (Nat.le_refl _) (.cells #[.int .i64 p0, .int .i64 p1, .int .i64 p2, .slice A3 n3 c3, .slice A4 n4 c4, .slice A5 n5 c5, .slice A6 n6 c6, .int .i64 p7, .slice A8 n8 c8] 62))
  clear hT wf0 wf1 wf2 wf7 g0 g2 g8
  have hc0 : ∀ W, (Op.stringOp .add ⟨X.toArray⟩ ⟨#[32]⟩).run Tryd.prog W = .ok (.string ⟨((X : List UInt8) ++ [32]).toArray⟩) W := fun W => cat_lists (X) ([32]) (by first | omega | (simp; done) | (simp <;> omega)) (by first | omega | (simp; done) | (simp <;> omega)) W
  have hc1 : ∀ W, (Op.stringOp .add ⟨(X ++ [32]).toArray⟩ ⟨Y.toArray⟩).run Tryd.prog W = .ok (.string ⟨((X ++ [32] : List UInt8) ++ Y).toArray⟩) W := fun W => cat_lists (X ++ [32]) (Y) (by first | omega | (simp; done) | (simp <;> omega)) (by first | omega | (simp; done) | (simp <;> omega)) W
  have hc2 : ∀ W, (Op.stringOp .add ⟨(X ++ 32 :: Y).toArray⟩ ⟨#[32]⟩).run Tryd.prog W = .ok (.string ⟨((X ++ 32 :: Y : List UInt8) ++ [32]).toArray⟩) W := fun W => cat_lists (X ++ 32 :: Y) ([32]) (by first | omega | (simp; done) | (simp <;> omega)) (by first | omega | (simp; done) | (simp <;> omega)) W
  have hc3 : ∀ W, (Op.stringOp .add ⟨(X ++ 32 :: (Y ++ [32])).toArray⟩ ⟨Z.toArray⟩).run Tryd.prog W = .ok (.string ⟨((X ++ 32 :: (Y ++ [32]) : List UInt8) ++ Z).toArray⟩) W := fun W => cat_lists (X ++ 32 :: (Y ++ [32])) (Z) (by first | omega | (simp; done) | (simp <;> omega)) (by first | omega | (simp; done) | (simp <;> omega)) W
  go_enter Tryd.func20, Tryd.ntmps20
  go_wp2_with fail
  refine wp_region_held_drew (S := fun w' => BoxAt w' w.heap.size 62 #[.int .i64 p0, .int .i64 p1, .int .i64 p2, .slice A3 n3 c3, .slice A4 n4 c4, .slice A5 n5 c5, .slice A6 n6 c6, .int .i64 p7, .slice A8 n8 c8] ∧ Below w.heap.size w w') (by kernel_rfl) ?_ (fun hHeld => ?_)
  · exact ⟨KB.out.drw, HB.out.drew⟩
  refine wpAnyH_take (i := 0) (oi := ⟨some 3, _, _, _, _, _⟩) (v := ?_) rfl (by kernel_rfl) (by kernel_rfl) (by kernel_rfl) (fun _ _ _ h => h) (Or.inl ⟨by kernel_rfl, ?_⟩) hHeld ?_
  rotate_left
  focus (intro W hS; have c0_0 := (hS.1).at_ (j := 0) rfl; have c0_1 := (hS.1).at_ (j := 1) rfl; have c0_2 := (hS.1).at_ (j := 2) rfl; have c0_3 := (hS.1).at_ (j := 3) rfl; have c0_4 := (hS.1).at_ (j := 4) rfl; have c0_5 := (hS.1).at_ (j := 5) rfl; have c0_6 := (hS.1).at_ (j := 6) rfl; have c0_7 := (hS.1).at_ (j := 7) rfl; have c0_8 := (hS.1).at_ (j := 8) rfl; clear hS; first | (go_simp; done) | (go_simp; with_reducible rfl))
  try simp only [Act.put, List.setIfInBounds_toArray, List.set_cons_zero, List.set_cons_succ]
  refine wpAnyH_take (i := 1) (oi := ⟨some 4, _, _, _, _, _⟩) (v := ?_) rfl (by kernel_rfl) (by kernel_rfl) (by kernel_rfl) (fun _ _ _ h => h) (Or.inl ⟨by kernel_rfl, ?_⟩) hHeld ?_
  rotate_left
  focus (intro W hS; have c0_0 := (hS.1).at_ (j := 0) rfl; have c0_1 := (hS.1).at_ (j := 1) rfl; have c0_2 := (hS.1).at_ (j := 2) rfl; have c0_3 := (hS.1).at_ (j := 3) rfl; have c0_4 := (hS.1).at_ (j := 4) rfl; have c0_5 := (hS.1).at_ (j := 5) rfl; have c0_6 := (hS.1).at_ (j := 6) rfl; have c0_7 := (hS.1).at_ (j := 7) rfl; have c0_8 := (hS.1).at_ (j := 8) rfl; clear hS; first | (go_simp; done) | (go_simp; with_reducible rfl))
  try simp only [Act.put, List.setIfInBounds_toArray, List.set_cons_zero, List.set_cons_succ]
  refine wpAnyH_take (i := 2) (oi := ⟨some 5, _, _, _, _, _⟩) (v := ?_) rfl (by kernel_rfl) (by kernel_rfl) (by kernel_rfl) (fun _ _ _ h => h) (Or.inl ⟨by kernel_rfl, ?_⟩) hHeld ?_
  rotate_left
  focus (intro W hS; have c0_0 := (hS.1).at_ (j := 0) rfl; have c0_1 := (hS.1).at_ (j := 1) rfl; have c0_2 := (hS.1).at_ (j := 2) rfl; have c0_3 := (hS.1).at_ (j := 3) rfl; have c0_4 := (hS.1).at_ (j := 4) rfl; have c0_5 := (hS.1).at_ (j := 5) rfl; have c0_6 := (hS.1).at_ (j := 6) rfl; have c0_7 := (hS.1).at_ (j := 7) rfl; have c0_8 := (hS.1).at_ (j := 8) rfl; clear hS; first | (go_simp; done) | (go_simp; with_reducible rfl))
  try simp only [Act.put, List.setIfInBounds_toArray, List.set_cons_zero, List.set_cons_succ]
  refine wpAnyH_take (i := 5) (oi := ⟨some 8, _, _, _, _, _⟩) (v := ?_) rfl (by kernel_rfl) (by kernel_rfl) (by kernel_rfl) (fun _ _ _ h => h) (Or.inl ⟨by kernel_rfl, ?_⟩) hHeld ?_
  rotate_left
  focus (intro W hS; have c0_0 := (hS.1).at_ (j := 0) rfl; have c0_1 := (hS.1).at_ (j := 1) rfl; have c0_2 := (hS.1).at_ (j := 2) rfl; have c0_3 := (hS.1).at_ (j := 3) rfl; have c0_4 := (hS.1).at_ (j := 4) rfl; have c0_5 := (hS.1).at_ (j := 5) rfl; have c0_6 := (hS.1).at_ (j := 6) rfl; have c0_7 := (hS.1).at_ (j := 7) rfl; have c0_8 := (hS.1).at_ (j := 8) rfl; clear hS; first | (go_simp; done) | (go_simp; with_reducible rfl))
  try simp only [Act.put, List.setIfInBounds_toArray, List.set_cons_zero, List.set_cons_succ]
  refine wpAnyH_take (i := 6) (oi := ⟨some 9, _, _, _, _, _⟩) (v := ?_) rfl (by kernel_rfl) (by kernel_rfl) (by kernel_rfl) (fun _ _ _ h => h) (Or.inl ⟨by kernel_rfl, ?_⟩) hHeld ?_
  rotate_left
  focus (intro W hS; have c0_0 := (hS.1).at_ (j := 0) rfl; have c0_1 := (hS.1).at_ (j := 1) rfl; have c0_2 := (hS.1).at_ (j := 2) rfl; have c0_3 := (hS.1).at_ (j := 3) rfl; have c0_4 := (hS.1).at_ (j := 4) rfl; have c0_5 := (hS.1).at_ (j := 5) rfl; have c0_6 := (hS.1).at_ (j := 6) rfl; have c0_7 := (hS.1).at_ (j := 7) rfl; have c0_8 := (hS.1).at_ (j := 8) rfl; clear hS; first | (go_simp; done) | (go_simp; with_reducible rfl))
  try simp only [Act.put, List.setIfInBounds_toArray, List.set_cons_zero, List.set_cons_succ]
  refine wpAnyH_take (i := 7) (oi := ⟨some 10, _, _, _, _, _⟩) (v := ?_) rfl (by kernel_rfl) (by kernel_rfl) (by kernel_rfl) (fun _ _ _ h => h) (Or.inl ⟨by kernel_rfl, ?_⟩) hHeld ?_
  rotate_left
  focus (intro W hS; have c0_0 := (hS.1).at_ (j := 0) rfl; have c0_1 := (hS.1).at_ (j := 1) rfl; have c0_2 := (hS.1).at_ (j := 2) rfl; have c0_3 := (hS.1).at_ (j := 3) rfl; have c0_4 := (hS.1).at_ (j := 4) rfl; have c0_5 := (hS.1).at_ (j := 5) rfl; have c0_6 := (hS.1).at_ (j := 6) rfl; have c0_7 := (hS.1).at_ (j := 7) rfl; have c0_8 := (hS.1).at_ (j := 8) rfl; clear hS; first | (go_simp; done) | (go_simp; with_reducible rfl))
  try simp only [Act.put, List.setIfInBounds_toArray, List.set_cons_zero, List.set_cons_succ]
  refine wpAnyH_take (i := 11) (oi := ⟨some 14, _, _, _, _, _⟩) (v := ?_) rfl (by kernel_rfl) (by kernel_rfl) (by kernel_rfl) (fun _ _ _ h => h) (Or.inl ⟨by kernel_rfl, ?_⟩) hHeld ?_
  rotate_left
  focus (intro W hS; have c0_0 := (hS.1).at_ (j := 0) rfl; have c0_1 := (hS.1).at_ (j := 1) rfl; have c0_2 := (hS.1).at_ (j := 2) rfl; have c0_3 := (hS.1).at_ (j := 3) rfl; have c0_4 := (hS.1).at_ (j := 4) rfl; have c0_5 := (hS.1).at_ (j := 5) rfl; have c0_6 := (hS.1).at_ (j := 6) rfl; have c0_7 := (hS.1).at_ (j := 7) rfl; have c0_8 := (hS.1).at_ (j := 8) rfl; clear hS; first | (go_simp; done) | (go_simp; with_reducible rfl))
  try simp only [Act.put, List.setIfInBounds_toArray, List.set_cons_zero, List.set_cons_succ]
  refine wpAnyH_take (i := 12) (oi := ⟨some 15, _, _, _, _, _⟩) (v := ?_) rfl (by kernel_rfl) (by kernel_rfl) (by kernel_rfl) (fun _ _ _ h => h) (Or.inl ⟨by kernel_rfl, ?_⟩) hHeld ?_
  rotate_left
  focus (intro W hS; have c0_0 := (hS.1).at_ (j := 0) rfl; have c0_1 := (hS.1).at_ (j := 1) rfl; have c0_2 := (hS.1).at_ (j := 2) rfl; have c0_3 := (hS.1).at_ (j := 3) rfl; have c0_4 := (hS.1).at_ (j := 4) rfl; have c0_5 := (hS.1).at_ (j := 5) rfl; have c0_6 := (hS.1).at_ (j := 6) rfl; have c0_7 := (hS.1).at_ (j := 7) rfl; have c0_8 := (hS.1).at_ (j := 8) rfl; clear hS; first | (go_simp; done) | (go_simp; with_reducible rfl))
  try simp only [Act.put, List.setIfInBounds_toArray, List.set_cons_zero, List.set_cons_succ]
  refine wpAnyH_take (i := 13) (oi := ⟨some 16, _, _, _, _, _⟩) (v := ?_) rfl (by kernel_rfl) (by kernel_rfl) (by kernel_rfl) (fun _ _ _ h => h) (Or.inl ⟨by kernel_rfl, ?_⟩) hHeld ?_
  rotate_left
  focus (intro W hS; have c0_0 := (hS.1).at_ (j := 0) rfl; have c0_1 := (hS.1).at_ (j := 1) rfl; have c0_2 := (hS.1).at_ (j := 2) rfl; have c0_3 := (hS.1).at_ (j := 3) rfl; have c0_4 := (hS.1).at_ (j := 4) rfl; have c0_5 := (hS.1).at_ (j := 5) rfl; have c0_6 := (hS.1).at_ (j := 6) rfl; have c0_7 := (hS.1).at_ (j := 7) rfl; have c0_8 := (hS.1).at_ (j := 8) rfl; clear hS; first | (go_simp; done) | (go_simp; with_reducible rfl))
  try simp only [Act.put, List.setIfInBounds_toArray, List.set_cons_zero, List.set_cons_succ]
  refine wpAnyH_ready (rs := [3]) (by kernel_rfl) (by simp) ?_
  refine AllReadyH.cons (o := ⟨some 6, _, _, _, _, _⟩) rfl (fun K hK => ?_) AllReadyH.nil
  go_simp
  refine Calls.mono (C0.out _ (pow10_below HT.out hHeld.2)) ?_
  rintro e x1 ⟨rfl, hb1⟩
  refine hK.out _ _ ⟨hHeld.1.new hb1, below_trans hHeld.2 hb1 (Nat.le_refl _)⟩ (fun hHeld' => ?_)
  clear hK K hHeld hb1
  have hHeld := hHeld'
  clear hHeld'
  try simp only [Act.put, List.setIfInBounds_toArray, List.set_cons_zero, List.set_cons_succ]
  refine wpAnyH_take (i := 4) (oi := ⟨some 7, _, _, _, _, _⟩) (v := ?_) rfl (by kernel_rfl) (by kernel_rfl) (by kernel_rfl) (fun _ _ _ h => h) (Or.inl ⟨by kernel_rfl, ?_⟩) hHeld ?_
  rotate_left
  focus (intro W hS; have c0_0 := (hS.1).at_ (j := 0) rfl; have c0_1 := (hS.1).at_ (j := 1) rfl; have c0_2 := (hS.1).at_ (j := 2) rfl; have c0_3 := (hS.1).at_ (j := 3) rfl; have c0_4 := (hS.1).at_ (j := 4) rfl; have c0_5 := (hS.1).at_ (j := 5) rfl; have c0_6 := (hS.1).at_ (j := 6) rfl; have c0_7 := (hS.1).at_ (j := 7) rfl; have c0_8 := (hS.1).at_ (j := 8) rfl; clear hS; first | (go_simp; done) | (go_simp; with_reducible rfl))
  try simp only [Act.put, List.setIfInBounds_toArray, List.set_cons_zero, List.set_cons_succ]
  refine wpAnyH_ready (rs := [8]) (by kernel_rfl) (by simp) ?_
  refine AllReadyH.cons (o := ⟨some 11, _, _, _, _, _⟩) rfl (fun K hK => ?_) AllReadyH.nil
  go_simp
  refine Calls.mono (C1.out _ (pow10_below HT.out hHeld.2)) ?_
  rintro e x2 ⟨rfl, hb1⟩
  refine hK.out _ _ ⟨hHeld.1.new hb1, below_trans hHeld.2 hb1 (Nat.le_refl _)⟩ (fun hHeld' => ?_)
  clear hK K hHeld hb1
  have hHeld := hHeld'
  clear hHeld'
  try simp only [Act.put, List.setIfInBounds_toArray, List.set_cons_zero, List.set_cons_succ]
  refine wpAnyH_take (i := 9) (oi := ⟨some 12, _, _, _, _, _⟩) (v := ?_) rfl (by kernel_rfl) (by kernel_rfl) (by kernel_rfl) (fun _ _ _ h => h) (Or.inl ⟨by kernel_rfl, ?_⟩) hHeld ?_
  rotate_left
  focus (intro W hS; have c0_0 := (hS.1).at_ (j := 0) rfl; have c0_1 := (hS.1).at_ (j := 1) rfl; have c0_2 := (hS.1).at_ (j := 2) rfl; have c0_3 := (hS.1).at_ (j := 3) rfl; have c0_4 := (hS.1).at_ (j := 4) rfl; have c0_5 := (hS.1).at_ (j := 5) rfl; have c0_6 := (hS.1).at_ (j := 6) rfl; have c0_7 := (hS.1).at_ (j := 7) rfl; have c0_8 := (hS.1).at_ (j := 8) rfl; clear hS; first | (go_simp; done) | (go_simp; with_reducible rfl))
  try simp only [Act.put, List.setIfInBounds_toArray, List.set_cons_zero, List.set_cons_succ]
  refine wpAnyH_take (i := 10) (oi := ⟨some 13, _, _, _, _, _⟩) (v := ?_) rfl (by kernel_rfl) (by kernel_rfl) (by kernel_rfl) (fun _ _ _ h => h) (Or.inl ⟨by kernel_rfl, ?_⟩) hHeld ?_
  rotate_left
  focus (intro W hS; have c0_0 := (hS.1).at_ (j := 0) rfl; have c0_1 := (hS.1).at_ (j := 1) rfl; have c0_2 := (hS.1).at_ (j := 2) rfl; have c0_3 := (hS.1).at_ (j := 3) rfl; have c0_4 := (hS.1).at_ (j := 4) rfl; have c0_5 := (hS.1).at_ (j := 5) rfl; have c0_6 := (hS.1).at_ (j := 6) rfl; have c0_7 := (hS.1).at_ (j := 7) rfl; have c0_8 := (hS.1).at_ (j := 8) rfl; clear hS; first | (go_simp; done) | (go_simp; with_reducible rfl))
  try simp only [Act.put, List.setIfInBounds_toArray, List.set_cons_zero, List.set_cons_succ]
  refine wpAnyH_ready (rs := [14]) (by kernel_rfl) (by simp) ?_
  refine AllReadyH.cons (o := ⟨some 17, _, _, _, _, _⟩) rfl (fun K hK => ?_) AllReadyH.nil
  go_simp
  refine Calls.mono (C2.out _ (pow10_below HT.out hHeld.2)) ?_
  rintro e x3 ⟨rfl, hb1⟩
  refine hK.out _ _ ⟨hHeld.1.new hb1, below_trans hHeld.2 hb1 (Nat.le_refl _)⟩ (fun hHeld' => ?_)
  clear hK K hHeld hb1
  have hHeld := hHeld'
  clear hHeld'
  try simp only [Act.put, List.setIfInBounds_toArray, List.set_cons_zero, List.set_cons_succ]
  refine wpAnyH_take (i := 15) (oi := ⟨some 18, _, _, _, _, _⟩) (v := ?_) rfl (by kernel_rfl) (by kernel_rfl) (by kernel_rfl) (fun _ _ _ h => h) (Or.inl ⟨by kernel_rfl, ?_⟩) hHeld ?_
  rotate_left
  focus (intro W hS; have c0_0 := (hS.1).at_ (j := 0) rfl; have c0_1 := (hS.1).at_ (j := 1) rfl; have c0_2 := (hS.1).at_ (j := 2) rfl; have c0_3 := (hS.1).at_ (j := 3) rfl; have c0_4 := (hS.1).at_ (j := 4) rfl; have c0_5 := (hS.1).at_ (j := 5) rfl; have c0_6 := (hS.1).at_ (j := 6) rfl; have c0_7 := (hS.1).at_ (j := 7) rfl; have c0_8 := (hS.1).at_ (j := 8) rfl; clear hS; first | (go_simp; done) | (go_simp; with_reducible rfl))
  try simp only [Act.put, List.setIfInBounds_toArray, List.set_cons_zero, List.set_cons_succ]
  refine wpAnyH_take (i := 16) (oi := ⟨some 2, _, _, _, _, _⟩) (v := ?_) rfl (by kernel_rfl) (by kernel_rfl) (by kernel_rfl) (fun _ _ _ h => h) (Or.inl ⟨by kernel_rfl, ?_⟩) hHeld ?_
  rotate_left
  focus (intro W hS; have c0_0 := (hS.1).at_ (j := 0) rfl; have c0_1 := (hS.1).at_ (j := 1) rfl; have c0_2 := (hS.1).at_ (j := 2) rfl; have c0_3 := (hS.1).at_ (j := 3) rfl; have c0_4 := (hS.1).at_ (j := 4) rfl; have c0_5 := (hS.1).at_ (j := 5) rfl; have c0_6 := (hS.1).at_ (j := 6) rfl; have c0_7 := (hS.1).at_ (j := 7) rfl; have c0_8 := (hS.1).at_ (j := 8) rfl; clear hS; first | (go_simp; done) | (go_simp; with_reducible rfl))
  try simp only [Act.put, List.setIfInBounds_toArray, List.set_cons_zero, List.set_cons_succ]
  refine wpAnyH_done (by kernel_rfl) ?_ _
  go_wp2_with fail
  go_ret
  exact ⟨by simp, hHeld.2⟩
set_option maxHeartbeats 8000000 in
theorem spec_SnapshotText (p0 p1 p2 : Int) (l3 : List TGrant) (A3 : Option Addr) (n3 c3 lo3 hi3 : Nat) (l4 : List TFlow) (A4 : Option Addr) (n4 c4 lo4 hi4 : Nat) (l5 : List TRule) (A5 : Option Addr) (n5 c5 lo5 hi5 : Nat) (l6 : List TOp) (A6 : Option Addr) (n6 c6 lo6 hi6 : Nat) (p7 : Int) (l8 : List TStored) (A8 : Option Addr) (n8 c8 lo8 hi8 : Nat) (w : World) (hT : Pow10 w) (wf0 : (Lit.int .i64 p0).wf = true) (wf1 : (Lit.int .i64 p1).wf = true) (wf2 : (Lit.int .i64 p2).wf = true) (h3 : n3 ≤ 1048576) (r3 : Rd w lo3 hi3 7 A3 n3 (cGrant l3)) (b3 : Hid (cGrantOk l3)) (h4 : n4 ≤ 1048576) (r4 : Rd w lo4 hi4 3 A4 n4 (cFlow l4)) (b4 : Hid (cFlowOk l4)) (h5 : n5 ≤ 1048576) (r5 : Rd w lo5 hi5 8 A5 n5 (cRule l5)) (b5 : Hid (cRuleOk l5)) (h6 : n6 ≤ 1048576) (r6 : Rd w lo6 hi6 4 A6 n6 (cOp l6)) (b6 : Hid (cOpOk l6)) (wf7 : (Lit.int .i64 p7).wf = true) (h8 : n8 ≤ 1048576) (r8 : Rd w lo8 hi8 4 A8 n8 (cStored l8)) (b8 : Hid (cStoredOk l8)) :
    Calls Tryd.prog 18 #[.agg #[.int .i64 p0, .int .i64 p1, .int .i64 p2, .slice A3 n3 c3, .slice A4 n4 c4, .slice A5 n5 c5, .slice A6 n6 c6, .int .i64 p7, .slice A8 n8 c8]] w (Says (.string ⟨(tSnap p0 p2 (l8.length : Int)).toArray⟩) w) := by
  have HL8 := rd_len TStored.len r8 (by decide)
  rw [HL8]
  clear r3 r4 r5 r6 r8 HL8
  have HT := Lib.hid hT
  have g0 : -9223372036854775808 ≤ p0 ∧ p0 ≤ 9223372036854775807 := by have h := wf0; simp [Lit.wf] at h; exact ⟨h.1, h.2⟩
  have g2 : -9223372036854775808 ≤ p2 ∧ p2 ≤ 9223372036854775807 := by have h := wf2; simp [Lit.wf] at h; exact ⟨h.1, h.2⟩
  have g8 : -9223372036854775808 ≤ (n8 : Int) ∧ (n8 : Int) ≤ 9223372036854775807 := by omega
  have C0 := Lib.hid (says_spec p0 g0)
  have C1 := Lib.hid (says_spec p2 g2)
  have C2 := Lib.hid (says_spec (n8 : Int) g8)
  have hx := itoa_in g0
  have hy := itoa_in g2
  have hz := itoa_in g8
  unfold tSnap
  generalize itoa p0 = X at C0 hx ⊢
  generalize itoa p2 = Y at C1 hy ⊢
  generalize itoa (n8 : Int) = Z at C2 hz ⊢
  have KB := Lib.hid (box_new w 62 #[.int .i64 p0, .int .i64 p1, .int .i64 p2, .slice A3 n3 c3, .slice A4 n4 c4, .slice A5 n5 c5, .slice A6 n6 c6, .int .i64 p7, .slice A8 n8 c8])
  have HB := Lib.hid ((Below.refl w.heap.size w).alloc (Nat.le_refl _) (.cells #[.int .i64 p0, .int .i64 p1, .int .i64 p2, .slice A3 n3 c3, .slice A4 n4 c4, .slice A5 n5 c5, .slice A6 n6 c6, .int .i64 p7, .slice A8 n8 c8] 62))
  clear hT wf0 wf1 wf2 wf7 g0 g2 g8
  have hc0 : ∀ W, (Op.stringOp .add ⟨X.toArray⟩ ⟨#[32]⟩).run Tryd.prog W = .ok (.string ⟨((X : List UInt8) ++ [32]).toArray⟩) W := fun W => cat_lists (X) ([32]) (by first | omega | (simp; done) | (simp <;> omega)) (by first | omega | (simp; done) | (simp <;> omega)) W
  have hc1 : ∀ W, (Op.stringOp .add ⟨(X ++ [32]).toArray⟩ ⟨Y.toArray⟩).run Tryd.prog W = .ok (.string ⟨((X ++ [32] : List UInt8) ++ Y).toArray⟩) W := fun W => cat_lists (X ++ [32]) (Y) (by first | omega | (simp; done) | (simp <;> omega)) (by first | omega | (simp; done) | (simp <;> omega)) W
  have hc2 : ∀ W, (Op.stringOp .add ⟨(X ++ 32 :: Y).toArray⟩ ⟨#[32]⟩).run Tryd.prog W = .ok (.string ⟨((X ++ 32 :: Y : List UInt8) ++ [32]).toArray⟩) W := fun W => cat_lists (X ++ 32 :: Y) ([32]) (by first | omega | (simp; done) | (simp <;> omega)) (by first | omega | (simp; done) | (simp <;> omega)) W
  have hc3 : ∀ W, (Op.stringOp .add ⟨(X ++ 32 :: (Y ++ [32])).toArray⟩ ⟨Z.toArray⟩).run Tryd.prog W = .ok (.string ⟨((X ++ 32 :: (Y ++ [32]) : List UInt8) ++ Z).toArray⟩) W := fun W => cat_lists (X ++ 32 :: (Y ++ [32])) (Z) (by first | omega | (simp; done) | (simp <;> omega)) (by first | omega | (simp; done) | (simp <;> omega)) W
  go_enter Tryd.func18, Tryd.ntmps18
  go_wp2_with fail
  refine wp_region_held_drew (S := fun w' => BoxAt w' w.heap.size 62 #[.int .i64 p0, .int .i64 p1, .int .i64 p2, .slice A3 n3 c3, .slice A4 n4 c4, .slice A5 n5 c5, .slice A6 n6 c6, .int .i64 p7, .slice A8 n8 c8] ∧ Below w.heap.size w w') (by kernel_rfl) ?_ (fun hHeld => ?_)
  · exact ⟨KB.out.drw, HB.out.drew⟩
  refine wpAnyH_take (i := 0) (oi := ⟨some 3, _, _, _, _, _⟩) (v := ?_) rfl (by kernel_rfl) (by kernel_rfl) (by kernel_rfl) (fun _ _ _ h => h) (Or.inl ⟨by kernel_rfl, ?_⟩) hHeld ?_
  rotate_left
  focus (intro W hS; have c0_0 := (hS.1).at_ (j := 0) rfl; have c0_1 := (hS.1).at_ (j := 1) rfl; have c0_2 := (hS.1).at_ (j := 2) rfl; have c0_3 := (hS.1).at_ (j := 3) rfl; have c0_4 := (hS.1).at_ (j := 4) rfl; have c0_5 := (hS.1).at_ (j := 5) rfl; have c0_6 := (hS.1).at_ (j := 6) rfl; have c0_7 := (hS.1).at_ (j := 7) rfl; have c0_8 := (hS.1).at_ (j := 8) rfl; clear hS; first | (go_simp; done) | (go_simp; with_reducible rfl))
  try simp only [Act.put, List.setIfInBounds_toArray, List.set_cons_zero, List.set_cons_succ]
  refine wpAnyH_take (i := 1) (oi := ⟨some 4, _, _, _, _, _⟩) (v := ?_) rfl (by kernel_rfl) (by kernel_rfl) (by kernel_rfl) (fun _ _ _ h => h) (Or.inl ⟨by kernel_rfl, ?_⟩) hHeld ?_
  rotate_left
  focus (intro W hS; have c0_0 := (hS.1).at_ (j := 0) rfl; have c0_1 := (hS.1).at_ (j := 1) rfl; have c0_2 := (hS.1).at_ (j := 2) rfl; have c0_3 := (hS.1).at_ (j := 3) rfl; have c0_4 := (hS.1).at_ (j := 4) rfl; have c0_5 := (hS.1).at_ (j := 5) rfl; have c0_6 := (hS.1).at_ (j := 6) rfl; have c0_7 := (hS.1).at_ (j := 7) rfl; have c0_8 := (hS.1).at_ (j := 8) rfl; clear hS; first | (go_simp; done) | (go_simp; with_reducible rfl))
  try simp only [Act.put, List.setIfInBounds_toArray, List.set_cons_zero, List.set_cons_succ]
  refine wpAnyH_take (i := 2) (oi := ⟨some 5, _, _, _, _, _⟩) (v := ?_) rfl (by kernel_rfl) (by kernel_rfl) (by kernel_rfl) (fun _ _ _ h => h) (Or.inl ⟨by kernel_rfl, ?_⟩) hHeld ?_
  rotate_left
  focus (intro W hS; have c0_0 := (hS.1).at_ (j := 0) rfl; have c0_1 := (hS.1).at_ (j := 1) rfl; have c0_2 := (hS.1).at_ (j := 2) rfl; have c0_3 := (hS.1).at_ (j := 3) rfl; have c0_4 := (hS.1).at_ (j := 4) rfl; have c0_5 := (hS.1).at_ (j := 5) rfl; have c0_6 := (hS.1).at_ (j := 6) rfl; have c0_7 := (hS.1).at_ (j := 7) rfl; have c0_8 := (hS.1).at_ (j := 8) rfl; clear hS; first | (go_simp; done) | (go_simp; with_reducible rfl))
  try simp only [Act.put, List.setIfInBounds_toArray, List.set_cons_zero, List.set_cons_succ]
  refine wpAnyH_take (i := 5) (oi := ⟨some 8, _, _, _, _, _⟩) (v := ?_) rfl (by kernel_rfl) (by kernel_rfl) (by kernel_rfl) (fun _ _ _ h => h) (Or.inl ⟨by kernel_rfl, ?_⟩) hHeld ?_
  rotate_left
  focus (intro W hS; have c0_0 := (hS.1).at_ (j := 0) rfl; have c0_1 := (hS.1).at_ (j := 1) rfl; have c0_2 := (hS.1).at_ (j := 2) rfl; have c0_3 := (hS.1).at_ (j := 3) rfl; have c0_4 := (hS.1).at_ (j := 4) rfl; have c0_5 := (hS.1).at_ (j := 5) rfl; have c0_6 := (hS.1).at_ (j := 6) rfl; have c0_7 := (hS.1).at_ (j := 7) rfl; have c0_8 := (hS.1).at_ (j := 8) rfl; clear hS; first | (go_simp; done) | (go_simp; with_reducible rfl))
  try simp only [Act.put, List.setIfInBounds_toArray, List.set_cons_zero, List.set_cons_succ]
  refine wpAnyH_take (i := 6) (oi := ⟨some 9, _, _, _, _, _⟩) (v := ?_) rfl (by kernel_rfl) (by kernel_rfl) (by kernel_rfl) (fun _ _ _ h => h) (Or.inl ⟨by kernel_rfl, ?_⟩) hHeld ?_
  rotate_left
  focus (intro W hS; have c0_0 := (hS.1).at_ (j := 0) rfl; have c0_1 := (hS.1).at_ (j := 1) rfl; have c0_2 := (hS.1).at_ (j := 2) rfl; have c0_3 := (hS.1).at_ (j := 3) rfl; have c0_4 := (hS.1).at_ (j := 4) rfl; have c0_5 := (hS.1).at_ (j := 5) rfl; have c0_6 := (hS.1).at_ (j := 6) rfl; have c0_7 := (hS.1).at_ (j := 7) rfl; have c0_8 := (hS.1).at_ (j := 8) rfl; clear hS; first | (go_simp; done) | (go_simp; with_reducible rfl))
  try simp only [Act.put, List.setIfInBounds_toArray, List.set_cons_zero, List.set_cons_succ]
  refine wpAnyH_take (i := 7) (oi := ⟨some 10, _, _, _, _, _⟩) (v := ?_) rfl (by kernel_rfl) (by kernel_rfl) (by kernel_rfl) (fun _ _ _ h => h) (Or.inl ⟨by kernel_rfl, ?_⟩) hHeld ?_
  rotate_left
  focus (intro W hS; have c0_0 := (hS.1).at_ (j := 0) rfl; have c0_1 := (hS.1).at_ (j := 1) rfl; have c0_2 := (hS.1).at_ (j := 2) rfl; have c0_3 := (hS.1).at_ (j := 3) rfl; have c0_4 := (hS.1).at_ (j := 4) rfl; have c0_5 := (hS.1).at_ (j := 5) rfl; have c0_6 := (hS.1).at_ (j := 6) rfl; have c0_7 := (hS.1).at_ (j := 7) rfl; have c0_8 := (hS.1).at_ (j := 8) rfl; clear hS; first | (go_simp; done) | (go_simp; with_reducible rfl))
  try simp only [Act.put, List.setIfInBounds_toArray, List.set_cons_zero, List.set_cons_succ]
  refine wpAnyH_take (i := 11) (oi := ⟨some 14, _, _, _, _, _⟩) (v := ?_) rfl (by kernel_rfl) (by kernel_rfl) (by kernel_rfl) (fun _ _ _ h => h) (Or.inl ⟨by kernel_rfl, ?_⟩) hHeld ?_
  rotate_left
  focus (intro W hS; have c0_0 := (hS.1).at_ (j := 0) rfl; have c0_1 := (hS.1).at_ (j := 1) rfl; have c0_2 := (hS.1).at_ (j := 2) rfl; have c0_3 := (hS.1).at_ (j := 3) rfl; have c0_4 := (hS.1).at_ (j := 4) rfl; have c0_5 := (hS.1).at_ (j := 5) rfl; have c0_6 := (hS.1).at_ (j := 6) rfl; have c0_7 := (hS.1).at_ (j := 7) rfl; have c0_8 := (hS.1).at_ (j := 8) rfl; clear hS; first | (go_simp; done) | (go_simp; with_reducible rfl))
  try simp only [Act.put, List.setIfInBounds_toArray, List.set_cons_zero, List.set_cons_succ]
  refine wpAnyH_take (i := 12) (oi := ⟨some 15, _, _, _, _, _⟩) (v := ?_) rfl (by kernel_rfl) (by kernel_rfl) (by kernel_rfl) (fun _ _ _ h => h) (Or.inl ⟨by kernel_rfl, ?_⟩) hHeld ?_
  rotate_left
  focus (intro W hS; have c0_0 := (hS.1).at_ (j := 0) rfl; have c0_1 := (hS.1).at_ (j := 1) rfl; have c0_2 := (hS.1).at_ (j := 2) rfl; have c0_3 := (hS.1).at_ (j := 3) rfl; have c0_4 := (hS.1).at_ (j := 4) rfl; have c0_5 := (hS.1).at_ (j := 5) rfl; have c0_6 := (hS.1).at_ (j := 6) rfl; have c0_7 := (hS.1).at_ (j := 7) rfl; have c0_8 := (hS.1).at_ (j := 8) rfl; clear hS; first | (go_simp; done) | (go_simp; with_reducible rfl))
  try simp only [Act.put, List.setIfInBounds_toArray, List.set_cons_zero, List.set_cons_succ]
  refine wpAnyH_take (i := 13) (oi := ⟨some 16, _, _, _, _, _⟩) (v := ?_) rfl (by kernel_rfl) (by kernel_rfl) (by kernel_rfl) (fun _ _ _ h => h) (Or.inl ⟨by kernel_rfl, ?_⟩) hHeld ?_
  rotate_left
  focus (intro W hS; have c0_0 := (hS.1).at_ (j := 0) rfl; have c0_1 := (hS.1).at_ (j := 1) rfl; have c0_2 := (hS.1).at_ (j := 2) rfl; have c0_3 := (hS.1).at_ (j := 3) rfl; have c0_4 := (hS.1).at_ (j := 4) rfl; have c0_5 := (hS.1).at_ (j := 5) rfl; have c0_6 := (hS.1).at_ (j := 6) rfl; have c0_7 := (hS.1).at_ (j := 7) rfl; have c0_8 := (hS.1).at_ (j := 8) rfl; clear hS; first | (go_simp; done) | (go_simp; with_reducible rfl))
  try simp only [Act.put, List.setIfInBounds_toArray, List.set_cons_zero, List.set_cons_succ]
  refine wpAnyH_ready (rs := [3]) (by kernel_rfl) (by simp) ?_
  refine AllReadyH.cons (o := ⟨some 6, _, _, _, _, _⟩) rfl (fun K hK => ?_) AllReadyH.nil
  go_simp
  refine Calls.mono (C0.out _ (pow10_below HT.out hHeld.2)) ?_
  rintro e x1 ⟨rfl, hb1⟩
  refine hK.out _ _ ⟨hHeld.1.new hb1, below_trans hHeld.2 hb1 (Nat.le_refl _)⟩ (fun hHeld' => ?_)
  clear hK K hHeld hb1
  have hHeld := hHeld'
  clear hHeld'
  try simp only [Act.put, List.setIfInBounds_toArray, List.set_cons_zero, List.set_cons_succ]
  refine wpAnyH_take (i := 4) (oi := ⟨some 7, _, _, _, _, _⟩) (v := ?_) rfl (by kernel_rfl) (by kernel_rfl) (by kernel_rfl) (fun _ _ _ h => h) (Or.inl ⟨by kernel_rfl, ?_⟩) hHeld ?_
  rotate_left
  focus (intro W hS; have c0_0 := (hS.1).at_ (j := 0) rfl; have c0_1 := (hS.1).at_ (j := 1) rfl; have c0_2 := (hS.1).at_ (j := 2) rfl; have c0_3 := (hS.1).at_ (j := 3) rfl; have c0_4 := (hS.1).at_ (j := 4) rfl; have c0_5 := (hS.1).at_ (j := 5) rfl; have c0_6 := (hS.1).at_ (j := 6) rfl; have c0_7 := (hS.1).at_ (j := 7) rfl; have c0_8 := (hS.1).at_ (j := 8) rfl; clear hS; first | (go_simp; done) | (go_simp; with_reducible rfl))
  try simp only [Act.put, List.setIfInBounds_toArray, List.set_cons_zero, List.set_cons_succ]
  refine wpAnyH_ready (rs := [8]) (by kernel_rfl) (by simp) ?_
  refine AllReadyH.cons (o := ⟨some 11, _, _, _, _, _⟩) rfl (fun K hK => ?_) AllReadyH.nil
  go_simp
  refine Calls.mono (C1.out _ (pow10_below HT.out hHeld.2)) ?_
  rintro e x2 ⟨rfl, hb1⟩
  refine hK.out _ _ ⟨hHeld.1.new hb1, below_trans hHeld.2 hb1 (Nat.le_refl _)⟩ (fun hHeld' => ?_)
  clear hK K hHeld hb1
  have hHeld := hHeld'
  clear hHeld'
  try simp only [Act.put, List.setIfInBounds_toArray, List.set_cons_zero, List.set_cons_succ]
  refine wpAnyH_take (i := 9) (oi := ⟨some 12, _, _, _, _, _⟩) (v := ?_) rfl (by kernel_rfl) (by kernel_rfl) (by kernel_rfl) (fun _ _ _ h => h) (Or.inl ⟨by kernel_rfl, ?_⟩) hHeld ?_
  rotate_left
  focus (intro W hS; have c0_0 := (hS.1).at_ (j := 0) rfl; have c0_1 := (hS.1).at_ (j := 1) rfl; have c0_2 := (hS.1).at_ (j := 2) rfl; have c0_3 := (hS.1).at_ (j := 3) rfl; have c0_4 := (hS.1).at_ (j := 4) rfl; have c0_5 := (hS.1).at_ (j := 5) rfl; have c0_6 := (hS.1).at_ (j := 6) rfl; have c0_7 := (hS.1).at_ (j := 7) rfl; have c0_8 := (hS.1).at_ (j := 8) rfl; clear hS; first | (go_simp; done) | (go_simp; with_reducible rfl))
  try simp only [Act.put, List.setIfInBounds_toArray, List.set_cons_zero, List.set_cons_succ]
  refine wpAnyH_take (i := 10) (oi := ⟨some 13, _, _, _, _, _⟩) (v := ?_) rfl (by kernel_rfl) (by kernel_rfl) (by kernel_rfl) (fun _ _ _ h => h) (Or.inl ⟨by kernel_rfl, ?_⟩) hHeld ?_
  rotate_left
  focus (intro W hS; have c0_0 := (hS.1).at_ (j := 0) rfl; have c0_1 := (hS.1).at_ (j := 1) rfl; have c0_2 := (hS.1).at_ (j := 2) rfl; have c0_3 := (hS.1).at_ (j := 3) rfl; have c0_4 := (hS.1).at_ (j := 4) rfl; have c0_5 := (hS.1).at_ (j := 5) rfl; have c0_6 := (hS.1).at_ (j := 6) rfl; have c0_7 := (hS.1).at_ (j := 7) rfl; have c0_8 := (hS.1).at_ (j := 8) rfl; clear hS; first | (go_simp; done) | (go_simp; with_reducible rfl))
  try simp only [Act.put, List.setIfInBounds_toArray, List.set_cons_zero, List.set_cons_succ]
  refine wpAnyH_ready (rs := [14]) (by kernel_rfl) (by simp) ?_
  refine AllReadyH.cons (o := ⟨some 17, _, _, _, _, _⟩) rfl (fun K hK => ?_) AllReadyH.nil
  go_simp
  refine Calls.mono (C2.out _ (pow10_below HT.out hHeld.2)) ?_
  rintro e x3 ⟨rfl, hb1⟩
  refine hK.out _ _ ⟨hHeld.1.new hb1, below_trans hHeld.2 hb1 (Nat.le_refl _)⟩ (fun hHeld' => ?_)
  clear hK K hHeld hb1
  have hHeld := hHeld'
  clear hHeld'
  try simp only [Act.put, List.setIfInBounds_toArray, List.set_cons_zero, List.set_cons_succ]
  refine wpAnyH_take (i := 15) (oi := ⟨some 18, _, _, _, _, _⟩) (v := ?_) rfl (by kernel_rfl) (by kernel_rfl) (by kernel_rfl) (fun _ _ _ h => h) (Or.inl ⟨by kernel_rfl, ?_⟩) hHeld ?_
  rotate_left
  focus (intro W hS; have c0_0 := (hS.1).at_ (j := 0) rfl; have c0_1 := (hS.1).at_ (j := 1) rfl; have c0_2 := (hS.1).at_ (j := 2) rfl; have c0_3 := (hS.1).at_ (j := 3) rfl; have c0_4 := (hS.1).at_ (j := 4) rfl; have c0_5 := (hS.1).at_ (j := 5) rfl; have c0_6 := (hS.1).at_ (j := 6) rfl; have c0_7 := (hS.1).at_ (j := 7) rfl; have c0_8 := (hS.1).at_ (j := 8) rfl; clear hS; first | (go_simp; done) | (go_simp; with_reducible rfl))
  try simp only [Act.put, List.setIfInBounds_toArray, List.set_cons_zero, List.set_cons_succ]
  refine wpAnyH_take (i := 16) (oi := ⟨some 2, _, _, _, _, _⟩) (v := ?_) rfl (by kernel_rfl) (by kernel_rfl) (by kernel_rfl) (fun _ _ _ h => h) (Or.inl ⟨by kernel_rfl, ?_⟩) hHeld ?_
  rotate_left
  focus (intro W hS; have c0_0 := (hS.1).at_ (j := 0) rfl; have c0_1 := (hS.1).at_ (j := 1) rfl; have c0_2 := (hS.1).at_ (j := 2) rfl; have c0_3 := (hS.1).at_ (j := 3) rfl; have c0_4 := (hS.1).at_ (j := 4) rfl; have c0_5 := (hS.1).at_ (j := 5) rfl; have c0_6 := (hS.1).at_ (j := 6) rfl; have c0_7 := (hS.1).at_ (j := 7) rfl; have c0_8 := (hS.1).at_ (j := 8) rfl; clear hS; first | (go_simp; done) | (go_simp; with_reducible rfl))
  try simp only [Act.put, List.setIfInBounds_toArray, List.set_cons_zero, List.set_cons_succ]
  refine wpAnyH_done (by kernel_rfl) ?_ _
  go_wp2_with fail
  go_ret
  exact ⟨by simp, hHeld.2⟩
end Go.Proofs.YtmelfgimhilhbaaDoor
