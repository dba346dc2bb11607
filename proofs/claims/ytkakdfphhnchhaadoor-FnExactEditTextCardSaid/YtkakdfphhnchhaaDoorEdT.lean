/- EditText of the program. -/
import Derived.Test.YtkakdfphhnchhaaDoorEdW
import Derived.Test.YtkakdfphhnchhaaDoorIsEdit
import Derived.Test.YtkakdfphhnchhaaDoorIn
import Derived.Deep.RegionHeld3
namespace Go.Proofs.YtkakdfphhnchhaaDoor
open Go Go.ChangeShapes Go.WideShapes Go.ChangeAt Go.RowKit Go.Lib
set_option linter.unusedVariables false
set_option linter.unusedSimpArgs false
set_option maxRecDepth 100000
def tWords (e : TEdit) : List (List UInt8) := if e.f0 = 1 then [[97, 100, 100], itoa e.f1, itoa e.f2, itoa e.f3, itoa e.f4] else if e.f0 = 2 then [[100, 114, 111, 112], itoa e.f1] else if e.f0 = 3 then [[116, 101, 120, 116], itoa e.f1, itoa e.f4] else [[109, 111, 118, 101], itoa e.f1, itoa e.f2]
def tEd (e : TEdit) : List UInt8 := if inR e.f0 1 4 then Lib.join (tWords e) [32] ++ [32, 64] ++ itoa e.f5 else []

set_option maxHeartbeats 16000000 in
theorem impl_EditText' (k a1 a2 a3 a4 a5 : Int) (w : World) (hT : Pow10 w) (b0 : Hid (TEdit.fit ⟨k, a1, a2, a3, a4, a5⟩)) :
    Calls Tryd.prog 23 #[.agg #[.int .i64 k, .int .i64 a1, .int .i64 a2, .int .i64 a3, .int .i64 a4, .int .i64 a5]] w (Says (.string ⟨(tEd ⟨k, a1, a2, a3, a4, a5⟩).toArray⟩) w) := by
  have HT := Lib.hid hT
  obtain ⟨f0, f1, f2, f3, f4, f5⟩ := b0.out
  dsimp only at f0 f1 f2 f3 f4 f5
  have hx1 := itoa_in f1
  have hx2 := itoa_in f2
  have hx3 := itoa_in f3
  have hx4 := itoa_in f4
  have hx5 := itoa_in f5
  have C5 := Lib.hid (says_impl a5 f5)
  have KB0 := Lib.hid (box_new w 59 #[.int .i64 k, .int .i64 a1, .int .i64 a2, .int .i64 a3, .int .i64 a4, .int .i64 a5])
  have HB0 := Lib.hid ((Below.refl w.heap.size w).alloc (Nat.le_refl _) (.cells #[.int .i64 k, .int .i64 a1, .int .i64 a2, .int .i64 a3, .int .i64 a4, .int .i64 a5] 59))
  have C9 := fun W => impl_changeOf ⟨k, a1, a2, a3, a4, a5⟩ W
  by_cases hk : k = 1 ∨ k = 2 ∨ k = 3 ∨ k = 4
  · rcases hk with rfl | rfl | rfl | rfl
    · skip
      have CW := Lib.hid (fun V hV => words_add 1 a1 a2 a3 a4 a5 V hV (Lib.hid (by intro z hz; simp only [List.mem_cons, List.not_mem_nil, or_false] at hz; rcases hz with rfl | rfl | rfl | rfl <;> assumption)))
      have HE : tEd ⟨1, a1, a2, a3, a4, a5⟩ = Lib.join ([97, 100, 100] :: [itoa a1, itoa a2, itoa a3, itoa a4]) [32] ++ [32, 64] ++ itoa a5 := rfl
      rw [HE]
      have hjl : (Lib.join ([97, 100, 100] :: [itoa a1, itoa a2, itoa a3, itoa a4]) [32]).length ≤ 200 := by
        simp only [Lib.join_cons, Lib.joinTail, List.map_cons, List.map_nil, List.flatten_cons, List.flatten_nil, List.length_append, List.length_cons, List.length_nil]
        omega
      have CJ : Hid (∀ (V : World) (A : Option Addr) (c lo hi : Nat), 4 + 1 ≤ c → Rd V lo hi 1 A (4 + 1) (vStr [97, 100, 100] :: strs [a1, a2, a3, a4]) → Calls Tryd.prog 48 #[.slice A (4 + 1) c, .string ⟨#[32]⟩] V (Says (.string ⟨(Lib.join ([97, 100, 100] :: [itoa a1, itoa a2, itoa a3, itoa a4]) [32]).toArray⟩) V)) := Lib.hid fun V A c lo hi hc hr => join_ts ([97, 100, 100] :: [itoa a1, itoa a2, itoa a3, itoa a4]) A (4 + 1) c lo hi [32] V (by omega) (by omega) hc (by omega) hr
      have na := ahead_add
      have nm := method_add
      have HV : changeVal ⟨1, a1, a2, a3, a4, a5⟩ = .iface 123 (.agg #[.int .i64 1, .int .i64 a1, .int .i64 a2, .int .i64 a3, .int .i64 a4, .int .i64 a5]) := rfl
      have HI : inR (1 : Int) 1 4 = true := by decide
      have C8 : Hid (∀ W, Calls Tryd.prog 47 #[.agg #[.int .i64 1, .int .i64 a1, .int .i64 a2, .int .i64 a3, .int .i64 a4, .int .i64 a5]] W (Says (.tuple #[.iface 123 (.agg #[.int .i64 1, .int .i64 a1, .int .i64 a2, .int .i64 a3, .int .i64 a4, .int .i64 a5]), .bool true]) W)) := Lib.hid (fun W => C9 W)
      clear HV HI C9 HE f0 f1 f2 f3 f4 f5 b0 hT hx1 hx2 hx3 hx4
      generalize Lib.join ([97, 100, 100] :: [itoa a1, itoa a2, itoa a3, itoa a4]) [32] = J at CJ hjl ⊢
      generalize itoa a5 = X5 at C5 hx5 ⊢
      have hc0 : ∀ W, (Op.stringOp .add ⟨J.toArray⟩ ⟨#[32, 64]⟩).run Tryd.prog W = .ok (.string ⟨(J ++ [32, 64]).toArray⟩) W := fun W => cat_lists J [32, 64] (by omega) (by simp) W
      have hc1 : ∀ W, (Op.stringOp .add ⟨(J ++ [32, 64]).toArray⟩ ⟨X5.toArray⟩).run Tryd.prog W = .ok (.string ⟨(J ++ [32, 64] ++ X5).toArray⟩) W := fun W => cat_lists (J ++ [32, 64]) X5 (by simp; omega) (by omega) W
      go_enter Tryd.func23, Tryd.ntmps23
      go_wp2_with fail
      refine (C8.out _).mono ?_
      rintro e w1 ⟨rfl, hb1⟩
      have HB1 := Lib.hid (below_trans HB0.out hb1 (by simp))
      have KB1 := Lib.hid (KB0.out.new hb1)
      clear hb1
      go_wp2_with fail
      refine wp_region_held_drew (S := fun w' => BoxAt w' w.heap.size 59 #[.int .i64 1, .int .i64 a1, .int .i64 a2, .int .i64 a3, .int .i64 a4, .int .i64 a5] ∧ Below w.heap.size w w') (by kernel_rfl) ?_ (fun hHeld => ?_)
      · exact ⟨KB1.out.drw, HB1.out.drew⟩
      refine wpAnyH_take (i := 0) (oi := ⟨some 12, _, _, _, _, _⟩) (v := ?_) rfl (by kernel_rfl) (by kernel_rfl) (by kernel_rfl) (fun _ _ _ h => h) (Or.inl ⟨by kernel_rfl, ?_⟩) hHeld ?_
      rotate_left
      focus (intro W hS; have c0_0 := (hS.1).at_ (j := 0) rfl; have c0_1 := (hS.1).at_ (j := 1) rfl; have c0_2 := (hS.1).at_ (j := 2) rfl; have c0_3 := (hS.1).at_ (j := 3) rfl; have c0_4 := (hS.1).at_ (j := 4) rfl; have c0_5 := (hS.1).at_ (j := 5) rfl; clear hS; first | (go_simp; done) | (go_simp; with_reducible rfl))
      try simp only [Act.put, List.setIfInBounds_toArray, List.set_cons_zero, List.set_cons_succ]
      refine wpAnyH_take (i := 4) (oi := ⟨some 16, _, _, _, _, _⟩) (v := ?_) rfl (by kernel_rfl) (by kernel_rfl) (by kernel_rfl) (fun _ _ _ h => h) (Or.inl ⟨by kernel_rfl, ?_⟩) hHeld ?_
      rotate_left
      focus (intro W hS; have c0_0 := (hS.1).at_ (j := 0) rfl; have c0_1 := (hS.1).at_ (j := 1) rfl; have c0_2 := (hS.1).at_ (j := 2) rfl; have c0_3 := (hS.1).at_ (j := 3) rfl; have c0_4 := (hS.1).at_ (j := 4) rfl; have c0_5 := (hS.1).at_ (j := 5) rfl; clear hS; first | (go_simp; done) | (go_simp; with_reducible rfl))
      try simp only [Act.put, List.setIfInBounds_toArray, List.set_cons_zero, List.set_cons_succ]
      refine wpAnyH_take (i := 5) (oi := ⟨some 17, _, _, _, _, _⟩) (v := ?_) rfl (by kernel_rfl) (by kernel_rfl) (by kernel_rfl) (fun _ _ _ h => h) (Or.inl ⟨by kernel_rfl, ?_⟩) hHeld ?_
      rotate_left
      focus (intro W hS; have c0_0 := (hS.1).at_ (j := 0) rfl; have c0_1 := (hS.1).at_ (j := 1) rfl; have c0_2 := (hS.1).at_ (j := 2) rfl; have c0_3 := (hS.1).at_ (j := 3) rfl; have c0_4 := (hS.1).at_ (j := 4) rfl; have c0_5 := (hS.1).at_ (j := 5) rfl; clear hS; first | (go_simp; done) | (go_simp; with_reducible rfl))
      try simp only [Act.put, List.setIfInBounds_toArray, List.set_cons_zero, List.set_cons_succ]
      refine wpAnyH_ready (rs := [1]) (by kernel_rfl) (by simp) ?_
      refine AllReadyH.cons (o := ⟨some 13, _, _, _, _, _⟩) rfl (fun K hK => ?_) AllReadyH.nil
      go_simp
      refine Calls.mono (CW.out _ (pow10_below HT.out hHeld.2)) ?_
      rintro e x1 ⟨AK, cK, rfl, GK, hb1⟩
      refine hK.out _ _ ⟨hHeld.1.new hb1, below_trans hHeld.2 hb1 (Nat.le_refl _)⟩ (fun hHeld' => ?_)
      clear hK K hHeld hb1
      have hHeld := hHeld'
      clear hHeld'
      try simp only [Act.put, List.setIfInBounds_toArray, List.set_cons_zero, List.set_cons_succ]
      refine wpAnyH_ready (rs := [2]) (by kernel_rfl) (by simp) ?_
      refine AllReadyH.cons (o := ⟨some 14, _, _, _, _, _⟩) rfl (fun K hK => ?_) AllReadyH.nil
      go_simp
      refine Calls.mono (CJ.out _ _ _ _ _ GK.cap GK.rd) ?_
      rintro e x2 ⟨rfl, hb1⟩
      replace GK := GK.new hb1
      refine hK.out _ _ ⟨hHeld.1.new hb1, below_trans hHeld.2 hb1 (Nat.le_refl _)⟩ (fun hHeld' => ?_)
      clear hK K hHeld hb1
      have hHeld := hHeld'
      clear hHeld'
      try simp only [Act.put, List.setIfInBounds_toArray, List.set_cons_zero, List.set_cons_succ]
      refine wpAnyH_take (i := 3) (oi := ⟨some 15, _, _, _, _, _⟩) (v := ?_) rfl (by kernel_rfl) (by kernel_rfl) (by kernel_rfl) (fun _ _ _ h => h) (Or.inl ⟨by kernel_rfl, ?_⟩) hHeld ?_
      rotate_left
      focus (intro W hS; have c0_0 := (hS.1).at_ (j := 0) rfl; have c0_1 := (hS.1).at_ (j := 1) rfl; have c0_2 := (hS.1).at_ (j := 2) rfl; have c0_3 := (hS.1).at_ (j := 3) rfl; have c0_4 := (hS.1).at_ (j := 4) rfl; have c0_5 := (hS.1).at_ (j := 5) rfl; clear hS; first | (go_simp; done) | (go_simp; with_reducible rfl))
      try simp only [Act.put, List.setIfInBounds_toArray, List.set_cons_zero, List.set_cons_succ]
      refine wpAnyH_ready (rs := [6]) (by kernel_rfl) (by simp) ?_
      refine AllReadyH.cons (o := ⟨some 18, _, _, _, _, _⟩) rfl (fun K hK => ?_) AllReadyH.nil
      go_simp
      refine Calls.mono (C5.out _ (pow10_below HT.out hHeld.2)) ?_
      rintro e x3 ⟨rfl, hb1⟩
      replace GK := GK.new hb1
      refine hK.out _ _ ⟨hHeld.1.new hb1, below_trans hHeld.2 hb1 (Nat.le_refl _)⟩ (fun hHeld' => ?_)
      clear hK K hHeld hb1
      have hHeld := hHeld'
      clear hHeld'
      try simp only [Act.put, List.setIfInBounds_toArray, List.set_cons_zero, List.set_cons_succ]
      refine wpAnyH_take (i := 7) (oi := ⟨some 19, _, _, _, _, _⟩) (v := ?_) rfl (by kernel_rfl) (by kernel_rfl) (by kernel_rfl) (fun _ _ _ h => h) (Or.inl ⟨by kernel_rfl, ?_⟩) hHeld ?_
      rotate_left
      focus (intro W hS; have c0_0 := (hS.1).at_ (j := 0) rfl; have c0_1 := (hS.1).at_ (j := 1) rfl; have c0_2 := (hS.1).at_ (j := 2) rfl; have c0_3 := (hS.1).at_ (j := 3) rfl; have c0_4 := (hS.1).at_ (j := 4) rfl; have c0_5 := (hS.1).at_ (j := 5) rfl; clear hS; first | (go_simp; done) | (go_simp; with_reducible rfl))
      try simp only [Act.put, List.setIfInBounds_toArray, List.set_cons_zero, List.set_cons_succ]
      refine wpAnyH_take (i := 8) (oi := ⟨some 2, _, _, _, _, _⟩) (v := ?_) rfl (by kernel_rfl) (by kernel_rfl) (by kernel_rfl) (fun _ _ _ h => h) (Or.inl ⟨by kernel_rfl, ?_⟩) hHeld ?_
      rotate_left
      focus (intro W hS; have c0_0 := (hS.1).at_ (j := 0) rfl; have c0_1 := (hS.1).at_ (j := 1) rfl; have c0_2 := (hS.1).at_ (j := 2) rfl; have c0_3 := (hS.1).at_ (j := 3) rfl; have c0_4 := (hS.1).at_ (j := 4) rfl; have c0_5 := (hS.1).at_ (j := 5) rfl; clear hS; first | (go_simp; done) | (go_simp; with_reducible rfl))
      try simp only [Act.put, List.setIfInBounds_toArray, List.set_cons_zero, List.set_cons_succ]
      refine wpAnyH_done (by kernel_rfl) ?_ _
      go_wp2_with fail
      go_ret
      exact ⟨by first | rfl | simp, hHeld.2⟩
    · skip
      have CW := Lib.hid (fun V hV => words_drop 2 a1 a2 a3 a4 a5 V hV (Lib.hid (by intro z hz; simp only [List.mem_cons, List.not_mem_nil, or_false] at hz; rcases hz with rfl <;> assumption)))
      have HE : tEd ⟨2, a1, a2, a3, a4, a5⟩ = Lib.join ([100, 114, 111, 112] :: [itoa a1]) [32] ++ [32, 64] ++ itoa a5 := rfl
      rw [HE]
      have hjl : (Lib.join ([100, 114, 111, 112] :: [itoa a1]) [32]).length ≤ 200 := by
        simp only [Lib.join_cons, Lib.joinTail, List.map_cons, List.map_nil, List.flatten_cons, List.flatten_nil, List.length_append, List.length_cons, List.length_nil]
        omega
      have CJ : Hid (∀ (V : World) (A : Option Addr) (c lo hi : Nat), 1 + 1 ≤ c → Rd V lo hi 1 A (1 + 1) (vStr [100, 114, 111, 112] :: strs [a1]) → Calls Tryd.prog 48 #[.slice A (1 + 1) c, .string ⟨#[32]⟩] V (Says (.string ⟨(Lib.join ([100, 114, 111, 112] :: [itoa a1]) [32]).toArray⟩) V)) := Lib.hid fun V A c lo hi hc hr => join_ts ([100, 114, 111, 112] :: [itoa a1]) A (1 + 1) c lo hi [32] V (by omega) (by omega) hc (by omega) hr
      have na := ahead_drop
      have nm := method_drop
      have HV : changeVal ⟨2, a1, a2, a3, a4, a5⟩ = .iface 124 (.agg #[.int .i64 2, .int .i64 a1, .int .i64 a2, .int .i64 a3, .int .i64 a4, .int .i64 a5]) := rfl
      have HI : inR (2 : Int) 1 4 = true := by decide
      have C8 : Hid (∀ W, Calls Tryd.prog 47 #[.agg #[.int .i64 2, .int .i64 a1, .int .i64 a2, .int .i64 a3, .int .i64 a4, .int .i64 a5]] W (Says (.tuple #[.iface 124 (.agg #[.int .i64 2, .int .i64 a1, .int .i64 a2, .int .i64 a3, .int .i64 a4, .int .i64 a5]), .bool true]) W)) := Lib.hid (fun W => C9 W)
      clear HV HI C9 HE f0 f1 f2 f3 f4 f5 b0 hT hx1 hx2 hx3 hx4
      generalize Lib.join ([100, 114, 111, 112] :: [itoa a1]) [32] = J at CJ hjl ⊢
      generalize itoa a5 = X5 at C5 hx5 ⊢
      have hc0 : ∀ W, (Op.stringOp .add ⟨J.toArray⟩ ⟨#[32, 64]⟩).run Tryd.prog W = .ok (.string ⟨(J ++ [32, 64]).toArray⟩) W := fun W => cat_lists J [32, 64] (by omega) (by simp) W
      have hc1 : ∀ W, (Op.stringOp .add ⟨(J ++ [32, 64]).toArray⟩ ⟨X5.toArray⟩).run Tryd.prog W = .ok (.string ⟨(J ++ [32, 64] ++ X5).toArray⟩) W := fun W => cat_lists (J ++ [32, 64]) X5 (by simp; omega) (by omega) W
      go_enter Tryd.func23, Tryd.ntmps23
      go_wp2_with fail
      refine (C8.out _).mono ?_
      rintro e w1 ⟨rfl, hb1⟩
      have HB1 := Lib.hid (below_trans HB0.out hb1 (by simp))
      have KB1 := Lib.hid (KB0.out.new hb1)
      clear hb1
      go_wp2_with fail
      refine wp_region_held_drew (S := fun w' => BoxAt w' w.heap.size 59 #[.int .i64 2, .int .i64 a1, .int .i64 a2, .int .i64 a3, .int .i64 a4, .int .i64 a5] ∧ Below w.heap.size w w') (by kernel_rfl) ?_ (fun hHeld => ?_)
      · exact ⟨KB1.out.drw, HB1.out.drew⟩
      refine wpAnyH_take (i := 0) (oi := ⟨some 12, _, _, _, _, _⟩) (v := ?_) rfl (by kernel_rfl) (by kernel_rfl) (by kernel_rfl) (fun _ _ _ h => h) (Or.inl ⟨by kernel_rfl, ?_⟩) hHeld ?_
      rotate_left
      focus (intro W hS; have c0_0 := (hS.1).at_ (j := 0) rfl; have c0_1 := (hS.1).at_ (j := 1) rfl; have c0_2 := (hS.1).at_ (j := 2) rfl; have c0_3 := (hS.1).at_ (j := 3) rfl; have c0_4 := (hS.1).at_ (j := 4) rfl; have c0_5 := (hS.1).at_ (j := 5) rfl; clear hS; first | (go_simp; done) | (go_simp; with_reducible rfl))
      try simp only [Act.put, List.setIfInBounds_toArray, List.set_cons_zero, List.set_cons_succ]
      refine wpAnyH_take (i := 4) (oi := ⟨some 16, _, _, _, _, _⟩) (v := ?_) rfl (by kernel_rfl) (by kernel_rfl) (by kernel_rfl) (fun _ _ _ h => h) (Or.inl ⟨by kernel_rfl, ?_⟩) hHeld ?_
      rotate_left
      focus (intro W hS; have c0_0 := (hS.1).at_ (j := 0) rfl; have c0_1 := (hS.1).at_ (j := 1) rfl; have c0_2 := (hS.1).at_ (j := 2) rfl; have c0_3 := (hS.1).at_ (j := 3) rfl; have c0_4 := (hS.1).at_ (j := 4) rfl; have c0_5 := (hS.1).at_ (j := 5) rfl; clear hS; first | (go_simp; done) | (go_simp; with_reducible rfl))
      try simp only [Act.put, List.setIfInBounds_toArray, List.set_cons_zero, List.set_cons_succ]
      refine wpAnyH_take (i := 5) (oi := ⟨some 17, _, _, _, _, _⟩) (v := ?_) rfl (by kernel_rfl) (by kernel_rfl) (by kernel_rfl) (fun _ _ _ h => h) (Or.inl ⟨by kernel_rfl, ?_⟩) hHeld ?_
      rotate_left
      focus (intro W hS; have c0_0 := (hS.1).at_ (j := 0) rfl; have c0_1 := (hS.1).at_ (j := 1) rfl; have c0_2 := (hS.1).at_ (j := 2) rfl; have c0_3 := (hS.1).at_ (j := 3) rfl; have c0_4 := (hS.1).at_ (j := 4) rfl; have c0_5 := (hS.1).at_ (j := 5) rfl; clear hS; first | (go_simp; done) | (go_simp; with_reducible rfl))
      try simp only [Act.put, List.setIfInBounds_toArray, List.set_cons_zero, List.set_cons_succ]
      refine wpAnyH_ready (rs := [1]) (by kernel_rfl) (by simp) ?_
      refine AllReadyH.cons (o := ⟨some 13, _, _, _, _, _⟩) rfl (fun K hK => ?_) AllReadyH.nil
      go_simp
      refine Calls.mono (CW.out _ (pow10_below HT.out hHeld.2)) ?_
      rintro e x1 ⟨AK, cK, rfl, GK, hb1⟩
      refine hK.out _ _ ⟨hHeld.1.new hb1, below_trans hHeld.2 hb1 (Nat.le_refl _)⟩ (fun hHeld' => ?_)
      clear hK K hHeld hb1
      have hHeld := hHeld'
      clear hHeld'
      try simp only [Act.put, List.setIfInBounds_toArray, List.set_cons_zero, List.set_cons_succ]
      refine wpAnyH_ready (rs := [2]) (by kernel_rfl) (by simp) ?_
      refine AllReadyH.cons (o := ⟨some 14, _, _, _, _, _⟩) rfl (fun K hK => ?_) AllReadyH.nil
      go_simp
      refine Calls.mono (CJ.out _ _ _ _ _ GK.cap GK.rd) ?_
      rintro e x2 ⟨rfl, hb1⟩
      replace GK := GK.new hb1
      refine hK.out _ _ ⟨hHeld.1.new hb1, below_trans hHeld.2 hb1 (Nat.le_refl _)⟩ (fun hHeld' => ?_)
      clear hK K hHeld hb1
      have hHeld := hHeld'
      clear hHeld'
      try simp only [Act.put, List.setIfInBounds_toArray, List.set_cons_zero, List.set_cons_succ]
      refine wpAnyH_take (i := 3) (oi := ⟨some 15, _, _, _, _, _⟩) (v := ?_) rfl (by kernel_rfl) (by kernel_rfl) (by kernel_rfl) (fun _ _ _ h => h) (Or.inl ⟨by kernel_rfl, ?_⟩) hHeld ?_
      rotate_left
      focus (intro W hS; have c0_0 := (hS.1).at_ (j := 0) rfl; have c0_1 := (hS.1).at_ (j := 1) rfl; have c0_2 := (hS.1).at_ (j := 2) rfl; have c0_3 := (hS.1).at_ (j := 3) rfl; have c0_4 := (hS.1).at_ (j := 4) rfl; have c0_5 := (hS.1).at_ (j := 5) rfl; clear hS; first | (go_simp; done) | (go_simp; with_reducible rfl))
      try simp only [Act.put, List.setIfInBounds_toArray, List.set_cons_zero, List.set_cons_succ]
      refine wpAnyH_ready (rs := [6]) (by kernel_rfl) (by simp) ?_
      refine AllReadyH.cons (o := ⟨some 18, _, _, _, _, _⟩) rfl (fun K hK => ?_) AllReadyH.nil
      go_simp
      refine Calls.mono (C5.out _ (pow10_below HT.out hHeld.2)) ?_
      rintro e x3 ⟨rfl, hb1⟩
      replace GK := GK.new hb1
      refine hK.out _ _ ⟨hHeld.1.new hb1, below_trans hHeld.2 hb1 (Nat.le_refl _)⟩ (fun hHeld' => ?_)
      clear hK K hHeld hb1
      have hHeld := hHeld'
      clear hHeld'
      try simp only [Act.put, List.setIfInBounds_toArray, List.set_cons_zero, List.set_cons_succ]
      refine wpAnyH_take (i := 7) (oi := ⟨some 19, _, _, _, _, _⟩) (v := ?_) rfl (by kernel_rfl) (by kernel_rfl) (by kernel_rfl) (fun _ _ _ h => h) (Or.inl ⟨by kernel_rfl, ?_⟩) hHeld ?_
      rotate_left
      focus (intro W hS; have c0_0 := (hS.1).at_ (j := 0) rfl; have c0_1 := (hS.1).at_ (j := 1) rfl; have c0_2 := (hS.1).at_ (j := 2) rfl; have c0_3 := (hS.1).at_ (j := 3) rfl; have c0_4 := (hS.1).at_ (j := 4) rfl; have c0_5 := (hS.1).at_ (j := 5) rfl; clear hS; first | (go_simp; done) | (go_simp; with_reducible rfl))
      try simp only [Act.put, List.setIfInBounds_toArray, List.set_cons_zero, List.set_cons_succ]
      refine wpAnyH_take (i := 8) (oi := ⟨some 2, _, _, _, _, _⟩) (v := ?_) rfl (by kernel_rfl) (by kernel_rfl) (by kernel_rfl) (fun _ _ _ h => h) (Or.inl ⟨by kernel_rfl, ?_⟩) hHeld ?_
      rotate_left
      focus (intro W hS; have c0_0 := (hS.1).at_ (j := 0) rfl; have c0_1 := (hS.1).at_ (j := 1) rfl; have c0_2 := (hS.1).at_ (j := 2) rfl; have c0_3 := (hS.1).at_ (j := 3) rfl; have c0_4 := (hS.1).at_ (j := 4) rfl; have c0_5 := (hS.1).at_ (j := 5) rfl; clear hS; first | (go_simp; done) | (go_simp; with_reducible rfl))
      try simp only [Act.put, List.setIfInBounds_toArray, List.set_cons_zero, List.set_cons_succ]
      refine wpAnyH_done (by kernel_rfl) ?_ _
      go_wp2_with fail
      go_ret
      exact ⟨by first | rfl | simp, hHeld.2⟩
    · skip
      have CW := Lib.hid (fun V hV => words_text 3 a1 a2 a3 a4 a5 V hV (Lib.hid (by intro z hz; simp only [List.mem_cons, List.not_mem_nil, or_false] at hz; rcases hz with rfl | rfl <;> assumption)))
      have HE : tEd ⟨3, a1, a2, a3, a4, a5⟩ = Lib.join ([116, 101, 120, 116] :: [itoa a1, itoa a4]) [32] ++ [32, 64] ++ itoa a5 := rfl
      rw [HE]
      have hjl : (Lib.join ([116, 101, 120, 116] :: [itoa a1, itoa a4]) [32]).length ≤ 200 := by
        simp only [Lib.join_cons, Lib.joinTail, List.map_cons, List.map_nil, List.flatten_cons, List.flatten_nil, List.length_append, List.length_cons, List.length_nil]
        omega
      have CJ : Hid (∀ (V : World) (A : Option Addr) (c lo hi : Nat), 2 + 1 ≤ c → Rd V lo hi 1 A (2 + 1) (vStr [116, 101, 120, 116] :: strs [a1, a4]) → Calls Tryd.prog 48 #[.slice A (2 + 1) c, .string ⟨#[32]⟩] V (Says (.string ⟨(Lib.join ([116, 101, 120, 116] :: [itoa a1, itoa a4]) [32]).toArray⟩) V)) := Lib.hid fun V A c lo hi hc hr => join_ts ([116, 101, 120, 116] :: [itoa a1, itoa a4]) A (2 + 1) c lo hi [32] V (by omega) (by omega) hc (by omega) hr
      have na := ahead_text
      have nm := method_text
      have HV : changeVal ⟨3, a1, a2, a3, a4, a5⟩ = .iface 125 (.agg #[.int .i64 3, .int .i64 a1, .int .i64 a2, .int .i64 a3, .int .i64 a4, .int .i64 a5]) := rfl
      have HI : inR (3 : Int) 1 4 = true := by decide
      have C8 : Hid (∀ W, Calls Tryd.prog 47 #[.agg #[.int .i64 3, .int .i64 a1, .int .i64 a2, .int .i64 a3, .int .i64 a4, .int .i64 a5]] W (Says (.tuple #[.iface 125 (.agg #[.int .i64 3, .int .i64 a1, .int .i64 a2, .int .i64 a3, .int .i64 a4, .int .i64 a5]), .bool true]) W)) := Lib.hid (fun W => C9 W)
      clear HV HI C9 HE f0 f1 f2 f3 f4 f5 b0 hT hx1 hx2 hx3 hx4
      generalize Lib.join ([116, 101, 120, 116] :: [itoa a1, itoa a4]) [32] = J at CJ hjl ⊢
      generalize itoa a5 = X5 at C5 hx5 ⊢
      have hc0 : ∀ W, (Op.stringOp .add ⟨J.toArray⟩ ⟨#[32, 64]⟩).run Tryd.prog W = .ok (.string ⟨(J ++ [32, 64]).toArray⟩) W := fun W => cat_lists J [32, 64] (by omega) (by simp) W
      have hc1 : ∀ W, (Op.stringOp .add ⟨(J ++ [32, 64]).toArray⟩ ⟨X5.toArray⟩).run Tryd.prog W = .ok (.string ⟨(J ++ [32, 64] ++ X5).toArray⟩) W := fun W => cat_lists (J ++ [32, 64]) X5 (by simp; omega) (by omega) W
      go_enter Tryd.func23, Tryd.ntmps23
      go_wp2_with fail
      refine (C8.out _).mono ?_
      rintro e w1 ⟨rfl, hb1⟩
      have HB1 := Lib.hid (below_trans HB0.out hb1 (by simp))
      have KB1 := Lib.hid (KB0.out.new hb1)
      clear hb1
      go_wp2_with fail
      refine wp_region_held_drew (S := fun w' => BoxAt w' w.heap.size 59 #[.int .i64 3, .int .i64 a1, .int .i64 a2, .int .i64 a3, .int .i64 a4, .int .i64 a5] ∧ Below w.heap.size w w') (by kernel_rfl) ?_ (fun hHeld => ?_)
      · exact ⟨KB1.out.drw, HB1.out.drew⟩
      refine wpAnyH_take (i := 0) (oi := ⟨some 12, _, _, _, _, _⟩) (v := ?_) rfl (by kernel_rfl) (by kernel_rfl) (by kernel_rfl) (fun _ _ _ h => h) (Or.inl ⟨by kernel_rfl, ?_⟩) hHeld ?_
      rotate_left
      focus (intro W hS; have c0_0 := (hS.1).at_ (j := 0) rfl; have c0_1 := (hS.1).at_ (j := 1) rfl; have c0_2 := (hS.1).at_ (j := 2) rfl; have c0_3 := (hS.1).at_ (j := 3) rfl; have c0_4 := (hS.1).at_ (j := 4) rfl; have c0_5 := (hS.1).at_ (j := 5) rfl; clear hS; first | (go_simp; done) | (go_simp; with_reducible rfl))
      try simp only [Act.put, List.setIfInBounds_toArray, List.set_cons_zero, List.set_cons_succ]
      refine wpAnyH_take (i := 4) (oi := ⟨some 16, _, _, _, _, _⟩) (v := ?_) rfl (by kernel_rfl) (by kernel_rfl) (by kernel_rfl) (fun _ _ _ h => h) (Or.inl ⟨by kernel_rfl, ?_⟩) hHeld ?_
      rotate_left
      focus (intro W hS; have c0_0 := (hS.1).at_ (j := 0) rfl; have c0_1 := (hS.1).at_ (j := 1) rfl; have c0_2 := (hS.1).at_ (j := 2) rfl; have c0_3 := (hS.1).at_ (j := 3) rfl; have c0_4 := (hS.1).at_ (j := 4) rfl; have c0_5 := (hS.1).at_ (j := 5) rfl; clear hS; first | (go_simp; done) | (go_simp; with_reducible rfl))
      try simp only [Act.put, List.setIfInBounds_toArray, List.set_cons_zero, List.set_cons_succ]
      refine wpAnyH_take (i := 5) (oi := ⟨some 17, _, _, _, _, _⟩) (v := ?_) rfl (by kernel_rfl) (by kernel_rfl) (by kernel_rfl) (fun _ _ _ h => h) (Or.inl ⟨by kernel_rfl, ?_⟩) hHeld ?_
      rotate_left
      focus (intro W hS; have c0_0 := (hS.1).at_ (j := 0) rfl; have c0_1 := (hS.1).at_ (j := 1) rfl; have c0_2 := (hS.1).at_ (j := 2) rfl; have c0_3 := (hS.1).at_ (j := 3) rfl; have c0_4 := (hS.1).at_ (j := 4) rfl; have c0_5 := (hS.1).at_ (j := 5) rfl; clear hS; first | (go_simp; done) | (go_simp; with_reducible rfl))
      try simp only [Act.put, List.setIfInBounds_toArray, List.set_cons_zero, List.set_cons_succ]
      refine wpAnyH_ready (rs := [1]) (by kernel_rfl) (by simp) ?_
      refine AllReadyH.cons (o := ⟨some 13, _, _, _, _, _⟩) rfl (fun K hK => ?_) AllReadyH.nil
      go_simp
      refine Calls.mono (CW.out _ (pow10_below HT.out hHeld.2)) ?_
      rintro e x1 ⟨AK, cK, rfl, GK, hb1⟩
      refine hK.out _ _ ⟨hHeld.1.new hb1, below_trans hHeld.2 hb1 (Nat.le_refl _)⟩ (fun hHeld' => ?_)
      clear hK K hHeld hb1
      have hHeld := hHeld'
      clear hHeld'
      try simp only [Act.put, List.setIfInBounds_toArray, List.set_cons_zero, List.set_cons_succ]
      refine wpAnyH_ready (rs := [2]) (by kernel_rfl) (by simp) ?_
      refine AllReadyH.cons (o := ⟨some 14, _, _, _, _, _⟩) rfl (fun K hK => ?_) AllReadyH.nil
      go_simp
      refine Calls.mono (CJ.out _ _ _ _ _ GK.cap GK.rd) ?_
      rintro e x2 ⟨rfl, hb1⟩
      replace GK := GK.new hb1
      refine hK.out _ _ ⟨hHeld.1.new hb1, below_trans hHeld.2 hb1 (Nat.le_refl _)⟩ (fun hHeld' => ?_)
      clear hK K hHeld hb1
      have hHeld := hHeld'
      clear hHeld'
      try simp only [Act.put, List.setIfInBounds_toArray, List.set_cons_zero, List.set_cons_succ]
      refine wpAnyH_take (i := 3) (oi := ⟨some 15, _, _, _, _, _⟩) (v := ?_) rfl (by kernel_rfl) (by kernel_rfl) (by kernel_rfl) (fun _ _ _ h => h) (Or.inl ⟨by kernel_rfl, ?_⟩) hHeld ?_
      rotate_left
      focus (intro W hS; have c0_0 := (hS.1).at_ (j := 0) rfl; have c0_1 := (hS.1).at_ (j := 1) rfl; have c0_2 := (hS.1).at_ (j := 2) rfl; have c0_3 := (hS.1).at_ (j := 3) rfl; have c0_4 := (hS.1).at_ (j := 4) rfl; have c0_5 := (hS.1).at_ (j := 5) rfl; clear hS; first | (go_simp; done) | (go_simp; with_reducible rfl))
      try simp only [Act.put, List.setIfInBounds_toArray, List.set_cons_zero, List.set_cons_succ]
      refine wpAnyH_ready (rs := [6]) (by kernel_rfl) (by simp) ?_
      refine AllReadyH.cons (o := ⟨some 18, _, _, _, _, _⟩) rfl (fun K hK => ?_) AllReadyH.nil
      go_simp
      refine Calls.mono (C5.out _ (pow10_below HT.out hHeld.2)) ?_
      rintro e x3 ⟨rfl, hb1⟩
      replace GK := GK.new hb1
      refine hK.out _ _ ⟨hHeld.1.new hb1, below_trans hHeld.2 hb1 (Nat.le_refl _)⟩ (fun hHeld' => ?_)
      clear hK K hHeld hb1
      have hHeld := hHeld'
      clear hHeld'
      try simp only [Act.put, List.setIfInBounds_toArray, List.set_cons_zero, List.set_cons_succ]
      refine wpAnyH_take (i := 7) (oi := ⟨some 19, _, _, _, _, _⟩) (v := ?_) rfl (by kernel_rfl) (by kernel_rfl) (by kernel_rfl) (fun _ _ _ h => h) (Or.inl ⟨by kernel_rfl, ?_⟩) hHeld ?_
      rotate_left
      focus (intro W hS; have c0_0 := (hS.1).at_ (j := 0) rfl; have c0_1 := (hS.1).at_ (j := 1) rfl; have c0_2 := (hS.1).at_ (j := 2) rfl; have c0_3 := (hS.1).at_ (j := 3) rfl; have c0_4 := (hS.1).at_ (j := 4) rfl; have c0_5 := (hS.1).at_ (j := 5) rfl; clear hS; first | (go_simp; done) | (go_simp; with_reducible rfl))
      try simp only [Act.put, List.setIfInBounds_toArray, List.set_cons_zero, List.set_cons_succ]
      refine wpAnyH_take (i := 8) (oi := ⟨some 2, _, _, _, _, _⟩) (v := ?_) rfl (by kernel_rfl) (by kernel_rfl) (by kernel_rfl) (fun _ _ _ h => h) (Or.inl ⟨by kernel_rfl, ?_⟩) hHeld ?_
      rotate_left
      focus (intro W hS; have c0_0 := (hS.1).at_ (j := 0) rfl; have c0_1 := (hS.1).at_ (j := 1) rfl; have c0_2 := (hS.1).at_ (j := 2) rfl; have c0_3 := (hS.1).at_ (j := 3) rfl; have c0_4 := (hS.1).at_ (j := 4) rfl; have c0_5 := (hS.1).at_ (j := 5) rfl; clear hS; first | (go_simp; done) | (go_simp; with_reducible rfl))
      try simp only [Act.put, List.setIfInBounds_toArray, List.set_cons_zero, List.set_cons_succ]
      refine wpAnyH_done (by kernel_rfl) ?_ _
      go_wp2_with fail
      go_ret
      exact ⟨by first | rfl | simp, hHeld.2⟩
    · skip
      have CW := Lib.hid (fun V hV => words_move 4 a1 a2 a3 a4 a5 V hV (Lib.hid (by intro z hz; simp only [List.mem_cons, List.not_mem_nil, or_false] at hz; rcases hz with rfl | rfl <;> assumption)))
      have HE : tEd ⟨4, a1, a2, a3, a4, a5⟩ = Lib.join ([109, 111, 118, 101] :: [itoa a1, itoa a2]) [32] ++ [32, 64] ++ itoa a5 := rfl
      rw [HE]
      have hjl : (Lib.join ([109, 111, 118, 101] :: [itoa a1, itoa a2]) [32]).length ≤ 200 := by
        simp only [Lib.join_cons, Lib.joinTail, List.map_cons, List.map_nil, List.flatten_cons, List.flatten_nil, List.length_append, List.length_cons, List.length_nil]
        omega
      have CJ : Hid (∀ (V : World) (A : Option Addr) (c lo hi : Nat), 2 + 1 ≤ c → Rd V lo hi 1 A (2 + 1) (vStr [109, 111, 118, 101] :: strs [a1, a2]) → Calls Tryd.prog 48 #[.slice A (2 + 1) c, .string ⟨#[32]⟩] V (Says (.string ⟨(Lib.join ([109, 111, 118, 101] :: [itoa a1, itoa a2]) [32]).toArray⟩) V)) := Lib.hid fun V A c lo hi hc hr => join_ts ([109, 111, 118, 101] :: [itoa a1, itoa a2]) A (2 + 1) c lo hi [32] V (by omega) (by omega) hc (by omega) hr
      have na := ahead_move
      have nm := method_move
      have HV : changeVal ⟨4, a1, a2, a3, a4, a5⟩ = .iface 126 (.agg #[.int .i64 4, .int .i64 a1, .int .i64 a2, .int .i64 a3, .int .i64 a4, .int .i64 a5]) := rfl
      have HI : inR (4 : Int) 1 4 = true := by decide
      have C8 : Hid (∀ W, Calls Tryd.prog 47 #[.agg #[.int .i64 4, .int .i64 a1, .int .i64 a2, .int .i64 a3, .int .i64 a4, .int .i64 a5]] W (Says (.tuple #[.iface 126 (.agg #[.int .i64 4, .int .i64 a1, .int .i64 a2, .int .i64 a3, .int .i64 a4, .int .i64 a5]), .bool true]) W)) := Lib.hid (fun W => C9 W)
      clear HV HI C9 HE f0 f1 f2 f3 f4 f5 b0 hT hx1 hx2 hx3 hx4
      generalize Lib.join ([109, 111, 118, 101] :: [itoa a1, itoa a2]) [32] = J at CJ hjl ⊢
      generalize itoa a5 = X5 at C5 hx5 ⊢
      have hc0 : ∀ W, (Op.stringOp .add ⟨J.toArray⟩ ⟨#[32, 64]⟩).run Tryd.prog W = .ok (.string ⟨(J ++ [32, 64]).toArray⟩) W := fun W => cat_lists J [32, 64] (by omega) (by simp) W
      have hc1 : ∀ W, (Op.stringOp .add ⟨(J ++ [32, 64]).toArray⟩ ⟨X5.toArray⟩).run Tryd.prog W = .ok (.string ⟨(J ++ [32, 64] ++ X5).toArray⟩) W := fun W => cat_lists (J ++ [32, 64]) X5 (by simp; omega) (by omega) W
      go_enter Tryd.func23, Tryd.ntmps23
      go_wp2_with fail
      refine (C8.out _).mono ?_
      rintro e w1 ⟨rfl, hb1⟩
      have HB1 := Lib.hid (below_trans HB0.out hb1 (by simp))
      have KB1 := Lib.hid (KB0.out.new hb1)
      clear hb1
      go_wp2_with fail
      refine wp_region_held_drew (S := fun w' => BoxAt w' w.heap.size 59 #[.int .i64 4, .int .i64 a1, .int .i64 a2, .int .i64 a3, .int .i64 a4, .int .i64 a5] ∧ Below w.heap.size w w') (by kernel_rfl) ?_ (fun hHeld => ?_)
      · exact ⟨KB1.out.drw, HB1.out.drew⟩
      refine wpAnyH_take (i := 0) (oi := ⟨some 12, _, _, _, _, _⟩) (v := ?_) rfl (by kernel_rfl) (by kernel_rfl) (by kernel_rfl) (fun _ _ _ h => h) (Or.inl ⟨by kernel_rfl, ?_⟩) hHeld ?_
      rotate_left
      focus (intro W hS; have c0_0 := (hS.1).at_ (j := 0) rfl; have c0_1 := (hS.1).at_ (j := 1) rfl; have c0_2 := (hS.1).at_ (j := 2) rfl; have c0_3 := (hS.1).at_ (j := 3) rfl; have c0_4 := (hS.1).at_ (j := 4) rfl; have c0_5 := (hS.1).at_ (j := 5) rfl; clear hS; first | (go_simp; done) | (go_simp; with_reducible rfl))
      try simp only [Act.put, List.setIfInBounds_toArray, List.set_cons_zero, List.set_cons_succ]
      refine wpAnyH_take (i := 4) (oi := ⟨some 16, _, _, _, _, _⟩) (v := ?_) rfl (by kernel_rfl) (by kernel_rfl) (by kernel_rfl) (fun _ _ _ h => h) (Or.inl ⟨by kernel_rfl, ?_⟩) hHeld ?_
      rotate_left
      focus (intro W hS; have c0_0 := (hS.1).at_ (j := 0) rfl; have c0_1 := (hS.1).at_ (j := 1) rfl; have c0_2 := (hS.1).at_ (j := 2) rfl; have c0_3 := (hS.1).at_ (j := 3) rfl; have c0_4 := (hS.1).at_ (j := 4) rfl; have c0_5 := (hS.1).at_ (j := 5) rfl; clear hS; first | (go_simp; done) | (go_simp; with_reducible rfl))
      try simp only [Act.put, List.setIfInBounds_toArray, List.set_cons_zero, List.set_cons_succ]
      refine wpAnyH_take (i := 5) (oi := ⟨some 17, _, _, _, _, _⟩) (v := ?_) rfl (by kernel_rfl) (by kernel_rfl) (by kernel_rfl) (fun _ _ _ h => h) (Or.inl ⟨by kernel_rfl, ?_⟩) hHeld ?_
      rotate_left
      focus (intro W hS; have c0_0 := (hS.1).at_ (j := 0) rfl; have c0_1 := (hS.1).at_ (j := 1) rfl; have c0_2 := (hS.1).at_ (j := 2) rfl; have c0_3 := (hS.1).at_ (j := 3) rfl; have c0_4 := (hS.1).at_ (j := 4) rfl; have c0_5 := (hS.1).at_ (j := 5) rfl; clear hS; first | (go_simp; done) | (go_simp; with_reducible rfl))
      try simp only [Act.put, List.setIfInBounds_toArray, List.set_cons_zero, List.set_cons_succ]
      refine wpAnyH_ready (rs := [1]) (by kernel_rfl) (by simp) ?_
      refine AllReadyH.cons (o := ⟨some 13, _, _, _, _, _⟩) rfl (fun K hK => ?_) AllReadyH.nil
      go_simp
      refine Calls.mono (CW.out _ (pow10_below HT.out hHeld.2)) ?_
      rintro e x1 ⟨AK, cK, rfl, GK, hb1⟩
      refine hK.out _ _ ⟨hHeld.1.new hb1, below_trans hHeld.2 hb1 (Nat.le_refl _)⟩ (fun hHeld' => ?_)
      clear hK K hHeld hb1
      have hHeld := hHeld'
      clear hHeld'
      try simp only [Act.put, List.setIfInBounds_toArray, List.set_cons_zero, List.set_cons_succ]
      refine wpAnyH_ready (rs := [2]) (by kernel_rfl) (by simp) ?_
      refine AllReadyH.cons (o := ⟨some 14, _, _, _, _, _⟩) rfl (fun K hK => ?_) AllReadyH.nil
      go_simp
      refine Calls.mono (CJ.out _ _ _ _ _ GK.cap GK.rd) ?_
      rintro e x2 ⟨rfl, hb1⟩
      replace GK := GK.new hb1
      refine hK.out _ _ ⟨hHeld.1.new hb1, below_trans hHeld.2 hb1 (Nat.le_refl _)⟩ (fun hHeld' => ?_)
      clear hK K hHeld hb1
      have hHeld := hHeld'
      clear hHeld'
      try simp only [Act.put, List.setIfInBounds_toArray, List.set_cons_zero, List.set_cons_succ]
      refine wpAnyH_take (i := 3) (oi := ⟨some 15, _, _, _, _, _⟩) (v := ?_) rfl (by kernel_rfl) (by kernel_rfl) (by kernel_rfl) (fun _ _ _ h => h) (Or.inl ⟨by kernel_rfl, ?_⟩) hHeld ?_
      rotate_left
      focus (intro W hS; have c0_0 := (hS.1).at_ (j := 0) rfl; have c0_1 := (hS.1).at_ (j := 1) rfl; have c0_2 := (hS.1).at_ (j := 2) rfl; have c0_3 := (hS.1).at_ (j := 3) rfl; have c0_4 := (hS.1).at_ (j := 4) rfl; have c0_5 := (hS.1).at_ (j := 5) rfl; clear hS; first | (go_simp; done) | (go_simp; with_reducible rfl))
      try simp only [Act.put, List.setIfInBounds_toArray, List.set_cons_zero, List.set_cons_succ]
      refine wpAnyH_ready (rs := [6]) (by kernel_rfl) (by simp) ?_
      refine AllReadyH.cons (o := ⟨some 18, _, _, _, _, _⟩) rfl (fun K hK => ?_) AllReadyH.nil
      go_simp
      refine Calls.mono (C5.out _ (pow10_below HT.out hHeld.2)) ?_
      rintro e x3 ⟨rfl, hb1⟩
      replace GK := GK.new hb1
      refine hK.out _ _ ⟨hHeld.1.new hb1, below_trans hHeld.2 hb1 (Nat.le_refl _)⟩ (fun hHeld' => ?_)
      clear hK K hHeld hb1
      have hHeld := hHeld'
      clear hHeld'
      try simp only [Act.put, List.setIfInBounds_toArray, List.set_cons_zero, List.set_cons_succ]
      refine wpAnyH_take (i := 7) (oi := ⟨some 19, _, _, _, _, _⟩) (v := ?_) rfl (by kernel_rfl) (by kernel_rfl) (by kernel_rfl) (fun _ _ _ h => h) (Or.inl ⟨by kernel_rfl, ?_⟩) hHeld ?_
      rotate_left
      focus (intro W hS; have c0_0 := (hS.1).at_ (j := 0) rfl; have c0_1 := (hS.1).at_ (j := 1) rfl; have c0_2 := (hS.1).at_ (j := 2) rfl; have c0_3 := (hS.1).at_ (j := 3) rfl; have c0_4 := (hS.1).at_ (j := 4) rfl; have c0_5 := (hS.1).at_ (j := 5) rfl; clear hS; first | (go_simp; done) | (go_simp; with_reducible rfl))
      try simp only [Act.put, List.setIfInBounds_toArray, List.set_cons_zero, List.set_cons_succ]
      refine wpAnyH_take (i := 8) (oi := ⟨some 2, _, _, _, _, _⟩) (v := ?_) rfl (by kernel_rfl) (by kernel_rfl) (by kernel_rfl) (fun _ _ _ h => h) (Or.inl ⟨by kernel_rfl, ?_⟩) hHeld ?_
      rotate_left
      focus (intro W hS; have c0_0 := (hS.1).at_ (j := 0) rfl; have c0_1 := (hS.1).at_ (j := 1) rfl; have c0_2 := (hS.1).at_ (j := 2) rfl; have c0_3 := (hS.1).at_ (j := 3) rfl; have c0_4 := (hS.1).at_ (j := 4) rfl; have c0_5 := (hS.1).at_ (j := 5) rfl; clear hS; first | (go_simp; done) | (go_simp; with_reducible rfl))
      try simp only [Act.put, List.setIfInBounds_toArray, List.set_cons_zero, List.set_cons_succ]
      refine wpAnyH_done (by kernel_rfl) ?_ _
      go_wp2_with fail
      go_ret
      exact ⟨by first | rfl | simp, hHeld.2⟩
  · have HI : inR k 1 4 = false := by rw [inR_false]; omega
    have HE : tEd ⟨k, a1, a2, a3, a4, a5⟩ = [] := by unfold tEd; rw [HI]; rfl
    rw [HE]
    have HV : changeVal ⟨k, a1, a2, a3, a4, a5⟩ = .nilIface := by unfold changeVal; rw [if_neg (fun h : k = 1 => hk (.inl h)), if_neg (fun h : k = 2 => hk (.inr (.inl h))), if_neg (fun h : k = 3 => hk (.inr (.inr (.inl h)))), if_neg (fun h : k = 4 => hk (.inr (.inr (.inr h))))]
    have C8 : Hid (∀ W, Calls Tryd.prog 47 #[.agg #[.int .i64 k, .int .i64 a1, .int .i64 a2, .int .i64 a3, .int .i64 a4, .int .i64 a5]] W (Says (.tuple #[.nilIface, .bool false]) W)) := Lib.hid (fun W => by have := C9 W; unfold ChangeOf at this; rw [HV, HI] at this; exact this)
    clear HV HI C9 HE hk
    go_enter Tryd.func23, Tryd.ntmps23
    go_wp2_with fail
    refine (C8.out _).mono ?_
    rintro e w1 ⟨rfl, hb1⟩
    have HB1 := Lib.hid (below_trans HB0.out hb1 (by simp))
    clear hb1
    go_wp2_with fail
    go_ret
    exact ⟨rfl, HB1.out⟩
theorem impl_EditText (e : TEdit) (w : World) (hT : Pow10 w) (b0 : Hid (TEdit.fit e)) :
    Calls Tryd.prog 23 #[.agg #[.int .i64 e.f0, .int .i64 e.f1, .int .i64 e.f2, .int .i64 e.f3, .int .i64 e.f4, .int .i64 e.f5]] w (Says (.string ⟨(tEd e).toArray⟩) w) := impl_EditText' e.f0 e.f1 e.f2 e.f3 e.f4 e.f5 w hT b0

end Go.Proofs.YtkakdfphhnchhaaDoor
