/- The model's copy of a window. -/
import Derived.Test.YtmdmihilhilkiaaRWindow
import Derived.Test.YtmdmihilhilkiaaEStored
import Derived.Test.YtmdmihilhilkiaaApp0
import Derived.Test.YtmdmihilhilkiaaReg
import Derived.Deep.RegionHeld3
namespace Go.Proofs.Ytmdmihilhilkiaa
open Go Go.ChangeShapes Go.WideShapes Go.ChangeAt Go.RowKit Go.Lib
set_option linter.unusedVariables false
set_option linter.unusedSimpArgs false
set_option maxRecDepth 100000
set_option maxHeartbeats 8000000 in
theorem spec_l25Copy (p0 : Bool) (l1 : List TStored) (A1 : Option Addr) (n1 c1 lo1 hi1 : Nat) (l2 : List TStored) (A2 : Option Addr) (n2 c2 lo2 hi2 : Nat) (w : World) (h1 : n1 ≤ 1048576) (r1 : Rd w lo1 hi1 4 A1 n1 (cStored l1)) (h2 : n2 ≤ 1048576) (r2 : Rd w lo2 hi2 4 A2 n2 (cStored l2)) :
    Calls Try.prog 61 #[.agg #[.bool p0, .slice A1 n1 c1, .slice A2 n2 c2]] w (MakesWindow p0 n1 l1 n2 l2 w) := by
  have R1 := Lib.hid r1
  have R2 := Lib.hid r2
  clear r1 r2
  have KB0 : BoxAt ((w.alloc (.cells #[.bool p0, .slice A1 n1 c1, .slice A2 n2 c2] 31)).alloc (.cells #[.bool false, .slice none 0 0, .slice none 0 0] 31)).drew w.heap.size 31 #[.bool p0, .slice A1 n1 c1, .slice A2 n2 c2] := ((box_new w _ _).alloc_ _).drw
  obtain ⟨gres, hgres⟩ : ∃ g, g = w.heap.size + 1 := ⟨_, rfl⟩
  have Gres : BoxAt ((w.alloc (.cells #[.bool p0, .slice A1 n1 c1, .slice A2 n2 c2] 31)).alloc (.cells #[.bool false, .slice none 0 0, .slice none 0 0] 31)).drew gres 31 #[.bool false, .slice none 0 0, .slice none 0 0] := by
    subst hgres
    exact (show BoxAt ((w.alloc (.cells #[.bool p0, .slice A1 n1 c1, .slice A2 n2 c2] 31)).alloc (.cells #[.bool false, .slice none 0 0, .slice none 0 0] 31)) (w.heap.size + 1) 31 #[.bool false, .slice none 0 0, .slice none 0 0] by simpa using box_new (w.alloc (.cells #[.bool p0, .slice A1 n1 c1, .slice A2 n2 c2] 31)) 31 #[.bool false, .slice none 0 0, .slice none 0 0]).drw
  have HBw : Below w.heap.size w ((w.alloc (.cells #[.bool p0, .slice A1 n1 c1, .slice A2 n2 c2] 31)).alloc (.cells #[.bool false, .slice none 0 0, .slice none 0 0] 31)).drew := (((Below.refl _ _).alloc (Nat.le_refl _) _).alloc (by simp) _).drew
  go_enter Try.func61, Try.ntmps61
  go_wp2_with fail
  rw [← hgres]
  have Lres : w.heap.size + 1 ≤ gres := by omega
  clear hgres
  refine wp_region_held_drew (S := fun w' => BoxAt w' w.heap.size 31 #[.bool p0, .slice A1 n1 c1, .slice A2 n2 c2] ∧ Below w.heap.size w w') (by kernel_rfl) ?_ (fun hHeld => ?_)
  · exact ⟨KB0, HBw⟩
  generalize (World.drew _) = x0 at hHeld Gres ⊢
  refine wpAnyH_take (i := 0) (oi := ⟨some 3, _, _, _, _, _⟩) (v := ?_) rfl (by kernel_rfl) (by kernel_rfl) (by kernel_rfl) (fun _ _ _ h => h) (Or.inl ⟨by kernel_rfl, ?_⟩) hHeld ?_
  rotate_left
  focus (intro W hS; have c0_0 := (hS.1).at_ (j := 0) rfl; have c0_1 := (hS.1).at_ (j := 1) rfl; have c0_2 := (hS.1).at_ (j := 2) rfl; clear hS; first | (go_simp; done) | (go_simp; with_reducible rfl))
  try simp only [Act.put, List.setIfInBounds_toArray, List.set_cons_zero, List.set_cons_succ]
  refine wpAnyH_take (i := 1) (oi := ⟨some 4, _, _, _, _, _⟩) (v := ?_) rfl (by kernel_rfl) (by kernel_rfl) (by kernel_rfl) (fun _ _ _ h => h) (Or.inl ⟨by kernel_rfl, ?_⟩) hHeld ?_
  rotate_left
  focus (intro W hS; have c0_0 := (hS.1).at_ (j := 0) rfl; have c0_1 := (hS.1).at_ (j := 1) rfl; have c0_2 := (hS.1).at_ (j := 2) rfl; clear hS; first | (go_simp; done) | (go_simp; with_reducible rfl))
  try simp only [Act.put, List.setIfInBounds_toArray, List.set_cons_zero, List.set_cons_succ]
  refine wpAnyH_take (i := 3) (oi := ⟨some 6, _, _, _, _, _⟩) (v := ?_) rfl (by kernel_rfl) (by kernel_rfl) (by kernel_rfl) (fun _ _ _ h => h) (Or.inl ⟨by kernel_rfl, ?_⟩) hHeld ?_
  rotate_left
  focus (intro W hS; have c0_0 := (hS.1).at_ (j := 0) rfl; have c0_1 := (hS.1).at_ (j := 1) rfl; have c0_2 := (hS.1).at_ (j := 2) rfl; clear hS; first | (go_simp; done) | (go_simp; with_reducible rfl))
  try simp only [Act.put, List.setIfInBounds_toArray, List.set_cons_zero, List.set_cons_succ]
  refine wpAnyH_take (i := 4) (oi := ⟨some 7, _, _, _, _, _⟩) (v := ?_) rfl (by kernel_rfl) (by kernel_rfl) (by kernel_rfl) (fun _ _ _ h => h) (Or.inl ⟨by kernel_rfl, ?_⟩) hHeld ?_
  rotate_left
  focus (intro W hS; have c0_0 := (hS.1).at_ (j := 0) rfl; have c0_1 := (hS.1).at_ (j := 1) rfl; have c0_2 := (hS.1).at_ (j := 2) rfl; clear hS; first | (go_simp; done) | (go_simp; with_reducible rfl))
  try simp only [Act.put, List.setIfInBounds_toArray, List.set_cons_zero, List.set_cons_succ]
  refine wpAnyH_take (i := 7) (oi := ⟨some 10, _, _, _, _, _⟩) (v := ?_) rfl (by kernel_rfl) (by kernel_rfl) (by kernel_rfl) (fun _ _ _ h => h) (Or.inl ⟨by kernel_rfl, ?_⟩) hHeld ?_
  rotate_left
  focus (intro W hS; have c0_0 := (hS.1).at_ (j := 0) rfl; have c0_1 := (hS.1).at_ (j := 1) rfl; have c0_2 := (hS.1).at_ (j := 2) rfl; clear hS; first | (go_simp; done) | (go_simp; with_reducible rfl))
  try simp only [Act.put, List.setIfInBounds_toArray, List.set_cons_zero, List.set_cons_succ]
  refine wpAnyH_take (i := 8) (oi := ⟨some 11, _, _, _, _, _⟩) (v := ?_) rfl (by kernel_rfl) (by kernel_rfl) (by kernel_rfl) (fun _ _ _ h => h) (Or.inl ⟨by kernel_rfl, ?_⟩) hHeld ?_
  rotate_left
  focus (intro W hS; have c0_0 := (hS.1).at_ (j := 0) rfl; have c0_1 := (hS.1).at_ (j := 1) rfl; have c0_2 := (hS.1).at_ (j := 2) rfl; clear hS; first | (go_simp; done) | (go_simp; with_reducible rfl))
  try simp only [Act.put, List.setIfInBounds_toArray, List.set_cons_zero, List.set_cons_succ]
  refine wpAnyH_ready (rs := [2, 6]) (by kernel_rfl) (by simp) ?_
  refine AllReadyH.cons (o := ⟨some 5, _, _, _, _, _⟩) rfl (fun K hK => ?_) ?_
  · skip
    go_simp
    have Gb1 := box_new (x0) 84 #[]
    have hb1 := (Below.refl (x0).heap.size (x0)).alloc (Nat.le_refl _) (.cells #[] 84)
    have Lb1 : w.heap.size ≤ (x0).heap.size := by have := (hHeld.1).lt; have := (hHeld.2).size; omega
    have M0b1 : w.heap.size < (x0).heap.size := (hHeld.1).lt
    have Nresb1 : gres < (x0).heap.size := Gres.lt
    replace Gres := Gres.new hb1
    generalize (x0).alloc (.cells #[] 84) = x1 at hb1 Gb1 Gres ⊢
    generalize hg : (x0).heap.size = gb1 at Gb1 Lb1 Nresb1 M0b1 ⊢
    clear hg
    refine hK.out _ _ ⟨hHeld.1.new hb1, below_trans hHeld.2 hb1 (Nat.le_refl _)⟩ (fun hHeld' => ?_)
    have Z1 := hb1.size
    clear hK K hHeld hb1
    have hHeld := hHeld'
    clear hHeld'
    try simp only [Act.put, List.setIfInBounds_toArray, List.set_cons_zero, List.set_cons_succ]
    refine wpAnyH_ready (rs := [5, 6]) (by kernel_rfl) (by simp) ?_
    refine AllReadyH.cons (o := ⟨some 8, _, _, _, _, _⟩) rfl (fun K hK => ?_) ?_
    · skip
      refine step_app0 rfl _ _ _ (by rfl) 84 (.agg #[.int .i64 0, .int .i64 0, .int .i64 0, .int .i64 0]) 4 32 Try.underlying28 icStored rfl (by decide) gb1 (by rfl) Gb1 lo1 hi1 A1 n1 c1 (cStored l1) (by rfl) (R1.out.new hHeld.2) (ocStored l1) (by unfold maxLen; omega) (by omega) ?_
      intro Av1 cv1 x2 hF hb1
      have Presv1 : gres < (x1).heap.size := Gres.lt
      replace Gres := Gres.new hb1
      replace Gb1 := Gb1.new hb1
      have Gv1 := hF
      clear hF
      refine hK.out _ _ ⟨hHeld.1.new hb1, below_trans hHeld.2 hb1 (Nat.le_refl _)⟩ (fun hHeld' => ?_)
      have Z2 := hb1.size
      clear hK K hHeld hb1
      have hHeld := hHeld'
      clear hHeld'
      try simp only [Act.put, List.setIfInBounds_toArray, List.set_cons_zero, List.set_cons_succ]
      refine wpAnyH_ready (rs := [6]) (by kernel_rfl) (by simp) ?_
      refine AllReadyH.cons (o := ⟨some 9, _, _, _, _, _⟩) rfl (fun K hK => ?_) AllReadyH.nil
      go_simp
      have Gb2 := box_new (x2) 84 #[]
      have hb1 := (Below.refl (x2).heap.size (x2)).alloc (Nat.le_refl _) (.cells #[] 84)
      have Lb2 : w.heap.size ≤ (x2).heap.size := by have := (hHeld.1).lt; have := (hHeld.2).size; omega
      have M0b2 : w.heap.size < (x2).heap.size := (hHeld.1).lt
      replace Gv1 := Gv1.new hb1
      have Nresb2 : gres < (x2).heap.size := Gres.lt
      replace Gres := Gres.new hb1
      have Nb1b2 : gb1 < (x2).heap.size := Gb1.lt
      replace Gb1 := Gb1.new hb1
      generalize (x2).alloc (.cells #[] 84) = x3 at hb1 Gb2 Gres Gb1 Gv1 ⊢
      generalize hg : (x2).heap.size = gb2 at Gb2 Lb2 Nresb2 Nb1b2 M0b2 ⊢
      clear hg
      refine hK.out _ _ ⟨hHeld.1.new hb1, below_trans hHeld.2 hb1 (Nat.le_refl _)⟩ (fun hHeld' => ?_)
      have Z3 := hb1.size
      clear hK K hHeld hb1
      have hHeld := hHeld'
      clear hHeld'
      try simp only [Act.put, List.setIfInBounds_toArray, List.set_cons_zero, List.set_cons_succ]
      refine wpAnyH_ready (rs := [9]) (by kernel_rfl) (by simp) ?_
      refine AllReadyH.cons (o := ⟨some 12, _, _, _, _, _⟩) rfl (fun K hK => ?_) AllReadyH.nil
      refine step_app0 rfl _ _ _ (by rfl) 84 (.agg #[.int .i64 0, .int .i64 0, .int .i64 0, .int .i64 0]) 4 32 Try.underlying28 icStored rfl (by decide) gb2 (by rfl) Gb2 lo2 hi2 A2 n2 c2 (cStored l2) (by rfl) (R2.out.new hHeld.2) (ocStored l2) (by unfold maxLen; omega) (by omega) ?_
      intro Av2 cv2 x4 hF hb1
      have Presv2 : gres < (x3).heap.size := Gres.lt
      replace Gres := Gres.new hb1
      replace Gb1 := Gb1.new hb1
      replace Gv1 := Gv1.new hb1
      replace Gb2 := Gb2.new hb1
      have Gv2 := hF
      clear hF
      refine hK.out _ _ ⟨hHeld.1.new hb1, below_trans hHeld.2 hb1 (Nat.le_refl _)⟩ (fun hHeld' => ?_)
      have Z4 := hb1.size
      clear hK K hHeld hb1
      have hHeld := hHeld'
      clear hHeld'
      try simp only [Act.put, List.setIfInBounds_toArray, List.set_cons_zero, List.set_cons_succ]
      refine wpAnyH_take (i := 10) (oi := ⟨some 13, _, _, _, _, _⟩) (v := ?_) rfl (by kernel_rfl) (by kernel_rfl) (by kernel_rfl) (fun _ _ _ h => h) (Or.inl ⟨by kernel_rfl, ?_⟩) hHeld ?_
      rotate_left
      focus (intro W hS; have c0_0 := (hS.1).at_ (j := 0) rfl; have c0_1 := (hS.1).at_ (j := 1) rfl; have c0_2 := (hS.1).at_ (j := 2) rfl; clear hS; first | (go_simp; done) | (go_simp; with_reducible rfl))
      try simp only [Act.put, List.setIfInBounds_toArray, List.set_cons_zero, List.set_cons_succ]
      refine wpAnyH_ready (rs := [11]) (by kernel_rfl) (by simp) ?_
      refine AllReadyH.cons (o := ⟨none, _, _, _, _, _⟩) rfl (fun K hK => ?_) AllReadyH.nil
      rw [if_pos (by rfl)]
      refine wp_store_row 31 _ _ rfl gres #[.bool p0, .slice Av1 n1 cv1, .slice Av2 n2 cv2] rfl rfl 31 _ Gres (by kernel_rfl) (by kernel_rfl) (by kernel_rfl) ?_
      replace Gres := box_row (cs := #[.bool p0, .slice Av1 n1 cv1, .slice Av2 n2 cv2]) Gres
      replace Gb1 := box_far (cs := #[.bool p0, .slice Av1 n1 cv1, .slice Av2 n2 cv2]) (g := gres) Gb1 (by omega)
      replace Gb2 := box_far (cs := #[.bool p0, .slice Av1 n1 cv1, .slice Av2 n2 cv2]) (g := gres) Gb2 (by omega)
      have hc1 := chg_row x4 gres #[.bool p0, .slice Av1 n1 cv1, .slice Av2 n2 cv2]
      have hHeld2 : BoxAt (World.setRow x4 gres #[.bool p0, .slice Av1 n1 cv1, .slice Av2 n2 cv2]) w.heap.size 31 #[.bool p0, .slice A1 n1 c1, .slice A2 n2 c2] ∧ Below w.heap.size w (World.setRow x4 gres #[.bool p0, .slice Av1 n1 cv1, .slice Av2 n2 cv2]) := ⟨hHeld.1.chg hc1 (by omega), below_setRow hHeld.2 (by omega) _⟩
      replace Gv1 := Gv1.chg hc1 (by omega)
      replace Gv2 := Gv2.chg hc1 (by omega)
      clear hc1
      have Z5 : (x4).heap.size ≤ (World.setRow x4 gres #[.bool p0, .slice Av1 n1 cv1, .slice Av2 n2 cv2]).heap.size := by simp
      generalize World.setRow x4 gres #[.bool p0, .slice Av1 n1 cv1, .slice Av2 n2 cv2] = x5 at hHeld2 Gres Gb1 Gv1 Gb2 Gv2 Z5 ⊢
      refine hK.out _ _ hHeld2 (fun hHeld' => ?_)
      clear hHeld2
      clear hK K hHeld
      have hHeld := hHeld'
      clear hHeld'
      try simp only [Act.put, List.setIfInBounds_toArray, List.set_cons_zero, List.set_cons_succ]
      refine wpAnyH_done (by kernel_rfl) ?_ _
      go_wp2_with fail
      have k0 := Gres.at_ (j := 0) rfl
      have k1 := Gres.at_ (j := 1) rfl
      have k2 := Gres.at_ (j := 2) rfl
      have hHB := hHeld.2
      clear hHeld
      exact bodyPost_ret (v := .agg #[.bool p0, .slice Av1 n1 cv1, .slice Av2 n2 cv2]) (by simp [results, Try.results61, go_sem, k0, k1, k2]) rfl ⟨Av1, Av2, cv1, _, _, cv2, _, _, rfl, Gv1, Gv2, Lib.hid (by unfold SepWindow; omega), hHB⟩
    refine AllReadyH.cons (o := ⟨some 9, _, _, _, _, _⟩) rfl (fun K hK => ?_) ?_
    · skip
      go_simp
      have Gb2 := box_new (x1) 84 #[]
      have hb1 := (Below.refl (x1).heap.size (x1)).alloc (Nat.le_refl _) (.cells #[] 84)
      have Lb2 : w.heap.size ≤ (x1).heap.size := by have := (hHeld.1).lt; have := (hHeld.2).size; omega
      have M0b2 : w.heap.size < (x1).heap.size := (hHeld.1).lt
      have Nresb2 : gres < (x1).heap.size := Gres.lt
      replace Gres := Gres.new hb1
      have Nb1b2 : gb1 < (x1).heap.size := Gb1.lt
      replace Gb1 := Gb1.new hb1
      generalize (x1).alloc (.cells #[] 84) = x2 at hb1 Gb2 Gres Gb1 ⊢
      generalize hg : (x1).heap.size = gb2 at Gb2 Lb2 Nresb2 Nb1b2 M0b2 ⊢
      clear hg
      refine hK.out _ _ ⟨hHeld.1.new hb1, below_trans hHeld.2 hb1 (Nat.le_refl _)⟩ (fun hHeld' => ?_)
      have Z2 := hb1.size
      clear hK K hHeld hb1
      have hHeld := hHeld'
      clear hHeld'
      try simp only [Act.put, List.setIfInBounds_toArray, List.set_cons_zero, List.set_cons_succ]
      refine wpAnyH_ready (rs := [5]) (by kernel_rfl) (by simp) ?_
      refine AllReadyH.cons (o := ⟨some 8, _, _, _, _, _⟩) rfl (fun K hK => ?_) AllReadyH.nil
      refine step_app0 rfl _ _ _ (by rfl) 84 (.agg #[.int .i64 0, .int .i64 0, .int .i64 0, .int .i64 0]) 4 32 Try.underlying28 icStored rfl (by decide) gb1 (by rfl) Gb1 lo1 hi1 A1 n1 c1 (cStored l1) (by rfl) (R1.out.new hHeld.2) (ocStored l1) (by unfold maxLen; omega) (by omega) ?_
      intro Av1 cv1 x3 hF hb1
      have Presv1 : gres < (x2).heap.size := Gres.lt
      replace Gres := Gres.new hb1
      replace Gb1 := Gb1.new hb1
      replace Gb2 := Gb2.new hb1
      have Gv1 := hF
      clear hF
      refine hK.out _ _ ⟨hHeld.1.new hb1, below_trans hHeld.2 hb1 (Nat.le_refl _)⟩ (fun hHeld' => ?_)
      have Z3 := hb1.size
      clear hK K hHeld hb1
      have hHeld := hHeld'
      clear hHeld'
      try simp only [Act.put, List.setIfInBounds_toArray, List.set_cons_zero, List.set_cons_succ]
      refine wpAnyH_ready (rs := [9]) (by kernel_rfl) (by simp) ?_
      refine AllReadyH.cons (o := ⟨some 12, _, _, _, _, _⟩) rfl (fun K hK => ?_) AllReadyH.nil
      refine step_app0 rfl _ _ _ (by rfl) 84 (.agg #[.int .i64 0, .int .i64 0, .int .i64 0, .int .i64 0]) 4 32 Try.underlying28 icStored rfl (by decide) gb2 (by rfl) Gb2 lo2 hi2 A2 n2 c2 (cStored l2) (by rfl) (R2.out.new hHeld.2) (ocStored l2) (by unfold maxLen; omega) (by omega) ?_
      intro Av2 cv2 x4 hF hb1
      have Presv2 : gres < (x3).heap.size := Gres.lt
      replace Gres := Gres.new hb1
      replace Gb1 := Gb1.new hb1
      replace Gb2 := Gb2.new hb1
      replace Gv1 := Gv1.new hb1
      have Gv2 := hF
      clear hF
      refine hK.out _ _ ⟨hHeld.1.new hb1, below_trans hHeld.2 hb1 (Nat.le_refl _)⟩ (fun hHeld' => ?_)
      have Z4 := hb1.size
      clear hK K hHeld hb1
      have hHeld := hHeld'
      clear hHeld'
      try simp only [Act.put, List.setIfInBounds_toArray, List.set_cons_zero, List.set_cons_succ]
      refine wpAnyH_take (i := 10) (oi := ⟨some 13, _, _, _, _, _⟩) (v := ?_) rfl (by kernel_rfl) (by kernel_rfl) (by kernel_rfl) (fun _ _ _ h => h) (Or.inl ⟨by kernel_rfl, ?_⟩) hHeld ?_
      rotate_left
      focus (intro W hS; have c0_0 := (hS.1).at_ (j := 0) rfl; have c0_1 := (hS.1).at_ (j := 1) rfl; have c0_2 := (hS.1).at_ (j := 2) rfl; clear hS; first | (go_simp; done) | (go_simp; with_reducible rfl))
      try simp only [Act.put, List.setIfInBounds_toArray, List.set_cons_zero, List.set_cons_succ]
      refine wpAnyH_ready (rs := [11]) (by kernel_rfl) (by simp) ?_
      refine AllReadyH.cons (o := ⟨none, _, _, _, _, _⟩) rfl (fun K hK => ?_) AllReadyH.nil
      rw [if_pos (by rfl)]
      refine wp_store_row 31 _ _ rfl gres #[.bool p0, .slice Av1 n1 cv1, .slice Av2 n2 cv2] rfl rfl 31 _ Gres (by kernel_rfl) (by kernel_rfl) (by kernel_rfl) ?_
      replace Gres := box_row (cs := #[.bool p0, .slice Av1 n1 cv1, .slice Av2 n2 cv2]) Gres
      replace Gb1 := box_far (cs := #[.bool p0, .slice Av1 n1 cv1, .slice Av2 n2 cv2]) (g := gres) Gb1 (by omega)
      replace Gb2 := box_far (cs := #[.bool p0, .slice Av1 n1 cv1, .slice Av2 n2 cv2]) (g := gres) Gb2 (by omega)
      have hc1 := chg_row x4 gres #[.bool p0, .slice Av1 n1 cv1, .slice Av2 n2 cv2]
      have hHeld2 : BoxAt (World.setRow x4 gres #[.bool p0, .slice Av1 n1 cv1, .slice Av2 n2 cv2]) w.heap.size 31 #[.bool p0, .slice A1 n1 c1, .slice A2 n2 c2] ∧ Below w.heap.size w (World.setRow x4 gres #[.bool p0, .slice Av1 n1 cv1, .slice Av2 n2 cv2]) := ⟨hHeld.1.chg hc1 (by omega), below_setRow hHeld.2 (by omega) _⟩
      replace Gv1 := Gv1.chg hc1 (by omega)
      replace Gv2 := Gv2.chg hc1 (by omega)
      clear hc1
      have Z5 : (x4).heap.size ≤ (World.setRow x4 gres #[.bool p0, .slice Av1 n1 cv1, .slice Av2 n2 cv2]).heap.size := by simp
      generalize World.setRow x4 gres #[.bool p0, .slice Av1 n1 cv1, .slice Av2 n2 cv2] = x5 at hHeld2 Gres Gb1 Gb2 Gv1 Gv2 Z5 ⊢
      refine hK.out _ _ hHeld2 (fun hHeld' => ?_)
      clear hHeld2
      clear hK K hHeld
      have hHeld := hHeld'
      clear hHeld'
      try simp only [Act.put, List.setIfInBounds_toArray, List.set_cons_zero, List.set_cons_succ]
      refine wpAnyH_done (by kernel_rfl) ?_ _
      go_wp2_with fail
      have k0 := Gres.at_ (j := 0) rfl
      have k1 := Gres.at_ (j := 1) rfl
      have k2 := Gres.at_ (j := 2) rfl
      have hHB := hHeld.2
      clear hHeld
      exact bodyPost_ret (v := .agg #[.bool p0, .slice Av1 n1 cv1, .slice Av2 n2 cv2]) (by simp [results, Try.results61, go_sem, k0, k1, k2]) rfl ⟨Av1, Av2, cv1, _, _, cv2, _, _, rfl, Gv1, Gv2, Lib.hid (by unfold SepWindow; omega), hHB⟩
    exact AllReadyH.nil
  refine AllReadyH.cons (o := ⟨some 9, _, _, _, _, _⟩) rfl (fun K hK => ?_) ?_
  · skip
    go_simp
    have Gb2 := box_new (x0) 84 #[]
    have hb1 := (Below.refl (x0).heap.size (x0)).alloc (Nat.le_refl _) (.cells #[] 84)
    have Lb2 : w.heap.size ≤ (x0).heap.size := by have := (hHeld.1).lt; have := (hHeld.2).size; omega
    have M0b2 : w.heap.size < (x0).heap.size := (hHeld.1).lt
    have Nresb2 : gres < (x0).heap.size := Gres.lt
    replace Gres := Gres.new hb1
    generalize (x0).alloc (.cells #[] 84) = x1 at hb1 Gb2 Gres ⊢
    generalize hg : (x0).heap.size = gb2 at Gb2 Lb2 Nresb2 M0b2 ⊢
    clear hg
    refine hK.out _ _ ⟨hHeld.1.new hb1, below_trans hHeld.2 hb1 (Nat.le_refl _)⟩ (fun hHeld' => ?_)
    have Z1 := hb1.size
    clear hK K hHeld hb1
    have hHeld := hHeld'
    clear hHeld'
    try simp only [Act.put, List.setIfInBounds_toArray, List.set_cons_zero, List.set_cons_succ]
    refine wpAnyH_ready (rs := [2]) (by kernel_rfl) (by simp) ?_
    refine AllReadyH.cons (o := ⟨some 5, _, _, _, _, _⟩) rfl (fun K hK => ?_) AllReadyH.nil
    go_simp
    have Gb1 := box_new (x1) 84 #[]
    have hb1 := (Below.refl (x1).heap.size (x1)).alloc (Nat.le_refl _) (.cells #[] 84)
    have Lb1 : w.heap.size ≤ (x1).heap.size := by have := (hHeld.1).lt; have := (hHeld.2).size; omega
    have M0b1 : w.heap.size < (x1).heap.size := (hHeld.1).lt
    have Nresb1 : gres < (x1).heap.size := Gres.lt
    replace Gres := Gres.new hb1
    have Nb2b1 : gb2 < (x1).heap.size := Gb2.lt
    replace Gb2 := Gb2.new hb1
    generalize (x1).alloc (.cells #[] 84) = x2 at hb1 Gb1 Gres Gb2 ⊢
    generalize hg : (x1).heap.size = gb1 at Gb1 Lb1 Nresb1 Nb2b1 M0b1 ⊢
    clear hg
    refine hK.out _ _ ⟨hHeld.1.new hb1, below_trans hHeld.2 hb1 (Nat.le_refl _)⟩ (fun hHeld' => ?_)
    have Z2 := hb1.size
    clear hK K hHeld hb1
    have hHeld := hHeld'
    clear hHeld'
    try simp only [Act.put, List.setIfInBounds_toArray, List.set_cons_zero, List.set_cons_succ]
    refine wpAnyH_ready (rs := [5]) (by kernel_rfl) (by simp) ?_
    refine AllReadyH.cons (o := ⟨some 8, _, _, _, _, _⟩) rfl (fun K hK => ?_) AllReadyH.nil
    refine step_app0 rfl _ _ _ (by rfl) 84 (.agg #[.int .i64 0, .int .i64 0, .int .i64 0, .int .i64 0]) 4 32 Try.underlying28 icStored rfl (by decide) gb1 (by rfl) Gb1 lo1 hi1 A1 n1 c1 (cStored l1) (by rfl) (R1.out.new hHeld.2) (ocStored l1) (by unfold maxLen; omega) (by omega) ?_
    intro Av1 cv1 x3 hF hb1
    have Presv1 : gres < (x2).heap.size := Gres.lt
    replace Gres := Gres.new hb1
    replace Gb2 := Gb2.new hb1
    replace Gb1 := Gb1.new hb1
    have Gv1 := hF
    clear hF
    refine hK.out _ _ ⟨hHeld.1.new hb1, below_trans hHeld.2 hb1 (Nat.le_refl _)⟩ (fun hHeld' => ?_)
    have Z3 := hb1.size
    clear hK K hHeld hb1
    have hHeld := hHeld'
    clear hHeld'
    try simp only [Act.put, List.setIfInBounds_toArray, List.set_cons_zero, List.set_cons_succ]
    refine wpAnyH_ready (rs := [9]) (by kernel_rfl) (by simp) ?_
    refine AllReadyH.cons (o := ⟨some 12, _, _, _, _, _⟩) rfl (fun K hK => ?_) AllReadyH.nil
    refine step_app0 rfl _ _ _ (by rfl) 84 (.agg #[.int .i64 0, .int .i64 0, .int .i64 0, .int .i64 0]) 4 32 Try.underlying28 icStored rfl (by decide) gb2 (by rfl) Gb2 lo2 hi2 A2 n2 c2 (cStored l2) (by rfl) (R2.out.new hHeld.2) (ocStored l2) (by unfold maxLen; omega) (by omega) ?_
    intro Av2 cv2 x4 hF hb1
    have Presv2 : gres < (x3).heap.size := Gres.lt
    replace Gres := Gres.new hb1
    replace Gb2 := Gb2.new hb1
    replace Gb1 := Gb1.new hb1
    replace Gv1 := Gv1.new hb1
    have Gv2 := hF
    clear hF
    refine hK.out _ _ ⟨hHeld.1.new hb1, below_trans hHeld.2 hb1 (Nat.le_refl _)⟩ (fun hHeld' => ?_)
    have Z4 := hb1.size
    clear hK K hHeld hb1
    have hHeld := hHeld'
    clear hHeld'
    try simp only [Act.put, List.setIfInBounds_toArray, List.set_cons_zero, List.set_cons_succ]
    refine wpAnyH_take (i := 10) (oi := ⟨some 13, _, _, _, _, _⟩) (v := ?_) rfl (by kernel_rfl) (by kernel_rfl) (by kernel_rfl) (fun _ _ _ h => h) (Or.inl ⟨by kernel_rfl, ?_⟩) hHeld ?_
    rotate_left
    focus (intro W hS; have c0_0 := (hS.1).at_ (j := 0) rfl; have c0_1 := (hS.1).at_ (j := 1) rfl; have c0_2 := (hS.1).at_ (j := 2) rfl; clear hS; first | (go_simp; done) | (go_simp; with_reducible rfl))
    try simp only [Act.put, List.setIfInBounds_toArray, List.set_cons_zero, List.set_cons_succ]
    refine wpAnyH_ready (rs := [11]) (by kernel_rfl) (by simp) ?_
    refine AllReadyH.cons (o := ⟨none, _, _, _, _, _⟩) rfl (fun K hK => ?_) AllReadyH.nil
    rw [if_pos (by rfl)]
    refine wp_store_row 31 _ _ rfl gres #[.bool p0, .slice Av1 n1 cv1, .slice Av2 n2 cv2] rfl rfl 31 _ Gres (by kernel_rfl) (by kernel_rfl) (by kernel_rfl) ?_
    replace Gres := box_row (cs := #[.bool p0, .slice Av1 n1 cv1, .slice Av2 n2 cv2]) Gres
    replace Gb2 := box_far (cs := #[.bool p0, .slice Av1 n1 cv1, .slice Av2 n2 cv2]) (g := gres) Gb2 (by omega)
    replace Gb1 := box_far (cs := #[.bool p0, .slice Av1 n1 cv1, .slice Av2 n2 cv2]) (g := gres) Gb1 (by omega)
    have hc1 := chg_row x4 gres #[.bool p0, .slice Av1 n1 cv1, .slice Av2 n2 cv2]
    have hHeld2 : BoxAt (World.setRow x4 gres #[.bool p0, .slice Av1 n1 cv1, .slice Av2 n2 cv2]) w.heap.size 31 #[.bool p0, .slice A1 n1 c1, .slice A2 n2 c2] ∧ Below w.heap.size w (World.setRow x4 gres #[.bool p0, .slice Av1 n1 cv1, .slice Av2 n2 cv2]) := ⟨hHeld.1.chg hc1 (by omega), below_setRow hHeld.2 (by omega) _⟩
    replace Gv1 := Gv1.chg hc1 (by omega)
    replace Gv2 := Gv2.chg hc1 (by omega)
    clear hc1
    have Z5 : (x4).heap.size ≤ (World.setRow x4 gres #[.bool p0, .slice Av1 n1 cv1, .slice Av2 n2 cv2]).heap.size := by simp
    generalize World.setRow x4 gres #[.bool p0, .slice Av1 n1 cv1, .slice Av2 n2 cv2] = x5 at hHeld2 Gres Gb2 Gb1 Gv1 Gv2 Z5 ⊢
    refine hK.out _ _ hHeld2 (fun hHeld' => ?_)
    clear hHeld2
    clear hK K hHeld
    have hHeld := hHeld'
    clear hHeld'
    try simp only [Act.put, List.setIfInBounds_toArray, List.set_cons_zero, List.set_cons_succ]
    refine wpAnyH_done (by kernel_rfl) ?_ _
    go_wp2_with fail
    have k0 := Gres.at_ (j := 0) rfl
    have k1 := Gres.at_ (j := 1) rfl
    have k2 := Gres.at_ (j := 2) rfl
    have hHB := hHeld.2
    clear hHeld
    exact bodyPost_ret (v := .agg #[.bool p0, .slice Av1 n1 cv1, .slice Av2 n2 cv2]) (by simp [results, Try.results61, go_sem, k0, k1, k2]) rfl ⟨Av1, Av2, cv1, _, _, cv2, _, _, rfl, Gv1, Gv2, Lib.hid (by unfold SepWindow; omega), hHB⟩
  exact AllReadyH.nil

end Go.Proofs.Ytmdmihilhilkiaa
