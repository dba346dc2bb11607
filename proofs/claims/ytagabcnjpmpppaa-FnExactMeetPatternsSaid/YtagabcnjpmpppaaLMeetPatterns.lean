/- The law FnExactMeetPatterns answers true for every argument, and leaves each argument as it was. No condition. -/
import Derived.Deep.RegionHeld3
import Derived.Deep.DeepCutAuto
import Derived.Test.YtagabcnjpmpppaaTPattern
import Derived.Test.YtagabcnjpmpppaaMeet
namespace Go.Proofs.Ytagabcnjpmpppaa.fnExactMeetPatterns
open Go Go.ChangeShapes Go.WideShapes Go.ChangeAt Go.RowKit Go.Lib
open Go.ChangeMaps (open_string)
set_option linter.unusedVariables false
set_option linter.unusedSimpArgs false
set_option maxRecDepth 100000

theorem drw_size {W w' : World} (hb : Below W.drew.heap.size W.drew w') : W.heap.size ≤ w'.heap.size := hb.size
set_option maxRecDepth 100000 in
set_option maxHeartbeats 20000000 in
theorem walk (a0 : TPattern) (a1 : TPattern) (w : World) (H0 : Hid (TPattern.fit a0)) (H1 : Hid (TPattern.fit a1)) :
    Calls Try.prog 4 #[.agg #[.int .i64 a0.f0, .int .i64 a0.f1], .agg #[.int .i64 a1.f0, .int .i64 a1.f1]] w fun e w' => e = .returned (.bool true) ∧ Below w.heap.size w w' := by
  have KB0 : BoxAt ((w.alloc (.cells #[.int .i64 a0.f0, .int .i64 a0.f1] 23)).alloc (.cells #[.int .i64 a1.f0, .int .i64 a1.f1] 23)).drew w.heap.size 23 #[.int .i64 a0.f0, .int .i64 a0.f1] := (((by simpa using box_new w 23 #[.int .i64 a0.f0, .int .i64 a0.f1] : BoxAt (w.alloc (.cells #[.int .i64 a0.f0, .int .i64 a0.f1] 23)) w.heap.size 23 #[.int .i64 a0.f0, .int .i64 a0.f1])).alloc_ (.cells #[.int .i64 a1.f0, .int .i64 a1.f1] 23)).drw
  have KB1 : BoxAt ((w.alloc (.cells #[.int .i64 a0.f0, .int .i64 a0.f1] 23)).alloc (.cells #[.int .i64 a1.f0, .int .i64 a1.f1] 23)).drew (w.heap.size + 1) 23 #[.int .i64 a1.f0, .int .i64 a1.f1] := ((by simpa using box_new (w.alloc (.cells #[.int .i64 a0.f0, .int .i64 a0.f1] 23)) 23 #[.int .i64 a1.f0, .int .i64 a1.f1] : BoxAt ((w.alloc (.cells #[.int .i64 a0.f0, .int .i64 a0.f1] 23)).alloc (.cells #[.int .i64 a1.f0, .int .i64 a1.f1] 23)) (w.heap.size + 1) 23 #[.int .i64 a1.f0, .int .i64 a1.f1])).drw
  have HBw : Below w.heap.size w ((w.alloc (.cells #[.int .i64 a0.f0, .int .i64 a0.f1] 23)).alloc (.cells #[.int .i64 a1.f0, .int .i64 a1.f1] 23)).drew := (((Below.refl _ _).alloc (by first | exact Nat.le_refl _ | (simp; done) | (simp; omega)) _).alloc (by first | exact Nat.le_refl _ | (simp; done) | (simp; omega)) _).drew
  go_enter Try.func4, Try.ntmps4
  go_upto_region 1 with fail
  go_cut [5, 6] (fun s5 s6 wx => ∃ gA0 : Nat, s5 = .pointer (some ⟨gA0, 0, none⟩) ∧ s6 = .bool (mMeetOk a0 a1) ∧ Hid (BoxAt wx gA0 25 #[.int .i64 (mMeet a0 a1).f0, .int .i64 (mMeet a0 a1).f1]) ∧ Hid (BoxAt wx w.heap.size 23 #[.int .i64 a0.f0, .int .i64 a0.f1]) ∧ Hid (BoxAt wx (w.heap.size + 1) 23 #[.int .i64 a1.f0, .int .i64 a1.f1]) ∧ Hid (Below w.heap.size w wx) ∧ w.heap.size + 2 ≤ gA0)
  case first =>
    refine wp_region_held_drew (S := fun w' => BoxAt w' w.heap.size 23 #[.int .i64 a0.f0, .int .i64 a0.f1] ∧ BoxAt w' (w.heap.size + 1) 23 #[.int .i64 a1.f0, .int .i64 a1.f1] ∧ Below w.heap.size w w') (by kernel_rfl) ?_ (fun hHeld => ?_)
    · exact ⟨KB0, KB1, HBw⟩
    generalize (World.drew _) = x0 at hHeld ⊢
    refine wpAnyH_take (i := 0) (oi := ⟨some 10, _, _, _, _, _⟩) (v := ?_) rfl (by kernel_rfl) (by kernel_rfl) (by kernel_rfl) (fun _ _ _ h => h) (Or.inl ⟨by kernel_rfl, ?_⟩) hHeld ?_
    rotate_left
    focus (intro W hS; have c0_0 := (hS.1).at_ (j := 0) rfl; have c0_1 := (hS.1).at_ (j := 1) rfl; have c1_0 := (hS.2.1).at_ (j := 0) rfl; have c1_1 := (hS.2.1).at_ (j := 1) rfl; clear hS; first | (go_simp; done) | (go_simp; with_reducible rfl))
    try simp only [Act.put, List.setIfInBounds_toArray, List.set_cons_zero, List.set_cons_succ]
    refine wpAnyH_take (i := 2) (oi := ⟨some 12, _, _, _, _, _⟩) (v := ?_) rfl (by kernel_rfl) (by kernel_rfl) (by kernel_rfl) (fun _ _ _ h => h) (Or.inl ⟨by kernel_rfl, ?_⟩) hHeld ?_
    rotate_left
    focus (intro W hS; have c0_0 := (hS.1).at_ (j := 0) rfl; have c0_1 := (hS.1).at_ (j := 1) rfl; have c1_0 := (hS.2.1).at_ (j := 0) rfl; have c1_1 := (hS.2.1).at_ (j := 1) rfl; clear hS; first | (go_simp; done) | (go_simp; with_reducible rfl))
    try simp only [Act.put, List.setIfInBounds_toArray, List.set_cons_zero, List.set_cons_succ]
    refine wpAnyH_ready (rs := [1, 8]) (by kernel_rfl) (by simp) ?_
    refine AllReadyH.cons (o := ⟨some 11, _, _, _, _, _⟩) rfl (fun K hK => ?_) ?_
    · skip
      go_simp
      refine Calls.mono (to_pattern_one a0 _) ?_
      rintro e x1 ⟨rfl, hb1⟩
      refine hK.out _ _ ⟨hHeld.1.new hb1, hHeld.2.1.new hb1, below_trans hHeld.2.2 hb1 (Nat.le_refl _)⟩ (fun hHeld' => ?_)
      clear hK K hHeld hb1
      have hHeld := hHeld'
      clear hHeld'
      try simp only [Act.put, List.setIfInBounds_toArray, List.set_cons_zero, List.set_cons_succ]
      refine wpAnyH_ready (rs := [3, 8]) (by kernel_rfl) (by simp) ?_
      refine AllReadyH.cons (o := ⟨some 13, _, _, _, _, _⟩) rfl (fun K hK => ?_) ?_
      · skip
        go_simp
        refine Calls.mono (to_pattern_one a1 _) ?_
        rintro e x2 ⟨rfl, hb1⟩
        refine hK.out _ _ ⟨hHeld.1.new hb1, hHeld.2.1.new hb1, below_trans hHeld.2.2 hb1 (Nat.le_refl _)⟩ (fun hHeld' => ?_)
        clear hK K hHeld hb1
        have hHeld := hHeld'
        clear hHeld'
        try simp only [Act.put, List.setIfInBounds_toArray, List.set_cons_zero, List.set_cons_succ]
        refine wpAnyH_ready (rs := [4, 8]) (by kernel_rfl) (by simp) ?_
        refine AllReadyH.cons (o := ⟨some 14, _, _, _, _, _⟩) rfl (fun K hK => ?_) ?_
        · skip
          go_simp
          refine Calls.mono (spec_MeetPatterns a0 a1 _ ) ?_
          rintro e x3 ⟨rfl, hb1⟩
          refine hK.out _ _ ⟨hHeld.1.new hb1, hHeld.2.1.new hb1, below_trans hHeld.2.2 hb1 (Nat.le_refl _)⟩ (fun hHeld' => ?_)
          clear hK K hHeld hb1
          have hHeld := hHeld'
          clear hHeld'
          try simp only [Act.put, List.setIfInBounds_toArray, List.set_cons_zero, List.set_cons_succ]
          refine wpAnyH_take (i := 5) (oi := ⟨some 9, _, _, _, _, _⟩) (v := ?_) rfl (by kernel_rfl) (by kernel_rfl) (by kernel_rfl) (fun _ _ _ h => h) (Or.inl ⟨by kernel_rfl, ?_⟩) hHeld ?_
          rotate_left
          focus (intro W hS; have c0_0 := (hS.1).at_ (j := 0) rfl; have c0_1 := (hS.1).at_ (j := 1) rfl; have c1_0 := (hS.2.1).at_ (j := 0) rfl; have c1_1 := (hS.2.1).at_ (j := 1) rfl; clear hS; first | (go_simp; done) | (go_simp; with_reducible rfl))
          try simp only [Act.put, List.setIfInBounds_toArray, List.set_cons_zero, List.set_cons_succ]
          refine wpAnyH_take (i := 6) (oi := ⟨some 15, _, _, _, _, _⟩) (v := ?_) rfl (by kernel_rfl) (by kernel_rfl) (by kernel_rfl) (fun _ _ _ h => h) (Or.inl ⟨by kernel_rfl, ?_⟩) hHeld ?_
          rotate_left
          focus (intro W hS; have c0_0 := (hS.1).at_ (j := 0) rfl; have c0_1 := (hS.1).at_ (j := 1) rfl; have c1_0 := (hS.2.1).at_ (j := 0) rfl; have c1_1 := (hS.2.1).at_ (j := 1) rfl; clear hS; first | (go_simp; done) | (go_simp; with_reducible rfl))
          try simp only [Act.put, List.setIfInBounds_toArray, List.set_cons_zero, List.set_cons_succ]
          refine wpAnyH_take (i := 7) (oi := ⟨some 16, _, _, _, _, _⟩) (v := ?_) rfl (by kernel_rfl) (by kernel_rfl) (by kernel_rfl) (fun _ _ _ h => h) (Or.inl ⟨by kernel_rfl, ?_⟩) hHeld ?_
          rotate_left
          focus (intro W hS; have c0_0 := (hS.1).at_ (j := 0) rfl; have c0_1 := (hS.1).at_ (j := 1) rfl; have c1_0 := (hS.2.1).at_ (j := 0) rfl; have c1_1 := (hS.2.1).at_ (j := 1) rfl; clear hS; first | (go_simp; done) | (go_simp; with_reducible rfl))
          try simp only [Act.put, List.setIfInBounds_toArray, List.set_cons_zero, List.set_cons_succ]
          refine wpAnyH_ready (rs := [8]) (by kernel_rfl) (by simp) ?_
          refine AllReadyH.cons (o := ⟨some 5, _, _, _, _, _⟩) rfl (fun K hK => ?_) AllReadyH.nil
          go_simp
          have GA0 := box_new (x3) 25 #[.int .i64 0, .int .i64 0]
          have hb1 := (Below.refl (x3).heap.size (x3)).alloc (Nat.le_refl _) (.cells #[.int .i64 0, .int .i64 0] 25)
          have LA0 : w.heap.size + 2 ≤ (x3).heap.size := by have := (hHeld.1).lt; have := (hHeld.2.1).lt; have := (hHeld.2.2).size; omega
          have M0A0 : w.heap.size < (x3).heap.size := (hHeld.1).lt
          have M1A0 : (w.heap.size + 1) < (x3).heap.size := (hHeld.2.1).lt
          generalize (x3).alloc (.cells #[.int .i64 0, .int .i64 0] 25) = x4 at hb1 GA0  ⊢
          generalize hg : (x3).heap.size = gA0 at GA0 LA0 M0A0 M1A0 ⊢
          clear hg
          refine hK.out _ _ ⟨hHeld.1.new hb1, hHeld.2.1.new hb1, below_trans hHeld.2.2 hb1 (Nat.le_refl _)⟩ (fun hHeld' => ?_)
          clear hK K hHeld hb1
          have hHeld := hHeld'
          clear hHeld'
          try simp only [Act.put, List.setIfInBounds_toArray, List.set_cons_zero, List.set_cons_succ]
          refine wpAnyH_ready (rs := [9]) (by kernel_rfl) (by simp) ?_
          refine AllReadyH.cons (o := ⟨none, _, _, _, _, _⟩) rfl (fun K hK => ?_) AllReadyH.nil
          rw [if_pos (by rfl)]
          refine wp_store_row 25 _ _ rfl gA0 #[.int .i64 (mMeet a0 a1).f0, .int .i64 (mMeet a0 a1).f1] rfl rfl 25 _ GA0 (by kernel_rfl) (by kernel_rfl) (by kernel_rfl) ?_
          replace GA0 := box_row (cs := #[.int .i64 (mMeet a0 a1).f0, .int .i64 (mMeet a0 a1).f1]) GA0
          have hc1 := chg_row x4 gA0 #[.int .i64 (mMeet a0 a1).f0, .int .i64 (mMeet a0 a1).f1]
          have hHeld2 : BoxAt (World.setRow x4 gA0 #[.int .i64 (mMeet a0 a1).f0, .int .i64 (mMeet a0 a1).f1]) w.heap.size 23 #[.int .i64 a0.f0, .int .i64 a0.f1] ∧ BoxAt (World.setRow x4 gA0 #[.int .i64 (mMeet a0 a1).f0, .int .i64 (mMeet a0 a1).f1]) (w.heap.size + 1) 23 #[.int .i64 a1.f0, .int .i64 a1.f1] ∧ Below w.heap.size w (World.setRow x4 gA0 #[.int .i64 (mMeet a0 a1).f0, .int .i64 (mMeet a0 a1).f1]) := ⟨hHeld.1.chg hc1 (by omega), hHeld.2.1.chg hc1 (by omega), below_setRow hHeld.2.2 (by omega) _⟩
          clear hc1
          generalize World.setRow x4 gA0 #[.int .i64 (mMeet a0 a1).f0, .int .i64 (mMeet a0 a1).f1] = x5 at hHeld2 GA0 ⊢
          refine hK.out _ _ hHeld2 (fun hHeld' => ?_)
          clear hHeld2
          clear hK K hHeld
          have hHeld := hHeld'
          clear hHeld'
          try simp only [Act.put, List.setIfInBounds_toArray, List.set_cons_zero, List.set_cons_succ]
          refine wpAnyH_take (i := 10) (oi := ⟨some 6, _, _, _, _, _⟩) (v := ?_) rfl (by kernel_rfl) (by kernel_rfl) (by kernel_rfl) (fun _ _ _ h => h) (Or.inl ⟨by kernel_rfl, ?_⟩) hHeld ?_
          rotate_left
          focus (intro W hS; have c0_0 := (hS.1).at_ (j := 0) rfl; have c0_1 := (hS.1).at_ (j := 1) rfl; have c1_0 := (hS.2.1).at_ (j := 0) rfl; have c1_1 := (hS.2.1).at_ (j := 1) rfl; clear hS; first | (go_simp; done) | (go_simp; with_reducible rfl))
          try simp only [Act.put, List.setIfInBounds_toArray, List.set_cons_zero, List.set_cons_succ]
          refine wpAnyH_done (by kernel_rfl) ?_ _
          go_wp2_with fail
          go_meet
          exact ⟨gA0, rfl, rfl, Lib.hid GA0, Lib.hid hHeld.1, Lib.hid hHeld.2.1, Lib.hid hHeld.2.2, LA0⟩
        refine AllReadyH.cons (o := ⟨some 5, _, _, _, _, _⟩) rfl (fun K hK => ?_) ?_
        · skip
          go_simp
          have GA0 := box_new (x2) 25 #[.int .i64 0, .int .i64 0]
          have hb1 := (Below.refl (x2).heap.size (x2)).alloc (Nat.le_refl _) (.cells #[.int .i64 0, .int .i64 0] 25)
          have LA0 : w.heap.size + 2 ≤ (x2).heap.size := by have := (hHeld.1).lt; have := (hHeld.2.1).lt; have := (hHeld.2.2).size; omega
          have M0A0 : w.heap.size < (x2).heap.size := (hHeld.1).lt
          have M1A0 : (w.heap.size + 1) < (x2).heap.size := (hHeld.2.1).lt
          generalize (x2).alloc (.cells #[.int .i64 0, .int .i64 0] 25) = x3 at hb1 GA0  ⊢
          generalize hg : (x2).heap.size = gA0 at GA0 LA0 M0A0 M1A0 ⊢
          clear hg
          refine hK.out _ _ ⟨hHeld.1.new hb1, hHeld.2.1.new hb1, below_trans hHeld.2.2 hb1 (Nat.le_refl _)⟩ (fun hHeld' => ?_)
          clear hK K hHeld hb1
          have hHeld := hHeld'
          clear hHeld'
          try simp only [Act.put, List.setIfInBounds_toArray, List.set_cons_zero, List.set_cons_succ]
          refine wpAnyH_ready (rs := [4]) (by kernel_rfl) (by simp) ?_
          refine AllReadyH.cons (o := ⟨some 14, _, _, _, _, _⟩) rfl (fun K hK => ?_) AllReadyH.nil
          go_simp
          refine Calls.mono (spec_MeetPatterns a0 a1 _ ) ?_
          rintro e x4 ⟨rfl, hb1⟩
          replace GA0 := GA0.new hb1
          refine hK.out _ _ ⟨hHeld.1.new hb1, hHeld.2.1.new hb1, below_trans hHeld.2.2 hb1 (Nat.le_refl _)⟩ (fun hHeld' => ?_)
          clear hK K hHeld hb1
          have hHeld := hHeld'
          clear hHeld'
          try simp only [Act.put, List.setIfInBounds_toArray, List.set_cons_zero, List.set_cons_succ]
          refine wpAnyH_take (i := 5) (oi := ⟨some 9, _, _, _, _, _⟩) (v := ?_) rfl (by kernel_rfl) (by kernel_rfl) (by kernel_rfl) (fun _ _ _ h => h) (Or.inl ⟨by kernel_rfl, ?_⟩) hHeld ?_
          rotate_left
          focus (intro W hS; have c0_0 := (hS.1).at_ (j := 0) rfl; have c0_1 := (hS.1).at_ (j := 1) rfl; have c1_0 := (hS.2.1).at_ (j := 0) rfl; have c1_1 := (hS.2.1).at_ (j := 1) rfl; clear hS; first | (go_simp; done) | (go_simp; with_reducible rfl))
          try simp only [Act.put, List.setIfInBounds_toArray, List.set_cons_zero, List.set_cons_succ]
          refine wpAnyH_take (i := 6) (oi := ⟨some 15, _, _, _, _, _⟩) (v := ?_) rfl (by kernel_rfl) (by kernel_rfl) (by kernel_rfl) (fun _ _ _ h => h) (Or.inl ⟨by kernel_rfl, ?_⟩) hHeld ?_
          rotate_left
          focus (intro W hS; have c0_0 := (hS.1).at_ (j := 0) rfl; have c0_1 := (hS.1).at_ (j := 1) rfl; have c1_0 := (hS.2.1).at_ (j := 0) rfl; have c1_1 := (hS.2.1).at_ (j := 1) rfl; clear hS; first | (go_simp; done) | (go_simp; with_reducible rfl))
          try simp only [Act.put, List.setIfInBounds_toArray, List.set_cons_zero, List.set_cons_succ]
          refine wpAnyH_take (i := 7) (oi := ⟨some 16, _, _, _, _, _⟩) (v := ?_) rfl (by kernel_rfl) (by kernel_rfl) (by kernel_rfl) (fun _ _ _ h => h) (Or.inl ⟨by kernel_rfl, ?_⟩) hHeld ?_
          rotate_left
          focus (intro W hS; have c0_0 := (hS.1).at_ (j := 0) rfl; have c0_1 := (hS.1).at_ (j := 1) rfl; have c1_0 := (hS.2.1).at_ (j := 0) rfl; have c1_1 := (hS.2.1).at_ (j := 1) rfl; clear hS; first | (go_simp; done) | (go_simp; with_reducible rfl))
          try simp only [Act.put, List.setIfInBounds_toArray, List.set_cons_zero, List.set_cons_succ]
          refine wpAnyH_ready (rs := [9]) (by kernel_rfl) (by simp) ?_
          refine AllReadyH.cons (o := ⟨none, _, _, _, _, _⟩) rfl (fun K hK => ?_) AllReadyH.nil
          rw [if_pos (by rfl)]
          refine wp_store_row 25 _ _ rfl gA0 #[.int .i64 (mMeet a0 a1).f0, .int .i64 (mMeet a0 a1).f1] rfl rfl 25 _ GA0 (by kernel_rfl) (by kernel_rfl) (by kernel_rfl) ?_
          replace GA0 := box_row (cs := #[.int .i64 (mMeet a0 a1).f0, .int .i64 (mMeet a0 a1).f1]) GA0
          have hc1 := chg_row x4 gA0 #[.int .i64 (mMeet a0 a1).f0, .int .i64 (mMeet a0 a1).f1]
          have hHeld2 : BoxAt (World.setRow x4 gA0 #[.int .i64 (mMeet a0 a1).f0, .int .i64 (mMeet a0 a1).f1]) w.heap.size 23 #[.int .i64 a0.f0, .int .i64 a0.f1] ∧ BoxAt (World.setRow x4 gA0 #[.int .i64 (mMeet a0 a1).f0, .int .i64 (mMeet a0 a1).f1]) (w.heap.size + 1) 23 #[.int .i64 a1.f0, .int .i64 a1.f1] ∧ Below w.heap.size w (World.setRow x4 gA0 #[.int .i64 (mMeet a0 a1).f0, .int .i64 (mMeet a0 a1).f1]) := ⟨hHeld.1.chg hc1 (by omega), hHeld.2.1.chg hc1 (by omega), below_setRow hHeld.2.2 (by omega) _⟩
          clear hc1
          generalize World.setRow x4 gA0 #[.int .i64 (mMeet a0 a1).f0, .int .i64 (mMeet a0 a1).f1] = x5 at hHeld2 GA0 ⊢
          refine hK.out _ _ hHeld2 (fun hHeld' => ?_)
          clear hHeld2
          clear hK K hHeld
          have hHeld := hHeld'
          clear hHeld'
          try simp only [Act.put, List.setIfInBounds_toArray, List.set_cons_zero, List.set_cons_succ]
          refine wpAnyH_take (i := 10) (oi := ⟨some 6, _, _, _, _, _⟩) (v := ?_) rfl (by kernel_rfl) (by kernel_rfl) (by kernel_rfl) (fun _ _ _ h => h) (Or.inl ⟨by kernel_rfl, ?_⟩) hHeld ?_
          rotate_left
          focus (intro W hS; have c0_0 := (hS.1).at_ (j := 0) rfl; have c0_1 := (hS.1).at_ (j := 1) rfl; have c1_0 := (hS.2.1).at_ (j := 0) rfl; have c1_1 := (hS.2.1).at_ (j := 1) rfl; clear hS; first | (go_simp; done) | (go_simp; with_reducible rfl))
          try simp only [Act.put, List.setIfInBounds_toArray, List.set_cons_zero, List.set_cons_succ]
          refine wpAnyH_done (by kernel_rfl) ?_ _
          go_wp2_with fail
          go_meet
          exact ⟨gA0, rfl, rfl, Lib.hid GA0, Lib.hid hHeld.1, Lib.hid hHeld.2.1, Lib.hid hHeld.2.2, LA0⟩
        exact AllReadyH.nil
      refine AllReadyH.cons (o := ⟨some 5, _, _, _, _, _⟩) rfl (fun K hK => ?_) ?_
      · skip
        go_simp
        have GA0 := box_new (x1) 25 #[.int .i64 0, .int .i64 0]
        have hb1 := (Below.refl (x1).heap.size (x1)).alloc (Nat.le_refl _) (.cells #[.int .i64 0, .int .i64 0] 25)
        have LA0 : w.heap.size + 2 ≤ (x1).heap.size := by have := (hHeld.1).lt; have := (hHeld.2.1).lt; have := (hHeld.2.2).size; omega
        have M0A0 : w.heap.size < (x1).heap.size := (hHeld.1).lt
        have M1A0 : (w.heap.size + 1) < (x1).heap.size := (hHeld.2.1).lt
        generalize (x1).alloc (.cells #[.int .i64 0, .int .i64 0] 25) = x2 at hb1 GA0  ⊢
        generalize hg : (x1).heap.size = gA0 at GA0 LA0 M0A0 M1A0 ⊢
        clear hg
        refine hK.out _ _ ⟨hHeld.1.new hb1, hHeld.2.1.new hb1, below_trans hHeld.2.2 hb1 (Nat.le_refl _)⟩ (fun hHeld' => ?_)
        clear hK K hHeld hb1
        have hHeld := hHeld'
        clear hHeld'
        try simp only [Act.put, List.setIfInBounds_toArray, List.set_cons_zero, List.set_cons_succ]
        refine wpAnyH_ready (rs := [3]) (by kernel_rfl) (by simp) ?_
        refine AllReadyH.cons (o := ⟨some 13, _, _, _, _, _⟩) rfl (fun K hK => ?_) AllReadyH.nil
        go_simp
        refine Calls.mono (to_pattern_one a1 _) ?_
        rintro e x3 ⟨rfl, hb1⟩
        replace GA0 := GA0.new hb1
        refine hK.out _ _ ⟨hHeld.1.new hb1, hHeld.2.1.new hb1, below_trans hHeld.2.2 hb1 (Nat.le_refl _)⟩ (fun hHeld' => ?_)
        clear hK K hHeld hb1
        have hHeld := hHeld'
        clear hHeld'
        try simp only [Act.put, List.setIfInBounds_toArray, List.set_cons_zero, List.set_cons_succ]
        refine wpAnyH_ready (rs := [4]) (by kernel_rfl) (by simp) ?_
        refine AllReadyH.cons (o := ⟨some 14, _, _, _, _, _⟩) rfl (fun K hK => ?_) AllReadyH.nil
        go_simp
        refine Calls.mono (spec_MeetPatterns a0 a1 _ ) ?_
        rintro e x4 ⟨rfl, hb1⟩
        replace GA0 := GA0.new hb1
        refine hK.out _ _ ⟨hHeld.1.new hb1, hHeld.2.1.new hb1, below_trans hHeld.2.2 hb1 (Nat.le_refl _)⟩ (fun hHeld' => ?_)
        clear hK K hHeld hb1
        have hHeld := hHeld'
        clear hHeld'
        try simp only [Act.put, List.setIfInBounds_toArray, List.set_cons_zero, List.set_cons_succ]
        refine wpAnyH_take (i := 5) (oi := ⟨some 9, _, _, _, _, _⟩) (v := ?_) rfl (by kernel_rfl) (by kernel_rfl) (by kernel_rfl) (fun _ _ _ h => h) (Or.inl ⟨by kernel_rfl, ?_⟩) hHeld ?_
        rotate_left
        focus (intro W hS; have c0_0 := (hS.1).at_ (j := 0) rfl; have c0_1 := (hS.1).at_ (j := 1) rfl; have c1_0 := (hS.2.1).at_ (j := 0) rfl; have c1_1 := (hS.2.1).at_ (j := 1) rfl; clear hS; first | (go_simp; done) | (go_simp; with_reducible rfl))
        try simp only [Act.put, List.setIfInBounds_toArray, List.set_cons_zero, List.set_cons_succ]
        refine wpAnyH_take (i := 6) (oi := ⟨some 15, _, _, _, _, _⟩) (v := ?_) rfl (by kernel_rfl) (by kernel_rfl) (by kernel_rfl) (fun _ _ _ h => h) (Or.inl ⟨by kernel_rfl, ?_⟩) hHeld ?_
        rotate_left
        focus (intro W hS; have c0_0 := (hS.1).at_ (j := 0) rfl; have c0_1 := (hS.1).at_ (j := 1) rfl; have c1_0 := (hS.2.1).at_ (j := 0) rfl; have c1_1 := (hS.2.1).at_ (j := 1) rfl; clear hS; first | (go_simp; done) | (go_simp; with_reducible rfl))
        try simp only [Act.put, List.setIfInBounds_toArray, List.set_cons_zero, List.set_cons_succ]
        refine wpAnyH_take (i := 7) (oi := ⟨some 16, _, _, _, _, _⟩) (v := ?_) rfl (by kernel_rfl) (by kernel_rfl) (by kernel_rfl) (fun _ _ _ h => h) (Or.inl ⟨by kernel_rfl, ?_⟩) hHeld ?_
        rotate_left
        focus (intro W hS; have c0_0 := (hS.1).at_ (j := 0) rfl; have c0_1 := (hS.1).at_ (j := 1) rfl; have c1_0 := (hS.2.1).at_ (j := 0) rfl; have c1_1 := (hS.2.1).at_ (j := 1) rfl; clear hS; first | (go_simp; done) | (go_simp; with_reducible rfl))
        try simp only [Act.put, List.setIfInBounds_toArray, List.set_cons_zero, List.set_cons_succ]
        refine wpAnyH_ready (rs := [9]) (by kernel_rfl) (by simp) ?_
        refine AllReadyH.cons (o := ⟨none, _, _, _, _, _⟩) rfl (fun K hK => ?_) AllReadyH.nil
        rw [if_pos (by rfl)]
        refine wp_store_row 25 _ _ rfl gA0 #[.int .i64 (mMeet a0 a1).f0, .int .i64 (mMeet a0 a1).f1] rfl rfl 25 _ GA0 (by kernel_rfl) (by kernel_rfl) (by kernel_rfl) ?_
        replace GA0 := box_row (cs := #[.int .i64 (mMeet a0 a1).f0, .int .i64 (mMeet a0 a1).f1]) GA0
        have hc1 := chg_row x4 gA0 #[.int .i64 (mMeet a0 a1).f0, .int .i64 (mMeet a0 a1).f1]
        have hHeld2 : BoxAt (World.setRow x4 gA0 #[.int .i64 (mMeet a0 a1).f0, .int .i64 (mMeet a0 a1).f1]) w.heap.size 23 #[.int .i64 a0.f0, .int .i64 a0.f1] ∧ BoxAt (World.setRow x4 gA0 #[.int .i64 (mMeet a0 a1).f0, .int .i64 (mMeet a0 a1).f1]) (w.heap.size + 1) 23 #[.int .i64 a1.f0, .int .i64 a1.f1] ∧ Below w.heap.size w (World.setRow x4 gA0 #[.int .i64 (mMeet a0 a1).f0, .int .i64 (mMeet a0 a1).f1]) := ⟨hHeld.1.chg hc1 (by omega), hHeld.2.1.chg hc1 (by omega), below_setRow hHeld.2.2 (by omega) _⟩
        clear hc1
        generalize World.setRow x4 gA0 #[.int .i64 (mMeet a0 a1).f0, .int .i64 (mMeet a0 a1).f1] = x5 at hHeld2 GA0 ⊢
        refine hK.out _ _ hHeld2 (fun hHeld' => ?_)
        clear hHeld2
        clear hK K hHeld
        have hHeld := hHeld'
        clear hHeld'
        try simp only [Act.put, List.setIfInBounds_toArray, List.set_cons_zero, List.set_cons_succ]
        refine wpAnyH_take (i := 10) (oi := ⟨some 6, _, _, _, _, _⟩) (v := ?_) rfl (by kernel_rfl) (by kernel_rfl) (by kernel_rfl) (fun _ _ _ h => h) (Or.inl ⟨by kernel_rfl, ?_⟩) hHeld ?_
        rotate_left
        focus (intro W hS; have c0_0 := (hS.1).at_ (j := 0) rfl; have c0_1 := (hS.1).at_ (j := 1) rfl; have c1_0 := (hS.2.1).at_ (j := 0) rfl; have c1_1 := (hS.2.1).at_ (j := 1) rfl; clear hS; first | (go_simp; done) | (go_simp; with_reducible rfl))
        try simp only [Act.put, List.setIfInBounds_toArray, List.set_cons_zero, List.set_cons_succ]
        refine wpAnyH_done (by kernel_rfl) ?_ _
        go_wp2_with fail
        go_meet
        exact ⟨gA0, rfl, rfl, Lib.hid GA0, Lib.hid hHeld.1, Lib.hid hHeld.2.1, Lib.hid hHeld.2.2, LA0⟩
      exact AllReadyH.nil
    refine AllReadyH.cons (o := ⟨some 5, _, _, _, _, _⟩) rfl (fun K hK => ?_) ?_
    · skip
      go_simp
      have GA0 := box_new (x0) 25 #[.int .i64 0, .int .i64 0]
      have hb1 := (Below.refl (x0).heap.size (x0)).alloc (Nat.le_refl _) (.cells #[.int .i64 0, .int .i64 0] 25)
      have LA0 : w.heap.size + 2 ≤ (x0).heap.size := by have := (hHeld.1).lt; have := (hHeld.2.1).lt; have := (hHeld.2.2).size; omega
      have M0A0 : w.heap.size < (x0).heap.size := (hHeld.1).lt
      have M1A0 : (w.heap.size + 1) < (x0).heap.size := (hHeld.2.1).lt
      generalize (x0).alloc (.cells #[.int .i64 0, .int .i64 0] 25) = x1 at hb1 GA0  ⊢
      generalize hg : (x0).heap.size = gA0 at GA0 LA0 M0A0 M1A0 ⊢
      clear hg
      refine hK.out _ _ ⟨hHeld.1.new hb1, hHeld.2.1.new hb1, below_trans hHeld.2.2 hb1 (Nat.le_refl _)⟩ (fun hHeld' => ?_)
      clear hK K hHeld hb1
      have hHeld := hHeld'
      clear hHeld'
      try simp only [Act.put, List.setIfInBounds_toArray, List.set_cons_zero, List.set_cons_succ]
      refine wpAnyH_ready (rs := [1]) (by kernel_rfl) (by simp) ?_
      refine AllReadyH.cons (o := ⟨some 11, _, _, _, _, _⟩) rfl (fun K hK => ?_) AllReadyH.nil
      go_simp
      refine Calls.mono (to_pattern_one a0 _) ?_
      rintro e x2 ⟨rfl, hb1⟩
      replace GA0 := GA0.new hb1
      refine hK.out _ _ ⟨hHeld.1.new hb1, hHeld.2.1.new hb1, below_trans hHeld.2.2 hb1 (Nat.le_refl _)⟩ (fun hHeld' => ?_)
      clear hK K hHeld hb1
      have hHeld := hHeld'
      clear hHeld'
      try simp only [Act.put, List.setIfInBounds_toArray, List.set_cons_zero, List.set_cons_succ]
      refine wpAnyH_ready (rs := [3]) (by kernel_rfl) (by simp) ?_
      refine AllReadyH.cons (o := ⟨some 13, _, _, _, _, _⟩) rfl (fun K hK => ?_) AllReadyH.nil
      go_simp
      refine Calls.mono (to_pattern_one a1 _) ?_
      rintro e x3 ⟨rfl, hb1⟩
      replace GA0 := GA0.new hb1
      refine hK.out _ _ ⟨hHeld.1.new hb1, hHeld.2.1.new hb1, below_trans hHeld.2.2 hb1 (Nat.le_refl _)⟩ (fun hHeld' => ?_)
      clear hK K hHeld hb1
      have hHeld := hHeld'
      clear hHeld'
      try simp only [Act.put, List.setIfInBounds_toArray, List.set_cons_zero, List.set_cons_succ]
      refine wpAnyH_ready (rs := [4]) (by kernel_rfl) (by simp) ?_
      refine AllReadyH.cons (o := ⟨some 14, _, _, _, _, _⟩) rfl (fun K hK => ?_) AllReadyH.nil
      go_simp
      refine Calls.mono (spec_MeetPatterns a0 a1 _ ) ?_
      rintro e x4 ⟨rfl, hb1⟩
      replace GA0 := GA0.new hb1
      refine hK.out _ _ ⟨hHeld.1.new hb1, hHeld.2.1.new hb1, below_trans hHeld.2.2 hb1 (Nat.le_refl _)⟩ (fun hHeld' => ?_)
      clear hK K hHeld hb1
      have hHeld := hHeld'
      clear hHeld'
      try simp only [Act.put, List.setIfInBounds_toArray, List.set_cons_zero, List.set_cons_succ]
      refine wpAnyH_take (i := 5) (oi := ⟨some 9, _, _, _, _, _⟩) (v := ?_) rfl (by kernel_rfl) (by kernel_rfl) (by kernel_rfl) (fun _ _ _ h => h) (Or.inl ⟨by kernel_rfl, ?_⟩) hHeld ?_
      rotate_left
      focus (intro W hS; have c0_0 := (hS.1).at_ (j := 0) rfl; have c0_1 := (hS.1).at_ (j := 1) rfl; have c1_0 := (hS.2.1).at_ (j := 0) rfl; have c1_1 := (hS.2.1).at_ (j := 1) rfl; clear hS; first | (go_simp; done) | (go_simp; with_reducible rfl))
      try simp only [Act.put, List.setIfInBounds_toArray, List.set_cons_zero, List.set_cons_succ]
      refine wpAnyH_take (i := 6) (oi := ⟨some 15, _, _, _, _, _⟩) (v := ?_) rfl (by kernel_rfl) (by kernel_rfl) (by kernel_rfl) (fun _ _ _ h => h) (Or.inl ⟨by kernel_rfl, ?_⟩) hHeld ?_
      rotate_left
      focus (intro W hS; have c0_0 := (hS.1).at_ (j := 0) rfl; have c0_1 := (hS.1).at_ (j := 1) rfl; have c1_0 := (hS.2.1).at_ (j := 0) rfl; have c1_1 := (hS.2.1).at_ (j := 1) rfl; clear hS; first | (go_simp; done) | (go_simp; with_reducible rfl))
      try simp only [Act.put, List.setIfInBounds_toArray, List.set_cons_zero, List.set_cons_succ]
      refine wpAnyH_take (i := 7) (oi := ⟨some 16, _, _, _, _, _⟩) (v := ?_) rfl (by kernel_rfl) (by kernel_rfl) (by kernel_rfl) (fun _ _ _ h => h) (Or.inl ⟨by kernel_rfl, ?_⟩) hHeld ?_
      rotate_left
      focus (intro W hS; have c0_0 := (hS.1).at_ (j := 0) rfl; have c0_1 := (hS.1).at_ (j := 1) rfl; have c1_0 := (hS.2.1).at_ (j := 0) rfl; have c1_1 := (hS.2.1).at_ (j := 1) rfl; clear hS; first | (go_simp; done) | (go_simp; with_reducible rfl))
      try simp only [Act.put, List.setIfInBounds_toArray, List.set_cons_zero, List.set_cons_succ]
      refine wpAnyH_ready (rs := [9]) (by kernel_rfl) (by simp) ?_
      refine AllReadyH.cons (o := ⟨none, _, _, _, _, _⟩) rfl (fun K hK => ?_) AllReadyH.nil
      rw [if_pos (by rfl)]
      refine wp_store_row 25 _ _ rfl gA0 #[.int .i64 (mMeet a0 a1).f0, .int .i64 (mMeet a0 a1).f1] rfl rfl 25 _ GA0 (by kernel_rfl) (by kernel_rfl) (by kernel_rfl) ?_
      replace GA0 := box_row (cs := #[.int .i64 (mMeet a0 a1).f0, .int .i64 (mMeet a0 a1).f1]) GA0
      have hc1 := chg_row x4 gA0 #[.int .i64 (mMeet a0 a1).f0, .int .i64 (mMeet a0 a1).f1]
      have hHeld2 : BoxAt (World.setRow x4 gA0 #[.int .i64 (mMeet a0 a1).f0, .int .i64 (mMeet a0 a1).f1]) w.heap.size 23 #[.int .i64 a0.f0, .int .i64 a0.f1] ∧ BoxAt (World.setRow x4 gA0 #[.int .i64 (mMeet a0 a1).f0, .int .i64 (mMeet a0 a1).f1]) (w.heap.size + 1) 23 #[.int .i64 a1.f0, .int .i64 a1.f1] ∧ Below w.heap.size w (World.setRow x4 gA0 #[.int .i64 (mMeet a0 a1).f0, .int .i64 (mMeet a0 a1).f1]) := ⟨hHeld.1.chg hc1 (by omega), hHeld.2.1.chg hc1 (by omega), below_setRow hHeld.2.2 (by omega) _⟩
      clear hc1
      generalize World.setRow x4 gA0 #[.int .i64 (mMeet a0 a1).f0, .int .i64 (mMeet a0 a1).f1] = x5 at hHeld2 GA0 ⊢
      refine hK.out _ _ hHeld2 (fun hHeld' => ?_)
      clear hHeld2
      clear hK K hHeld
      have hHeld := hHeld'
      clear hHeld'
      try simp only [Act.put, List.setIfInBounds_toArray, List.set_cons_zero, List.set_cons_succ]
      refine wpAnyH_take (i := 10) (oi := ⟨some 6, _, _, _, _, _⟩) (v := ?_) rfl (by kernel_rfl) (by kernel_rfl) (by kernel_rfl) (fun _ _ _ h => h) (Or.inl ⟨by kernel_rfl, ?_⟩) hHeld ?_
      rotate_left
      focus (intro W hS; have c0_0 := (hS.1).at_ (j := 0) rfl; have c0_1 := (hS.1).at_ (j := 1) rfl; have c1_0 := (hS.2.1).at_ (j := 0) rfl; have c1_1 := (hS.2.1).at_ (j := 1) rfl; clear hS; first | (go_simp; done) | (go_simp; with_reducible rfl))
      try simp only [Act.put, List.setIfInBounds_toArray, List.set_cons_zero, List.set_cons_succ]
      refine wpAnyH_done (by kernel_rfl) ?_ _
      go_wp2_with fail
      go_meet
      exact ⟨gA0, rfl, rfl, Lib.hid GA0, Lib.hid hHeld.1, Lib.hid hHeld.2.1, Lib.hid hHeld.2.2, LA0⟩
    exact AllReadyH.nil
  case rest =>
    obtain ⟨gA0, rfl, rfl, HA0, KA0, KA1, HBA, LA0⟩ := hcut
    clear HBw KB0 KB1
    go_upto_region 2 with fail
    go_cut [7, 8] (fun s7 s8 wx => ∃ gB0 : Nat, s7 = .pointer (some ⟨gB0, 0, none⟩) ∧ s8 = .bool (mMeetOk a0 a1) ∧ Hid (BoxAt wx gB0 25 #[.int .i64 (mMeet a0 a1).f0, .int .i64 (mMeet a0 a1).f1]) ∧ Hid (BoxAt wx gA0 25 #[.int .i64 (mMeet a0 a1).f0, .int .i64 (mMeet a0 a1).f1]) ∧ Hid (BoxAt wx w.heap.size 23 #[.int .i64 a0.f0, .int .i64 a0.f1]) ∧ Hid (BoxAt wx (w.heap.size + 1) 23 #[.int .i64 a1.f0, .int .i64 a1.f1]) ∧ Hid (Below w.heap.size w wx) ∧ w.heap.size + 2 ≤ gB0)
    case first =>
      refine wp_region_held_drew (S := fun w' => BoxAt w' gA0 25 #[.int .i64 (mMeet a0 a1).f0, .int .i64 (mMeet a0 a1).f1] ∧ BoxAt w' w.heap.size 23 #[.int .i64 a0.f0, .int .i64 a0.f1] ∧ BoxAt w' (w.heap.size + 1) 23 #[.int .i64 a1.f0, .int .i64 a1.f1] ∧ Below w.heap.size w w') (by kernel_rfl) ?_ (fun hHeld => ?_)
      · exact ⟨HA0.out.drw, KA0.out.drw, KA1.out.drw, HBA.out.drew⟩
      generalize (World.drew _) = x0 at hHeld ⊢
      refine wpAnyH_take (i := 0) (oi := ⟨some 18, _, _, _, _, _⟩) (v := ?_) rfl (by kernel_rfl) (by kernel_rfl) (by kernel_rfl) (fun _ _ _ h => h) (Or.inl ⟨by kernel_rfl, ?_⟩) hHeld ?_
      rotate_left
      focus (intro W hS; have c0_0 := (hS.1).at_ (j := 0) rfl; have c0_1 := (hS.1).at_ (j := 1) rfl; have c1_0 := (hS.2.1).at_ (j := 0) rfl; have c1_1 := (hS.2.1).at_ (j := 1) rfl; have c2_0 := (hS.2.2.1).at_ (j := 0) rfl; have c2_1 := (hS.2.2.1).at_ (j := 1) rfl; clear hS; first | (go_simp; done) | (go_simp; with_reducible rfl))
      try simp only [Act.put, List.setIfInBounds_toArray, List.set_cons_zero, List.set_cons_succ]
      refine wpAnyH_take (i := 2) (oi := ⟨some 20, _, _, _, _, _⟩) (v := ?_) rfl (by kernel_rfl) (by kernel_rfl) (by kernel_rfl) (fun _ _ _ h => h) (Or.inl ⟨by kernel_rfl, ?_⟩) hHeld ?_
      rotate_left
      focus (intro W hS; have c0_0 := (hS.1).at_ (j := 0) rfl; have c0_1 := (hS.1).at_ (j := 1) rfl; have c1_0 := (hS.2.1).at_ (j := 0) rfl; have c1_1 := (hS.2.1).at_ (j := 1) rfl; have c2_0 := (hS.2.2.1).at_ (j := 0) rfl; have c2_1 := (hS.2.2.1).at_ (j := 1) rfl; clear hS; first | (go_simp; done) | (go_simp; with_reducible rfl))
      try simp only [Act.put, List.setIfInBounds_toArray, List.set_cons_zero, List.set_cons_succ]
      refine wpAnyH_ready (rs := [1, 8]) (by kernel_rfl) (by simp) ?_
      refine AllReadyH.cons (o := ⟨some 19, _, _, _, _, _⟩) rfl (fun K hK => ?_) ?_
      · skip
        go_simp
        refine Calls.mono (to_pattern_one a0 _) ?_
        rintro e x1 ⟨rfl, hb1⟩
        refine hK.out _ _ ⟨hHeld.1.new hb1, hHeld.2.1.new hb1, hHeld.2.2.1.new hb1, below_trans hHeld.2.2.2 hb1 (Nat.le_refl _)⟩ (fun hHeld' => ?_)
        clear hK K hHeld hb1
        have hHeld := hHeld'
        clear hHeld'
        try simp only [Act.put, List.setIfInBounds_toArray, List.set_cons_zero, List.set_cons_succ]
        refine wpAnyH_ready (rs := [3, 8]) (by kernel_rfl) (by simp) ?_
        refine AllReadyH.cons (o := ⟨some 21, _, _, _, _, _⟩) rfl (fun K hK => ?_) ?_
        · skip
          go_simp
          refine Calls.mono (to_pattern_one a1 _) ?_
          rintro e x2 ⟨rfl, hb1⟩
          refine hK.out _ _ ⟨hHeld.1.new hb1, hHeld.2.1.new hb1, hHeld.2.2.1.new hb1, below_trans hHeld.2.2.2 hb1 (Nat.le_refl _)⟩ (fun hHeld' => ?_)
          clear hK K hHeld hb1
          have hHeld := hHeld'
          clear hHeld'
          try simp only [Act.put, List.setIfInBounds_toArray, List.set_cons_zero, List.set_cons_succ]
          refine wpAnyH_ready (rs := [4, 8]) (by kernel_rfl) (by simp) ?_
          refine AllReadyH.cons (o := ⟨some 22, _, _, _, _, _⟩) rfl (fun K hK => ?_) ?_
          · skip
            go_simp
            refine Calls.mono (impl_MeetPatterns a0 a1 _ ) ?_
            rintro e x3 ⟨rfl, hb1⟩
            refine hK.out _ _ ⟨hHeld.1.new hb1, hHeld.2.1.new hb1, hHeld.2.2.1.new hb1, below_trans hHeld.2.2.2 hb1 (Nat.le_refl _)⟩ (fun hHeld' => ?_)
            clear hK K hHeld hb1
            have hHeld := hHeld'
            clear hHeld'
            try simp only [Act.put, List.setIfInBounds_toArray, List.set_cons_zero, List.set_cons_succ]
            refine wpAnyH_take (i := 5) (oi := ⟨some 17, _, _, _, _, _⟩) (v := ?_) rfl (by kernel_rfl) (by kernel_rfl) (by kernel_rfl) (fun _ _ _ h => h) (Or.inl ⟨by kernel_rfl, ?_⟩) hHeld ?_
            rotate_left
            focus (intro W hS; have c0_0 := (hS.1).at_ (j := 0) rfl; have c0_1 := (hS.1).at_ (j := 1) rfl; have c1_0 := (hS.2.1).at_ (j := 0) rfl; have c1_1 := (hS.2.1).at_ (j := 1) rfl; have c2_0 := (hS.2.2.1).at_ (j := 0) rfl; have c2_1 := (hS.2.2.1).at_ (j := 1) rfl; clear hS; first | (go_simp; done) | (go_simp; with_reducible rfl))
            try simp only [Act.put, List.setIfInBounds_toArray, List.set_cons_zero, List.set_cons_succ]
            refine wpAnyH_take (i := 6) (oi := ⟨some 23, _, _, _, _, _⟩) (v := ?_) rfl (by kernel_rfl) (by kernel_rfl) (by kernel_rfl) (fun _ _ _ h => h) (Or.inl ⟨by kernel_rfl, ?_⟩) hHeld ?_
            rotate_left
            focus (intro W hS; have c0_0 := (hS.1).at_ (j := 0) rfl; have c0_1 := (hS.1).at_ (j := 1) rfl; have c1_0 := (hS.2.1).at_ (j := 0) rfl; have c1_1 := (hS.2.1).at_ (j := 1) rfl; have c2_0 := (hS.2.2.1).at_ (j := 0) rfl; have c2_1 := (hS.2.2.1).at_ (j := 1) rfl; clear hS; first | (go_simp; done) | (go_simp; with_reducible rfl))
            try simp only [Act.put, List.setIfInBounds_toArray, List.set_cons_zero, List.set_cons_succ]
            refine wpAnyH_take (i := 7) (oi := ⟨some 24, _, _, _, _, _⟩) (v := ?_) rfl (by kernel_rfl) (by kernel_rfl) (by kernel_rfl) (fun _ _ _ h => h) (Or.inl ⟨by kernel_rfl, ?_⟩) hHeld ?_
            rotate_left
            focus (intro W hS; have c0_0 := (hS.1).at_ (j := 0) rfl; have c0_1 := (hS.1).at_ (j := 1) rfl; have c1_0 := (hS.2.1).at_ (j := 0) rfl; have c1_1 := (hS.2.1).at_ (j := 1) rfl; have c2_0 := (hS.2.2.1).at_ (j := 0) rfl; have c2_1 := (hS.2.2.1).at_ (j := 1) rfl; clear hS; first | (go_simp; done) | (go_simp; with_reducible rfl))
            try simp only [Act.put, List.setIfInBounds_toArray, List.set_cons_zero, List.set_cons_succ]
            refine wpAnyH_ready (rs := [8]) (by kernel_rfl) (by simp) ?_
            refine AllReadyH.cons (o := ⟨some 7, _, _, _, _, _⟩) rfl (fun K hK => ?_) AllReadyH.nil
            go_simp
            have GB0 := box_new (x3) 25 #[.int .i64 0, .int .i64 0]
            have hb1 := (Below.refl (x3).heap.size (x3)).alloc (Nat.le_refl _) (.cells #[.int .i64 0, .int .i64 0] 25)
            have LB0 : w.heap.size + 2 ≤ (x3).heap.size := by have := (hHeld.1).lt; have := (hHeld.2.1).lt; have := (hHeld.2.2.1).lt; have := (hHeld.2.2.2).size; omega
            have M0B0 : gA0 < (x3).heap.size := (hHeld.1).lt
            have M1B0 : w.heap.size < (x3).heap.size := (hHeld.2.1).lt
            have M2B0 : (w.heap.size + 1) < (x3).heap.size := (hHeld.2.2.1).lt
            generalize (x3).alloc (.cells #[.int .i64 0, .int .i64 0] 25) = x4 at hb1 GB0  ⊢
            generalize hg : (x3).heap.size = gB0 at GB0 LB0 M0B0 M1B0 M2B0 ⊢
            clear hg
            refine hK.out _ _ ⟨hHeld.1.new hb1, hHeld.2.1.new hb1, hHeld.2.2.1.new hb1, below_trans hHeld.2.2.2 hb1 (Nat.le_refl _)⟩ (fun hHeld' => ?_)
            clear hK K hHeld hb1
            have hHeld := hHeld'
            clear hHeld'
            try simp only [Act.put, List.setIfInBounds_toArray, List.set_cons_zero, List.set_cons_succ]
            refine wpAnyH_ready (rs := [9]) (by kernel_rfl) (by simp) ?_
            refine AllReadyH.cons (o := ⟨none, _, _, _, _, _⟩) rfl (fun K hK => ?_) AllReadyH.nil
            rw [if_pos (by rfl)]
            refine wp_store_row 25 _ _ rfl gB0 #[.int .i64 (mMeet a0 a1).f0, .int .i64 (mMeet a0 a1).f1] rfl rfl 25 _ GB0 (by kernel_rfl) (by kernel_rfl) (by kernel_rfl) ?_
            replace GB0 := box_row (cs := #[.int .i64 (mMeet a0 a1).f0, .int .i64 (mMeet a0 a1).f1]) GB0
            have hc1 := chg_row x4 gB0 #[.int .i64 (mMeet a0 a1).f0, .int .i64 (mMeet a0 a1).f1]
            have hHeld2 : BoxAt (World.setRow x4 gB0 #[.int .i64 (mMeet a0 a1).f0, .int .i64 (mMeet a0 a1).f1]) gA0 25 #[.int .i64 (mMeet a0 a1).f0, .int .i64 (mMeet a0 a1).f1] ∧ BoxAt (World.setRow x4 gB0 #[.int .i64 (mMeet a0 a1).f0, .int .i64 (mMeet a0 a1).f1]) w.heap.size 23 #[.int .i64 a0.f0, .int .i64 a0.f1] ∧ BoxAt (World.setRow x4 gB0 #[.int .i64 (mMeet a0 a1).f0, .int .i64 (mMeet a0 a1).f1]) (w.heap.size + 1) 23 #[.int .i64 a1.f0, .int .i64 a1.f1] ∧ Below w.heap.size w (World.setRow x4 gB0 #[.int .i64 (mMeet a0 a1).f0, .int .i64 (mMeet a0 a1).f1]) := ⟨hHeld.1.chg hc1 (by omega), hHeld.2.1.chg hc1 (by omega), hHeld.2.2.1.chg hc1 (by omega), below_setRow hHeld.2.2.2 (by omega) _⟩
            clear hc1
            generalize World.setRow x4 gB0 #[.int .i64 (mMeet a0 a1).f0, .int .i64 (mMeet a0 a1).f1] = x5 at hHeld2 GB0 ⊢
            refine hK.out _ _ hHeld2 (fun hHeld' => ?_)
            clear hHeld2
            clear hK K hHeld
            have hHeld := hHeld'
            clear hHeld'
            try simp only [Act.put, List.setIfInBounds_toArray, List.set_cons_zero, List.set_cons_succ]
            refine wpAnyH_take (i := 10) (oi := ⟨some 8, _, _, _, _, _⟩) (v := ?_) rfl (by kernel_rfl) (by kernel_rfl) (by kernel_rfl) (fun _ _ _ h => h) (Or.inl ⟨by kernel_rfl, ?_⟩) hHeld ?_
            rotate_left
            focus (intro W hS; have c0_0 := (hS.1).at_ (j := 0) rfl; have c0_1 := (hS.1).at_ (j := 1) rfl; have c1_0 := (hS.2.1).at_ (j := 0) rfl; have c1_1 := (hS.2.1).at_ (j := 1) rfl; have c2_0 := (hS.2.2.1).at_ (j := 0) rfl; have c2_1 := (hS.2.2.1).at_ (j := 1) rfl; clear hS; first | (go_simp; done) | (go_simp; with_reducible rfl))
            try simp only [Act.put, List.setIfInBounds_toArray, List.set_cons_zero, List.set_cons_succ]
            refine wpAnyH_done (by kernel_rfl) ?_ _
            go_wp2_with fail
            go_meet
            exact ⟨gB0, rfl, rfl, Lib.hid GB0, Lib.hid hHeld.1, Lib.hid hHeld.2.1, Lib.hid hHeld.2.2.1, Lib.hid hHeld.2.2.2, LB0⟩
          refine AllReadyH.cons (o := ⟨some 7, _, _, _, _, _⟩) rfl (fun K hK => ?_) ?_
          · skip
            go_simp
            have GB0 := box_new (x2) 25 #[.int .i64 0, .int .i64 0]
            have hb1 := (Below.refl (x2).heap.size (x2)).alloc (Nat.le_refl _) (.cells #[.int .i64 0, .int .i64 0] 25)
            have LB0 : w.heap.size + 2 ≤ (x2).heap.size := by have := (hHeld.1).lt; have := (hHeld.2.1).lt; have := (hHeld.2.2.1).lt; have := (hHeld.2.2.2).size; omega
            have M0B0 : gA0 < (x2).heap.size := (hHeld.1).lt
            have M1B0 : w.heap.size < (x2).heap.size := (hHeld.2.1).lt
            have M2B0 : (w.heap.size + 1) < (x2).heap.size := (hHeld.2.2.1).lt
            generalize (x2).alloc (.cells #[.int .i64 0, .int .i64 0] 25) = x3 at hb1 GB0  ⊢
            generalize hg : (x2).heap.size = gB0 at GB0 LB0 M0B0 M1B0 M2B0 ⊢
            clear hg
            refine hK.out _ _ ⟨hHeld.1.new hb1, hHeld.2.1.new hb1, hHeld.2.2.1.new hb1, below_trans hHeld.2.2.2 hb1 (Nat.le_refl _)⟩ (fun hHeld' => ?_)
            clear hK K hHeld hb1
            have hHeld := hHeld'
            clear hHeld'
            try simp only [Act.put, List.setIfInBounds_toArray, List.set_cons_zero, List.set_cons_succ]
            refine wpAnyH_ready (rs := [4]) (by kernel_rfl) (by simp) ?_
            refine AllReadyH.cons (o := ⟨some 22, _, _, _, _, _⟩) rfl (fun K hK => ?_) AllReadyH.nil
            go_simp
            refine Calls.mono (impl_MeetPatterns a0 a1 _ ) ?_
            rintro e x4 ⟨rfl, hb1⟩
            replace GB0 := GB0.new hb1
            refine hK.out _ _ ⟨hHeld.1.new hb1, hHeld.2.1.new hb1, hHeld.2.2.1.new hb1, below_trans hHeld.2.2.2 hb1 (Nat.le_refl _)⟩ (fun hHeld' => ?_)
            clear hK K hHeld hb1
            have hHeld := hHeld'
            clear hHeld'
            try simp only [Act.put, List.setIfInBounds_toArray, List.set_cons_zero, List.set_cons_succ]
            refine wpAnyH_take (i := 5) (oi := ⟨some 17, _, _, _, _, _⟩) (v := ?_) rfl (by kernel_rfl) (by kernel_rfl) (by kernel_rfl) (fun _ _ _ h => h) (Or.inl ⟨by kernel_rfl, ?_⟩) hHeld ?_
            rotate_left
            focus (intro W hS; have c0_0 := (hS.1).at_ (j := 0) rfl; have c0_1 := (hS.1).at_ (j := 1) rfl; have c1_0 := (hS.2.1).at_ (j := 0) rfl; have c1_1 := (hS.2.1).at_ (j := 1) rfl; have c2_0 := (hS.2.2.1).at_ (j := 0) rfl; have c2_1 := (hS.2.2.1).at_ (j := 1) rfl; clear hS; first | (go_simp; done) | (go_simp; with_reducible rfl))
            try simp only [Act.put, List.setIfInBounds_toArray, List.set_cons_zero, List.set_cons_succ]
            refine wpAnyH_take (i := 6) (oi := ⟨some 23, _, _, _, _, _⟩) (v := ?_) rfl (by kernel_rfl) (by kernel_rfl) (by kernel_rfl) (fun _ _ _ h => h) (Or.inl ⟨by kernel_rfl, ?_⟩) hHeld ?_
            rotate_left
            focus (intro W hS; have c0_0 := (hS.1).at_ (j := 0) rfl; have c0_1 := (hS.1).at_ (j := 1) rfl; have c1_0 := (hS.2.1).at_ (j := 0) rfl; have c1_1 := (hS.2.1).at_ (j := 1) rfl; have c2_0 := (hS.2.2.1).at_ (j := 0) rfl; have c2_1 := (hS.2.2.1).at_ (j := 1) rfl; clear hS; first | (go_simp; done) | (go_simp; with_reducible rfl))
            try simp only [Act.put, List.setIfInBounds_toArray, List.set_cons_zero, List.set_cons_succ]
            refine wpAnyH_take (i := 7) (oi := ⟨some 24, _, _, _, _, _⟩) (v := ?_) rfl (by kernel_rfl) (by kernel_rfl) (by kernel_rfl) (fun _ _ _ h => h) (Or.inl ⟨by kernel_rfl, ?_⟩) hHeld ?_
            rotate_left
            focus (intro W hS; have c0_0 := (hS.1).at_ (j := 0) rfl; have c0_1 := (hS.1).at_ (j := 1) rfl; have c1_0 := (hS.2.1).at_ (j := 0) rfl; have c1_1 := (hS.2.1).at_ (j := 1) rfl; have c2_0 := (hS.2.2.1).at_ (j := 0) rfl; have c2_1 := (hS.2.2.1).at_ (j := 1) rfl; clear hS; first | (go_simp; done) | (go_simp; with_reducible rfl))
            try simp only [Act.put, List.setIfInBounds_toArray, List.set_cons_zero, List.set_cons_succ]
            refine wpAnyH_ready (rs := [9]) (by kernel_rfl) (by simp) ?_
            refine AllReadyH.cons (o := ⟨none, _, _, _, _, _⟩) rfl (fun K hK => ?_) AllReadyH.nil
            rw [if_pos (by rfl)]
            refine wp_store_row 25 _ _ rfl gB0 #[.int .i64 (mMeet a0 a1).f0, .int .i64 (mMeet a0 a1).f1] rfl rfl 25 _ GB0 (by kernel_rfl) (by kernel_rfl) (by kernel_rfl) ?_
            replace GB0 := box_row (cs := #[.int .i64 (mMeet a0 a1).f0, .int .i64 (mMeet a0 a1).f1]) GB0
            have hc1 := chg_row x4 gB0 #[.int .i64 (mMeet a0 a1).f0, .int .i64 (mMeet a0 a1).f1]
            have hHeld2 : BoxAt (World.setRow x4 gB0 #[.int .i64 (mMeet a0 a1).f0, .int .i64 (mMeet a0 a1).f1]) gA0 25 #[.int .i64 (mMeet a0 a1).f0, .int .i64 (mMeet a0 a1).f1] ∧ BoxAt (World.setRow x4 gB0 #[.int .i64 (mMeet a0 a1).f0, .int .i64 (mMeet a0 a1).f1]) w.heap.size 23 #[.int .i64 a0.f0, .int .i64 a0.f1] ∧ BoxAt (World.setRow x4 gB0 #[.int .i64 (mMeet a0 a1).f0, .int .i64 (mMeet a0 a1).f1]) (w.heap.size + 1) 23 #[.int .i64 a1.f0, .int .i64 a1.f1] ∧ Below w.heap.size w (World.setRow x4 gB0 #[.int .i64 (mMeet a0 a1).f0, .int .i64 (mMeet a0 a1).f1]) := ⟨hHeld.1.chg hc1 (by omega), hHeld.2.1.chg hc1 (by omega), hHeld.2.2.1.chg hc1 (by omega), below_setRow hHeld.2.2.2 (by omega) _⟩
            clear hc1
            generalize World.setRow x4 gB0 #[.int .i64 (mMeet a0 a1).f0, .int .i64 (mMeet a0 a1).f1] = x5 at hHeld2 GB0 ⊢
            refine hK.out _ _ hHeld2 (fun hHeld' => ?_)
            clear hHeld2
            clear hK K hHeld
            have hHeld := hHeld'
            clear hHeld'
            try simp only [Act.put, List.setIfInBounds_toArray, List.set_cons_zero, List.set_cons_succ]
            refine wpAnyH_take (i := 10) (oi := ⟨some 8, _, _, _, _, _⟩) (v := ?_) rfl (by kernel_rfl) (by kernel_rfl) (by kernel_rfl) (fun _ _ _ h => h) (Or.inl ⟨by kernel_rfl, ?_⟩) hHeld ?_
            rotate_left
            focus (intro W hS; have c0_0 := (hS.1).at_ (j := 0) rfl; have c0_1 := (hS.1).at_ (j := 1) rfl; have c1_0 := (hS.2.1).at_ (j := 0) rfl; have c1_1 := (hS.2.1).at_ (j := 1) rfl; have c2_0 := (hS.2.2.1).at_ (j := 0) rfl; have c2_1 := (hS.2.2.1).at_ (j := 1) rfl; clear hS; first | (go_simp; done) | (go_simp; with_reducible rfl))
            try simp only [Act.put, List.setIfInBounds_toArray, List.set_cons_zero, List.set_cons_succ]
            refine wpAnyH_done (by kernel_rfl) ?_ _
            go_wp2_with fail
            go_meet
            exact ⟨gB0, rfl, rfl, Lib.hid GB0, Lib.hid hHeld.1, Lib.hid hHeld.2.1, Lib.hid hHeld.2.2.1, Lib.hid hHeld.2.2.2, LB0⟩
          exact AllReadyH.nil
        refine AllReadyH.cons (o := ⟨some 7, _, _, _, _, _⟩) rfl (fun K hK => ?_) ?_
        · skip
          go_simp
          have GB0 := box_new (x1) 25 #[.int .i64 0, .int .i64 0]
          have hb1 := (Below.refl (x1).heap.size (x1)).alloc (Nat.le_refl _) (.cells #[.int .i64 0, .int .i64 0] 25)
          have LB0 : w.heap.size + 2 ≤ (x1).heap.size := by have := (hHeld.1).lt; have := (hHeld.2.1).lt; have := (hHeld.2.2.1).lt; have := (hHeld.2.2.2).size; omega
          have M0B0 : gA0 < (x1).heap.size := (hHeld.1).lt
          have M1B0 : w.heap.size < (x1).heap.size := (hHeld.2.1).lt
          have M2B0 : (w.heap.size + 1) < (x1).heap.size := (hHeld.2.2.1).lt
          generalize (x1).alloc (.cells #[.int .i64 0, .int .i64 0] 25) = x2 at hb1 GB0  ⊢
          generalize hg : (x1).heap.size = gB0 at GB0 LB0 M0B0 M1B0 M2B0 ⊢
          clear hg
          refine hK.out _ _ ⟨hHeld.1.new hb1, hHeld.2.1.new hb1, hHeld.2.2.1.new hb1, below_trans hHeld.2.2.2 hb1 (Nat.le_refl _)⟩ (fun hHeld' => ?_)
          clear hK K hHeld hb1
          have hHeld := hHeld'
          clear hHeld'
          try simp only [Act.put, List.setIfInBounds_toArray, List.set_cons_zero, List.set_cons_succ]
          refine wpAnyH_ready (rs := [3]) (by kernel_rfl) (by simp) ?_
          refine AllReadyH.cons (o := ⟨some 21, _, _, _, _, _⟩) rfl (fun K hK => ?_) AllReadyH.nil
          go_simp
          refine Calls.mono (to_pattern_one a1 _) ?_
          rintro e x3 ⟨rfl, hb1⟩
          replace GB0 := GB0.new hb1
          refine hK.out _ _ ⟨hHeld.1.new hb1, hHeld.2.1.new hb1, hHeld.2.2.1.new hb1, below_trans hHeld.2.2.2 hb1 (Nat.le_refl _)⟩ (fun hHeld' => ?_)
          clear hK K hHeld hb1
          have hHeld := hHeld'
          clear hHeld'
          try simp only [Act.put, List.setIfInBounds_toArray, List.set_cons_zero, List.set_cons_succ]
          refine wpAnyH_ready (rs := [4]) (by kernel_rfl) (by simp) ?_
          refine AllReadyH.cons (o := ⟨some 22, _, _, _, _, _⟩) rfl (fun K hK => ?_) AllReadyH.nil
          go_simp
          refine Calls.mono (impl_MeetPatterns a0 a1 _ ) ?_
          rintro e x4 ⟨rfl, hb1⟩
          replace GB0 := GB0.new hb1
          refine hK.out _ _ ⟨hHeld.1.new hb1, hHeld.2.1.new hb1, hHeld.2.2.1.new hb1, below_trans hHeld.2.2.2 hb1 (Nat.le_refl _)⟩ (fun hHeld' => ?_)
          clear hK K hHeld hb1
          have hHeld := hHeld'
          clear hHeld'
          try simp only [Act.put, List.setIfInBounds_toArray, List.set_cons_zero, List.set_cons_succ]
          refine wpAnyH_take (i := 5) (oi := ⟨some 17, _, _, _, _, _⟩) (v := ?_) rfl (by kernel_rfl) (by kernel_rfl) (by kernel_rfl) (fun _ _ _ h => h) (Or.inl ⟨by kernel_rfl, ?_⟩) hHeld ?_
          rotate_left
          focus (intro W hS; have c0_0 := (hS.1).at_ (j := 0) rfl; have c0_1 := (hS.1).at_ (j := 1) rfl; have c1_0 := (hS.2.1).at_ (j := 0) rfl; have c1_1 := (hS.2.1).at_ (j := 1) rfl; have c2_0 := (hS.2.2.1).at_ (j := 0) rfl; have c2_1 := (hS.2.2.1).at_ (j := 1) rfl; clear hS; first | (go_simp; done) | (go_simp; with_reducible rfl))
          try simp only [Act.put, List.setIfInBounds_toArray, List.set_cons_zero, List.set_cons_succ]
          refine wpAnyH_take (i := 6) (oi := ⟨some 23, _, _, _, _, _⟩) (v := ?_) rfl (by kernel_rfl) (by kernel_rfl) (by kernel_rfl) (fun _ _ _ h => h) (Or.inl ⟨by kernel_rfl, ?_⟩) hHeld ?_
          rotate_left
          focus (intro W hS; have c0_0 := (hS.1).at_ (j := 0) rfl; have c0_1 := (hS.1).at_ (j := 1) rfl; have c1_0 := (hS.2.1).at_ (j := 0) rfl; have c1_1 := (hS.2.1).at_ (j := 1) rfl; have c2_0 := (hS.2.2.1).at_ (j := 0) rfl; have c2_1 := (hS.2.2.1).at_ (j := 1) rfl; clear hS; first | (go_simp; done) | (go_simp; with_reducible rfl))
          try simp only [Act.put, List.setIfInBounds_toArray, List.set_cons_zero, List.set_cons_succ]
          refine wpAnyH_take (i := 7) (oi := ⟨some 24, _, _, _, _, _⟩) (v := ?_) rfl (by kernel_rfl) (by kernel_rfl) (by kernel_rfl) (fun _ _ _ h => h) (Or.inl ⟨by kernel_rfl, ?_⟩) hHeld ?_
          rotate_left
          focus (intro W hS; have c0_0 := (hS.1).at_ (j := 0) rfl; have c0_1 := (hS.1).at_ (j := 1) rfl; have c1_0 := (hS.2.1).at_ (j := 0) rfl; have c1_1 := (hS.2.1).at_ (j := 1) rfl; have c2_0 := (hS.2.2.1).at_ (j := 0) rfl; have c2_1 := (hS.2.2.1).at_ (j := 1) rfl; clear hS; first | (go_simp; done) | (go_simp; with_reducible rfl))
          try simp only [Act.put, List.setIfInBounds_toArray, List.set_cons_zero, List.set_cons_succ]
          refine wpAnyH_ready (rs := [9]) (by kernel_rfl) (by simp) ?_
          refine AllReadyH.cons (o := ⟨none, _, _, _, _, _⟩) rfl (fun K hK => ?_) AllReadyH.nil
          rw [if_pos (by rfl)]
          refine wp_store_row 25 _ _ rfl gB0 #[.int .i64 (mMeet a0 a1).f0, .int .i64 (mMeet a0 a1).f1] rfl rfl 25 _ GB0 (by kernel_rfl) (by kernel_rfl) (by kernel_rfl) ?_
          replace GB0 := box_row (cs := #[.int .i64 (mMeet a0 a1).f0, .int .i64 (mMeet a0 a1).f1]) GB0
          have hc1 := chg_row x4 gB0 #[.int .i64 (mMeet a0 a1).f0, .int .i64 (mMeet a0 a1).f1]
          have hHeld2 : BoxAt (World.setRow x4 gB0 #[.int .i64 (mMeet a0 a1).f0, .int .i64 (mMeet a0 a1).f1]) gA0 25 #[.int .i64 (mMeet a0 a1).f0, .int .i64 (mMeet a0 a1).f1] ∧ BoxAt (World.setRow x4 gB0 #[.int .i64 (mMeet a0 a1).f0, .int .i64 (mMeet a0 a1).f1]) w.heap.size 23 #[.int .i64 a0.f0, .int .i64 a0.f1] ∧ BoxAt (World.setRow x4 gB0 #[.int .i64 (mMeet a0 a1).f0, .int .i64 (mMeet a0 a1).f1]) (w.heap.size + 1) 23 #[.int .i64 a1.f0, .int .i64 a1.f1] ∧ Below w.heap.size w (World.setRow x4 gB0 #[.int .i64 (mMeet a0 a1).f0, .int .i64 (mMeet a0 a1).f1]) := ⟨hHeld.1.chg hc1 (by omega), hHeld.2.1.chg hc1 (by omega), hHeld.2.2.1.chg hc1 (by omega), below_setRow hHeld.2.2.2 (by omega) _⟩
          clear hc1
          generalize World.setRow x4 gB0 #[.int .i64 (mMeet a0 a1).f0, .int .i64 (mMeet a0 a1).f1] = x5 at hHeld2 GB0 ⊢
          refine hK.out _ _ hHeld2 (fun hHeld' => ?_)
          clear hHeld2
          clear hK K hHeld
          have hHeld := hHeld'
          clear hHeld'
          try simp only [Act.put, List.setIfInBounds_toArray, List.set_cons_zero, List.set_cons_succ]
          refine wpAnyH_take (i := 10) (oi := ⟨some 8, _, _, _, _, _⟩) (v := ?_) rfl (by kernel_rfl) (by kernel_rfl) (by kernel_rfl) (fun _ _ _ h => h) (Or.inl ⟨by kernel_rfl, ?_⟩) hHeld ?_
          rotate_left
          focus (intro W hS; have c0_0 := (hS.1).at_ (j := 0) rfl; have c0_1 := (hS.1).at_ (j := 1) rfl; have c1_0 := (hS.2.1).at_ (j := 0) rfl; have c1_1 := (hS.2.1).at_ (j := 1) rfl; have c2_0 := (hS.2.2.1).at_ (j := 0) rfl; have c2_1 := (hS.2.2.1).at_ (j := 1) rfl; clear hS; first | (go_simp; done) | (go_simp; with_reducible rfl))
          try simp only [Act.put, List.setIfInBounds_toArray, List.set_cons_zero, List.set_cons_succ]
          refine wpAnyH_done (by kernel_rfl) ?_ _
          go_wp2_with fail
          go_meet
          exact ⟨gB0, rfl, rfl, Lib.hid GB0, Lib.hid hHeld.1, Lib.hid hHeld.2.1, Lib.hid hHeld.2.2.1, Lib.hid hHeld.2.2.2, LB0⟩
        exact AllReadyH.nil
      refine AllReadyH.cons (o := ⟨some 7, _, _, _, _, _⟩) rfl (fun K hK => ?_) ?_
      · skip
        go_simp
        have GB0 := box_new (x0) 25 #[.int .i64 0, .int .i64 0]
        have hb1 := (Below.refl (x0).heap.size (x0)).alloc (Nat.le_refl _) (.cells #[.int .i64 0, .int .i64 0] 25)
        have LB0 : w.heap.size + 2 ≤ (x0).heap.size := by have := (hHeld.1).lt; have := (hHeld.2.1).lt; have := (hHeld.2.2.1).lt; have := (hHeld.2.2.2).size; omega
        have M0B0 : gA0 < (x0).heap.size := (hHeld.1).lt
        have M1B0 : w.heap.size < (x0).heap.size := (hHeld.2.1).lt
        have M2B0 : (w.heap.size + 1) < (x0).heap.size := (hHeld.2.2.1).lt
        generalize (x0).alloc (.cells #[.int .i64 0, .int .i64 0] 25) = x1 at hb1 GB0  ⊢
        generalize hg : (x0).heap.size = gB0 at GB0 LB0 M0B0 M1B0 M2B0 ⊢
        clear hg
        refine hK.out _ _ ⟨hHeld.1.new hb1, hHeld.2.1.new hb1, hHeld.2.2.1.new hb1, below_trans hHeld.2.2.2 hb1 (Nat.le_refl _)⟩ (fun hHeld' => ?_)
        clear hK K hHeld hb1
        have hHeld := hHeld'
        clear hHeld'
        try simp only [Act.put, List.setIfInBounds_toArray, List.set_cons_zero, List.set_cons_succ]
        refine wpAnyH_ready (rs := [1]) (by kernel_rfl) (by simp) ?_
        refine AllReadyH.cons (o := ⟨some 19, _, _, _, _, _⟩) rfl (fun K hK => ?_) AllReadyH.nil
        go_simp
        refine Calls.mono (to_pattern_one a0 _) ?_
        rintro e x2 ⟨rfl, hb1⟩
        replace GB0 := GB0.new hb1
        refine hK.out _ _ ⟨hHeld.1.new hb1, hHeld.2.1.new hb1, hHeld.2.2.1.new hb1, below_trans hHeld.2.2.2 hb1 (Nat.le_refl _)⟩ (fun hHeld' => ?_)
        clear hK K hHeld hb1
        have hHeld := hHeld'
        clear hHeld'
        try simp only [Act.put, List.setIfInBounds_toArray, List.set_cons_zero, List.set_cons_succ]
        refine wpAnyH_ready (rs := [3]) (by kernel_rfl) (by simp) ?_
        refine AllReadyH.cons (o := ⟨some 21, _, _, _, _, _⟩) rfl (fun K hK => ?_) AllReadyH.nil
        go_simp
        refine Calls.mono (to_pattern_one a1 _) ?_
        rintro e x3 ⟨rfl, hb1⟩
        replace GB0 := GB0.new hb1
        refine hK.out _ _ ⟨hHeld.1.new hb1, hHeld.2.1.new hb1, hHeld.2.2.1.new hb1, below_trans hHeld.2.2.2 hb1 (Nat.le_refl _)⟩ (fun hHeld' => ?_)
        clear hK K hHeld hb1
        have hHeld := hHeld'
        clear hHeld'
        try simp only [Act.put, List.setIfInBounds_toArray, List.set_cons_zero, List.set_cons_succ]
        refine wpAnyH_ready (rs := [4]) (by kernel_rfl) (by simp) ?_
        refine AllReadyH.cons (o := ⟨some 22, _, _, _, _, _⟩) rfl (fun K hK => ?_) AllReadyH.nil
        go_simp
        refine Calls.mono (impl_MeetPatterns a0 a1 _ ) ?_
        rintro e x4 ⟨rfl, hb1⟩
        replace GB0 := GB0.new hb1
        refine hK.out _ _ ⟨hHeld.1.new hb1, hHeld.2.1.new hb1, hHeld.2.2.1.new hb1, below_trans hHeld.2.2.2 hb1 (Nat.le_refl _)⟩ (fun hHeld' => ?_)
        clear hK K hHeld hb1
        have hHeld := hHeld'
        clear hHeld'
        try simp only [Act.put, List.setIfInBounds_toArray, List.set_cons_zero, List.set_cons_succ]
        refine wpAnyH_take (i := 5) (oi := ⟨some 17, _, _, _, _, _⟩) (v := ?_) rfl (by kernel_rfl) (by kernel_rfl) (by kernel_rfl) (fun _ _ _ h => h) (Or.inl ⟨by kernel_rfl, ?_⟩) hHeld ?_
        rotate_left
        focus (intro W hS; have c0_0 := (hS.1).at_ (j := 0) rfl; have c0_1 := (hS.1).at_ (j := 1) rfl; have c1_0 := (hS.2.1).at_ (j := 0) rfl; have c1_1 := (hS.2.1).at_ (j := 1) rfl; have c2_0 := (hS.2.2.1).at_ (j := 0) rfl; have c2_1 := (hS.2.2.1).at_ (j := 1) rfl; clear hS; first | (go_simp; done) | (go_simp; with_reducible rfl))
        try simp only [Act.put, List.setIfInBounds_toArray, List.set_cons_zero, List.set_cons_succ]
        refine wpAnyH_take (i := 6) (oi := ⟨some 23, _, _, _, _, _⟩) (v := ?_) rfl (by kernel_rfl) (by kernel_rfl) (by kernel_rfl) (fun _ _ _ h => h) (Or.inl ⟨by kernel_rfl, ?_⟩) hHeld ?_
        rotate_left
        focus (intro W hS; have c0_0 := (hS.1).at_ (j := 0) rfl; have c0_1 := (hS.1).at_ (j := 1) rfl; have c1_0 := (hS.2.1).at_ (j := 0) rfl; have c1_1 := (hS.2.1).at_ (j := 1) rfl; have c2_0 := (hS.2.2.1).at_ (j := 0) rfl; have c2_1 := (hS.2.2.1).at_ (j := 1) rfl; clear hS; first | (go_simp; done) | (go_simp; with_reducible rfl))
        try simp only [Act.put, List.setIfInBounds_toArray, List.set_cons_zero, List.set_cons_succ]
        refine wpAnyH_take (i := 7) (oi := ⟨some 24, _, _, _, _, _⟩) (v := ?_) rfl (by kernel_rfl) (by kernel_rfl) (by kernel_rfl) (fun _ _ _ h => h) (Or.inl ⟨by kernel_rfl, ?_⟩) hHeld ?_
        rotate_left
        focus (intro W hS; have c0_0 := (hS.1).at_ (j := 0) rfl; have c0_1 := (hS.1).at_ (j := 1) rfl; have c1_0 := (hS.2.1).at_ (j := 0) rfl; have c1_1 := (hS.2.1).at_ (j := 1) rfl; have c2_0 := (hS.2.2.1).at_ (j := 0) rfl; have c2_1 := (hS.2.2.1).at_ (j := 1) rfl; clear hS; first | (go_simp; done) | (go_simp; with_reducible rfl))
        try simp only [Act.put, List.setIfInBounds_toArray, List.set_cons_zero, List.set_cons_succ]
        refine wpAnyH_ready (rs := [9]) (by kernel_rfl) (by simp) ?_
        refine AllReadyH.cons (o := ⟨none, _, _, _, _, _⟩) rfl (fun K hK => ?_) AllReadyH.nil
        rw [if_pos (by rfl)]
        refine wp_store_row 25 _ _ rfl gB0 #[.int .i64 (mMeet a0 a1).f0, .int .i64 (mMeet a0 a1).f1] rfl rfl 25 _ GB0 (by kernel_rfl) (by kernel_rfl) (by kernel_rfl) ?_
        replace GB0 := box_row (cs := #[.int .i64 (mMeet a0 a1).f0, .int .i64 (mMeet a0 a1).f1]) GB0
        have hc1 := chg_row x4 gB0 #[.int .i64 (mMeet a0 a1).f0, .int .i64 (mMeet a0 a1).f1]
        have hHeld2 : BoxAt (World.setRow x4 gB0 #[.int .i64 (mMeet a0 a1).f0, .int .i64 (mMeet a0 a1).f1]) gA0 25 #[.int .i64 (mMeet a0 a1).f0, .int .i64 (mMeet a0 a1).f1] ∧ BoxAt (World.setRow x4 gB0 #[.int .i64 (mMeet a0 a1).f0, .int .i64 (mMeet a0 a1).f1]) w.heap.size 23 #[.int .i64 a0.f0, .int .i64 a0.f1] ∧ BoxAt (World.setRow x4 gB0 #[.int .i64 (mMeet a0 a1).f0, .int .i64 (mMeet a0 a1).f1]) (w.heap.size + 1) 23 #[.int .i64 a1.f0, .int .i64 a1.f1] ∧ Below w.heap.size w (World.setRow x4 gB0 #[.int .i64 (mMeet a0 a1).f0, .int .i64 (mMeet a0 a1).f1]) := ⟨hHeld.1.chg hc1 (by omega), hHeld.2.1.chg hc1 (by omega), hHeld.2.2.1.chg hc1 (by omega), below_setRow hHeld.2.2.2 (by omega) _⟩
        clear hc1
        generalize World.setRow x4 gB0 #[.int .i64 (mMeet a0 a1).f0, .int .i64 (mMeet a0 a1).f1] = x5 at hHeld2 GB0 ⊢
        refine hK.out _ _ hHeld2 (fun hHeld' => ?_)
        clear hHeld2
        clear hK K hHeld
        have hHeld := hHeld'
        clear hHeld'
        try simp only [Act.put, List.setIfInBounds_toArray, List.set_cons_zero, List.set_cons_succ]
        refine wpAnyH_take (i := 10) (oi := ⟨some 8, _, _, _, _, _⟩) (v := ?_) rfl (by kernel_rfl) (by kernel_rfl) (by kernel_rfl) (fun _ _ _ h => h) (Or.inl ⟨by kernel_rfl, ?_⟩) hHeld ?_
        rotate_left
        focus (intro W hS; have c0_0 := (hS.1).at_ (j := 0) rfl; have c0_1 := (hS.1).at_ (j := 1) rfl; have c1_0 := (hS.2.1).at_ (j := 0) rfl; have c1_1 := (hS.2.1).at_ (j := 1) rfl; have c2_0 := (hS.2.2.1).at_ (j := 0) rfl; have c2_1 := (hS.2.2.1).at_ (j := 1) rfl; clear hS; first | (go_simp; done) | (go_simp; with_reducible rfl))
        try simp only [Act.put, List.setIfInBounds_toArray, List.set_cons_zero, List.set_cons_succ]
        refine wpAnyH_done (by kernel_rfl) ?_ _
        go_wp2_with fail
        go_meet
        exact ⟨gB0, rfl, rfl, Lib.hid GB0, Lib.hid hHeld.1, Lib.hid hHeld.2.1, Lib.hid hHeld.2.2.1, Lib.hid hHeld.2.2.2, LB0⟩
      exact AllReadyH.nil
    case rest =>
      obtain ⟨gB0, rfl, rfl, HB0, KB0, KB1, KB2, HBB, LB0⟩ := hcut
      have egB0_0 := HB0.out.at_ (j := 0) rfl
      have egB0_1 := HB0.out.at_ (j := 1) rfl
      have egA0_0 := KB0.out.at_ (j := 0) rfl
      have egA0_1 := KB0.out.at_ (j := 1) rfl
      go_wp2_with fail
      refine (eq_pattern_one (mMeet a0 a1) _).mono ?_
      rintro e y0 ⟨rfl, hq⟩
      replace HB0 := Lib.hid (HB0.out.new hq)
      replace KB0 := Lib.hid (KB0.out.new hq)
      replace KB1 := Lib.hid (KB1.out.new hq)
      replace KB2 := Lib.hid (KB2.out.new hq)
      replace HBB := Lib.hid (below_trans HBB.out hq (Nat.le_refl _))
      clear hq
      go_wp2_with fail
      go_ret
      exact ⟨rfl, HBB.out⟩

set_option maxRecDepth 100000 in
theorem lifted (os : Os) (started : os.Started) (H : Type) (enc : TypeId × Value → H) :
    ReturnsInHanded {} Try.checked os 4 .any (Rows.fnExactMeetPatternsSpec.pre6 enc Try.prog Try.f4 Rows.fnExactMeetPatternsRow.domain false) (Rows.fnExactMeetPatternsSpec.post enc Try.prog Try.f4 false true false false) := by
  refine law_lifted Try.func4 (by kernel_rfl) rfl rfl (by kernel_rfl) os started
    (ChangeSpec.witness6 (enc := enc) (C := Try.checked) false ⟨#[], #[.agg #[.int .i64 0, .int .i64 0], .agg #[.int .i64 0, .int .i64 0]], []⟩ 8 (by kernel_rfl) (by kernel_rfl) (by kernel_rfl) (by kernel_rfl)) ?_
  intro W base args ds p hval hA hlt
  rw [Try.params4] at hA hval
  obtain ⟨v0, vs0, d0, ds0, p0, q0, hargs, rfl, rfl, h0, r0⟩ := trodAll_cons hA
  obtain ⟨v1, vs1, d1, ds1, p1, q1, rfl, rfl, rfl, h1, r1⟩ := trodAll_cons r0
  obtain ⟨rfl, rfl, rfl⟩ := trodAll_nil r1
  obtain rfl : args = #[v0, v1] := by cases args; simp_all
  obtain ⟨a0, rfl, H0⟩ := open_pattern (hval 0 23 v0 rfl rfl) h0
  obtain ⟨a1, rfl, H1⟩ := open_pattern (hval 1 23 v1 rfl rfl) h1
  exact ⟨⟨rfl, rfl, rfl⟩, walk a0 a1 W H0 H1⟩

theorem over : Rows.fnExactMeetPatternsRow.holds Try.pinned (OpenSpec.ofChange Rows.fnExactMeetPatternsSpec) :=
  OpenClaim.holds_of_wide 4 Try.f4 rfl rfl rfl rfl rfl rfl rfl ⟨rfl, rfl, rfl, rfl, rfl⟩ rfl rfl rfl rfl rfl (by kernel_rfl) Try.func4 (by kernel_rfl)
    (of_decide_eq_true (by kernel_rfl)) (by unfold Func.isWrapper; first | (rw [if_pos (by decide +kernel)]; kernel_rfl) | (rw [if_neg (by decide +kernel)]; exact ⟨rfl, rfl⟩))
    (fun os started H enc _ => lifted os started H enc)

theorem proved : Rows.FnExactMeetPatternsSaid := over
#print axioms proved
end Go.Proofs.Ytagabcnjpmpppaa.fnExactMeetPatterns
