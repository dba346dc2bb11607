/- The law FnExactFollowRequest answers true for every argument, and leaves each argument as it was. No condition. -/
import Derived.Deep.RegionHeld3
import Derived.Deep.DeepCutAuto
import Derived.Test.YtafekceggpbnlaaROutcome
import Derived.Test.YtafekceggpbnlaaTRequest
import Derived.Test.YtafekceggpbnlaaTRule
import Derived.Test.YtafekceggpbnlaaFolS
namespace Go.Proofs.Ytafekceggpbnlaa.fnExactFollowRequest
open Go Go.ChangeShapes Go.WideShapes Go.ChangeAt Go.RowKit Go.Lib
open Go.ChangeMaps (open_string)
set_option linter.unusedVariables false
set_option linter.unusedSimpArgs false
set_option maxRecDepth 100000

set_option maxRecDepth 100000 in
set_option maxHeartbeats 20000000 in
theorem walk (l0 : List TRule) (A0 : Option Addr) (n0 c0 : Nat) (a1 : TRequest) (w : World) (hm0 : n0 ≤ maxLen) (R0 : Rd w 0 w.heap.size 8 A0 n0 (cRule l0)) (H0 : Hid (cRuleOk l0)) (H1 : Hid (TRequest.fit a1)) :
    Calls Try.prog 3 #[.slice A0 n0 c0, .agg #[.int .i64 a1.f0, .int .i64 a1.f1, .int .i64 a1.f2]] w fun e w' => e = .returned (.bool true) ∧ Below w.heap.size w w' := by
  have hm0 : n0 ≤ 9223372036854775807 := hm0
  by_cases hz0 : n0 ≤ 1048576
  · skip
    have hl0 : ((mFol l0 a1).p).length ≤ 1073741823 := by (have := mFol_len l0 a1; omega)
    have hqn0 : n0 ≤ 17179869184 := by omega
    have G : Below w.heap.size w (w.alloc (.cells #[.int .i64 a1.f0, .int .i64 a1.f1, .int .i64 a1.f2] 26)) := (Below.refl _ _).alloc (by simp) _
    have S0 := Lib.hid (show (w.alloc (.cells #[.int .i64 a1.f0, .int .i64 a1.f1, .int .i64 a1.f2] 26)).heap.size = w.heap.size + 1 by simp)
    replace R0 := R0.alloc (.cells #[.int .i64 a1.f0, .int .i64 a1.f1, .int .i64 a1.f2] 26)
    have KB1 : BoxAt (w.alloc (.cells #[.int .i64 a1.f0, .int .i64 a1.f1, .int .i64 a1.f2] 26)) (w.heap.size) 26 #[.int .i64 a1.f0, .int .i64 a1.f1, .int .i64 a1.f2] := box_new _ _ _
    go_enter Try.func3, Try.ntmps3
    go_wp2_with fail
    refine Calls.mono (sz_rule A0 n0 c0 (1048576) _ hm0 (by omega) (by omega)) ?_
    rintro e w1 hq
    obtain ⟨rfl, B1⟩ := hq.says
    replace R0 := (R0).new B1
    replace KB1 := (KB1).new B1
    replace G := below_trans G B1 (Nat.le_refl _)
    have S1 := Lib.hid (show (w.alloc (.cells #[.int .i64 a1.f0, .int .i64 a1.f1, .int .i64 a1.f2] 26)).heap.size + 0 ≤ w1.heap.size by have := B1.size; first | (simpa using this) | ((try simp at this); omega))
    clear B1
    go_upto_region 5 with fail
    go_cut [6] (fun s6 wx => ∃ (gA : Nat) (P4_0_2 : Option Addr) (pc4_0_2 : Nat) (plo4_0_2 : Nat) (phi4_0_2 : Nat), s6 = .pointer (some ⟨gA, 0, none⟩) ∧ Hid (BoxAt wx gA 31 #[.int .i64 ((mFol l0 a1).c), .int .i64 ((mFol l0 a1).s).f0, .int .i64 ((mFol l0 a1).s).f1, .slice P4_0_2 (((mFol l0 a1).p).length) pc4_0_2]) ∧ Hid (Fr wx plo4_0_2 phi4_0_2 28 2 P4_0_2 (((mFol l0 a1).p).length) pc4_0_2 (cSite ((mFol l0 a1).p))) ∧ Hid (SepOutcome w1.heap.size wx.heap.size plo4_0_2 phi4_0_2) ∧ Hid (Below w1.heap.size w1 wx) ∧ w1.heap.size ≤ gA ∧ gA < wx.heap.size ∧ (gA < plo4_0_2 ∨ phi4_0_2 ≤ gA))
    case first =>
      refine wp_region_held_drew (S := fun w' => BoxAt w' w.heap.size 26 #[.int .i64 a1.f0, .int .i64 a1.f1, .int .i64 a1.f2] ∧ Below w1.heap.size w1 w') (by kernel_rfl) ?_ (fun hHeld => ?_)
      · exact ⟨KB1.drw, (Below.refl _ _).drew⟩
      generalize (World.drew _) = x0 at hHeld ⊢
      refine wpAnyH_take (i := 0) (oi := ⟨some 18, _, _, _, _, _⟩) (v := ?_) rfl (by kernel_rfl) (by kernel_rfl) (by kernel_rfl) (fun _ _ _ h => h) (Or.inl ⟨by kernel_rfl, ?_⟩) hHeld ?_
      rotate_left
      focus (intro W hS; have c0_0 := (hS.1).at_ (j := 0) rfl; have c0_1 := (hS.1).at_ (j := 1) rfl; have c0_2 := (hS.1).at_ (j := 2) rfl; clear hS; first | (go_simp; done) | (go_simp; with_reducible rfl))
      try simp only [Act.put, List.setIfInBounds_toArray, List.set_cons_zero, List.set_cons_succ]
      refine wpAnyH_take (i := 2) (oi := ⟨some 20, _, _, _, _, _⟩) (v := ?_) rfl (by kernel_rfl) (by kernel_rfl) (by kernel_rfl) (fun _ _ _ h => h) (Or.inl ⟨by kernel_rfl, ?_⟩) hHeld ?_
      rotate_left
      focus (intro W hS; have c0_0 := (hS.1).at_ (j := 0) rfl; have c0_1 := (hS.1).at_ (j := 1) rfl; have c0_2 := (hS.1).at_ (j := 2) rfl; clear hS; first | (go_simp; done) | (go_simp; with_reducible rfl))
      try simp only [Act.put, List.setIfInBounds_toArray, List.set_cons_zero, List.set_cons_succ]
      refine wpAnyH_ready (rs := [1, 5]) (by kernel_rfl) (by simp) ?_
      refine AllReadyH.cons (o := ⟨some 19, _, _, _, _, _⟩) rfl (fun K hK => ?_) ?_
      · skip
        go_simp
        have HS1 := hHeld.2.size
        refine Calls.mono (to_rule l0 A0 n0 c0 _ _ _ (Nat.le_trans hqn0 (by decide)) (R0.new hHeld.2)) ?_
        rintro e x1 ⟨T2, tc2, rfl, GFT2, hb1⟩
        have Z1 := hb1.size
        refine hK.out _ _ ⟨hHeld.1.new hb1, below_trans hHeld.2 hb1 (Nat.le_refl _)⟩ (fun hHeld' => ?_)
        clear hK K hHeld hb1
        have hHeld := hHeld'
        clear hHeld'
        try simp only [Act.put, List.setIfInBounds_toArray, List.set_cons_zero, List.set_cons_succ]
        refine wpAnyH_ready (rs := [3, 5]) (by kernel_rfl) (by simp) ?_
        refine AllReadyH.cons (o := ⟨some 21, _, _, _, _, _⟩) rfl (fun K hK => ?_) ?_
        · skip
          go_simp
          have HS3 := hHeld.2.size
          refine Calls.mono (to_request_one a1 _) ?_
          rintro e x2 ⟨rfl, hb1⟩
          have Z3 := hb1.size
          replace GFT2 := GFT2.new hb1
          refine hK.out _ _ ⟨hHeld.1.new hb1, below_trans hHeld.2 hb1 (Nat.le_refl _)⟩ (fun hHeld' => ?_)
          clear hK K hHeld hb1
          have hHeld := hHeld'
          clear hHeld'
          try simp only [Act.put, List.setIfInBounds_toArray, List.set_cons_zero, List.set_cons_succ]
          refine wpAnyH_ready (rs := [4, 5]) (by kernel_rfl) (by simp) ?_
          refine AllReadyH.cons (o := ⟨some 22, _, _, _, _, _⟩) rfl (fun K hK => ?_) ?_
          · skip
            go_simp
            have HS4 := hHeld.2.size
            refine Calls.mono (spec_FollowRequest l0 T2 n0 tc2 _ _ a1 _ (by omega) GFT2.rd H0 H1) ?_
            rintro e x3 ⟨P4_0_2, pc4_0_2, plo4_0_2, phi4_0_2, rfl, GFP4_0_2, MP4_0, hb1⟩
            have Z4 := hb1.size
            clear GFT2
            have QMP4_0 := SepOutcome_bd MP4_0.out
            refine hK.out _ _ ⟨hHeld.1.new hb1, below_trans hHeld.2 hb1 (Nat.le_refl _)⟩ (fun hHeld' => ?_)
            clear hK K hHeld hb1
            have hHeld := hHeld'
            clear hHeld'
            try simp only [Act.put, List.setIfInBounds_toArray, List.set_cons_zero, List.set_cons_succ]
            refine wpAnyH_ready (rs := [5]) (by kernel_rfl) (by simp) ?_
            refine AllReadyH.cons (o := ⟨some 6, _, _, _, _, _⟩) rfl (fun K hK => ?_) AllReadyH.nil
            go_simp
            have GA := box_new (x3) 31 #[.int .i64 0, .int .i64 0, .int .i64 0, .slice none 0 0]
            have hb1 := (Below.refl (x3).heap.size (x3)).alloc (Nat.le_refl _) (.cells #[.int .i64 0, .int .i64 0, .int .i64 0, .slice none 0 0] 31)
            have HSa := hHeld.2.size
            have MA0 := (hHeld.1).lt
            replace GFP4_0_2 := GFP4_0_2.new hb1
            generalize (x3).alloc (.cells #[.int .i64 0, .int .i64 0, .int .i64 0, .slice none 0 0] 31) = x4 at hb1 GA GFP4_0_2 ⊢
            have Za := hb1.size
            generalize hgA : (x3).heap.size = gA at GA ⊢
            refine hK.out _ _ ⟨hHeld.1.new hb1, below_trans hHeld.2 hb1 (Nat.le_refl _)⟩ (fun hHeld' => ?_)
            clear hK K hHeld hb1
            have hHeld := hHeld'
            clear hHeld'
            try simp only [Act.put, List.setIfInBounds_toArray, List.set_cons_zero, List.set_cons_succ]
            refine wpAnyH_ready (rs := [6]) (by kernel_rfl) (by simp) ?_
            refine AllReadyH.cons (o := ⟨none, _, _, _, _, _⟩) rfl (fun K hK => ?_) AllReadyH.nil
            rw [if_pos (by rfl)]
            refine wp_store_row 31 _ _ rfl gA #[.int .i64 ((mFol l0 a1).c), .int .i64 ((mFol l0 a1).s).f0, .int .i64 ((mFol l0 a1).s).f1, .slice P4_0_2 (((mFol l0 a1).p).length) pc4_0_2] rfl rfl 31 _ GA (by kernel_rfl) (by kernel_rfl) (by kernel_rfl) ?_
            replace GA := box_row (cs := #[.int .i64 ((mFol l0 a1).c), .int .i64 ((mFol l0 a1).s).f0, .int .i64 ((mFol l0 a1).s).f1, .slice P4_0_2 (((mFol l0 a1).p).length) pc4_0_2]) GA
            have hc1 := chg_row x4 gA #[.int .i64 ((mFol l0 a1).c), .int .i64 ((mFol l0 a1).s).f0, .int .i64 ((mFol l0 a1).s).f1, .slice P4_0_2 (((mFol l0 a1).p).length) pc4_0_2]
            have hHeld2 : BoxAt (World.setRow x4 gA #[.int .i64 ((mFol l0 a1).c), .int .i64 ((mFol l0 a1).s).f0, .int .i64 ((mFol l0 a1).s).f1, .slice P4_0_2 (((mFol l0 a1).p).length) pc4_0_2]) w.heap.size 26 #[.int .i64 a1.f0, .int .i64 a1.f1, .int .i64 a1.f2] ∧ Below w1.heap.size w1 (World.setRow x4 gA #[.int .i64 ((mFol l0 a1).c), .int .i64 ((mFol l0 a1).s).f0, .int .i64 ((mFol l0 a1).s).f1, .slice P4_0_2 (((mFol l0 a1).p).length) pc4_0_2]) := ⟨hHeld.1.chg hc1 (by omega), below_setRow hHeld.2 (by omega) _⟩
            replace GFP4_0_2 := GFP4_0_2.chg hc1 (by omega)
            clear hc1
            have Z5 : (x4).heap.size ≤ (World.setRow x4 gA #[.int .i64 ((mFol l0 a1).c), .int .i64 ((mFol l0 a1).s).f0, .int .i64 ((mFol l0 a1).s).f1, .slice P4_0_2 (((mFol l0 a1).p).length) pc4_0_2]).heap.size := by simp
            generalize World.setRow x4 gA #[.int .i64 ((mFol l0 a1).c), .int .i64 ((mFol l0 a1).s).f0, .int .i64 ((mFol l0 a1).s).f1, .slice P4_0_2 (((mFol l0 a1).p).length) pc4_0_2] = x5 at hHeld2 GA GFP4_0_2 Z5 ⊢
            refine hK.out _ _ hHeld2 (fun hHeld' => ?_)
            clear hHeld2
            clear hK K hHeld
            have hHeld := hHeld'
            clear hHeld'
            try simp only [Act.put, List.setIfInBounds_toArray, List.set_cons_zero, List.set_cons_succ]
            refine wpAnyH_done (by kernel_rfl) ?_ _
            go_wp2_with fail
            have hSz := hHeld.2.size
            go_meet
            exact ⟨gA, P4_0_2, pc4_0_2, plo4_0_2, phi4_0_2, rfl, Lib.hid GA, Lib.hid GFP4_0_2, Lib.hid (by unfold SepOutcome; omega), Lib.hid hHeld.2, by omega, GA.lt, by omega⟩
          refine AllReadyH.cons (o := ⟨some 6, _, _, _, _, _⟩) rfl (fun K hK => ?_) ?_
          · skip
            go_simp
            have GA := box_new (x2) 31 #[.int .i64 0, .int .i64 0, .int .i64 0, .slice none 0 0]
            have hb1 := (Below.refl (x2).heap.size (x2)).alloc (Nat.le_refl _) (.cells #[.int .i64 0, .int .i64 0, .int .i64 0, .slice none 0 0] 31)
            have HSa := hHeld.2.size
            have MA0 := (hHeld.1).lt
            replace GFT2 := GFT2.new hb1
            generalize (x2).alloc (.cells #[.int .i64 0, .int .i64 0, .int .i64 0, .slice none 0 0] 31) = x3 at hb1 GA GFT2 ⊢
            have Za := hb1.size
            generalize hgA : (x2).heap.size = gA at GA ⊢
            refine hK.out _ _ ⟨hHeld.1.new hb1, below_trans hHeld.2 hb1 (Nat.le_refl _)⟩ (fun hHeld' => ?_)
            clear hK K hHeld hb1
            have hHeld := hHeld'
            clear hHeld'
            try simp only [Act.put, List.setIfInBounds_toArray, List.set_cons_zero, List.set_cons_succ]
            refine wpAnyH_ready (rs := [4]) (by kernel_rfl) (by simp) ?_
            refine AllReadyH.cons (o := ⟨some 22, _, _, _, _, _⟩) rfl (fun K hK => ?_) AllReadyH.nil
            go_simp
            have P4 := GA.lt
            have HS4 := hHeld.2.size
            refine Calls.mono (spec_FollowRequest l0 T2 n0 tc2 _ _ a1 _ (by omega) GFT2.rd H0 H1) ?_
            rintro e x4 ⟨P4_0_2, pc4_0_2, plo4_0_2, phi4_0_2, rfl, GFP4_0_2, MP4_0, hb1⟩
            have Z4 := hb1.size
            clear GFT2
            have QMP4_0 := SepOutcome_bd MP4_0.out
            replace GA := GA.new hb1
            refine hK.out _ _ ⟨hHeld.1.new hb1, below_trans hHeld.2 hb1 (Nat.le_refl _)⟩ (fun hHeld' => ?_)
            clear hK K hHeld hb1
            have hHeld := hHeld'
            clear hHeld'
            try simp only [Act.put, List.setIfInBounds_toArray, List.set_cons_zero, List.set_cons_succ]
            refine wpAnyH_ready (rs := [6]) (by kernel_rfl) (by simp) ?_
            refine AllReadyH.cons (o := ⟨none, _, _, _, _, _⟩) rfl (fun K hK => ?_) AllReadyH.nil
            rw [if_pos (by rfl)]
            refine wp_store_row 31 _ _ rfl gA #[.int .i64 ((mFol l0 a1).c), .int .i64 ((mFol l0 a1).s).f0, .int .i64 ((mFol l0 a1).s).f1, .slice P4_0_2 (((mFol l0 a1).p).length) pc4_0_2] rfl rfl 31 _ GA (by kernel_rfl) (by kernel_rfl) (by kernel_rfl) ?_
            replace GA := box_row (cs := #[.int .i64 ((mFol l0 a1).c), .int .i64 ((mFol l0 a1).s).f0, .int .i64 ((mFol l0 a1).s).f1, .slice P4_0_2 (((mFol l0 a1).p).length) pc4_0_2]) GA
            have hc1 := chg_row x4 gA #[.int .i64 ((mFol l0 a1).c), .int .i64 ((mFol l0 a1).s).f0, .int .i64 ((mFol l0 a1).s).f1, .slice P4_0_2 (((mFol l0 a1).p).length) pc4_0_2]
            have hHeld2 : BoxAt (World.setRow x4 gA #[.int .i64 ((mFol l0 a1).c), .int .i64 ((mFol l0 a1).s).f0, .int .i64 ((mFol l0 a1).s).f1, .slice P4_0_2 (((mFol l0 a1).p).length) pc4_0_2]) w.heap.size 26 #[.int .i64 a1.f0, .int .i64 a1.f1, .int .i64 a1.f2] ∧ Below w1.heap.size w1 (World.setRow x4 gA #[.int .i64 ((mFol l0 a1).c), .int .i64 ((mFol l0 a1).s).f0, .int .i64 ((mFol l0 a1).s).f1, .slice P4_0_2 (((mFol l0 a1).p).length) pc4_0_2]) := ⟨hHeld.1.chg hc1 (by omega), below_setRow hHeld.2 (by omega) _⟩
            replace GFP4_0_2 := GFP4_0_2.chg hc1 (by omega)
            clear hc1
            have Z5 : (x4).heap.size ≤ (World.setRow x4 gA #[.int .i64 ((mFol l0 a1).c), .int .i64 ((mFol l0 a1).s).f0, .int .i64 ((mFol l0 a1).s).f1, .slice P4_0_2 (((mFol l0 a1).p).length) pc4_0_2]).heap.size := by simp
            generalize World.setRow x4 gA #[.int .i64 ((mFol l0 a1).c), .int .i64 ((mFol l0 a1).s).f0, .int .i64 ((mFol l0 a1).s).f1, .slice P4_0_2 (((mFol l0 a1).p).length) pc4_0_2] = x5 at hHeld2 GA GFP4_0_2 Z5 ⊢
            refine hK.out _ _ hHeld2 (fun hHeld' => ?_)
            clear hHeld2
            clear hK K hHeld
            have hHeld := hHeld'
            clear hHeld'
            try simp only [Act.put, List.setIfInBounds_toArray, List.set_cons_zero, List.set_cons_succ]
            refine wpAnyH_done (by kernel_rfl) ?_ _
            go_wp2_with fail
            have hSz := hHeld.2.size
            go_meet
            exact ⟨gA, P4_0_2, pc4_0_2, plo4_0_2, phi4_0_2, rfl, Lib.hid GA, Lib.hid GFP4_0_2, Lib.hid (by unfold SepOutcome; omega), Lib.hid hHeld.2, by omega, GA.lt, by omega⟩
          exact AllReadyH.nil
        refine AllReadyH.cons (o := ⟨some 6, _, _, _, _, _⟩) rfl (fun K hK => ?_) ?_
        · skip
          go_simp
          have GA := box_new (x1) 31 #[.int .i64 0, .int .i64 0, .int .i64 0, .slice none 0 0]
          have hb1 := (Below.refl (x1).heap.size (x1)).alloc (Nat.le_refl _) (.cells #[.int .i64 0, .int .i64 0, .int .i64 0, .slice none 0 0] 31)
          have HSa := hHeld.2.size
          have MA0 := (hHeld.1).lt
          replace GFT2 := GFT2.new hb1
          generalize (x1).alloc (.cells #[.int .i64 0, .int .i64 0, .int .i64 0, .slice none 0 0] 31) = x2 at hb1 GA GFT2 ⊢
          have Za := hb1.size
          generalize hgA : (x1).heap.size = gA at GA ⊢
          refine hK.out _ _ ⟨hHeld.1.new hb1, below_trans hHeld.2 hb1 (Nat.le_refl _)⟩ (fun hHeld' => ?_)
          clear hK K hHeld hb1
          have hHeld := hHeld'
          clear hHeld'
          try simp only [Act.put, List.setIfInBounds_toArray, List.set_cons_zero, List.set_cons_succ]
          refine wpAnyH_ready (rs := [3]) (by kernel_rfl) (by simp) ?_
          refine AllReadyH.cons (o := ⟨some 21, _, _, _, _, _⟩) rfl (fun K hK => ?_) AllReadyH.nil
          go_simp
          have P3 := GA.lt
          have HS3 := hHeld.2.size
          refine Calls.mono (to_request_one a1 _) ?_
          rintro e x3 ⟨rfl, hb1⟩
          have Z3 := hb1.size
          replace GA := GA.new hb1
          replace GFT2 := GFT2.new hb1
          refine hK.out _ _ ⟨hHeld.1.new hb1, below_trans hHeld.2 hb1 (Nat.le_refl _)⟩ (fun hHeld' => ?_)
          clear hK K hHeld hb1
          have hHeld := hHeld'
          clear hHeld'
          try simp only [Act.put, List.setIfInBounds_toArray, List.set_cons_zero, List.set_cons_succ]
          refine wpAnyH_ready (rs := [4]) (by kernel_rfl) (by simp) ?_
          refine AllReadyH.cons (o := ⟨some 22, _, _, _, _, _⟩) rfl (fun K hK => ?_) AllReadyH.nil
          go_simp
          have P4 := GA.lt
          have HS4 := hHeld.2.size
          refine Calls.mono (spec_FollowRequest l0 T2 n0 tc2 _ _ a1 _ (by omega) GFT2.rd H0 H1) ?_
          rintro e x4 ⟨P4_0_2, pc4_0_2, plo4_0_2, phi4_0_2, rfl, GFP4_0_2, MP4_0, hb1⟩
          have Z4 := hb1.size
          clear GFT2
          have QMP4_0 := SepOutcome_bd MP4_0.out
          replace GA := GA.new hb1
          refine hK.out _ _ ⟨hHeld.1.new hb1, below_trans hHeld.2 hb1 (Nat.le_refl _)⟩ (fun hHeld' => ?_)
          clear hK K hHeld hb1
          have hHeld := hHeld'
          clear hHeld'
          try simp only [Act.put, List.setIfInBounds_toArray, List.set_cons_zero, List.set_cons_succ]
          refine wpAnyH_ready (rs := [6]) (by kernel_rfl) (by simp) ?_
          refine AllReadyH.cons (o := ⟨none, _, _, _, _, _⟩) rfl (fun K hK => ?_) AllReadyH.nil
          rw [if_pos (by rfl)]
          refine wp_store_row 31 _ _ rfl gA #[.int .i64 ((mFol l0 a1).c), .int .i64 ((mFol l0 a1).s).f0, .int .i64 ((mFol l0 a1).s).f1, .slice P4_0_2 (((mFol l0 a1).p).length) pc4_0_2] rfl rfl 31 _ GA (by kernel_rfl) (by kernel_rfl) (by kernel_rfl) ?_
          replace GA := box_row (cs := #[.int .i64 ((mFol l0 a1).c), .int .i64 ((mFol l0 a1).s).f0, .int .i64 ((mFol l0 a1).s).f1, .slice P4_0_2 (((mFol l0 a1).p).length) pc4_0_2]) GA
          have hc1 := chg_row x4 gA #[.int .i64 ((mFol l0 a1).c), .int .i64 ((mFol l0 a1).s).f0, .int .i64 ((mFol l0 a1).s).f1, .slice P4_0_2 (((mFol l0 a1).p).length) pc4_0_2]
          have hHeld2 : BoxAt (World.setRow x4 gA #[.int .i64 ((mFol l0 a1).c), .int .i64 ((mFol l0 a1).s).f0, .int .i64 ((mFol l0 a1).s).f1, .slice P4_0_2 (((mFol l0 a1).p).length) pc4_0_2]) w.heap.size 26 #[.int .i64 a1.f0, .int .i64 a1.f1, .int .i64 a1.f2] ∧ Below w1.heap.size w1 (World.setRow x4 gA #[.int .i64 ((mFol l0 a1).c), .int .i64 ((mFol l0 a1).s).f0, .int .i64 ((mFol l0 a1).s).f1, .slice P4_0_2 (((mFol l0 a1).p).length) pc4_0_2]) := ⟨hHeld.1.chg hc1 (by omega), below_setRow hHeld.2 (by omega) _⟩
          replace GFP4_0_2 := GFP4_0_2.chg hc1 (by omega)
          clear hc1
          have Z5 : (x4).heap.size ≤ (World.setRow x4 gA #[.int .i64 ((mFol l0 a1).c), .int .i64 ((mFol l0 a1).s).f0, .int .i64 ((mFol l0 a1).s).f1, .slice P4_0_2 (((mFol l0 a1).p).length) pc4_0_2]).heap.size := by simp
          generalize World.setRow x4 gA #[.int .i64 ((mFol l0 a1).c), .int .i64 ((mFol l0 a1).s).f0, .int .i64 ((mFol l0 a1).s).f1, .slice P4_0_2 (((mFol l0 a1).p).length) pc4_0_2] = x5 at hHeld2 GA GFP4_0_2 Z5 ⊢
          refine hK.out _ _ hHeld2 (fun hHeld' => ?_)
          clear hHeld2
          clear hK K hHeld
          have hHeld := hHeld'
          clear hHeld'
          try simp only [Act.put, List.setIfInBounds_toArray, List.set_cons_zero, List.set_cons_succ]
          refine wpAnyH_done (by kernel_rfl) ?_ _
          go_wp2_with fail
          have hSz := hHeld.2.size
          go_meet
          exact ⟨gA, P4_0_2, pc4_0_2, plo4_0_2, phi4_0_2, rfl, Lib.hid GA, Lib.hid GFP4_0_2, Lib.hid (by unfold SepOutcome; omega), Lib.hid hHeld.2, by omega, GA.lt, by omega⟩
        exact AllReadyH.nil
      refine AllReadyH.cons (o := ⟨some 6, _, _, _, _, _⟩) rfl (fun K hK => ?_) ?_
      · skip
        go_simp
        have GA := box_new (x0) 31 #[.int .i64 0, .int .i64 0, .int .i64 0, .slice none 0 0]
        have hb1 := (Below.refl (x0).heap.size (x0)).alloc (Nat.le_refl _) (.cells #[.int .i64 0, .int .i64 0, .int .i64 0, .slice none 0 0] 31)
        have HSa := hHeld.2.size
        have MA0 := (hHeld.1).lt
        generalize (x0).alloc (.cells #[.int .i64 0, .int .i64 0, .int .i64 0, .slice none 0 0] 31) = x1 at hb1 GA  ⊢
        have Za := hb1.size
        generalize hgA : (x0).heap.size = gA at GA ⊢
        refine hK.out _ _ ⟨hHeld.1.new hb1, below_trans hHeld.2 hb1 (Nat.le_refl _)⟩ (fun hHeld' => ?_)
        clear hK K hHeld hb1
        have hHeld := hHeld'
        clear hHeld'
        try simp only [Act.put, List.setIfInBounds_toArray, List.set_cons_zero, List.set_cons_succ]
        refine wpAnyH_ready (rs := [1]) (by kernel_rfl) (by simp) ?_
        refine AllReadyH.cons (o := ⟨some 19, _, _, _, _, _⟩) rfl (fun K hK => ?_) AllReadyH.nil
        go_simp
        have P1 := GA.lt
        have HS1 := hHeld.2.size
        refine Calls.mono (to_rule l0 A0 n0 c0 _ _ _ (Nat.le_trans hqn0 (by decide)) (R0.new hHeld.2)) ?_
        rintro e x2 ⟨T2, tc2, rfl, GFT2, hb1⟩
        have Z1 := hb1.size
        replace GA := GA.new hb1
        refine hK.out _ _ ⟨hHeld.1.new hb1, below_trans hHeld.2 hb1 (Nat.le_refl _)⟩ (fun hHeld' => ?_)
        clear hK K hHeld hb1
        have hHeld := hHeld'
        clear hHeld'
        try simp only [Act.put, List.setIfInBounds_toArray, List.set_cons_zero, List.set_cons_succ]
        refine wpAnyH_ready (rs := [3]) (by kernel_rfl) (by simp) ?_
        refine AllReadyH.cons (o := ⟨some 21, _, _, _, _, _⟩) rfl (fun K hK => ?_) AllReadyH.nil
        go_simp
        have P3 := GA.lt
        have HS3 := hHeld.2.size
        refine Calls.mono (to_request_one a1 _) ?_
        rintro e x3 ⟨rfl, hb1⟩
        have Z3 := hb1.size
        replace GA := GA.new hb1
        replace GFT2 := GFT2.new hb1
        refine hK.out _ _ ⟨hHeld.1.new hb1, below_trans hHeld.2 hb1 (Nat.le_refl _)⟩ (fun hHeld' => ?_)
        clear hK K hHeld hb1
        have hHeld := hHeld'
        clear hHeld'
        try simp only [Act.put, List.setIfInBounds_toArray, List.set_cons_zero, List.set_cons_succ]
        refine wpAnyH_ready (rs := [4]) (by kernel_rfl) (by simp) ?_
        refine AllReadyH.cons (o := ⟨some 22, _, _, _, _, _⟩) rfl (fun K hK => ?_) AllReadyH.nil
        go_simp
        have P4 := GA.lt
        have HS4 := hHeld.2.size
        refine Calls.mono (spec_FollowRequest l0 T2 n0 tc2 _ _ a1 _ (by omega) GFT2.rd H0 H1) ?_
        rintro e x4 ⟨P4_0_2, pc4_0_2, plo4_0_2, phi4_0_2, rfl, GFP4_0_2, MP4_0, hb1⟩
        have Z4 := hb1.size
        clear GFT2
        have QMP4_0 := SepOutcome_bd MP4_0.out
        replace GA := GA.new hb1
        refine hK.out _ _ ⟨hHeld.1.new hb1, below_trans hHeld.2 hb1 (Nat.le_refl _)⟩ (fun hHeld' => ?_)
        clear hK K hHeld hb1
        have hHeld := hHeld'
        clear hHeld'
        try simp only [Act.put, List.setIfInBounds_toArray, List.set_cons_zero, List.set_cons_succ]
        refine wpAnyH_ready (rs := [6]) (by kernel_rfl) (by simp) ?_
        refine AllReadyH.cons (o := ⟨none, _, _, _, _, _⟩) rfl (fun K hK => ?_) AllReadyH.nil
        rw [if_pos (by rfl)]
        refine wp_store_row 31 _ _ rfl gA #[.int .i64 ((mFol l0 a1).c), .int .i64 ((mFol l0 a1).s).f0, .int .i64 ((mFol l0 a1).s).f1, .slice P4_0_2 (((mFol l0 a1).p).length) pc4_0_2] rfl rfl 31 _ GA (by kernel_rfl) (by kernel_rfl) (by kernel_rfl) ?_
        replace GA := box_row (cs := #[.int .i64 ((mFol l0 a1).c), .int .i64 ((mFol l0 a1).s).f0, .int .i64 ((mFol l0 a1).s).f1, .slice P4_0_2 (((mFol l0 a1).p).length) pc4_0_2]) GA
        have hc1 := chg_row x4 gA #[.int .i64 ((mFol l0 a1).c), .int .i64 ((mFol l0 a1).s).f0, .int .i64 ((mFol l0 a1).s).f1, .slice P4_0_2 (((mFol l0 a1).p).length) pc4_0_2]
        have hHeld2 : BoxAt (World.setRow x4 gA #[.int .i64 ((mFol l0 a1).c), .int .i64 ((mFol l0 a1).s).f0, .int .i64 ((mFol l0 a1).s).f1, .slice P4_0_2 (((mFol l0 a1).p).length) pc4_0_2]) w.heap.size 26 #[.int .i64 a1.f0, .int .i64 a1.f1, .int .i64 a1.f2] ∧ Below w1.heap.size w1 (World.setRow x4 gA #[.int .i64 ((mFol l0 a1).c), .int .i64 ((mFol l0 a1).s).f0, .int .i64 ((mFol l0 a1).s).f1, .slice P4_0_2 (((mFol l0 a1).p).length) pc4_0_2]) := ⟨hHeld.1.chg hc1 (by omega), below_setRow hHeld.2 (by omega) _⟩
        replace GFP4_0_2 := GFP4_0_2.chg hc1 (by omega)
        clear hc1
        have Z5 : (x4).heap.size ≤ (World.setRow x4 gA #[.int .i64 ((mFol l0 a1).c), .int .i64 ((mFol l0 a1).s).f0, .int .i64 ((mFol l0 a1).s).f1, .slice P4_0_2 (((mFol l0 a1).p).length) pc4_0_2]).heap.size := by simp
        generalize World.setRow x4 gA #[.int .i64 ((mFol l0 a1).c), .int .i64 ((mFol l0 a1).s).f0, .int .i64 ((mFol l0 a1).s).f1, .slice P4_0_2 (((mFol l0 a1).p).length) pc4_0_2] = x5 at hHeld2 GA GFP4_0_2 Z5 ⊢
        refine hK.out _ _ hHeld2 (fun hHeld' => ?_)
        clear hHeld2
        clear hK K hHeld
        have hHeld := hHeld'
        clear hHeld'
        try simp only [Act.put, List.setIfInBounds_toArray, List.set_cons_zero, List.set_cons_succ]
        refine wpAnyH_done (by kernel_rfl) ?_ _
        go_wp2_with fail
        have hSz := hHeld.2.size
        go_meet
        exact ⟨gA, P4_0_2, pc4_0_2, plo4_0_2, phi4_0_2, rfl, Lib.hid GA, Lib.hid GFP4_0_2, Lib.hid (by unfold SepOutcome; omega), Lib.hid hHeld.2, by omega, GA.lt, by omega⟩
      exact AllReadyH.nil
    case rest =>
      obtain ⟨g5, P4_0_2, pc4_0_2, plo4_0_2, phi4_0_2, rfl, KX5, FP4_0_2, MP4_0, B5, LA5, MA5, NA5_0⟩ := hcut
      rename World => w2
      replace B5 := B5.out
      replace KX5 := KX5.out
      replace FP4_0_2 := FP4_0_2.out
      replace R0 := rd_nw B5 R0
      replace KB1 := box_nw B5 KB1
      replace G := (by first | exact below_trans G B5 (Nat.le_refl _) | exact below_trans G.drew B5 (Nat.le_refl _) | exact below_trans (below_dN G _) B5 (Nat.le_refl _))
      have S2 := Lib.hid (show w1.heap.size ≤ w2.heap.size from B5.size)
      clear B5
      go_wp2_with fail
      refine Calls.mono (to_rule l0 A0 n0 c0 _ _ _ (Nat.le_trans hqn0 (by decide)) R0) ?_
      rintro e w3 ⟨T6, tc6, rfl, FT6, B6⟩
      replace R0 := (R0).new B6
      replace KB1 := (KB1).new B6
      replace FP4_0_2 := (FP4_0_2).new B6
      replace KX5 := (KX5).new B6
      replace G := below_trans G B6 (Nat.le_refl _)
      have S3 := Lib.hid (show w2.heap.size + 0 ≤ w3.heap.size by have := B6.size; first | (simpa using this) | ((try simp at this); omega))
      clear B6
      have xKB1_0 : w3.cell? ⟨w.heap.size, 0, none⟩ = some (.int .i64 a1.f0) := KB1.at_ rfl
      have xKB1_1 : w3.cell? ⟨w.heap.size, 1, none⟩ = some (.int .i64 a1.f1) := KB1.at_ rfl
      have xKB1_2 : w3.cell? ⟨w.heap.size, 2, none⟩ = some (.int .i64 a1.f2) := KB1.at_ rfl
      go_wp2_with fail
      refine Calls.mono (to_request_one a1 _) ?_
      rintro e w4 ⟨rfl, B7⟩
      replace R0 := (R0).new B7
      replace KB1 := (KB1).new B7
      replace FP4_0_2 := (FP4_0_2).new B7
      replace KX5 := (KX5).new B7
      replace FT6 := (FT6).new B7
      replace G := below_trans G B7 (Nat.le_refl _)
      have S4 := Lib.hid (show w3.heap.size + 0 ≤ w4.heap.size by have := B7.size; first | (simpa using this) | ((try simp at this); omega))
      clear B7
      clear xKB1_0 xKB1_1 xKB1_2
      go_wp2_with fail
      refine Calls.mono (impl_FollowRequest l0 T6 n0 tc6 _ _ a1 _ (by omega) FT6.rd H0 H1) ?_
      rintro e w5 ⟨P8_0_2, pc8_0_2, plo8_0_2, phi8_0_2, rfl, FP8_0_2, MP8_0, B8⟩
      replace R0 := (R0).new B8
      replace KB1 := (KB1).new B8
      replace FP4_0_2 := (FP4_0_2).new B8
      replace KX5 := (KX5).new B8
      replace FT6 := (FT6).new B8
      replace G := below_trans G B8 (Nat.le_refl _)
      have S5 := Lib.hid (show w4.heap.size + 0 ≤ w5.heap.size by have := B8.size; first | (simpa using this) | ((try simp at this); omega))
      clear B8
      have SA10 := Lib.hid (show (w5.alloc (.cells #[.int .i64 ((mFol l0 a1).c), .int .i64 ((mFol l0 a1).s).f0, .int .i64 ((mFol l0 a1).s).f1, .slice P8_0_2 (((mFol l0 a1).p).length) pc8_0_2] 31)).heap.size = w5.heap.size + 1 by simp)
      replace R0 := R0.alloc (.cells #[.int .i64 ((mFol l0 a1).c), .int .i64 ((mFol l0 a1).s).f0, .int .i64 ((mFol l0 a1).s).f1, .slice P8_0_2 (((mFol l0 a1).p).length) pc8_0_2] 31)
      replace KB1 := KB1.alloc_ (.cells #[.int .i64 ((mFol l0 a1).c), .int .i64 ((mFol l0 a1).s).f0, .int .i64 ((mFol l0 a1).s).f1, .slice P8_0_2 (((mFol l0 a1).p).length) pc8_0_2] 31)
      replace FP4_0_2 := FP4_0_2.alloc (.cells #[.int .i64 ((mFol l0 a1).c), .int .i64 ((mFol l0 a1).s).f0, .int .i64 ((mFol l0 a1).s).f1, .slice P8_0_2 (((mFol l0 a1).p).length) pc8_0_2] 31)
      replace KX5 := KX5.alloc_ (.cells #[.int .i64 ((mFol l0 a1).c), .int .i64 ((mFol l0 a1).s).f0, .int .i64 ((mFol l0 a1).s).f1, .slice P8_0_2 (((mFol l0 a1).p).length) pc8_0_2] 31)
      replace FT6 := FT6.alloc (.cells #[.int .i64 ((mFol l0 a1).c), .int .i64 ((mFol l0 a1).s).f0, .int .i64 ((mFol l0 a1).s).f1, .slice P8_0_2 (((mFol l0 a1).p).length) pc8_0_2] 31)
      replace FP8_0_2 := FP8_0_2.alloc (.cells #[.int .i64 ((mFol l0 a1).c), .int .i64 ((mFol l0 a1).s).f0, .int .i64 ((mFol l0 a1).s).f1, .slice P8_0_2 (((mFol l0 a1).p).length) pc8_0_2] 31)
      have KX9 : BoxAt (w5.alloc (.cells #[.int .i64 ((mFol l0 a1).c), .int .i64 ((mFol l0 a1).s).f0, .int .i64 ((mFol l0 a1).s).f1, .slice P8_0_2 (((mFol l0 a1).p).length) pc8_0_2] 31)) (w5.heap.size) 31 #[.int .i64 ((mFol l0 a1).c), .int .i64 ((mFol l0 a1).s).f0, .int .i64 ((mFol l0 a1).s).f1, .slice P8_0_2 (((mFol l0 a1).p).length) pc8_0_2] := box_new _ _ _
      replace G := G.alloc (by have := S0.out; have := S1.out; have := S2.out; have := S3.out; have := S4.out; have := S5.out; have := SA10.out; have := SepOutcome_bd MP4_0.out; have := SepOutcome_bd MP8_0.out; first | omega | (simp; omega)) (.cells #[.int .i64 ((mFol l0 a1).c), .int .i64 ((mFol l0 a1).s).f0, .int .i64 ((mFol l0 a1).s).f1, .slice P8_0_2 (((mFol l0 a1).p).length) pc8_0_2] 31)
      have xKX9_0 : (w5.alloc (.cells #[.int .i64 ((mFol l0 a1).c), .int .i64 ((mFol l0 a1).s).f0, .int .i64 ((mFol l0 a1).s).f1, .slice P8_0_2 (((mFol l0 a1).p).length) pc8_0_2] 31)).cell? ⟨w5.heap.size, 0, none⟩ = some (.int .i64 ((mFol l0 a1).c)) := KX9.at_ rfl
      have xKX9_1 : (w5.alloc (.cells #[.int .i64 ((mFol l0 a1).c), .int .i64 ((mFol l0 a1).s).f0, .int .i64 ((mFol l0 a1).s).f1, .slice P8_0_2 (((mFol l0 a1).p).length) pc8_0_2] 31)).cell? ⟨w5.heap.size, 1, none⟩ = some (.int .i64 ((mFol l0 a1).s).f0) := KX9.at_ rfl
      have xKX9_2 : (w5.alloc (.cells #[.int .i64 ((mFol l0 a1).c), .int .i64 ((mFol l0 a1).s).f0, .int .i64 ((mFol l0 a1).s).f1, .slice P8_0_2 (((mFol l0 a1).p).length) pc8_0_2] 31)).cell? ⟨w5.heap.size, 2, none⟩ = some (.int .i64 ((mFol l0 a1).s).f1) := KX9.at_ rfl
      have xKX9_3 : (w5.alloc (.cells #[.int .i64 ((mFol l0 a1).c), .int .i64 ((mFol l0 a1).s).f0, .int .i64 ((mFol l0 a1).s).f1, .slice P8_0_2 (((mFol l0 a1).p).length) pc8_0_2] 31)).cell? ⟨w5.heap.size, 3, none⟩ = some (.slice P8_0_2 (((mFol l0 a1).p).length) pc8_0_2) := KX9.at_ rfl
      have xKX5_0 : (w5.alloc (.cells #[.int .i64 ((mFol l0 a1).c), .int .i64 ((mFol l0 a1).s).f0, .int .i64 ((mFol l0 a1).s).f1, .slice P8_0_2 (((mFol l0 a1).p).length) pc8_0_2] 31)).cell? ⟨g5, 0, none⟩ = some (.int .i64 ((mFol l0 a1).c)) := KX5.at_ rfl
      have xKX5_1 : (w5.alloc (.cells #[.int .i64 ((mFol l0 a1).c), .int .i64 ((mFol l0 a1).s).f0, .int .i64 ((mFol l0 a1).s).f1, .slice P8_0_2 (((mFol l0 a1).p).length) pc8_0_2] 31)).cell? ⟨g5, 1, none⟩ = some (.int .i64 ((mFol l0 a1).s).f0) := KX5.at_ rfl
      have xKX5_2 : (w5.alloc (.cells #[.int .i64 ((mFol l0 a1).c), .int .i64 ((mFol l0 a1).s).f0, .int .i64 ((mFol l0 a1).s).f1, .slice P8_0_2 (((mFol l0 a1).p).length) pc8_0_2] 31)).cell? ⟨g5, 2, none⟩ = some (.int .i64 ((mFol l0 a1).s).f1) := KX5.at_ rfl
      have xKX5_3 : (w5.alloc (.cells #[.int .i64 ((mFol l0 a1).c), .int .i64 ((mFol l0 a1).s).f0, .int .i64 ((mFol l0 a1).s).f1, .slice P8_0_2 (((mFol l0 a1).p).length) pc8_0_2] 31)).cell? ⟨g5, 3, none⟩ = some (.slice P4_0_2 (((mFol l0 a1).p).length) pc4_0_2) := KX5.at_ rfl
      go_wp2_with fail
      refine Calls.mono (eq_outcome_same ((mFol l0 a1).c) ((mFol l0 a1).s) ((mFol l0 a1).p) (((mFol l0 a1).p).length) P8_0_2 P4_0_2 pc8_0_2 pc4_0_2 _ _ _ _ _ (by omega) FP8_0_2.rd FP4_0_2.rd) ?_
      rintro e w6 ⟨rfl, B11⟩
      replace R0 := (R0).new B11
      replace KB1 := (KB1).new B11
      replace FP4_0_2 := (FP4_0_2).new B11
      replace KX5 := (KX5).new B11
      replace FT6 := (FT6).new B11
      replace FP8_0_2 := (FP8_0_2).new B11
      replace KX9 := (KX9).new B11
      replace G := below_trans G B11 (Nat.le_refl _)
      have S6 := Lib.hid (show (w5.alloc (.cells #[.int .i64 ((mFol l0 a1).c), .int .i64 ((mFol l0 a1).s).f0, .int .i64 ((mFol l0 a1).s).f1, .slice P8_0_2 (((mFol l0 a1).p).length) pc8_0_2] 31)).heap.size + 0 ≤ w6.heap.size by have := B11.size; first | (simpa using this) | ((try simp at this); omega))
      clear B11
      clear xKX9_0 xKX9_1 xKX9_2 xKX9_3 xKX5_0 xKX5_1 xKX5_2 xKX5_3
      go_wp2_with fail
      refine Calls.mono (to_rule l0 A0 n0 c0 _ _ _ (Nat.le_trans hqn0 (by decide)) R0) ?_
      rintro e w7 ⟨T12, tc12, rfl, FT12, B12⟩
      replace R0 := (R0).new B12
      replace KB1 := (KB1).new B12
      replace FP4_0_2 := (FP4_0_2).new B12
      replace KX5 := (KX5).new B12
      replace FT6 := (FT6).new B12
      replace FP8_0_2 := (FP8_0_2).new B12
      replace KX9 := (KX9).new B12
      replace G := below_trans G B12 (Nat.le_refl _)
      have S7 := Lib.hid (show w6.heap.size + 0 ≤ w7.heap.size by have := B12.size; first | (simpa using this) | ((try simp at this); omega))
      clear B12
      go_wp2_with fail
      refine Calls.mono (eq_rule_same l0 T6 T12 n0 n0 tc6 tc12 _ _ _ _ _ (by omega) (by omega) FT6.rd FT12.rd) ?_
      rintro e w8 ⟨rfl, B13⟩
      replace R0 := (R0).new B13
      replace KB1 := (KB1).new B13
      replace FP4_0_2 := (FP4_0_2).new B13
      replace KX5 := (KX5).new B13
      replace FT6 := (FT6).new B13
      replace FP8_0_2 := (FP8_0_2).new B13
      replace KX9 := (KX9).new B13
      replace FT12 := (FT12).new B13
      replace G := below_trans G B13 (Nat.le_refl _)
      have S8 := Lib.hid (show w7.heap.size + 0 ≤ w8.heap.size by have := B13.size; first | (simpa using this) | ((try simp at this); omega))
      clear B13
      clear FT12
      go_wp2_with fail
      refine Calls.mono (mark_rule _ T6 n0 tc6 _ _ (1) _ (by omega) (by omega) FT6) ?_
      rintro e w9 ⟨rfl, FM14, B14, E14⟩
      replace R0 := (R0).chg B14 (by have := S0.out; have := S1.out; have := S2.out; have := S3.out; have := S4.out; have := S5.out; have := SA10.out; have := S6.out; have := S7.out; have := S8.out; have := SepOutcome_bd MP4_0.out; have := SepOutcome_bd MP8_0.out; omega)
      replace KB1 := (KB1).chg B14 (by have := S0.out; have := S1.out; have := S2.out; have := S3.out; have := S4.out; have := S5.out; have := SA10.out; have := S6.out; have := S7.out; have := S8.out; have := SepOutcome_bd MP4_0.out; have := SepOutcome_bd MP8_0.out; omega)
      replace FP4_0_2 := (FP4_0_2).chg B14 (by have := S0.out; have := S1.out; have := S2.out; have := S3.out; have := S4.out; have := S5.out; have := SA10.out; have := S6.out; have := S7.out; have := S8.out; have := SepOutcome_bd MP4_0.out; have := SepOutcome_bd MP8_0.out; omega)
      replace KX5 := (KX5).chg B14 (by have := S0.out; have := S1.out; have := S2.out; have := S3.out; have := S4.out; have := S5.out; have := SA10.out; have := S6.out; have := S7.out; have := S8.out; have := SepOutcome_bd MP4_0.out; have := SepOutcome_bd MP8_0.out; omega)
      replace FP8_0_2 := (FP8_0_2).chg B14 (by have := S0.out; have := S1.out; have := S2.out; have := S3.out; have := S4.out; have := S5.out; have := SA10.out; have := S6.out; have := S7.out; have := S8.out; have := SepOutcome_bd MP4_0.out; have := SepOutcome_bd MP8_0.out; omega)
      replace KX9 := (KX9).chg B14 (by have := S0.out; have := S1.out; have := S2.out; have := S3.out; have := S4.out; have := S5.out; have := SA10.out; have := S6.out; have := S7.out; have := S8.out; have := SepOutcome_bd MP4_0.out; have := SepOutcome_bd MP8_0.out; omega)
      replace G := G.trans (B14.below (.inl (by have := S0.out; have := S1.out; have := S2.out; have := S3.out; have := S4.out; have := S5.out; have := SA10.out; have := S6.out; have := S7.out; have := S8.out; have := SepOutcome_bd MP4_0.out; have := SepOutcome_bd MP8_0.out; omega)) (by have := S0.out; have := S1.out; have := S2.out; have := S3.out; have := S4.out; have := S5.out; have := SA10.out; have := S6.out; have := S7.out; have := S8.out; have := SepOutcome_bd MP4_0.out; have := SepOutcome_bd MP8_0.out; first | omega | (simp; omega)))
      have S9 := Lib.hid (show w8.heap.size + 0 ≤ w9.heap.size by have := B14.size; first | (simpa using this) | ((try simp at this); omega))
      clear FT6
      clear E14
      clear B14
      have xKX9_0 : w9.cell? ⟨w5.heap.size, 0, none⟩ = some (.int .i64 ((mFol l0 a1).c)) := KX9.at_ rfl
      have xKX9_1 : w9.cell? ⟨w5.heap.size, 1, none⟩ = some (.int .i64 ((mFol l0 a1).s).f0) := KX9.at_ rfl
      have xKX9_2 : w9.cell? ⟨w5.heap.size, 2, none⟩ = some (.int .i64 ((mFol l0 a1).s).f1) := KX9.at_ rfl
      have xKX9_3 : w9.cell? ⟨w5.heap.size, 3, none⟩ = some (.slice P8_0_2 (((mFol l0 a1).p).length) pc8_0_2) := KX9.at_ rfl
      have xKX5_0 : w9.cell? ⟨g5, 0, none⟩ = some (.int .i64 ((mFol l0 a1).c)) := KX5.at_ rfl
      have xKX5_1 : w9.cell? ⟨g5, 1, none⟩ = some (.int .i64 ((mFol l0 a1).s).f0) := KX5.at_ rfl
      have xKX5_2 : w9.cell? ⟨g5, 2, none⟩ = some (.int .i64 ((mFol l0 a1).s).f1) := KX5.at_ rfl
      have xKX5_3 : w9.cell? ⟨g5, 3, none⟩ = some (.slice P4_0_2 (((mFol l0 a1).p).length) pc4_0_2) := KX5.at_ rfl
      go_wp2_with fail
      refine Calls.mono (eq_outcome_same ((mFol l0 a1).c) ((mFol l0 a1).s) ((mFol l0 a1).p) (((mFol l0 a1).p).length) P8_0_2 P4_0_2 pc8_0_2 pc4_0_2 _ _ _ _ _ (by omega) FP8_0_2.rd FP4_0_2.rd) ?_
      rintro e w10 ⟨rfl, B15⟩
      replace R0 := (R0).new B15
      replace KB1 := (KB1).new B15
      replace FP4_0_2 := (FP4_0_2).new B15
      replace KX5 := (KX5).new B15
      replace FP8_0_2 := (FP8_0_2).new B15
      replace KX9 := (KX9).new B15
      replace FM14 := (FM14).new B15
      replace G := below_trans G B15 (Nat.le_refl _)
      have S10 := Lib.hid (show w9.heap.size + 0 ≤ w10.heap.size by have := B15.size; first | (simpa using this) | ((try simp at this); omega))
      clear B15
      clear xKX9_0 xKX9_1 xKX9_2 xKX9_3 xKX5_0 xKX5_1 xKX5_2 xKX5_3
      have xKX9_0 : w10.cell? ⟨w5.heap.size, 0, none⟩ = some (.int .i64 ((mFol l0 a1).c)) := KX9.at_ rfl
      have xKX9_1 : w10.cell? ⟨w5.heap.size, 1, none⟩ = some (.int .i64 ((mFol l0 a1).s).f0) := KX9.at_ rfl
      have xKX9_2 : w10.cell? ⟨w5.heap.size, 2, none⟩ = some (.int .i64 ((mFol l0 a1).s).f1) := KX9.at_ rfl
      have xKX9_3 : w10.cell? ⟨w5.heap.size, 3, none⟩ = some (.slice P8_0_2 (((mFol l0 a1).p).length) pc8_0_2) := KX9.at_ rfl
      go_wp2_with fail
      refine Calls.mono (mark_outcome ((mFol l0 a1).c) ((mFol l0 a1).s) _ P8_0_2 (((mFol l0 a1).p).length) pc8_0_2 _ _ (1) w4.heap.size w5.heap.size _ (by omega) (by omega) (by have := S0.out; have := S1.out; have := S2.out; have := S3.out; have := S4.out; have := S5.out; have := SA10.out; have := S6.out; have := S7.out; have := S8.out; have := S9.out; have := S10.out; have := SepOutcome_bd MP4_0.out; have := SepOutcome_bd MP8_0.out; omega) MP8_0 FP8_0_2) ?_
      rintro e w11 ⟨rfl, FM16_2, B16⟩
      replace R0 := (R0).chg B16 (by have := S0.out; have := S1.out; have := S2.out; have := S3.out; have := S4.out; have := S5.out; have := SA10.out; have := S6.out; have := S7.out; have := S8.out; have := S9.out; have := S10.out; have := SepOutcome_bd MP4_0.out; have := SepOutcome_bd MP8_0.out; omega)
      replace KB1 := (KB1).chg B16 (by have := S0.out; have := S1.out; have := S2.out; have := S3.out; have := S4.out; have := S5.out; have := SA10.out; have := S6.out; have := S7.out; have := S8.out; have := S9.out; have := S10.out; have := SepOutcome_bd MP4_0.out; have := SepOutcome_bd MP8_0.out; omega)
      replace FP4_0_2 := (FP4_0_2).chg B16 (by have := S0.out; have := S1.out; have := S2.out; have := S3.out; have := S4.out; have := S5.out; have := SA10.out; have := S6.out; have := S7.out; have := S8.out; have := S9.out; have := S10.out; have := SepOutcome_bd MP4_0.out; have := SepOutcome_bd MP8_0.out; omega)
      replace KX5 := (KX5).chg B16 (by have := S0.out; have := S1.out; have := S2.out; have := S3.out; have := S4.out; have := S5.out; have := SA10.out; have := S6.out; have := S7.out; have := S8.out; have := S9.out; have := S10.out; have := SepOutcome_bd MP4_0.out; have := SepOutcome_bd MP8_0.out; omega)
      replace KX9 := (KX9).chg B16 (by have := S0.out; have := S1.out; have := S2.out; have := S3.out; have := S4.out; have := S5.out; have := SA10.out; have := S6.out; have := S7.out; have := S8.out; have := S9.out; have := S10.out; have := SepOutcome_bd MP4_0.out; have := SepOutcome_bd MP8_0.out; omega)
      replace FM14 := (FM14).chg B16 (by have := S0.out; have := S1.out; have := S2.out; have := S3.out; have := S4.out; have := S5.out; have := SA10.out; have := S6.out; have := S7.out; have := S8.out; have := S9.out; have := S10.out; have := SepOutcome_bd MP4_0.out; have := SepOutcome_bd MP8_0.out; omega)
      replace G := G.trans (B16.below (.inl (by have := S0.out; have := S1.out; have := S2.out; have := S3.out; have := S4.out; have := S5.out; have := SA10.out; have := S6.out; have := S7.out; have := S8.out; have := S9.out; have := S10.out; have := SepOutcome_bd MP4_0.out; have := SepOutcome_bd MP8_0.out; omega)) (by have := S0.out; have := S1.out; have := S2.out; have := S3.out; have := S4.out; have := S5.out; have := SA10.out; have := S6.out; have := S7.out; have := S8.out; have := S9.out; have := S10.out; have := SepOutcome_bd MP4_0.out; have := SepOutcome_bd MP8_0.out; first | omega | (simp; omega)))
      have S11 := Lib.hid (show w10.heap.size + 0 ≤ w11.heap.size by have := B16.size; first | (simpa using this) | ((try simp at this); omega))
      clear FP8_0_2
      clear B16
      clear xKX9_0 xKX9_1 xKX9_2 xKX9_3
      have xKX9_0 : w11.cell? ⟨w5.heap.size, 0, none⟩ = some (.int .i64 ((mFol l0 a1).c)) := KX9.at_ rfl
      have xKX9_1 : w11.cell? ⟨w5.heap.size, 1, none⟩ = some (.int .i64 ((mFol l0 a1).s).f0) := KX9.at_ rfl
      have xKX9_2 : w11.cell? ⟨w5.heap.size, 2, none⟩ = some (.int .i64 ((mFol l0 a1).s).f1) := KX9.at_ rfl
      have xKX9_3 : w11.cell? ⟨w5.heap.size, 3, none⟩ = some (.slice P8_0_2 (((mFol l0 a1).p).length) pc8_0_2) := KX9.at_ rfl
      go_wp2_with fail
      refine Calls.mono (held_outcome ((mFol l0 a1).c) ((mFol l0 a1).s) P8_0_2 (((mFol l0 a1).p).length) pc8_0_2 _ _ (1) _ (by omega) (by omega) FM16_2.rd) ?_
      rintro e w12 ⟨rfl, B17⟩
      replace R0 := (R0).new B17
      replace KB1 := (KB1).new B17
      replace FP4_0_2 := (FP4_0_2).new B17
      replace KX5 := (KX5).new B17
      replace KX9 := (KX9).new B17
      replace FM14 := (FM14).new B17
      replace FM16_2 := (FM16_2).new B17
      replace G := below_trans G B17 (Nat.le_refl _)
      have S12 := Lib.hid (show w11.heap.size + 0 ≤ w12.heap.size by have := B17.size; first | (simpa using this) | ((try simp at this); omega))
      clear B17
      clear xKX9_0 xKX9_1 xKX9_2 xKX9_3
      go_upto_region 24 with fail
      go_cut [12] (fun s12 wx => ∃ (gA : Nat) (P20_0_2 : Option Addr) (pc20_0_2 : Nat) (plo20_0_2 : Nat) (phi20_0_2 : Nat), s12 = .pointer (some ⟨gA, 0, none⟩) ∧ Hid (BoxAt wx gA 31 #[.int .i64 ((mFol l0 a1).c), .int .i64 ((mFol l0 a1).s).f0, .int .i64 ((mFol l0 a1).s).f1, .slice P20_0_2 (((mFol l0 a1).p).length) pc20_0_2]) ∧ Hid (Fr wx plo20_0_2 phi20_0_2 28 2 P20_0_2 (((mFol l0 a1).p).length) pc20_0_2 (cSite ((mFol l0 a1).p))) ∧ Hid (SepOutcome w12.heap.size wx.heap.size plo20_0_2 phi20_0_2) ∧ Hid (Below w12.heap.size w12 wx) ∧ w12.heap.size ≤ gA ∧ gA < wx.heap.size ∧ (gA < plo20_0_2 ∨ phi20_0_2 ≤ gA))
      case first =>
        refine wp_region_held_drew (S := fun w' => BoxAt w' w.heap.size 26 #[.int .i64 a1.f0, .int .i64 a1.f1, .int .i64 a1.f2] ∧ Below w12.heap.size w12 w') (by kernel_rfl) ?_ (fun hHeld => ?_)
        · exact ⟨KB1.drw, (Below.refl _ _).drew⟩
        generalize (World.drew _) = x0 at hHeld ⊢
        refine wpAnyH_take (i := 0) (oi := ⟨some 60, _, _, _, _, _⟩) (v := ?_) rfl (by kernel_rfl) (by kernel_rfl) (by kernel_rfl) (fun _ _ _ h => h) (Or.inl ⟨by kernel_rfl, ?_⟩) hHeld ?_
        rotate_left
        focus (intro W hS; have c0_0 := (hS.1).at_ (j := 0) rfl; have c0_1 := (hS.1).at_ (j := 1) rfl; have c0_2 := (hS.1).at_ (j := 2) rfl; clear hS; first | (go_simp; done) | (go_simp; with_reducible rfl))
        try simp only [Act.put, List.setIfInBounds_toArray, List.set_cons_zero, List.set_cons_succ]
        refine wpAnyH_take (i := 2) (oi := ⟨some 62, _, _, _, _, _⟩) (v := ?_) rfl (by kernel_rfl) (by kernel_rfl) (by kernel_rfl) (fun _ _ _ h => h) (Or.inl ⟨by kernel_rfl, ?_⟩) hHeld ?_
        rotate_left
        focus (intro W hS; have c0_0 := (hS.1).at_ (j := 0) rfl; have c0_1 := (hS.1).at_ (j := 1) rfl; have c0_2 := (hS.1).at_ (j := 2) rfl; clear hS; first | (go_simp; done) | (go_simp; with_reducible rfl))
        try simp only [Act.put, List.setIfInBounds_toArray, List.set_cons_zero, List.set_cons_succ]
        refine wpAnyH_ready (rs := [1, 5]) (by kernel_rfl) (by simp) ?_
        refine AllReadyH.cons (o := ⟨some 61, _, _, _, _, _⟩) rfl (fun K hK => ?_) ?_
        · skip
          go_simp
          have HS1 := hHeld.2.size
          refine Calls.mono (to_rule l0 A0 n0 c0 _ _ _ (Nat.le_trans hqn0 (by decide)) (R0.new hHeld.2)) ?_
          rintro e x1 ⟨T18, tc18, rfl, GFT18, hb1⟩
          have Z1 := hb1.size
          refine hK.out _ _ ⟨hHeld.1.new hb1, below_trans hHeld.2 hb1 (Nat.le_refl _)⟩ (fun hHeld' => ?_)
          clear hK K hHeld hb1
          have hHeld := hHeld'
          clear hHeld'
          try simp only [Act.put, List.setIfInBounds_toArray, List.set_cons_zero, List.set_cons_succ]
          refine wpAnyH_ready (rs := [3, 5]) (by kernel_rfl) (by simp) ?_
          refine AllReadyH.cons (o := ⟨some 63, _, _, _, _, _⟩) rfl (fun K hK => ?_) ?_
          · skip
            go_simp
            have HS3 := hHeld.2.size
            refine Calls.mono (to_request_one a1 _) ?_
            rintro e x2 ⟨rfl, hb1⟩
            have Z3 := hb1.size
            replace GFT18 := GFT18.new hb1
            refine hK.out _ _ ⟨hHeld.1.new hb1, below_trans hHeld.2 hb1 (Nat.le_refl _)⟩ (fun hHeld' => ?_)
            clear hK K hHeld hb1
            have hHeld := hHeld'
            clear hHeld'
            try simp only [Act.put, List.setIfInBounds_toArray, List.set_cons_zero, List.set_cons_succ]
            refine wpAnyH_ready (rs := [4, 5]) (by kernel_rfl) (by simp) ?_
            refine AllReadyH.cons (o := ⟨some 64, _, _, _, _, _⟩) rfl (fun K hK => ?_) ?_
            · skip
              go_simp
              have HS4 := hHeld.2.size
              refine Calls.mono (impl_FollowRequest l0 T18 n0 tc18 _ _ a1 _ (by omega) GFT18.rd H0 H1) ?_
              rintro e x3 ⟨P20_0_2, pc20_0_2, plo20_0_2, phi20_0_2, rfl, GFP20_0_2, MP20_0, hb1⟩
              have Z4 := hb1.size
              clear GFT18
              have QMP20_0 := SepOutcome_bd MP20_0.out
              refine hK.out _ _ ⟨hHeld.1.new hb1, below_trans hHeld.2 hb1 (Nat.le_refl _)⟩ (fun hHeld' => ?_)
              clear hK K hHeld hb1
              have hHeld := hHeld'
              clear hHeld'
              try simp only [Act.put, List.setIfInBounds_toArray, List.set_cons_zero, List.set_cons_succ]
              refine wpAnyH_ready (rs := [5]) (by kernel_rfl) (by simp) ?_
              refine AllReadyH.cons (o := ⟨some 12, _, _, _, _, _⟩) rfl (fun K hK => ?_) AllReadyH.nil
              go_simp
              have GA := box_new (x3) 31 #[.int .i64 0, .int .i64 0, .int .i64 0, .slice none 0 0]
              have hb1 := (Below.refl (x3).heap.size (x3)).alloc (Nat.le_refl _) (.cells #[.int .i64 0, .int .i64 0, .int .i64 0, .slice none 0 0] 31)
              have HSa := hHeld.2.size
              have MA0 := (hHeld.1).lt
              replace GFP20_0_2 := GFP20_0_2.new hb1
              generalize (x3).alloc (.cells #[.int .i64 0, .int .i64 0, .int .i64 0, .slice none 0 0] 31) = x4 at hb1 GA GFP20_0_2 ⊢
              have Za := hb1.size
              generalize hgA : (x3).heap.size = gA at GA ⊢
              refine hK.out _ _ ⟨hHeld.1.new hb1, below_trans hHeld.2 hb1 (Nat.le_refl _)⟩ (fun hHeld' => ?_)
              clear hK K hHeld hb1
              have hHeld := hHeld'
              clear hHeld'
              try simp only [Act.put, List.setIfInBounds_toArray, List.set_cons_zero, List.set_cons_succ]
              refine wpAnyH_ready (rs := [6]) (by kernel_rfl) (by simp) ?_
              refine AllReadyH.cons (o := ⟨none, _, _, _, _, _⟩) rfl (fun K hK => ?_) AllReadyH.nil
              rw [if_pos (by rfl)]
              refine wp_store_row 31 _ _ rfl gA #[.int .i64 ((mFol l0 a1).c), .int .i64 ((mFol l0 a1).s).f0, .int .i64 ((mFol l0 a1).s).f1, .slice P20_0_2 (((mFol l0 a1).p).length) pc20_0_2] rfl rfl 31 _ GA (by kernel_rfl) (by kernel_rfl) (by kernel_rfl) ?_
              replace GA := box_row (cs := #[.int .i64 ((mFol l0 a1).c), .int .i64 ((mFol l0 a1).s).f0, .int .i64 ((mFol l0 a1).s).f1, .slice P20_0_2 (((mFol l0 a1).p).length) pc20_0_2]) GA
              have hc1 := chg_row x4 gA #[.int .i64 ((mFol l0 a1).c), .int .i64 ((mFol l0 a1).s).f0, .int .i64 ((mFol l0 a1).s).f1, .slice P20_0_2 (((mFol l0 a1).p).length) pc20_0_2]
              have hHeld2 : BoxAt (World.setRow x4 gA #[.int .i64 ((mFol l0 a1).c), .int .i64 ((mFol l0 a1).s).f0, .int .i64 ((mFol l0 a1).s).f1, .slice P20_0_2 (((mFol l0 a1).p).length) pc20_0_2]) w.heap.size 26 #[.int .i64 a1.f0, .int .i64 a1.f1, .int .i64 a1.f2] ∧ Below w12.heap.size w12 (World.setRow x4 gA #[.int .i64 ((mFol l0 a1).c), .int .i64 ((mFol l0 a1).s).f0, .int .i64 ((mFol l0 a1).s).f1, .slice P20_0_2 (((mFol l0 a1).p).length) pc20_0_2]) := ⟨hHeld.1.chg hc1 (by omega), below_setRow hHeld.2 (by omega) _⟩
              replace GFP20_0_2 := GFP20_0_2.chg hc1 (by omega)
              clear hc1
              have Z5 : (x4).heap.size ≤ (World.setRow x4 gA #[.int .i64 ((mFol l0 a1).c), .int .i64 ((mFol l0 a1).s).f0, .int .i64 ((mFol l0 a1).s).f1, .slice P20_0_2 (((mFol l0 a1).p).length) pc20_0_2]).heap.size := by simp
              generalize World.setRow x4 gA #[.int .i64 ((mFol l0 a1).c), .int .i64 ((mFol l0 a1).s).f0, .int .i64 ((mFol l0 a1).s).f1, .slice P20_0_2 (((mFol l0 a1).p).length) pc20_0_2] = x5 at hHeld2 GA GFP20_0_2 Z5 ⊢
              refine hK.out _ _ hHeld2 (fun hHeld' => ?_)
              clear hHeld2
              clear hK K hHeld
              have hHeld := hHeld'
              clear hHeld'
              try simp only [Act.put, List.setIfInBounds_toArray, List.set_cons_zero, List.set_cons_succ]
              refine wpAnyH_done (by kernel_rfl) ?_ _
              go_wp2_with fail
              have hSz := hHeld.2.size
              go_meet
              exact ⟨gA, P20_0_2, pc20_0_2, plo20_0_2, phi20_0_2, rfl, Lib.hid GA, Lib.hid GFP20_0_2, Lib.hid (by unfold SepOutcome; omega), Lib.hid hHeld.2, by omega, GA.lt, by omega⟩
            refine AllReadyH.cons (o := ⟨some 12, _, _, _, _, _⟩) rfl (fun K hK => ?_) ?_
            · skip
              go_simp
              have GA := box_new (x2) 31 #[.int .i64 0, .int .i64 0, .int .i64 0, .slice none 0 0]
              have hb1 := (Below.refl (x2).heap.size (x2)).alloc (Nat.le_refl _) (.cells #[.int .i64 0, .int .i64 0, .int .i64 0, .slice none 0 0] 31)
              have HSa := hHeld.2.size
              have MA0 := (hHeld.1).lt
              replace GFT18 := GFT18.new hb1
              generalize (x2).alloc (.cells #[.int .i64 0, .int .i64 0, .int .i64 0, .slice none 0 0] 31) = x3 at hb1 GA GFT18 ⊢
              have Za := hb1.size
              generalize hgA : (x2).heap.size = gA at GA ⊢
              refine hK.out _ _ ⟨hHeld.1.new hb1, below_trans hHeld.2 hb1 (Nat.le_refl _)⟩ (fun hHeld' => ?_)
              clear hK K hHeld hb1
              have hHeld := hHeld'
              clear hHeld'
              try simp only [Act.put, List.setIfInBounds_toArray, List.set_cons_zero, List.set_cons_succ]
              refine wpAnyH_ready (rs := [4]) (by kernel_rfl) (by simp) ?_
              refine AllReadyH.cons (o := ⟨some 64, _, _, _, _, _⟩) rfl (fun K hK => ?_) AllReadyH.nil
              go_simp
              have P4 := GA.lt
              have HS4 := hHeld.2.size
              refine Calls.mono (impl_FollowRequest l0 T18 n0 tc18 _ _ a1 _ (by omega) GFT18.rd H0 H1) ?_
              rintro e x4 ⟨P20_0_2, pc20_0_2, plo20_0_2, phi20_0_2, rfl, GFP20_0_2, MP20_0, hb1⟩
              have Z4 := hb1.size
              clear GFT18
              have QMP20_0 := SepOutcome_bd MP20_0.out
              replace GA := GA.new hb1
              refine hK.out _ _ ⟨hHeld.1.new hb1, below_trans hHeld.2 hb1 (Nat.le_refl _)⟩ (fun hHeld' => ?_)
              clear hK K hHeld hb1
              have hHeld := hHeld'
              clear hHeld'
              try simp only [Act.put, List.setIfInBounds_toArray, List.set_cons_zero, List.set_cons_succ]
              refine wpAnyH_ready (rs := [6]) (by kernel_rfl) (by simp) ?_
              refine AllReadyH.cons (o := ⟨none, _, _, _, _, _⟩) rfl (fun K hK => ?_) AllReadyH.nil
              rw [if_pos (by rfl)]
              refine wp_store_row 31 _ _ rfl gA #[.int .i64 ((mFol l0 a1).c), .int .i64 ((mFol l0 a1).s).f0, .int .i64 ((mFol l0 a1).s).f1, .slice P20_0_2 (((mFol l0 a1).p).length) pc20_0_2] rfl rfl 31 _ GA (by kernel_rfl) (by kernel_rfl) (by kernel_rfl) ?_
              replace GA := box_row (cs := #[.int .i64 ((mFol l0 a1).c), .int .i64 ((mFol l0 a1).s).f0, .int .i64 ((mFol l0 a1).s).f1, .slice P20_0_2 (((mFol l0 a1).p).length) pc20_0_2]) GA
              have hc1 := chg_row x4 gA #[.int .i64 ((mFol l0 a1).c), .int .i64 ((mFol l0 a1).s).f0, .int .i64 ((mFol l0 a1).s).f1, .slice P20_0_2 (((mFol l0 a1).p).length) pc20_0_2]
              have hHeld2 : BoxAt (World.setRow x4 gA #[.int .i64 ((mFol l0 a1).c), .int .i64 ((mFol l0 a1).s).f0, .int .i64 ((mFol l0 a1).s).f1, .slice P20_0_2 (((mFol l0 a1).p).length) pc20_0_2]) w.heap.size 26 #[.int .i64 a1.f0, .int .i64 a1.f1, .int .i64 a1.f2] ∧ Below w12.heap.size w12 (World.setRow x4 gA #[.int .i64 ((mFol l0 a1).c), .int .i64 ((mFol l0 a1).s).f0, .int .i64 ((mFol l0 a1).s).f1, .slice P20_0_2 (((mFol l0 a1).p).length) pc20_0_2]) := ⟨hHeld.1.chg hc1 (by omega), below_setRow hHeld.2 (by omega) _⟩
              replace GFP20_0_2 := GFP20_0_2.chg hc1 (by omega)
              clear hc1
              have Z5 : (x4).heap.size ≤ (World.setRow x4 gA #[.int .i64 ((mFol l0 a1).c), .int .i64 ((mFol l0 a1).s).f0, .int .i64 ((mFol l0 a1).s).f1, .slice P20_0_2 (((mFol l0 a1).p).length) pc20_0_2]).heap.size := by simp
              generalize World.setRow x4 gA #[.int .i64 ((mFol l0 a1).c), .int .i64 ((mFol l0 a1).s).f0, .int .i64 ((mFol l0 a1).s).f1, .slice P20_0_2 (((mFol l0 a1).p).length) pc20_0_2] = x5 at hHeld2 GA GFP20_0_2 Z5 ⊢
              refine hK.out _ _ hHeld2 (fun hHeld' => ?_)
              clear hHeld2
              clear hK K hHeld
              have hHeld := hHeld'
              clear hHeld'
              try simp only [Act.put, List.setIfInBounds_toArray, List.set_cons_zero, List.set_cons_succ]
              refine wpAnyH_done (by kernel_rfl) ?_ _
              go_wp2_with fail
              have hSz := hHeld.2.size
              go_meet
              exact ⟨gA, P20_0_2, pc20_0_2, plo20_0_2, phi20_0_2, rfl, Lib.hid GA, Lib.hid GFP20_0_2, Lib.hid (by unfold SepOutcome; omega), Lib.hid hHeld.2, by omega, GA.lt, by omega⟩
            exact AllReadyH.nil
          refine AllReadyH.cons (o := ⟨some 12, _, _, _, _, _⟩) rfl (fun K hK => ?_) ?_
          · skip
            go_simp
            have GA := box_new (x1) 31 #[.int .i64 0, .int .i64 0, .int .i64 0, .slice none 0 0]
            have hb1 := (Below.refl (x1).heap.size (x1)).alloc (Nat.le_refl _) (.cells #[.int .i64 0, .int .i64 0, .int .i64 0, .slice none 0 0] 31)
            have HSa := hHeld.2.size
            have MA0 := (hHeld.1).lt
            replace GFT18 := GFT18.new hb1
            generalize (x1).alloc (.cells #[.int .i64 0, .int .i64 0, .int .i64 0, .slice none 0 0] 31) = x2 at hb1 GA GFT18 ⊢
            have Za := hb1.size
            generalize hgA : (x1).heap.size = gA at GA ⊢
            refine hK.out _ _ ⟨hHeld.1.new hb1, below_trans hHeld.2 hb1 (Nat.le_refl _)⟩ (fun hHeld' => ?_)
            clear hK K hHeld hb1
            have hHeld := hHeld'
            clear hHeld'
            try simp only [Act.put, List.setIfInBounds_toArray, List.set_cons_zero, List.set_cons_succ]
            refine wpAnyH_ready (rs := [3]) (by kernel_rfl) (by simp) ?_
            refine AllReadyH.cons (o := ⟨some 63, _, _, _, _, _⟩) rfl (fun K hK => ?_) AllReadyH.nil
            go_simp
            have P3 := GA.lt
            have HS3 := hHeld.2.size
            refine Calls.mono (to_request_one a1 _) ?_
            rintro e x3 ⟨rfl, hb1⟩
            have Z3 := hb1.size
            replace GA := GA.new hb1
            replace GFT18 := GFT18.new hb1
            refine hK.out _ _ ⟨hHeld.1.new hb1, below_trans hHeld.2 hb1 (Nat.le_refl _)⟩ (fun hHeld' => ?_)
            clear hK K hHeld hb1
            have hHeld := hHeld'
            clear hHeld'
            try simp only [Act.put, List.setIfInBounds_toArray, List.set_cons_zero, List.set_cons_succ]
            refine wpAnyH_ready (rs := [4]) (by kernel_rfl) (by simp) ?_
            refine AllReadyH.cons (o := ⟨some 64, _, _, _, _, _⟩) rfl (fun K hK => ?_) AllReadyH.nil
            go_simp
            have P4 := GA.lt
            have HS4 := hHeld.2.size
            refine Calls.mono (impl_FollowRequest l0 T18 n0 tc18 _ _ a1 _ (by omega) GFT18.rd H0 H1) ?_
            rintro e x4 ⟨P20_0_2, pc20_0_2, plo20_0_2, phi20_0_2, rfl, GFP20_0_2, MP20_0, hb1⟩
            have Z4 := hb1.size
            clear GFT18
            have QMP20_0 := SepOutcome_bd MP20_0.out
            replace GA := GA.new hb1
            refine hK.out _ _ ⟨hHeld.1.new hb1, below_trans hHeld.2 hb1 (Nat.le_refl _)⟩ (fun hHeld' => ?_)
            clear hK K hHeld hb1
            have hHeld := hHeld'
            clear hHeld'
            try simp only [Act.put, List.setIfInBounds_toArray, List.set_cons_zero, List.set_cons_succ]
            refine wpAnyH_ready (rs := [6]) (by kernel_rfl) (by simp) ?_
            refine AllReadyH.cons (o := ⟨none, _, _, _, _, _⟩) rfl (fun K hK => ?_) AllReadyH.nil
            rw [if_pos (by rfl)]
            refine wp_store_row 31 _ _ rfl gA #[.int .i64 ((mFol l0 a1).c), .int .i64 ((mFol l0 a1).s).f0, .int .i64 ((mFol l0 a1).s).f1, .slice P20_0_2 (((mFol l0 a1).p).length) pc20_0_2] rfl rfl 31 _ GA (by kernel_rfl) (by kernel_rfl) (by kernel_rfl) ?_
            replace GA := box_row (cs := #[.int .i64 ((mFol l0 a1).c), .int .i64 ((mFol l0 a1).s).f0, .int .i64 ((mFol l0 a1).s).f1, .slice P20_0_2 (((mFol l0 a1).p).length) pc20_0_2]) GA
            have hc1 := chg_row x4 gA #[.int .i64 ((mFol l0 a1).c), .int .i64 ((mFol l0 a1).s).f0, .int .i64 ((mFol l0 a1).s).f1, .slice P20_0_2 (((mFol l0 a1).p).length) pc20_0_2]
            have hHeld2 : BoxAt (World.setRow x4 gA #[.int .i64 ((mFol l0 a1).c), .int .i64 ((mFol l0 a1).s).f0, .int .i64 ((mFol l0 a1).s).f1, .slice P20_0_2 (((mFol l0 a1).p).length) pc20_0_2]) w.heap.size 26 #[.int .i64 a1.f0, .int .i64 a1.f1, .int .i64 a1.f2] ∧ Below w12.heap.size w12 (World.setRow x4 gA #[.int .i64 ((mFol l0 a1).c), .int .i64 ((mFol l0 a1).s).f0, .int .i64 ((mFol l0 a1).s).f1, .slice P20_0_2 (((mFol l0 a1).p).length) pc20_0_2]) := ⟨hHeld.1.chg hc1 (by omega), below_setRow hHeld.2 (by omega) _⟩
            replace GFP20_0_2 := GFP20_0_2.chg hc1 (by omega)
            clear hc1
            have Z5 : (x4).heap.size ≤ (World.setRow x4 gA #[.int .i64 ((mFol l0 a1).c), .int .i64 ((mFol l0 a1).s).f0, .int .i64 ((mFol l0 a1).s).f1, .slice P20_0_2 (((mFol l0 a1).p).length) pc20_0_2]).heap.size := by simp
            generalize World.setRow x4 gA #[.int .i64 ((mFol l0 a1).c), .int .i64 ((mFol l0 a1).s).f0, .int .i64 ((mFol l0 a1).s).f1, .slice P20_0_2 (((mFol l0 a1).p).length) pc20_0_2] = x5 at hHeld2 GA GFP20_0_2 Z5 ⊢
            refine hK.out _ _ hHeld2 (fun hHeld' => ?_)
            clear hHeld2
            clear hK K hHeld
            have hHeld := hHeld'
            clear hHeld'
            try simp only [Act.put, List.setIfInBounds_toArray, List.set_cons_zero, List.set_cons_succ]
            refine wpAnyH_done (by kernel_rfl) ?_ _
            go_wp2_with fail
            have hSz := hHeld.2.size
            go_meet
            exact ⟨gA, P20_0_2, pc20_0_2, plo20_0_2, phi20_0_2, rfl, Lib.hid GA, Lib.hid GFP20_0_2, Lib.hid (by unfold SepOutcome; omega), Lib.hid hHeld.2, by omega, GA.lt, by omega⟩
          exact AllReadyH.nil
        refine AllReadyH.cons (o := ⟨some 12, _, _, _, _, _⟩) rfl (fun K hK => ?_) ?_
        · skip
          go_simp
          have GA := box_new (x0) 31 #[.int .i64 0, .int .i64 0, .int .i64 0, .slice none 0 0]
          have hb1 := (Below.refl (x0).heap.size (x0)).alloc (Nat.le_refl _) (.cells #[.int .i64 0, .int .i64 0, .int .i64 0, .slice none 0 0] 31)
          have HSa := hHeld.2.size
          have MA0 := (hHeld.1).lt
          generalize (x0).alloc (.cells #[.int .i64 0, .int .i64 0, .int .i64 0, .slice none 0 0] 31) = x1 at hb1 GA  ⊢
          have Za := hb1.size
          generalize hgA : (x0).heap.size = gA at GA ⊢
          refine hK.out _ _ ⟨hHeld.1.new hb1, below_trans hHeld.2 hb1 (Nat.le_refl _)⟩ (fun hHeld' => ?_)
          clear hK K hHeld hb1
          have hHeld := hHeld'
          clear hHeld'
          try simp only [Act.put, List.setIfInBounds_toArray, List.set_cons_zero, List.set_cons_succ]
          refine wpAnyH_ready (rs := [1]) (by kernel_rfl) (by simp) ?_
          refine AllReadyH.cons (o := ⟨some 61, _, _, _, _, _⟩) rfl (fun K hK => ?_) AllReadyH.nil
          go_simp
          have P1 := GA.lt
          have HS1 := hHeld.2.size
          refine Calls.mono (to_rule l0 A0 n0 c0 _ _ _ (Nat.le_trans hqn0 (by decide)) (R0.new hHeld.2)) ?_
          rintro e x2 ⟨T18, tc18, rfl, GFT18, hb1⟩
          have Z1 := hb1.size
          replace GA := GA.new hb1
          refine hK.out _ _ ⟨hHeld.1.new hb1, below_trans hHeld.2 hb1 (Nat.le_refl _)⟩ (fun hHeld' => ?_)
          clear hK K hHeld hb1
          have hHeld := hHeld'
          clear hHeld'
          try simp only [Act.put, List.setIfInBounds_toArray, List.set_cons_zero, List.set_cons_succ]
          refine wpAnyH_ready (rs := [3]) (by kernel_rfl) (by simp) ?_
          refine AllReadyH.cons (o := ⟨some 63, _, _, _, _, _⟩) rfl (fun K hK => ?_) AllReadyH.nil
          go_simp
          have P3 := GA.lt
          have HS3 := hHeld.2.size
          refine Calls.mono (to_request_one a1 _) ?_
          rintro e x3 ⟨rfl, hb1⟩
          have Z3 := hb1.size
          replace GA := GA.new hb1
          replace GFT18 := GFT18.new hb1
          refine hK.out _ _ ⟨hHeld.1.new hb1, below_trans hHeld.2 hb1 (Nat.le_refl _)⟩ (fun hHeld' => ?_)
          clear hK K hHeld hb1
          have hHeld := hHeld'
          clear hHeld'
          try simp only [Act.put, List.setIfInBounds_toArray, List.set_cons_zero, List.set_cons_succ]
          refine wpAnyH_ready (rs := [4]) (by kernel_rfl) (by simp) ?_
          refine AllReadyH.cons (o := ⟨some 64, _, _, _, _, _⟩) rfl (fun K hK => ?_) AllReadyH.nil
          go_simp
          have P4 := GA.lt
          have HS4 := hHeld.2.size
          refine Calls.mono (impl_FollowRequest l0 T18 n0 tc18 _ _ a1 _ (by omega) GFT18.rd H0 H1) ?_
          rintro e x4 ⟨P20_0_2, pc20_0_2, plo20_0_2, phi20_0_2, rfl, GFP20_0_2, MP20_0, hb1⟩
          have Z4 := hb1.size
          clear GFT18
          have QMP20_0 := SepOutcome_bd MP20_0.out
          replace GA := GA.new hb1
          refine hK.out _ _ ⟨hHeld.1.new hb1, below_trans hHeld.2 hb1 (Nat.le_refl _)⟩ (fun hHeld' => ?_)
          clear hK K hHeld hb1
          have hHeld := hHeld'
          clear hHeld'
          try simp only [Act.put, List.setIfInBounds_toArray, List.set_cons_zero, List.set_cons_succ]
          refine wpAnyH_ready (rs := [6]) (by kernel_rfl) (by simp) ?_
          refine AllReadyH.cons (o := ⟨none, _, _, _, _, _⟩) rfl (fun K hK => ?_) AllReadyH.nil
          rw [if_pos (by rfl)]
          refine wp_store_row 31 _ _ rfl gA #[.int .i64 ((mFol l0 a1).c), .int .i64 ((mFol l0 a1).s).f0, .int .i64 ((mFol l0 a1).s).f1, .slice P20_0_2 (((mFol l0 a1).p).length) pc20_0_2] rfl rfl 31 _ GA (by kernel_rfl) (by kernel_rfl) (by kernel_rfl) ?_
          replace GA := box_row (cs := #[.int .i64 ((mFol l0 a1).c), .int .i64 ((mFol l0 a1).s).f0, .int .i64 ((mFol l0 a1).s).f1, .slice P20_0_2 (((mFol l0 a1).p).length) pc20_0_2]) GA
          have hc1 := chg_row x4 gA #[.int .i64 ((mFol l0 a1).c), .int .i64 ((mFol l0 a1).s).f0, .int .i64 ((mFol l0 a1).s).f1, .slice P20_0_2 (((mFol l0 a1).p).length) pc20_0_2]
          have hHeld2 : BoxAt (World.setRow x4 gA #[.int .i64 ((mFol l0 a1).c), .int .i64 ((mFol l0 a1).s).f0, .int .i64 ((mFol l0 a1).s).f1, .slice P20_0_2 (((mFol l0 a1).p).length) pc20_0_2]) w.heap.size 26 #[.int .i64 a1.f0, .int .i64 a1.f1, .int .i64 a1.f2] ∧ Below w12.heap.size w12 (World.setRow x4 gA #[.int .i64 ((mFol l0 a1).c), .int .i64 ((mFol l0 a1).s).f0, .int .i64 ((mFol l0 a1).s).f1, .slice P20_0_2 (((mFol l0 a1).p).length) pc20_0_2]) := ⟨hHeld.1.chg hc1 (by omega), below_setRow hHeld.2 (by omega) _⟩
          replace GFP20_0_2 := GFP20_0_2.chg hc1 (by omega)
          clear hc1
          have Z5 : (x4).heap.size ≤ (World.setRow x4 gA #[.int .i64 ((mFol l0 a1).c), .int .i64 ((mFol l0 a1).s).f0, .int .i64 ((mFol l0 a1).s).f1, .slice P20_0_2 (((mFol l0 a1).p).length) pc20_0_2]).heap.size := by simp
          generalize World.setRow x4 gA #[.int .i64 ((mFol l0 a1).c), .int .i64 ((mFol l0 a1).s).f0, .int .i64 ((mFol l0 a1).s).f1, .slice P20_0_2 (((mFol l0 a1).p).length) pc20_0_2] = x5 at hHeld2 GA GFP20_0_2 Z5 ⊢
          refine hK.out _ _ hHeld2 (fun hHeld' => ?_)
          clear hHeld2
          clear hK K hHeld
          have hHeld := hHeld'
          clear hHeld'
          try simp only [Act.put, List.setIfInBounds_toArray, List.set_cons_zero, List.set_cons_succ]
          refine wpAnyH_done (by kernel_rfl) ?_ _
          go_wp2_with fail
          have hSz := hHeld.2.size
          go_meet
          exact ⟨gA, P20_0_2, pc20_0_2, plo20_0_2, phi20_0_2, rfl, Lib.hid GA, Lib.hid GFP20_0_2, Lib.hid (by unfold SepOutcome; omega), Lib.hid hHeld.2, by omega, GA.lt, by omega⟩
        exact AllReadyH.nil
      case rest =>
        obtain ⟨g21, P20_0_2, pc20_0_2, plo20_0_2, phi20_0_2, rfl, KX21, FP20_0_2, MP20_0, B21, LA21, MA21, NA21_0⟩ := hcut
        rename World => w13
        replace B21 := B21.out
        replace KX21 := KX21.out
        replace FP20_0_2 := FP20_0_2.out
        replace R0 := rd_nw B21 R0
        replace KB1 := box_nw B21 KB1
        replace FP4_0_2 := fr_nw B21 FP4_0_2
        replace KX5 := box_nw B21 KX5
        replace KX9 := box_nw B21 KX9
        replace FM14 := fr_nw B21 FM14
        replace FM16_2 := fr_nw B21 FM16_2
        replace G := (by first | exact below_trans G B21 (Nat.le_refl _) | exact below_trans G.drew B21 (Nat.le_refl _) | exact below_trans (below_dN G _) B21 (Nat.le_refl _))
        have S13 := Lib.hid (show w12.heap.size ≤ w13.heap.size from B21.size)
        clear B21
        have xKX21_0 : w13.cell? ⟨g21, 0, none⟩ = some (.int .i64 ((mFol l0 a1).c)) := KX21.at_ rfl
        have xKX21_1 : w13.cell? ⟨g21, 1, none⟩ = some (.int .i64 ((mFol l0 a1).s).f0) := KX21.at_ rfl
        have xKX21_2 : w13.cell? ⟨g21, 2, none⟩ = some (.int .i64 ((mFol l0 a1).s).f1) := KX21.at_ rfl
        have xKX21_3 : w13.cell? ⟨g21, 3, none⟩ = some (.slice P20_0_2 (((mFol l0 a1).p).length) pc20_0_2) := KX21.at_ rfl
        have xKX5_0 : w13.cell? ⟨g5, 0, none⟩ = some (.int .i64 ((mFol l0 a1).c)) := KX5.at_ rfl
        have xKX5_1 : w13.cell? ⟨g5, 1, none⟩ = some (.int .i64 ((mFol l0 a1).s).f0) := KX5.at_ rfl
        have xKX5_2 : w13.cell? ⟨g5, 2, none⟩ = some (.int .i64 ((mFol l0 a1).s).f1) := KX5.at_ rfl
        have xKX5_3 : w13.cell? ⟨g5, 3, none⟩ = some (.slice P4_0_2 (((mFol l0 a1).p).length) pc4_0_2) := KX5.at_ rfl
        go_wp2_with fail
        refine Calls.mono (eq_outcome_same ((mFol l0 a1).c) ((mFol l0 a1).s) ((mFol l0 a1).p) (((mFol l0 a1).p).length) P20_0_2 P4_0_2 pc20_0_2 pc4_0_2 _ _ _ _ _ (by omega) FP20_0_2.rd FP4_0_2.rd) ?_
        rintro e w14 ⟨rfl, B22⟩
        replace R0 := (R0).new B22
        replace KB1 := (KB1).new B22
        replace FP4_0_2 := (FP4_0_2).new B22
        replace KX5 := (KX5).new B22
        replace KX9 := (KX9).new B22
        replace FM14 := (FM14).new B22
        replace FM16_2 := (FM16_2).new B22
        replace FP20_0_2 := (FP20_0_2).new B22
        replace KX21 := (KX21).new B22
        replace G := below_trans G B22 (Nat.le_refl _)
        have S14 := Lib.hid (show w13.heap.size + 0 ≤ w14.heap.size by have := B22.size; first | (simpa using this) | ((try simp at this); omega))
        clear B22
        clear xKX21_0 xKX21_1 xKX21_2 xKX21_3 xKX5_0 xKX5_1 xKX5_2 xKX5_3
        have xKX9_0 : w14.cell? ⟨w5.heap.size, 0, none⟩ = some (.int .i64 ((mFol l0 a1).c)) := KX9.at_ rfl
        have xKX9_1 : w14.cell? ⟨w5.heap.size, 1, none⟩ = some (.int .i64 ((mFol l0 a1).s).f0) := KX9.at_ rfl
        have xKX9_2 : w14.cell? ⟨w5.heap.size, 2, none⟩ = some (.int .i64 ((mFol l0 a1).s).f1) := KX9.at_ rfl
        have xKX9_3 : w14.cell? ⟨w5.heap.size, 3, none⟩ = some (.slice P8_0_2 (((mFol l0 a1).p).length) pc8_0_2) := KX9.at_ rfl
        go_wp2_with fail
        refine Calls.mono (held_outcome ((mFol l0 a1).c) ((mFol l0 a1).s) P8_0_2 (((mFol l0 a1).p).length) pc8_0_2 _ _ (1) _ (by omega) (by omega) FM16_2.rd) ?_
        rintro e w15 ⟨rfl, B23⟩
        replace R0 := (R0).new B23
        replace KB1 := (KB1).new B23
        replace FP4_0_2 := (FP4_0_2).new B23
        replace KX5 := (KX5).new B23
        replace KX9 := (KX9).new B23
        replace FM14 := (FM14).new B23
        replace FM16_2 := (FM16_2).new B23
        replace FP20_0_2 := (FP20_0_2).new B23
        replace KX21 := (KX21).new B23
        replace G := below_trans G B23 (Nat.le_refl _)
        have S15 := Lib.hid (show w14.heap.size + 0 ≤ w15.heap.size by have := B23.size; first | (simpa using this) | ((try simp at this); omega))
        clear B23
        clear xKX9_0 xKX9_1 xKX9_2 xKX9_3
        go_wp2_with fail
        go_ret
        exact ⟨rfl, G⟩
  · skip
    have G : Below w.heap.size w (w.alloc (.cells #[.int .i64 a1.f0, .int .i64 a1.f1, .int .i64 a1.f2] 26)) := (Below.refl _ _).alloc (by simp) _
    have S0 := Lib.hid (show (w.alloc (.cells #[.int .i64 a1.f0, .int .i64 a1.f1, .int .i64 a1.f2] 26)).heap.size = w.heap.size + 1 by simp)
    replace R0 := R0.alloc (.cells #[.int .i64 a1.f0, .int .i64 a1.f1, .int .i64 a1.f2] 26)
    have KB1 : BoxAt (w.alloc (.cells #[.int .i64 a1.f0, .int .i64 a1.f1, .int .i64 a1.f2] 26)) (w.heap.size) 26 #[.int .i64 a1.f0, .int .i64 a1.f1, .int .i64 a1.f2] := box_new _ _ _
    go_enter Try.func3, Try.ntmps3
    go_wp2_with fail
    refine (szno_rule A0 n0 c0 (1048576) _ hm0 (by omega) (by omega) (by omega)).mono ?_
    rintro e w1 hq
    obtain ⟨rfl, B24⟩ := hq.says
    go_wp2_with fail
    go_ret
    exact ⟨rfl, below_trans G B24 (Nat.le_refl _)⟩

set_option maxRecDepth 100000 in
theorem lifted (os : Os) (started : os.Started) (H : Type) (enc : TypeId × Value → H) :
    ReturnsInHanded {} Try.checked os 3 .any (Rows.fnExactFollowRequestSpec.pre6 enc Try.prog Try.f3 Rows.fnExactFollowRequestRow.domain false) (Rows.fnExactFollowRequestSpec.post enc Try.prog Try.f3 false true false false) := by
  refine law_lifted Try.func3 (by kernel_rfl) rfl rfl (by kernel_rfl) os started
    (ChangeSpec.witness6 (enc := enc) (C := Try.checked) false ⟨#[], #[.slice none 0 0, .agg #[.int .i64 0, .int .i64 0, .int .i64 0]], []⟩ 8 (by kernel_rfl) (by kernel_rfl) (by kernel_rfl) (by kernel_rfl)) ?_
  intro W base args ds p hval hA hlt
  rw [Try.params3] at hA hval
  obtain ⟨v0, vs0, d0, ds0, p0, q0, hargs, rfl, rfl, h0, r0⟩ := trodAll_cons hA
  obtain ⟨v1, vs1, d1, ds1, p1, q1, rfl, rfl, rfl, h1, r1⟩ := trodAll_cons r0
  obtain ⟨rfl, rfl, rfl⟩ := trodAll_nil r1
  obtain rfl : args = #[v0, v1] := by cases args; simp_all
  obtain ⟨A0, n0, c0, l0, rfl, m0, R0, H0⟩ := open_rule_list (hval 0 22 v0 rfl rfl) h0 (fun x hx => hlt x (by simp [hx]))
  obtain ⟨a1, rfl, H1⟩ := open_request (hval 1 26 v1 rfl rfl) h1
  exact ⟨⟨rfl, rfl, rfl⟩, walk l0 A0 n0 c0 a1 W m0 R0 H0 H1⟩

theorem over : Rows.fnExactFollowRequestRow.holds Try.pinned (OpenSpec.ofChange Rows.fnExactFollowRequestSpec) :=
  OpenClaim.holds_of_wide 3 Try.f3 rfl rfl rfl rfl rfl rfl rfl ⟨rfl, rfl, rfl, rfl, rfl⟩ rfl rfl rfl rfl rfl (by kernel_rfl) Try.func3 (by kernel_rfl)
    (of_decide_eq_true (by kernel_rfl)) (by unfold Func.isWrapper; first | (rw [if_pos (by decide +kernel)]; kernel_rfl) | (rw [if_neg (by decide +kernel)]; exact ⟨rfl, rfl⟩))
    (fun os started H enc _ => lifted os started H enc)

theorem proved : Rows.FnExactFollowRequestSaid := over
#print axioms proved
end Go.Proofs.Ytafekceggpbnlaa.fnExactFollowRequest
