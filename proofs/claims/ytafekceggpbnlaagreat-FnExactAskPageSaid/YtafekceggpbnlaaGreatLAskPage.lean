/- The law FnExactAskPage answers true for every argument, and leaves each argument as it was. No condition. -/
import Derived.Deep.RegionHeld3
import Derived.Deep.DeepCutAuto
import Derived.Test.YtafekceggpbnlaaGreatFactsK
import Derived.Test.YtafekceggpbnlaaGreatDBrowser
import Derived.Test.YtafekceggpbnlaaGreatROutcome
import Derived.Test.YtafekceggpbnlaaGreatTRequest
import Derived.Test.YtafekceggpbnlaaGreatMgF
namespace Go.Proofs.YtafekceggpbnlaaGreat.fnExactAskPage
open Go Go.ChangeShapes Go.WideShapes Go.ChangeAt Go.RowKit Go.Lib
open Go.ChangeMaps (open_string)
set_option linter.unusedVariables false
set_option linter.unusedSimpArgs false
set_option maxRecDepth 100000

set_option maxRecDepth 100000 in
set_option maxHeartbeats 20000000 in
theorem walk (x0 : DBrowser) (a1 : TRequest) (w : World) (R0 : x0.rd w 0 w.heap.size) (H0 : Hid x0.dat.ok) (H1 : Hid (TRequest.fit a1)) :
    Calls Tryz.prog 3 #[.agg #[.int .i64 x0.p0, .slice x0.A1 x0.n1 x0.c1, .slice x0.A2 x0.n2 x0.c2, .slice x0.A3 x0.n3 x0.c3, .slice x0.A4 x0.n4 x0.c4, .slice x0.A5 x0.n5 x0.c5, .slice x0.A6 x0.n6 x0.c6, .int .i64 x0.p7], .agg #[.int .i64 a1.f0, .int .i64 a1.f1, .int .i64 a1.f2]] w fun e w' => e = .returned (.bool true) ∧ Below w.heap.size w w' := by
  by_cases hz0 : x0.dat.sz ≤ 1048576
  · skip
    have hl0 : ((mAsk x0.dat a1).p).length ≤ 1073741823 := by (have := mAsk_len x0.dat a1; omega)
    have G : Below w.heap.size w ((w.alloc (.cells #[.int .i64 x0.p0, .slice x0.A1 x0.n1 x0.c1, .slice x0.A2 x0.n2 x0.c2, .slice x0.A3 x0.n3 x0.c3, .slice x0.A4 x0.n4 x0.c4, .slice x0.A5 x0.n5 x0.c5, .slice x0.A6 x0.n6 x0.c6, .int .i64 x0.p7] 29)).alloc (.cells #[.int .i64 a1.f0, .int .i64 a1.f1, .int .i64 a1.f2] 33)) := ((Below.refl _ _).alloc (by simp) _).alloc (by simp) _
    have S0 := Lib.hid (show ((w.alloc (.cells #[.int .i64 x0.p0, .slice x0.A1 x0.n1 x0.c1, .slice x0.A2 x0.n2 x0.c2, .slice x0.A3 x0.n3 x0.c3, .slice x0.A4 x0.n4 x0.c4, .slice x0.A5 x0.n5 x0.c5, .slice x0.A6 x0.n6 x0.c6, .int .i64 x0.p7] 29)).alloc (.cells #[.int .i64 a1.f0, .int .i64 a1.f1, .int .i64 a1.f2] 33)).heap.size = w.heap.size + 2 by simp)
    replace R0 := R0.alloc (.cells #[.int .i64 x0.p0, .slice x0.A1 x0.n1 x0.c1, .slice x0.A2 x0.n2 x0.c2, .slice x0.A3 x0.n3 x0.c3, .slice x0.A4 x0.n4 x0.c4, .slice x0.A5 x0.n5 x0.c5, .slice x0.A6 x0.n6 x0.c6, .int .i64 x0.p7] 29)
    have KB0 : BoxAt (w.alloc (.cells #[.int .i64 x0.p0, .slice x0.A1 x0.n1 x0.c1, .slice x0.A2 x0.n2 x0.c2, .slice x0.A3 x0.n3 x0.c3, .slice x0.A4 x0.n4 x0.c4, .slice x0.A5 x0.n5 x0.c5, .slice x0.A6 x0.n6 x0.c6, .int .i64 x0.p7] 29)) (w.heap.size) 29 #[.int .i64 x0.p0, .slice x0.A1 x0.n1 x0.c1, .slice x0.A2 x0.n2 x0.c2, .slice x0.A3 x0.n3 x0.c3, .slice x0.A4 x0.n4 x0.c4, .slice x0.A5 x0.n5 x0.c5, .slice x0.A6 x0.n6 x0.c6, .int .i64 x0.p7] := box_new _ _ _
    replace R0 := R0.alloc (.cells #[.int .i64 a1.f0, .int .i64 a1.f1, .int .i64 a1.f2] 33)
    replace KB0 := KB0.alloc_ (.cells #[.int .i64 a1.f0, .int .i64 a1.f1, .int .i64 a1.f2] 33)
    have KB1 : BoxAt ((w.alloc (.cells #[.int .i64 x0.p0, .slice x0.A1 x0.n1 x0.c1, .slice x0.A2 x0.n2 x0.c2, .slice x0.A3 x0.n3 x0.c3, .slice x0.A4 x0.n4 x0.c4, .slice x0.A5 x0.n5 x0.c5, .slice x0.A6 x0.n6 x0.c6, .int .i64 x0.p7] 29)).alloc (.cells #[.int .i64 a1.f0, .int .i64 a1.f1, .int .i64 a1.f2] 33)) (w.heap.size + 1) 33 #[.int .i64 a1.f0, .int .i64 a1.f1, .int .i64 a1.f2] := by simpa using box_new (w.alloc (.cells #[.int .i64 x0.p0, .slice x0.A1 x0.n1 x0.c1, .slice x0.A2 x0.n2 x0.c2, .slice x0.A3 x0.n3 x0.c3, .slice x0.A4 x0.n4 x0.c4, .slice x0.A5 x0.n5 x0.c5, .slice x0.A6 x0.n6 x0.c6, .int .i64 x0.p7] 29)) 33 #[.int .i64 a1.f0, .int .i64 a1.f1, .int .i64 a1.f2]
    go_enter Tryz.func3, Tryz.ntmps3
    have xKB0_0 : ((w.alloc (.cells #[.int .i64 x0.p0, .slice x0.A1 x0.n1 x0.c1, .slice x0.A2 x0.n2 x0.c2, .slice x0.A3 x0.n3 x0.c3, .slice x0.A4 x0.n4 x0.c4, .slice x0.A5 x0.n5 x0.c5, .slice x0.A6 x0.n6 x0.c6, .int .i64 x0.p7] 29)).alloc (.cells #[.int .i64 a1.f0, .int .i64 a1.f1, .int .i64 a1.f2] 33)).cell? ⟨w.heap.size, 0, none⟩ = some (.int .i64 x0.p0) := KB0.at_ rfl
    have xKB0_1 : ((w.alloc (.cells #[.int .i64 x0.p0, .slice x0.A1 x0.n1 x0.c1, .slice x0.A2 x0.n2 x0.c2, .slice x0.A3 x0.n3 x0.c3, .slice x0.A4 x0.n4 x0.c4, .slice x0.A5 x0.n5 x0.c5, .slice x0.A6 x0.n6 x0.c6, .int .i64 x0.p7] 29)).alloc (.cells #[.int .i64 a1.f0, .int .i64 a1.f1, .int .i64 a1.f2] 33)).cell? ⟨w.heap.size, 1, none⟩ = some (.slice x0.A1 x0.n1 x0.c1) := KB0.at_ rfl
    have xKB0_2 : ((w.alloc (.cells #[.int .i64 x0.p0, .slice x0.A1 x0.n1 x0.c1, .slice x0.A2 x0.n2 x0.c2, .slice x0.A3 x0.n3 x0.c3, .slice x0.A4 x0.n4 x0.c4, .slice x0.A5 x0.n5 x0.c5, .slice x0.A6 x0.n6 x0.c6, .int .i64 x0.p7] 29)).alloc (.cells #[.int .i64 a1.f0, .int .i64 a1.f1, .int .i64 a1.f2] 33)).cell? ⟨w.heap.size, 2, none⟩ = some (.slice x0.A2 x0.n2 x0.c2) := KB0.at_ rfl
    have xKB0_3 : ((w.alloc (.cells #[.int .i64 x0.p0, .slice x0.A1 x0.n1 x0.c1, .slice x0.A2 x0.n2 x0.c2, .slice x0.A3 x0.n3 x0.c3, .slice x0.A4 x0.n4 x0.c4, .slice x0.A5 x0.n5 x0.c5, .slice x0.A6 x0.n6 x0.c6, .int .i64 x0.p7] 29)).alloc (.cells #[.int .i64 a1.f0, .int .i64 a1.f1, .int .i64 a1.f2] 33)).cell? ⟨w.heap.size, 3, none⟩ = some (.slice x0.A3 x0.n3 x0.c3) := KB0.at_ rfl
    have xKB0_4 : ((w.alloc (.cells #[.int .i64 x0.p0, .slice x0.A1 x0.n1 x0.c1, .slice x0.A2 x0.n2 x0.c2, .slice x0.A3 x0.n3 x0.c3, .slice x0.A4 x0.n4 x0.c4, .slice x0.A5 x0.n5 x0.c5, .slice x0.A6 x0.n6 x0.c6, .int .i64 x0.p7] 29)).alloc (.cells #[.int .i64 a1.f0, .int .i64 a1.f1, .int .i64 a1.f2] 33)).cell? ⟨w.heap.size, 4, none⟩ = some (.slice x0.A4 x0.n4 x0.c4) := KB0.at_ rfl
    have xKB0_5 : ((w.alloc (.cells #[.int .i64 x0.p0, .slice x0.A1 x0.n1 x0.c1, .slice x0.A2 x0.n2 x0.c2, .slice x0.A3 x0.n3 x0.c3, .slice x0.A4 x0.n4 x0.c4, .slice x0.A5 x0.n5 x0.c5, .slice x0.A6 x0.n6 x0.c6, .int .i64 x0.p7] 29)).alloc (.cells #[.int .i64 a1.f0, .int .i64 a1.f1, .int .i64 a1.f2] 33)).cell? ⟨w.heap.size, 5, none⟩ = some (.slice x0.A5 x0.n5 x0.c5) := KB0.at_ rfl
    have xKB0_6 : ((w.alloc (.cells #[.int .i64 x0.p0, .slice x0.A1 x0.n1 x0.c1, .slice x0.A2 x0.n2 x0.c2, .slice x0.A3 x0.n3 x0.c3, .slice x0.A4 x0.n4 x0.c4, .slice x0.A5 x0.n5 x0.c5, .slice x0.A6 x0.n6 x0.c6, .int .i64 x0.p7] 29)).alloc (.cells #[.int .i64 a1.f0, .int .i64 a1.f1, .int .i64 a1.f2] 33)).cell? ⟨w.heap.size, 6, none⟩ = some (.slice x0.A6 x0.n6 x0.c6) := KB0.at_ rfl
    have xKB0_7 : ((w.alloc (.cells #[.int .i64 x0.p0, .slice x0.A1 x0.n1 x0.c1, .slice x0.A2 x0.n2 x0.c2, .slice x0.A3 x0.n3 x0.c3, .slice x0.A4 x0.n4 x0.c4, .slice x0.A5 x0.n5 x0.c5, .slice x0.A6 x0.n6 x0.c6, .int .i64 x0.p7] 29)).alloc (.cells #[.int .i64 a1.f0, .int .i64 a1.f1, .int .i64 a1.f2] 33)).cell? ⟨w.heap.size, 7, none⟩ = some (.int .i64 x0.p7) := KB0.at_ rfl
    go_wp2_with fail
    refine Calls.mono (sz_browser x0 _ _ (1048576) _ R0 (by omega) (by omega)) ?_
    rintro e w1 ⟨rfl, B1⟩
    replace R0 := (R0).new B1
    replace KB0 := (KB0).new B1
    replace KB1 := (KB1).new B1
    replace G := below_trans G B1 (Nat.le_refl _)
    have S1 := Lib.hid (show ((w.alloc (.cells #[.int .i64 x0.p0, .slice x0.A1 x0.n1 x0.c1, .slice x0.A2 x0.n2 x0.c2, .slice x0.A3 x0.n3 x0.c3, .slice x0.A4 x0.n4 x0.c4, .slice x0.A5 x0.n5 x0.c5, .slice x0.A6 x0.n6 x0.c6, .int .i64 x0.p7] 29)).alloc (.cells #[.int .i64 a1.f0, .int .i64 a1.f1, .int .i64 a1.f2] 33)).heap.size + 0 ≤ w1.heap.size by have := B1.size; first | (simpa using this) | ((try simp at this); omega))
    clear B1
    clear xKB0_0 xKB0_1 xKB0_2 xKB0_3 xKB0_4 xKB0_5 xKB0_6 xKB0_7
    go_upto_region 5 with fail
    go_cut [6] (fun s6 wx => ∃ (gA : Nat) (P4_0_2 : Option Addr) (pc4_0_2 : Nat) (plo4_0_2 : Nat) (phi4_0_2 : Nat), s6 = .pointer (some ⟨gA, 0, none⟩) ∧ Hid (BoxAt wx gA 38 #[.int .i64 ((mAsk x0.dat a1).c), .int .i64 ((mAsk x0.dat a1).s).f0, .int .i64 ((mAsk x0.dat a1).s).f1, .slice P4_0_2 (((mAsk x0.dat a1).p).length) pc4_0_2]) ∧ Hid (Fr wx plo4_0_2 phi4_0_2 35 2 P4_0_2 (((mAsk x0.dat a1).p).length) pc4_0_2 (cSite ((mAsk x0.dat a1).p))) ∧ Hid (SepOutcome plo4_0_2 phi4_0_2 plo4_0_2 phi4_0_2) ∧ (w1.heap.size ≤ plo4_0_2 ∧ phi4_0_2 ≤ wx.heap.size) ∧ Hid (Below w1.heap.size w1 wx) ∧ w1.heap.size ≤ gA ∧ gA < wx.heap.size ∧ (gA < plo4_0_2 ∨ phi4_0_2 ≤ gA))
    case first =>
      refine wp_region_held_drew (S := fun w' => BoxAt w' w.heap.size 29 #[.int .i64 x0.p0, .slice x0.A1 x0.n1 x0.c1, .slice x0.A2 x0.n2 x0.c2, .slice x0.A3 x0.n3 x0.c3, .slice x0.A4 x0.n4 x0.c4, .slice x0.A5 x0.n5 x0.c5, .slice x0.A6 x0.n6 x0.c6, .int .i64 x0.p7] ∧ BoxAt w' (w.heap.size + 1) 33 #[.int .i64 a1.f0, .int .i64 a1.f1, .int .i64 a1.f2] ∧ Below w1.heap.size w1 w') (by kernel_rfl) ?_ (fun hHeld => ?_)
      · exact ⟨KB0.drw, KB1.drw, (Below.refl _ _).drew⟩
      generalize (World.drew _) = v0 at hHeld ⊢
      refine wpAnyH_take (i := 0) (oi := ⟨some 18, _, _, _, _, _⟩) (v := ?_) rfl (by kernel_rfl) (by kernel_rfl) (by kernel_rfl) (fun _ _ _ h => h) (Or.inl ⟨by kernel_rfl, ?_⟩) hHeld ?_
      rotate_left
      focus (intro W hS; have c0_0 := (hS.1).at_ (j := 0) rfl; have c0_1 := (hS.1).at_ (j := 1) rfl; have c0_2 := (hS.1).at_ (j := 2) rfl; have c0_3 := (hS.1).at_ (j := 3) rfl; have c0_4 := (hS.1).at_ (j := 4) rfl; have c0_5 := (hS.1).at_ (j := 5) rfl; have c0_6 := (hS.1).at_ (j := 6) rfl; have c0_7 := (hS.1).at_ (j := 7) rfl; have c1_0 := (hS.2.1).at_ (j := 0) rfl; have c1_1 := (hS.2.1).at_ (j := 1) rfl; have c1_2 := (hS.2.1).at_ (j := 2) rfl; clear hS; first | (go_simp; done) | (go_simp; with_reducible rfl))
      try simp only [Act.put, List.setIfInBounds_toArray, List.set_cons_zero, List.set_cons_succ]
      refine wpAnyH_take (i := 2) (oi := ⟨some 20, _, _, _, _, _⟩) (v := ?_) rfl (by kernel_rfl) (by kernel_rfl) (by kernel_rfl) (fun _ _ _ h => h) (Or.inl ⟨by kernel_rfl, ?_⟩) hHeld ?_
      rotate_left
      focus (intro W hS; have c0_0 := (hS.1).at_ (j := 0) rfl; have c0_1 := (hS.1).at_ (j := 1) rfl; have c0_2 := (hS.1).at_ (j := 2) rfl; have c0_3 := (hS.1).at_ (j := 3) rfl; have c0_4 := (hS.1).at_ (j := 4) rfl; have c0_5 := (hS.1).at_ (j := 5) rfl; have c0_6 := (hS.1).at_ (j := 6) rfl; have c0_7 := (hS.1).at_ (j := 7) rfl; have c1_0 := (hS.2.1).at_ (j := 0) rfl; have c1_1 := (hS.2.1).at_ (j := 1) rfl; have c1_2 := (hS.2.1).at_ (j := 2) rfl; clear hS; first | (go_simp; done) | (go_simp; with_reducible rfl))
      try simp only [Act.put, List.setIfInBounds_toArray, List.set_cons_zero, List.set_cons_succ]
      refine wpAnyH_ready (rs := [1, 5]) (by kernel_rfl) (by simp) ?_
      refine AllReadyH.cons (o := ⟨some 19, _, _, _, _, _⟩) rfl (fun K hK => ?_) ?_
      · skip
        go_simp
        have HS1 := hHeld.2.2.size
        refine Calls.mono (to_browser x0 _ _ _ (by omega) (R0.new hHeld.2.2)) ?_
        rintro e v1 ⟨T2, rfl, ET2, GFT2, hb1⟩
        replace ET2 := Lib.hid ET2
        have Z1 := hb1.size
        refine hK.out _ _ ⟨hHeld.1.new hb1, hHeld.2.1.new hb1, below_trans hHeld.2.2 hb1 (Nat.le_refl _)⟩ (fun hHeld' => ?_)
        clear hK K hHeld hb1
        have hHeld := hHeld'
        clear hHeld'
        try simp only [Act.put, List.setIfInBounds_toArray, List.set_cons_zero, List.set_cons_succ]
        refine wpAnyH_ready (rs := [3, 5]) (by kernel_rfl) (by simp) ?_
        refine AllReadyH.cons (o := ⟨some 21, _, _, _, _, _⟩) rfl (fun K hK => ?_) ?_
        · skip
          go_simp
          have HS3 := hHeld.2.2.size
          refine Calls.mono (to_request_one a1 _) ?_
          rintro e v2 ⟨rfl, hb1⟩
          have Z3 := hb1.size
          replace GFT2 := GFT2.new hb1
          refine hK.out _ _ ⟨hHeld.1.new hb1, hHeld.2.1.new hb1, below_trans hHeld.2.2 hb1 (Nat.le_refl _)⟩ (fun hHeld' => ?_)
          clear hK K hHeld hb1
          have hHeld := hHeld'
          clear hHeld'
          try simp only [Act.put, List.setIfInBounds_toArray, List.set_cons_zero, List.set_cons_succ]
          refine wpAnyH_ready (rs := [4, 5]) (by kernel_rfl) (by simp) ?_
          refine AllReadyH.cons (o := ⟨some 22, _, _, _, _, _⟩) rfl (fun K hK => ?_) ?_
          · skip
            go_simp
            have HS4 := hHeld.2.2.size
            refine Calls.mono (spec_AskPage T2 x0.dat _ _ a1 _ ET2.out (by omega) H0.out GFT2.rd GFT2.caps H1) ?_
            rintro e v3 ⟨P4_0_2, pc4_0_2, plo4_0_2, phi4_0_2, rfl, GFP4_0_2, MP4_0, hb1⟩
            have Z4 := hb1.size
            clear GFT2
            have QMP4_0 := SepOutcome_bd MP4_0.out
            refine hK.out _ _ ⟨hHeld.1.new hb1, hHeld.2.1.new hb1, below_trans hHeld.2.2 hb1 (Nat.le_refl _)⟩ (fun hHeld' => ?_)
            clear hK K hHeld hb1
            have hHeld := hHeld'
            clear hHeld'
            try simp only [Act.put, List.setIfInBounds_toArray, List.set_cons_zero, List.set_cons_succ]
            refine wpAnyH_ready (rs := [5]) (by kernel_rfl) (by simp) ?_
            refine AllReadyH.cons (o := ⟨some 6, _, _, _, _, _⟩) rfl (fun K hK => ?_) AllReadyH.nil
            go_simp
            have GA := box_new (v3) 38 #[.int .i64 0, .int .i64 0, .int .i64 0, .slice none 0 0]
            have hb1 := (Below.refl (v3).heap.size (v3)).alloc (Nat.le_refl _) (.cells #[.int .i64 0, .int .i64 0, .int .i64 0, .slice none 0 0] 38)
            have HSa := hHeld.2.2.size
            have MA0 := (hHeld.1).lt
            have MA1 := (hHeld.2.1).lt
            replace GFP4_0_2 := GFP4_0_2.new hb1
            generalize (v3).alloc (.cells #[.int .i64 0, .int .i64 0, .int .i64 0, .slice none 0 0] 38) = v4 at hb1 GA GFP4_0_2 ⊢
            have Za := hb1.size
            generalize hgA : (v3).heap.size = gA at GA ⊢
            refine hK.out _ _ ⟨hHeld.1.new hb1, hHeld.2.1.new hb1, below_trans hHeld.2.2 hb1 (Nat.le_refl _)⟩ (fun hHeld' => ?_)
            clear hK K hHeld hb1
            have hHeld := hHeld'
            clear hHeld'
            try simp only [Act.put, List.setIfInBounds_toArray, List.set_cons_zero, List.set_cons_succ]
            refine wpAnyH_ready (rs := [6]) (by kernel_rfl) (by simp) ?_
            refine AllReadyH.cons (o := ⟨none, _, _, _, _, _⟩) rfl (fun K hK => ?_) AllReadyH.nil
            rw [if_pos (by rfl)]
            refine wp_store_row 38 _ _ rfl gA #[.int .i64 ((mAsk x0.dat a1).c), .int .i64 ((mAsk x0.dat a1).s).f0, .int .i64 ((mAsk x0.dat a1).s).f1, .slice P4_0_2 (((mAsk x0.dat a1).p).length) pc4_0_2] rfl rfl 38 _ GA (by kernel_rfl) (by kernel_rfl) (by kernel_rfl) ?_
            replace GA := box_row (cs := #[.int .i64 ((mAsk x0.dat a1).c), .int .i64 ((mAsk x0.dat a1).s).f0, .int .i64 ((mAsk x0.dat a1).s).f1, .slice P4_0_2 (((mAsk x0.dat a1).p).length) pc4_0_2]) GA
            have hc1 := chg_row v4 gA #[.int .i64 ((mAsk x0.dat a1).c), .int .i64 ((mAsk x0.dat a1).s).f0, .int .i64 ((mAsk x0.dat a1).s).f1, .slice P4_0_2 (((mAsk x0.dat a1).p).length) pc4_0_2]
            have hHeld2 : BoxAt (World.setRow v4 gA #[.int .i64 ((mAsk x0.dat a1).c), .int .i64 ((mAsk x0.dat a1).s).f0, .int .i64 ((mAsk x0.dat a1).s).f1, .slice P4_0_2 (((mAsk x0.dat a1).p).length) pc4_0_2]) w.heap.size 29 #[.int .i64 x0.p0, .slice x0.A1 x0.n1 x0.c1, .slice x0.A2 x0.n2 x0.c2, .slice x0.A3 x0.n3 x0.c3, .slice x0.A4 x0.n4 x0.c4, .slice x0.A5 x0.n5 x0.c5, .slice x0.A6 x0.n6 x0.c6, .int .i64 x0.p7] ∧ BoxAt (World.setRow v4 gA #[.int .i64 ((mAsk x0.dat a1).c), .int .i64 ((mAsk x0.dat a1).s).f0, .int .i64 ((mAsk x0.dat a1).s).f1, .slice P4_0_2 (((mAsk x0.dat a1).p).length) pc4_0_2]) (w.heap.size + 1) 33 #[.int .i64 a1.f0, .int .i64 a1.f1, .int .i64 a1.f2] ∧ Below w1.heap.size w1 (World.setRow v4 gA #[.int .i64 ((mAsk x0.dat a1).c), .int .i64 ((mAsk x0.dat a1).s).f0, .int .i64 ((mAsk x0.dat a1).s).f1, .slice P4_0_2 (((mAsk x0.dat a1).p).length) pc4_0_2]) := ⟨hHeld.1.chg hc1 (by omega), hHeld.2.1.chg hc1 (by omega), below_setRow hHeld.2.2 (by omega) _⟩
            replace GFP4_0_2 := GFP4_0_2.chg hc1 (by omega)
            clear hc1
            have Z5 : (v4).heap.size ≤ (World.setRow v4 gA #[.int .i64 ((mAsk x0.dat a1).c), .int .i64 ((mAsk x0.dat a1).s).f0, .int .i64 ((mAsk x0.dat a1).s).f1, .slice P4_0_2 (((mAsk x0.dat a1).p).length) pc4_0_2]).heap.size := by simp
            generalize World.setRow v4 gA #[.int .i64 ((mAsk x0.dat a1).c), .int .i64 ((mAsk x0.dat a1).s).f0, .int .i64 ((mAsk x0.dat a1).s).f1, .slice P4_0_2 (((mAsk x0.dat a1).p).length) pc4_0_2] = v5 at hHeld2 GA GFP4_0_2 Z5 ⊢
            refine hK.out _ _ hHeld2 (fun hHeld' => ?_)
            clear hHeld2
            clear hK K hHeld
            have hHeld := hHeld'
            clear hHeld'
            try simp only [Act.put, List.setIfInBounds_toArray, List.set_cons_zero, List.set_cons_succ]
            refine wpAnyH_done (by kernel_rfl) ?_ _
            go_wp2_with fail
            have hSz := hHeld.2.2.size
            go_meet
            exact ⟨gA, P4_0_2, pc4_0_2, plo4_0_2, phi4_0_2, rfl, Lib.hid GA, Lib.hid GFP4_0_2, Lib.hid (by unfold SepOutcome; omega), ⟨by omega, by omega⟩, Lib.hid hHeld.2.2, by omega, GA.lt, by omega⟩
          refine AllReadyH.cons (o := ⟨some 6, _, _, _, _, _⟩) rfl (fun K hK => ?_) ?_
          · skip
            go_simp
            have GA := box_new (v2) 38 #[.int .i64 0, .int .i64 0, .int .i64 0, .slice none 0 0]
            have hb1 := (Below.refl (v2).heap.size (v2)).alloc (Nat.le_refl _) (.cells #[.int .i64 0, .int .i64 0, .int .i64 0, .slice none 0 0] 38)
            have HSa := hHeld.2.2.size
            have MA0 := (hHeld.1).lt
            have MA1 := (hHeld.2.1).lt
            replace GFT2 := GFT2.new hb1
            generalize (v2).alloc (.cells #[.int .i64 0, .int .i64 0, .int .i64 0, .slice none 0 0] 38) = v3 at hb1 GA GFT2 ⊢
            have Za := hb1.size
            generalize hgA : (v2).heap.size = gA at GA ⊢
            refine hK.out _ _ ⟨hHeld.1.new hb1, hHeld.2.1.new hb1, below_trans hHeld.2.2 hb1 (Nat.le_refl _)⟩ (fun hHeld' => ?_)
            clear hK K hHeld hb1
            have hHeld := hHeld'
            clear hHeld'
            try simp only [Act.put, List.setIfInBounds_toArray, List.set_cons_zero, List.set_cons_succ]
            refine wpAnyH_ready (rs := [4]) (by kernel_rfl) (by simp) ?_
            refine AllReadyH.cons (o := ⟨some 22, _, _, _, _, _⟩) rfl (fun K hK => ?_) AllReadyH.nil
            go_simp
            have P4 := GA.lt
            have HS4 := hHeld.2.2.size
            refine Calls.mono (spec_AskPage T2 x0.dat _ _ a1 _ ET2.out (by omega) H0.out GFT2.rd GFT2.caps H1) ?_
            rintro e v4 ⟨P4_0_2, pc4_0_2, plo4_0_2, phi4_0_2, rfl, GFP4_0_2, MP4_0, hb1⟩
            have Z4 := hb1.size
            clear GFT2
            have QMP4_0 := SepOutcome_bd MP4_0.out
            replace GA := GA.new hb1
            refine hK.out _ _ ⟨hHeld.1.new hb1, hHeld.2.1.new hb1, below_trans hHeld.2.2 hb1 (Nat.le_refl _)⟩ (fun hHeld' => ?_)
            clear hK K hHeld hb1
            have hHeld := hHeld'
            clear hHeld'
            try simp only [Act.put, List.setIfInBounds_toArray, List.set_cons_zero, List.set_cons_succ]
            refine wpAnyH_ready (rs := [6]) (by kernel_rfl) (by simp) ?_
            refine AllReadyH.cons (o := ⟨none, _, _, _, _, _⟩) rfl (fun K hK => ?_) AllReadyH.nil
            rw [if_pos (by rfl)]
            refine wp_store_row 38 _ _ rfl gA #[.int .i64 ((mAsk x0.dat a1).c), .int .i64 ((mAsk x0.dat a1).s).f0, .int .i64 ((mAsk x0.dat a1).s).f1, .slice P4_0_2 (((mAsk x0.dat a1).p).length) pc4_0_2] rfl rfl 38 _ GA (by kernel_rfl) (by kernel_rfl) (by kernel_rfl) ?_
            replace GA := box_row (cs := #[.int .i64 ((mAsk x0.dat a1).c), .int .i64 ((mAsk x0.dat a1).s).f0, .int .i64 ((mAsk x0.dat a1).s).f1, .slice P4_0_2 (((mAsk x0.dat a1).p).length) pc4_0_2]) GA
            have hc1 := chg_row v4 gA #[.int .i64 ((mAsk x0.dat a1).c), .int .i64 ((mAsk x0.dat a1).s).f0, .int .i64 ((mAsk x0.dat a1).s).f1, .slice P4_0_2 (((mAsk x0.dat a1).p).length) pc4_0_2]
            have hHeld2 : BoxAt (World.setRow v4 gA #[.int .i64 ((mAsk x0.dat a1).c), .int .i64 ((mAsk x0.dat a1).s).f0, .int .i64 ((mAsk x0.dat a1).s).f1, .slice P4_0_2 (((mAsk x0.dat a1).p).length) pc4_0_2]) w.heap.size 29 #[.int .i64 x0.p0, .slice x0.A1 x0.n1 x0.c1, .slice x0.A2 x0.n2 x0.c2, .slice x0.A3 x0.n3 x0.c3, .slice x0.A4 x0.n4 x0.c4, .slice x0.A5 x0.n5 x0.c5, .slice x0.A6 x0.n6 x0.c6, .int .i64 x0.p7] ∧ BoxAt (World.setRow v4 gA #[.int .i64 ((mAsk x0.dat a1).c), .int .i64 ((mAsk x0.dat a1).s).f0, .int .i64 ((mAsk x0.dat a1).s).f1, .slice P4_0_2 (((mAsk x0.dat a1).p).length) pc4_0_2]) (w.heap.size + 1) 33 #[.int .i64 a1.f0, .int .i64 a1.f1, .int .i64 a1.f2] ∧ Below w1.heap.size w1 (World.setRow v4 gA #[.int .i64 ((mAsk x0.dat a1).c), .int .i64 ((mAsk x0.dat a1).s).f0, .int .i64 ((mAsk x0.dat a1).s).f1, .slice P4_0_2 (((mAsk x0.dat a1).p).length) pc4_0_2]) := ⟨hHeld.1.chg hc1 (by omega), hHeld.2.1.chg hc1 (by omega), below_setRow hHeld.2.2 (by omega) _⟩
            replace GFP4_0_2 := GFP4_0_2.chg hc1 (by omega)
            clear hc1
            have Z5 : (v4).heap.size ≤ (World.setRow v4 gA #[.int .i64 ((mAsk x0.dat a1).c), .int .i64 ((mAsk x0.dat a1).s).f0, .int .i64 ((mAsk x0.dat a1).s).f1, .slice P4_0_2 (((mAsk x0.dat a1).p).length) pc4_0_2]).heap.size := by simp
            generalize World.setRow v4 gA #[.int .i64 ((mAsk x0.dat a1).c), .int .i64 ((mAsk x0.dat a1).s).f0, .int .i64 ((mAsk x0.dat a1).s).f1, .slice P4_0_2 (((mAsk x0.dat a1).p).length) pc4_0_2] = v5 at hHeld2 GA GFP4_0_2 Z5 ⊢
            refine hK.out _ _ hHeld2 (fun hHeld' => ?_)
            clear hHeld2
            clear hK K hHeld
            have hHeld := hHeld'
            clear hHeld'
            try simp only [Act.put, List.setIfInBounds_toArray, List.set_cons_zero, List.set_cons_succ]
            refine wpAnyH_done (by kernel_rfl) ?_ _
            go_wp2_with fail
            have hSz := hHeld.2.2.size
            go_meet
            exact ⟨gA, P4_0_2, pc4_0_2, plo4_0_2, phi4_0_2, rfl, Lib.hid GA, Lib.hid GFP4_0_2, Lib.hid (by unfold SepOutcome; omega), ⟨by omega, by omega⟩, Lib.hid hHeld.2.2, by omega, GA.lt, by omega⟩
          exact AllReadyH.nil
        refine AllReadyH.cons (o := ⟨some 6, _, _, _, _, _⟩) rfl (fun K hK => ?_) ?_
        · skip
          go_simp
          have GA := box_new (v1) 38 #[.int .i64 0, .int .i64 0, .int .i64 0, .slice none 0 0]
          have hb1 := (Below.refl (v1).heap.size (v1)).alloc (Nat.le_refl _) (.cells #[.int .i64 0, .int .i64 0, .int .i64 0, .slice none 0 0] 38)
          have HSa := hHeld.2.2.size
          have MA0 := (hHeld.1).lt
          have MA1 := (hHeld.2.1).lt
          replace GFT2 := GFT2.new hb1
          generalize (v1).alloc (.cells #[.int .i64 0, .int .i64 0, .int .i64 0, .slice none 0 0] 38) = v2 at hb1 GA GFT2 ⊢
          have Za := hb1.size
          generalize hgA : (v1).heap.size = gA at GA ⊢
          refine hK.out _ _ ⟨hHeld.1.new hb1, hHeld.2.1.new hb1, below_trans hHeld.2.2 hb1 (Nat.le_refl _)⟩ (fun hHeld' => ?_)
          clear hK K hHeld hb1
          have hHeld := hHeld'
          clear hHeld'
          try simp only [Act.put, List.setIfInBounds_toArray, List.set_cons_zero, List.set_cons_succ]
          refine wpAnyH_ready (rs := [3]) (by kernel_rfl) (by simp) ?_
          refine AllReadyH.cons (o := ⟨some 21, _, _, _, _, _⟩) rfl (fun K hK => ?_) AllReadyH.nil
          go_simp
          have P3 := GA.lt
          have HS3 := hHeld.2.2.size
          refine Calls.mono (to_request_one a1 _) ?_
          rintro e v3 ⟨rfl, hb1⟩
          have Z3 := hb1.size
          replace GA := GA.new hb1
          replace GFT2 := GFT2.new hb1
          refine hK.out _ _ ⟨hHeld.1.new hb1, hHeld.2.1.new hb1, below_trans hHeld.2.2 hb1 (Nat.le_refl _)⟩ (fun hHeld' => ?_)
          clear hK K hHeld hb1
          have hHeld := hHeld'
          clear hHeld'
          try simp only [Act.put, List.setIfInBounds_toArray, List.set_cons_zero, List.set_cons_succ]
          refine wpAnyH_ready (rs := [4]) (by kernel_rfl) (by simp) ?_
          refine AllReadyH.cons (o := ⟨some 22, _, _, _, _, _⟩) rfl (fun K hK => ?_) AllReadyH.nil
          go_simp
          have P4 := GA.lt
          have HS4 := hHeld.2.2.size
          refine Calls.mono (spec_AskPage T2 x0.dat _ _ a1 _ ET2.out (by omega) H0.out GFT2.rd GFT2.caps H1) ?_
          rintro e v4 ⟨P4_0_2, pc4_0_2, plo4_0_2, phi4_0_2, rfl, GFP4_0_2, MP4_0, hb1⟩
          have Z4 := hb1.size
          clear GFT2
          have QMP4_0 := SepOutcome_bd MP4_0.out
          replace GA := GA.new hb1
          refine hK.out _ _ ⟨hHeld.1.new hb1, hHeld.2.1.new hb1, below_trans hHeld.2.2 hb1 (Nat.le_refl _)⟩ (fun hHeld' => ?_)
          clear hK K hHeld hb1
          have hHeld := hHeld'
          clear hHeld'
          try simp only [Act.put, List.setIfInBounds_toArray, List.set_cons_zero, List.set_cons_succ]
          refine wpAnyH_ready (rs := [6]) (by kernel_rfl) (by simp) ?_
          refine AllReadyH.cons (o := ⟨none, _, _, _, _, _⟩) rfl (fun K hK => ?_) AllReadyH.nil
          rw [if_pos (by rfl)]
          refine wp_store_row 38 _ _ rfl gA #[.int .i64 ((mAsk x0.dat a1).c), .int .i64 ((mAsk x0.dat a1).s).f0, .int .i64 ((mAsk x0.dat a1).s).f1, .slice P4_0_2 (((mAsk x0.dat a1).p).length) pc4_0_2] rfl rfl 38 _ GA (by kernel_rfl) (by kernel_rfl) (by kernel_rfl) ?_
          replace GA := box_row (cs := #[.int .i64 ((mAsk x0.dat a1).c), .int .i64 ((mAsk x0.dat a1).s).f0, .int .i64 ((mAsk x0.dat a1).s).f1, .slice P4_0_2 (((mAsk x0.dat a1).p).length) pc4_0_2]) GA
          have hc1 := chg_row v4 gA #[.int .i64 ((mAsk x0.dat a1).c), .int .i64 ((mAsk x0.dat a1).s).f0, .int .i64 ((mAsk x0.dat a1).s).f1, .slice P4_0_2 (((mAsk x0.dat a1).p).length) pc4_0_2]
          have hHeld2 : BoxAt (World.setRow v4 gA #[.int .i64 ((mAsk x0.dat a1).c), .int .i64 ((mAsk x0.dat a1).s).f0, .int .i64 ((mAsk x0.dat a1).s).f1, .slice P4_0_2 (((mAsk x0.dat a1).p).length) pc4_0_2]) w.heap.size 29 #[.int .i64 x0.p0, .slice x0.A1 x0.n1 x0.c1, .slice x0.A2 x0.n2 x0.c2, .slice x0.A3 x0.n3 x0.c3, .slice x0.A4 x0.n4 x0.c4, .slice x0.A5 x0.n5 x0.c5, .slice x0.A6 x0.n6 x0.c6, .int .i64 x0.p7] ∧ BoxAt (World.setRow v4 gA #[.int .i64 ((mAsk x0.dat a1).c), .int .i64 ((mAsk x0.dat a1).s).f0, .int .i64 ((mAsk x0.dat a1).s).f1, .slice P4_0_2 (((mAsk x0.dat a1).p).length) pc4_0_2]) (w.heap.size + 1) 33 #[.int .i64 a1.f0, .int .i64 a1.f1, .int .i64 a1.f2] ∧ Below w1.heap.size w1 (World.setRow v4 gA #[.int .i64 ((mAsk x0.dat a1).c), .int .i64 ((mAsk x0.dat a1).s).f0, .int .i64 ((mAsk x0.dat a1).s).f1, .slice P4_0_2 (((mAsk x0.dat a1).p).length) pc4_0_2]) := ⟨hHeld.1.chg hc1 (by omega), hHeld.2.1.chg hc1 (by omega), below_setRow hHeld.2.2 (by omega) _⟩
          replace GFP4_0_2 := GFP4_0_2.chg hc1 (by omega)
          clear hc1
          have Z5 : (v4).heap.size ≤ (World.setRow v4 gA #[.int .i64 ((mAsk x0.dat a1).c), .int .i64 ((mAsk x0.dat a1).s).f0, .int .i64 ((mAsk x0.dat a1).s).f1, .slice P4_0_2 (((mAsk x0.dat a1).p).length) pc4_0_2]).heap.size := by simp
          generalize World.setRow v4 gA #[.int .i64 ((mAsk x0.dat a1).c), .int .i64 ((mAsk x0.dat a1).s).f0, .int .i64 ((mAsk x0.dat a1).s).f1, .slice P4_0_2 (((mAsk x0.dat a1).p).length) pc4_0_2] = v5 at hHeld2 GA GFP4_0_2 Z5 ⊢
          refine hK.out _ _ hHeld2 (fun hHeld' => ?_)
          clear hHeld2
          clear hK K hHeld
          have hHeld := hHeld'
          clear hHeld'
          try simp only [Act.put, List.setIfInBounds_toArray, List.set_cons_zero, List.set_cons_succ]
          refine wpAnyH_done (by kernel_rfl) ?_ _
          go_wp2_with fail
          have hSz := hHeld.2.2.size
          go_meet
          exact ⟨gA, P4_0_2, pc4_0_2, plo4_0_2, phi4_0_2, rfl, Lib.hid GA, Lib.hid GFP4_0_2, Lib.hid (by unfold SepOutcome; omega), ⟨by omega, by omega⟩, Lib.hid hHeld.2.2, by omega, GA.lt, by omega⟩
        exact AllReadyH.nil
      refine AllReadyH.cons (o := ⟨some 6, _, _, _, _, _⟩) rfl (fun K hK => ?_) ?_
      · skip
        go_simp
        have GA := box_new (v0) 38 #[.int .i64 0, .int .i64 0, .int .i64 0, .slice none 0 0]
        have hb1 := (Below.refl (v0).heap.size (v0)).alloc (Nat.le_refl _) (.cells #[.int .i64 0, .int .i64 0, .int .i64 0, .slice none 0 0] 38)
        have HSa := hHeld.2.2.size
        have MA0 := (hHeld.1).lt
        have MA1 := (hHeld.2.1).lt
        generalize (v0).alloc (.cells #[.int .i64 0, .int .i64 0, .int .i64 0, .slice none 0 0] 38) = v1 at hb1 GA  ⊢
        have Za := hb1.size
        generalize hgA : (v0).heap.size = gA at GA ⊢
        refine hK.out _ _ ⟨hHeld.1.new hb1, hHeld.2.1.new hb1, below_trans hHeld.2.2 hb1 (Nat.le_refl _)⟩ (fun hHeld' => ?_)
        clear hK K hHeld hb1
        have hHeld := hHeld'
        clear hHeld'
        try simp only [Act.put, List.setIfInBounds_toArray, List.set_cons_zero, List.set_cons_succ]
        refine wpAnyH_ready (rs := [1]) (by kernel_rfl) (by simp) ?_
        refine AllReadyH.cons (o := ⟨some 19, _, _, _, _, _⟩) rfl (fun K hK => ?_) AllReadyH.nil
        go_simp
        have P1 := GA.lt
        have HS1 := hHeld.2.2.size
        refine Calls.mono (to_browser x0 _ _ _ (by omega) (R0.new hHeld.2.2)) ?_
        rintro e v2 ⟨T2, rfl, ET2, GFT2, hb1⟩
        replace ET2 := Lib.hid ET2
        have Z1 := hb1.size
        replace GA := GA.new hb1
        refine hK.out _ _ ⟨hHeld.1.new hb1, hHeld.2.1.new hb1, below_trans hHeld.2.2 hb1 (Nat.le_refl _)⟩ (fun hHeld' => ?_)
        clear hK K hHeld hb1
        have hHeld := hHeld'
        clear hHeld'
        try simp only [Act.put, List.setIfInBounds_toArray, List.set_cons_zero, List.set_cons_succ]
        refine wpAnyH_ready (rs := [3]) (by kernel_rfl) (by simp) ?_
        refine AllReadyH.cons (o := ⟨some 21, _, _, _, _, _⟩) rfl (fun K hK => ?_) AllReadyH.nil
        go_simp
        have P3 := GA.lt
        have HS3 := hHeld.2.2.size
        refine Calls.mono (to_request_one a1 _) ?_
        rintro e v3 ⟨rfl, hb1⟩
        have Z3 := hb1.size
        replace GA := GA.new hb1
        replace GFT2 := GFT2.new hb1
        refine hK.out _ _ ⟨hHeld.1.new hb1, hHeld.2.1.new hb1, below_trans hHeld.2.2 hb1 (Nat.le_refl _)⟩ (fun hHeld' => ?_)
        clear hK K hHeld hb1
        have hHeld := hHeld'
        clear hHeld'
        try simp only [Act.put, List.setIfInBounds_toArray, List.set_cons_zero, List.set_cons_succ]
        refine wpAnyH_ready (rs := [4]) (by kernel_rfl) (by simp) ?_
        refine AllReadyH.cons (o := ⟨some 22, _, _, _, _, _⟩) rfl (fun K hK => ?_) AllReadyH.nil
        go_simp
        have P4 := GA.lt
        have HS4 := hHeld.2.2.size
        refine Calls.mono (spec_AskPage T2 x0.dat _ _ a1 _ ET2.out (by omega) H0.out GFT2.rd GFT2.caps H1) ?_
        rintro e v4 ⟨P4_0_2, pc4_0_2, plo4_0_2, phi4_0_2, rfl, GFP4_0_2, MP4_0, hb1⟩
        have Z4 := hb1.size
        clear GFT2
        have QMP4_0 := SepOutcome_bd MP4_0.out
        replace GA := GA.new hb1
        refine hK.out _ _ ⟨hHeld.1.new hb1, hHeld.2.1.new hb1, below_trans hHeld.2.2 hb1 (Nat.le_refl _)⟩ (fun hHeld' => ?_)
        clear hK K hHeld hb1
        have hHeld := hHeld'
        clear hHeld'
        try simp only [Act.put, List.setIfInBounds_toArray, List.set_cons_zero, List.set_cons_succ]
        refine wpAnyH_ready (rs := [6]) (by kernel_rfl) (by simp) ?_
        refine AllReadyH.cons (o := ⟨none, _, _, _, _, _⟩) rfl (fun K hK => ?_) AllReadyH.nil
        rw [if_pos (by rfl)]
        refine wp_store_row 38 _ _ rfl gA #[.int .i64 ((mAsk x0.dat a1).c), .int .i64 ((mAsk x0.dat a1).s).f0, .int .i64 ((mAsk x0.dat a1).s).f1, .slice P4_0_2 (((mAsk x0.dat a1).p).length) pc4_0_2] rfl rfl 38 _ GA (by kernel_rfl) (by kernel_rfl) (by kernel_rfl) ?_
        replace GA := box_row (cs := #[.int .i64 ((mAsk x0.dat a1).c), .int .i64 ((mAsk x0.dat a1).s).f0, .int .i64 ((mAsk x0.dat a1).s).f1, .slice P4_0_2 (((mAsk x0.dat a1).p).length) pc4_0_2]) GA
        have hc1 := chg_row v4 gA #[.int .i64 ((mAsk x0.dat a1).c), .int .i64 ((mAsk x0.dat a1).s).f0, .int .i64 ((mAsk x0.dat a1).s).f1, .slice P4_0_2 (((mAsk x0.dat a1).p).length) pc4_0_2]
        have hHeld2 : BoxAt (World.setRow v4 gA #[.int .i64 ((mAsk x0.dat a1).c), .int .i64 ((mAsk x0.dat a1).s).f0, .int .i64 ((mAsk x0.dat a1).s).f1, .slice P4_0_2 (((mAsk x0.dat a1).p).length) pc4_0_2]) w.heap.size 29 #[.int .i64 x0.p0, .slice x0.A1 x0.n1 x0.c1, .slice x0.A2 x0.n2 x0.c2, .slice x0.A3 x0.n3 x0.c3, .slice x0.A4 x0.n4 x0.c4, .slice x0.A5 x0.n5 x0.c5, .slice x0.A6 x0.n6 x0.c6, .int .i64 x0.p7] ∧ BoxAt (World.setRow v4 gA #[.int .i64 ((mAsk x0.dat a1).c), .int .i64 ((mAsk x0.dat a1).s).f0, .int .i64 ((mAsk x0.dat a1).s).f1, .slice P4_0_2 (((mAsk x0.dat a1).p).length) pc4_0_2]) (w.heap.size + 1) 33 #[.int .i64 a1.f0, .int .i64 a1.f1, .int .i64 a1.f2] ∧ Below w1.heap.size w1 (World.setRow v4 gA #[.int .i64 ((mAsk x0.dat a1).c), .int .i64 ((mAsk x0.dat a1).s).f0, .int .i64 ((mAsk x0.dat a1).s).f1, .slice P4_0_2 (((mAsk x0.dat a1).p).length) pc4_0_2]) := ⟨hHeld.1.chg hc1 (by omega), hHeld.2.1.chg hc1 (by omega), below_setRow hHeld.2.2 (by omega) _⟩
        replace GFP4_0_2 := GFP4_0_2.chg hc1 (by omega)
        clear hc1
        have Z5 : (v4).heap.size ≤ (World.setRow v4 gA #[.int .i64 ((mAsk x0.dat a1).c), .int .i64 ((mAsk x0.dat a1).s).f0, .int .i64 ((mAsk x0.dat a1).s).f1, .slice P4_0_2 (((mAsk x0.dat a1).p).length) pc4_0_2]).heap.size := by simp
        generalize World.setRow v4 gA #[.int .i64 ((mAsk x0.dat a1).c), .int .i64 ((mAsk x0.dat a1).s).f0, .int .i64 ((mAsk x0.dat a1).s).f1, .slice P4_0_2 (((mAsk x0.dat a1).p).length) pc4_0_2] = v5 at hHeld2 GA GFP4_0_2 Z5 ⊢
        refine hK.out _ _ hHeld2 (fun hHeld' => ?_)
        clear hHeld2
        clear hK K hHeld
        have hHeld := hHeld'
        clear hHeld'
        try simp only [Act.put, List.setIfInBounds_toArray, List.set_cons_zero, List.set_cons_succ]
        refine wpAnyH_done (by kernel_rfl) ?_ _
        go_wp2_with fail
        have hSz := hHeld.2.2.size
        go_meet
        exact ⟨gA, P4_0_2, pc4_0_2, plo4_0_2, phi4_0_2, rfl, Lib.hid GA, Lib.hid GFP4_0_2, Lib.hid (by unfold SepOutcome; omega), ⟨by omega, by omega⟩, Lib.hid hHeld.2.2, by omega, GA.lt, by omega⟩
      exact AllReadyH.nil
    case rest =>
      obtain ⟨g5, P4_0_2, pc4_0_2, plo4_0_2, phi4_0_2, rfl, KX5, FP4_0_2, MP4_0, ⟨LB5_0, UB5_0⟩, B5, LA5, MA5, NA5_0⟩ := hcut
      rename World => w2
      replace B5 := B5.out
      replace KX5 := KX5.out
      replace FP4_0_2 := FP4_0_2.out
      replace R0 := DBrowser.rd_nw B5 R0
      replace KB0 := box_nw B5 KB0
      replace KB1 := box_nw B5 KB1
      replace G := (by first | exact below_trans G B5 (Nat.le_refl _) | exact below_trans G.drew B5 (Nat.le_refl _) | exact below_trans (below_dN G _) B5 (Nat.le_refl _))
      have S2 := Lib.hid (show w1.heap.size ≤ w2.heap.size from B5.size)
      clear B5
      have xKB0_0 : w2.cell? ⟨w.heap.size, 0, none⟩ = some (.int .i64 x0.p0) := KB0.at_ rfl
      have xKB0_1 : w2.cell? ⟨w.heap.size, 1, none⟩ = some (.slice x0.A1 x0.n1 x0.c1) := KB0.at_ rfl
      have xKB0_2 : w2.cell? ⟨w.heap.size, 2, none⟩ = some (.slice x0.A2 x0.n2 x0.c2) := KB0.at_ rfl
      have xKB0_3 : w2.cell? ⟨w.heap.size, 3, none⟩ = some (.slice x0.A3 x0.n3 x0.c3) := KB0.at_ rfl
      have xKB0_4 : w2.cell? ⟨w.heap.size, 4, none⟩ = some (.slice x0.A4 x0.n4 x0.c4) := KB0.at_ rfl
      have xKB0_5 : w2.cell? ⟨w.heap.size, 5, none⟩ = some (.slice x0.A5 x0.n5 x0.c5) := KB0.at_ rfl
      have xKB0_6 : w2.cell? ⟨w.heap.size, 6, none⟩ = some (.slice x0.A6 x0.n6 x0.c6) := KB0.at_ rfl
      have xKB0_7 : w2.cell? ⟨w.heap.size, 7, none⟩ = some (.int .i64 x0.p7) := KB0.at_ rfl
      go_wp2_with fail
      refine Calls.mono (to_browser x0 _ _ _ (by omega) R0) ?_
      rintro e w3 ⟨T6, rfl, ET6, FT6, B6⟩
      replace ET6 := Lib.hid ET6
      replace R0 := (R0).new B6
      replace KB0 := (KB0).new B6
      replace KB1 := (KB1).new B6
      replace FP4_0_2 := (FP4_0_2).new B6
      replace KX5 := (KX5).new B6
      replace G := below_trans G B6 (Nat.le_refl _)
      have S3 := Lib.hid (show w2.heap.size + 0 ≤ w3.heap.size by have := B6.size; first | (simpa using this) | ((try simp at this); omega))
      clear B6
      clear xKB0_0 xKB0_1 xKB0_2 xKB0_3 xKB0_4 xKB0_5 xKB0_6 xKB0_7
      have SA8 := Lib.hid (show (w3.alloc (.cells #[.int .i64 T6.p0, .slice T6.A1 T6.n1 T6.c1, .slice T6.A2 T6.n2 T6.c2, .slice T6.A3 T6.n3 T6.c3, .slice T6.A4 T6.n4 T6.c4, .slice T6.A5 T6.n5 T6.c5, .slice T6.A6 T6.n6 T6.c6, .int .i64 T6.p7] 47)).heap.size = w3.heap.size + 1 by simp)
      replace R0 := R0.alloc (.cells #[.int .i64 T6.p0, .slice T6.A1 T6.n1 T6.c1, .slice T6.A2 T6.n2 T6.c2, .slice T6.A3 T6.n3 T6.c3, .slice T6.A4 T6.n4 T6.c4, .slice T6.A5 T6.n5 T6.c5, .slice T6.A6 T6.n6 T6.c6, .int .i64 T6.p7] 47)
      replace KB0 := KB0.alloc_ (.cells #[.int .i64 T6.p0, .slice T6.A1 T6.n1 T6.c1, .slice T6.A2 T6.n2 T6.c2, .slice T6.A3 T6.n3 T6.c3, .slice T6.A4 T6.n4 T6.c4, .slice T6.A5 T6.n5 T6.c5, .slice T6.A6 T6.n6 T6.c6, .int .i64 T6.p7] 47)
      replace KB1 := KB1.alloc_ (.cells #[.int .i64 T6.p0, .slice T6.A1 T6.n1 T6.c1, .slice T6.A2 T6.n2 T6.c2, .slice T6.A3 T6.n3 T6.c3, .slice T6.A4 T6.n4 T6.c4, .slice T6.A5 T6.n5 T6.c5, .slice T6.A6 T6.n6 T6.c6, .int .i64 T6.p7] 47)
      replace FP4_0_2 := FP4_0_2.alloc (.cells #[.int .i64 T6.p0, .slice T6.A1 T6.n1 T6.c1, .slice T6.A2 T6.n2 T6.c2, .slice T6.A3 T6.n3 T6.c3, .slice T6.A4 T6.n4 T6.c4, .slice T6.A5 T6.n5 T6.c5, .slice T6.A6 T6.n6 T6.c6, .int .i64 T6.p7] 47)
      replace KX5 := KX5.alloc_ (.cells #[.int .i64 T6.p0, .slice T6.A1 T6.n1 T6.c1, .slice T6.A2 T6.n2 T6.c2, .slice T6.A3 T6.n3 T6.c3, .slice T6.A4 T6.n4 T6.c4, .slice T6.A5 T6.n5 T6.c5, .slice T6.A6 T6.n6 T6.c6, .int .i64 T6.p7] 47)
      replace FT6 := FT6.alloc (.cells #[.int .i64 T6.p0, .slice T6.A1 T6.n1 T6.c1, .slice T6.A2 T6.n2 T6.c2, .slice T6.A3 T6.n3 T6.c3, .slice T6.A4 T6.n4 T6.c4, .slice T6.A5 T6.n5 T6.c5, .slice T6.A6 T6.n6 T6.c6, .int .i64 T6.p7] 47)
      have KX7 : BoxAt (w3.alloc (.cells #[.int .i64 T6.p0, .slice T6.A1 T6.n1 T6.c1, .slice T6.A2 T6.n2 T6.c2, .slice T6.A3 T6.n3 T6.c3, .slice T6.A4 T6.n4 T6.c4, .slice T6.A5 T6.n5 T6.c5, .slice T6.A6 T6.n6 T6.c6, .int .i64 T6.p7] 47)) (w3.heap.size) 47 #[.int .i64 T6.p0, .slice T6.A1 T6.n1 T6.c1, .slice T6.A2 T6.n2 T6.c2, .slice T6.A3 T6.n3 T6.c3, .slice T6.A4 T6.n4 T6.c4, .slice T6.A5 T6.n5 T6.c5, .slice T6.A6 T6.n6 T6.c6, .int .i64 T6.p7] := box_new _ _ _
      replace G := G.alloc (by have := S0.out; have := S1.out; have := S2.out; have := S3.out; have := SA8.out; have := SepOutcome_bd MP4_0.out; first | omega | (simp; omega)) (.cells #[.int .i64 T6.p0, .slice T6.A1 T6.n1 T6.c1, .slice T6.A2 T6.n2 T6.c2, .slice T6.A3 T6.n3 T6.c3, .slice T6.A4 T6.n4 T6.c4, .slice T6.A5 T6.n5 T6.c5, .slice T6.A6 T6.n6 T6.c6, .int .i64 T6.p7] 47)
      go_upto_region 7 with fail
      go_cut [8] (fun s8 wx => ∃ (gA : Nat) (P10_0_2 : Option Addr) (pc10_0_2 : Nat) (plo10_0_2 : Nat) (phi10_0_2 : Nat), s8 = .pointer (some ⟨gA, 0, none⟩) ∧ Hid (BoxAt wx gA 38 #[.int .i64 ((mAsk x0.dat a1).c), .int .i64 ((mAsk x0.dat a1).s).f0, .int .i64 ((mAsk x0.dat a1).s).f1, .slice P10_0_2 (((mAsk x0.dat a1).p).length) pc10_0_2]) ∧ Hid (Fr wx plo10_0_2 phi10_0_2 35 2 P10_0_2 (((mAsk x0.dat a1).p).length) pc10_0_2 (cSite ((mAsk x0.dat a1).p))) ∧ Hid (SepOutcome plo10_0_2 phi10_0_2 plo10_0_2 phi10_0_2) ∧ ((w3.alloc (.cells #[.int .i64 T6.p0, .slice T6.A1 T6.n1 T6.c1, .slice T6.A2 T6.n2 T6.c2, .slice T6.A3 T6.n3 T6.c3, .slice T6.A4 T6.n4 T6.c4, .slice T6.A5 T6.n5 T6.c5, .slice T6.A6 T6.n6 T6.c6, .int .i64 T6.p7] 47)).heap.size ≤ plo10_0_2 ∧ phi10_0_2 ≤ wx.heap.size) ∧ Hid (Below (w3.alloc (.cells #[.int .i64 T6.p0, .slice T6.A1 T6.n1 T6.c1, .slice T6.A2 T6.n2 T6.c2, .slice T6.A3 T6.n3 T6.c3, .slice T6.A4 T6.n4 T6.c4, .slice T6.A5 T6.n5 T6.c5, .slice T6.A6 T6.n6 T6.c6, .int .i64 T6.p7] 47)).heap.size (w3.alloc (.cells #[.int .i64 T6.p0, .slice T6.A1 T6.n1 T6.c1, .slice T6.A2 T6.n2 T6.c2, .slice T6.A3 T6.n3 T6.c3, .slice T6.A4 T6.n4 T6.c4, .slice T6.A5 T6.n5 T6.c5, .slice T6.A6 T6.n6 T6.c6, .int .i64 T6.p7] 47)) wx) ∧ (w3.alloc (.cells #[.int .i64 T6.p0, .slice T6.A1 T6.n1 T6.c1, .slice T6.A2 T6.n2 T6.c2, .slice T6.A3 T6.n3 T6.c3, .slice T6.A4 T6.n4 T6.c4, .slice T6.A5 T6.n5 T6.c5, .slice T6.A6 T6.n6 T6.c6, .int .i64 T6.p7] 47)).heap.size ≤ gA ∧ gA < wx.heap.size ∧ (gA < plo10_0_2 ∨ phi10_0_2 ≤ gA))
      case first =>
        refine wp_region_held_drew (S := fun w' => BoxAt w' w3.heap.size 47 #[.int .i64 T6.p0, .slice T6.A1 T6.n1 T6.c1, .slice T6.A2 T6.n2 T6.c2, .slice T6.A3 T6.n3 T6.c3, .slice T6.A4 T6.n4 T6.c4, .slice T6.A5 T6.n5 T6.c5, .slice T6.A6 T6.n6 T6.c6, .int .i64 T6.p7] ∧ BoxAt w' (w.heap.size + 1) 33 #[.int .i64 a1.f0, .int .i64 a1.f1, .int .i64 a1.f2] ∧ Below (w3.alloc (.cells #[.int .i64 T6.p0, .slice T6.A1 T6.n1 T6.c1, .slice T6.A2 T6.n2 T6.c2, .slice T6.A3 T6.n3 T6.c3, .slice T6.A4 T6.n4 T6.c4, .slice T6.A5 T6.n5 T6.c5, .slice T6.A6 T6.n6 T6.c6, .int .i64 T6.p7] 47)).heap.size (w3.alloc (.cells #[.int .i64 T6.p0, .slice T6.A1 T6.n1 T6.c1, .slice T6.A2 T6.n2 T6.c2, .slice T6.A3 T6.n3 T6.c3, .slice T6.A4 T6.n4 T6.c4, .slice T6.A5 T6.n5 T6.c5, .slice T6.A6 T6.n6 T6.c6, .int .i64 T6.p7] 47)) w') (by kernel_rfl) ?_ (fun hHeld => ?_)
        · exact ⟨KX7.drw, KB1.drw, (Below.refl _ _).drew⟩
        generalize (World.drew _) = v0 at hHeld ⊢
        refine wpAnyH_take (i := 0) (oi := ⟨some 25, _, _, _, _, _⟩) (v := ?_) rfl (by kernel_rfl) (by kernel_rfl) (by kernel_rfl) (fun _ _ _ h => h) (Or.inl ⟨by kernel_rfl, ?_⟩) hHeld ?_
        rotate_left
        focus (intro W hS; have c0_0 := (hS.1).at_ (j := 0) rfl; have c0_1 := (hS.1).at_ (j := 1) rfl; have c0_2 := (hS.1).at_ (j := 2) rfl; have c0_3 := (hS.1).at_ (j := 3) rfl; have c0_4 := (hS.1).at_ (j := 4) rfl; have c0_5 := (hS.1).at_ (j := 5) rfl; have c0_6 := (hS.1).at_ (j := 6) rfl; have c0_7 := (hS.1).at_ (j := 7) rfl; have c1_0 := (hS.2.1).at_ (j := 0) rfl; have c1_1 := (hS.2.1).at_ (j := 1) rfl; have c1_2 := (hS.2.1).at_ (j := 2) rfl; clear hS; first | (go_simp; done) | (go_simp; with_reducible rfl))
        try simp only [Act.put, List.setIfInBounds_toArray, List.set_cons_zero, List.set_cons_succ]
        refine wpAnyH_take (i := 1) (oi := ⟨some 26, _, _, _, _, _⟩) (v := ?_) rfl (by kernel_rfl) (by kernel_rfl) (by kernel_rfl) (fun _ _ _ h => h) (Or.inl ⟨by kernel_rfl, ?_⟩) hHeld ?_
        rotate_left
        focus (intro W hS; have c0_0 := (hS.1).at_ (j := 0) rfl; have c0_1 := (hS.1).at_ (j := 1) rfl; have c0_2 := (hS.1).at_ (j := 2) rfl; have c0_3 := (hS.1).at_ (j := 3) rfl; have c0_4 := (hS.1).at_ (j := 4) rfl; have c0_5 := (hS.1).at_ (j := 5) rfl; have c0_6 := (hS.1).at_ (j := 6) rfl; have c0_7 := (hS.1).at_ (j := 7) rfl; have c1_0 := (hS.2.1).at_ (j := 0) rfl; have c1_1 := (hS.2.1).at_ (j := 1) rfl; have c1_2 := (hS.2.1).at_ (j := 2) rfl; clear hS; first | (go_simp; done) | (go_simp; with_reducible rfl))
        try simp only [Act.put, List.setIfInBounds_toArray, List.set_cons_zero, List.set_cons_succ]
        refine wpAnyH_ready (rs := [2, 4]) (by kernel_rfl) (by simp) ?_
        refine AllReadyH.cons (o := ⟨some 27, _, _, _, _, _⟩) rfl (fun K hK => ?_) ?_
        · skip
          go_simp
          have HS2 := hHeld.2.2.size
          refine Calls.mono (to_request_one a1 _) ?_
          rintro e v1 ⟨rfl, hb1⟩
          have Z2 := hb1.size
          refine hK.out _ _ ⟨hHeld.1.new hb1, hHeld.2.1.new hb1, below_trans hHeld.2.2 hb1 (Nat.le_refl _)⟩ (fun hHeld' => ?_)
          clear hK K hHeld hb1
          have hHeld := hHeld'
          clear hHeld'
          try simp only [Act.put, List.setIfInBounds_toArray, List.set_cons_zero, List.set_cons_succ]
          refine wpAnyH_ready (rs := [3, 4]) (by kernel_rfl) (by simp) ?_
          refine AllReadyH.cons (o := ⟨some 28, _, _, _, _, _⟩) rfl (fun K hK => ?_) ?_
          · skip
            go_simp
            have HS3 := hHeld.2.2.size
            refine Calls.mono (impl_AskPageC T6 x0.dat _ _ a1 _ ET6.out (by omega) H0.out (FT6.new hHeld.2.2).rd (FT6.new hHeld.2.2).caps H1) ?_
            rintro e v2 ⟨P10_0_2, pc10_0_2, plo10_0_2, phi10_0_2, rfl, GFP10_0_2, MP10_0, hb1⟩
            have Z3 := hb1.size
            have QMP10_0 := SepOutcome_bd MP10_0.out
            refine hK.out _ _ ⟨hHeld.1.new hb1, hHeld.2.1.new hb1, below_trans hHeld.2.2 hb1 (Nat.le_refl _)⟩ (fun hHeld' => ?_)
            clear hK K hHeld hb1
            have hHeld := hHeld'
            clear hHeld'
            try simp only [Act.put, List.setIfInBounds_toArray, List.set_cons_zero, List.set_cons_succ]
            refine wpAnyH_ready (rs := [4]) (by kernel_rfl) (by simp) ?_
            refine AllReadyH.cons (o := ⟨some 8, _, _, _, _, _⟩) rfl (fun K hK => ?_) AllReadyH.nil
            go_simp
            have GA := box_new (v2) 38 #[.int .i64 0, .int .i64 0, .int .i64 0, .slice none 0 0]
            have hb1 := (Below.refl (v2).heap.size (v2)).alloc (Nat.le_refl _) (.cells #[.int .i64 0, .int .i64 0, .int .i64 0, .slice none 0 0] 38)
            have HSa := hHeld.2.2.size
            have MA0 := (hHeld.1).lt
            have MA1 := (hHeld.2.1).lt
            replace GFP10_0_2 := GFP10_0_2.new hb1
            generalize (v2).alloc (.cells #[.int .i64 0, .int .i64 0, .int .i64 0, .slice none 0 0] 38) = v3 at hb1 GA GFP10_0_2 ⊢
            have Za := hb1.size
            generalize hgA : (v2).heap.size = gA at GA ⊢
            refine hK.out _ _ ⟨hHeld.1.new hb1, hHeld.2.1.new hb1, below_trans hHeld.2.2 hb1 (Nat.le_refl _)⟩ (fun hHeld' => ?_)
            clear hK K hHeld hb1
            have hHeld := hHeld'
            clear hHeld'
            try simp only [Act.put, List.setIfInBounds_toArray, List.set_cons_zero, List.set_cons_succ]
            refine wpAnyH_ready (rs := [5]) (by kernel_rfl) (by simp) ?_
            refine AllReadyH.cons (o := ⟨none, _, _, _, _, _⟩) rfl (fun K hK => ?_) AllReadyH.nil
            rw [if_pos (by rfl)]
            refine wp_store_row 38 _ _ rfl gA #[.int .i64 ((mAsk x0.dat a1).c), .int .i64 ((mAsk x0.dat a1).s).f0, .int .i64 ((mAsk x0.dat a1).s).f1, .slice P10_0_2 (((mAsk x0.dat a1).p).length) pc10_0_2] rfl rfl 38 _ GA (by kernel_rfl) (by kernel_rfl) (by kernel_rfl) ?_
            replace GA := box_row (cs := #[.int .i64 ((mAsk x0.dat a1).c), .int .i64 ((mAsk x0.dat a1).s).f0, .int .i64 ((mAsk x0.dat a1).s).f1, .slice P10_0_2 (((mAsk x0.dat a1).p).length) pc10_0_2]) GA
            have hc1 := chg_row v3 gA #[.int .i64 ((mAsk x0.dat a1).c), .int .i64 ((mAsk x0.dat a1).s).f0, .int .i64 ((mAsk x0.dat a1).s).f1, .slice P10_0_2 (((mAsk x0.dat a1).p).length) pc10_0_2]
            have hHeld2 : BoxAt (World.setRow v3 gA #[.int .i64 ((mAsk x0.dat a1).c), .int .i64 ((mAsk x0.dat a1).s).f0, .int .i64 ((mAsk x0.dat a1).s).f1, .slice P10_0_2 (((mAsk x0.dat a1).p).length) pc10_0_2]) w3.heap.size 47 #[.int .i64 T6.p0, .slice T6.A1 T6.n1 T6.c1, .slice T6.A2 T6.n2 T6.c2, .slice T6.A3 T6.n3 T6.c3, .slice T6.A4 T6.n4 T6.c4, .slice T6.A5 T6.n5 T6.c5, .slice T6.A6 T6.n6 T6.c6, .int .i64 T6.p7] ∧ BoxAt (World.setRow v3 gA #[.int .i64 ((mAsk x0.dat a1).c), .int .i64 ((mAsk x0.dat a1).s).f0, .int .i64 ((mAsk x0.dat a1).s).f1, .slice P10_0_2 (((mAsk x0.dat a1).p).length) pc10_0_2]) (w.heap.size + 1) 33 #[.int .i64 a1.f0, .int .i64 a1.f1, .int .i64 a1.f2] ∧ Below (w3.alloc (.cells #[.int .i64 T6.p0, .slice T6.A1 T6.n1 T6.c1, .slice T6.A2 T6.n2 T6.c2, .slice T6.A3 T6.n3 T6.c3, .slice T6.A4 T6.n4 T6.c4, .slice T6.A5 T6.n5 T6.c5, .slice T6.A6 T6.n6 T6.c6, .int .i64 T6.p7] 47)).heap.size (w3.alloc (.cells #[.int .i64 T6.p0, .slice T6.A1 T6.n1 T6.c1, .slice T6.A2 T6.n2 T6.c2, .slice T6.A3 T6.n3 T6.c3, .slice T6.A4 T6.n4 T6.c4, .slice T6.A5 T6.n5 T6.c5, .slice T6.A6 T6.n6 T6.c6, .int .i64 T6.p7] 47)) (World.setRow v3 gA #[.int .i64 ((mAsk x0.dat a1).c), .int .i64 ((mAsk x0.dat a1).s).f0, .int .i64 ((mAsk x0.dat a1).s).f1, .slice P10_0_2 (((mAsk x0.dat a1).p).length) pc10_0_2]) := ⟨hHeld.1.chg hc1 (by omega), hHeld.2.1.chg hc1 (by omega), below_setRow hHeld.2.2 (by omega) _⟩
            replace GFP10_0_2 := GFP10_0_2.chg hc1 (by omega)
            clear hc1
            have Z4 : (v3).heap.size ≤ (World.setRow v3 gA #[.int .i64 ((mAsk x0.dat a1).c), .int .i64 ((mAsk x0.dat a1).s).f0, .int .i64 ((mAsk x0.dat a1).s).f1, .slice P10_0_2 (((mAsk x0.dat a1).p).length) pc10_0_2]).heap.size := by simp
            generalize World.setRow v3 gA #[.int .i64 ((mAsk x0.dat a1).c), .int .i64 ((mAsk x0.dat a1).s).f0, .int .i64 ((mAsk x0.dat a1).s).f1, .slice P10_0_2 (((mAsk x0.dat a1).p).length) pc10_0_2] = v4 at hHeld2 GA GFP10_0_2 Z4 ⊢
            refine hK.out _ _ hHeld2 (fun hHeld' => ?_)
            clear hHeld2
            clear hK K hHeld
            have hHeld := hHeld'
            clear hHeld'
            try simp only [Act.put, List.setIfInBounds_toArray, List.set_cons_zero, List.set_cons_succ]
            refine wpAnyH_done (by kernel_rfl) ?_ _
            go_wp2_with fail
            have hSz := hHeld.2.2.size
            go_meet
            exact ⟨gA, P10_0_2, pc10_0_2, plo10_0_2, phi10_0_2, rfl, Lib.hid GA, Lib.hid GFP10_0_2, Lib.hid (by unfold SepOutcome; omega), ⟨by omega, by omega⟩, Lib.hid hHeld.2.2, by omega, GA.lt, by omega⟩
          refine AllReadyH.cons (o := ⟨some 8, _, _, _, _, _⟩) rfl (fun K hK => ?_) ?_
          · skip
            go_simp
            have GA := box_new (v1) 38 #[.int .i64 0, .int .i64 0, .int .i64 0, .slice none 0 0]
            have hb1 := (Below.refl (v1).heap.size (v1)).alloc (Nat.le_refl _) (.cells #[.int .i64 0, .int .i64 0, .int .i64 0, .slice none 0 0] 38)
            have HSa := hHeld.2.2.size
            have MA0 := (hHeld.1).lt
            have MA1 := (hHeld.2.1).lt
            generalize (v1).alloc (.cells #[.int .i64 0, .int .i64 0, .int .i64 0, .slice none 0 0] 38) = v2 at hb1 GA  ⊢
            have Za := hb1.size
            generalize hgA : (v1).heap.size = gA at GA ⊢
            refine hK.out _ _ ⟨hHeld.1.new hb1, hHeld.2.1.new hb1, below_trans hHeld.2.2 hb1 (Nat.le_refl _)⟩ (fun hHeld' => ?_)
            clear hK K hHeld hb1
            have hHeld := hHeld'
            clear hHeld'
            try simp only [Act.put, List.setIfInBounds_toArray, List.set_cons_zero, List.set_cons_succ]
            refine wpAnyH_ready (rs := [3]) (by kernel_rfl) (by simp) ?_
            refine AllReadyH.cons (o := ⟨some 28, _, _, _, _, _⟩) rfl (fun K hK => ?_) AllReadyH.nil
            go_simp
            have P3 := GA.lt
            have HS3 := hHeld.2.2.size
            refine Calls.mono (impl_AskPageC T6 x0.dat _ _ a1 _ ET6.out (by omega) H0.out (FT6.new hHeld.2.2).rd (FT6.new hHeld.2.2).caps H1) ?_
            rintro e v3 ⟨P10_0_2, pc10_0_2, plo10_0_2, phi10_0_2, rfl, GFP10_0_2, MP10_0, hb1⟩
            have Z3 := hb1.size
            have QMP10_0 := SepOutcome_bd MP10_0.out
            replace GA := GA.new hb1
            refine hK.out _ _ ⟨hHeld.1.new hb1, hHeld.2.1.new hb1, below_trans hHeld.2.2 hb1 (Nat.le_refl _)⟩ (fun hHeld' => ?_)
            clear hK K hHeld hb1
            have hHeld := hHeld'
            clear hHeld'
            try simp only [Act.put, List.setIfInBounds_toArray, List.set_cons_zero, List.set_cons_succ]
            refine wpAnyH_ready (rs := [5]) (by kernel_rfl) (by simp) ?_
            refine AllReadyH.cons (o := ⟨none, _, _, _, _, _⟩) rfl (fun K hK => ?_) AllReadyH.nil
            rw [if_pos (by rfl)]
            refine wp_store_row 38 _ _ rfl gA #[.int .i64 ((mAsk x0.dat a1).c), .int .i64 ((mAsk x0.dat a1).s).f0, .int .i64 ((mAsk x0.dat a1).s).f1, .slice P10_0_2 (((mAsk x0.dat a1).p).length) pc10_0_2] rfl rfl 38 _ GA (by kernel_rfl) (by kernel_rfl) (by kernel_rfl) ?_
            replace GA := box_row (cs := #[.int .i64 ((mAsk x0.dat a1).c), .int .i64 ((mAsk x0.dat a1).s).f0, .int .i64 ((mAsk x0.dat a1).s).f1, .slice P10_0_2 (((mAsk x0.dat a1).p).length) pc10_0_2]) GA
            have hc1 := chg_row v3 gA #[.int .i64 ((mAsk x0.dat a1).c), .int .i64 ((mAsk x0.dat a1).s).f0, .int .i64 ((mAsk x0.dat a1).s).f1, .slice P10_0_2 (((mAsk x0.dat a1).p).length) pc10_0_2]
            have hHeld2 : BoxAt (World.setRow v3 gA #[.int .i64 ((mAsk x0.dat a1).c), .int .i64 ((mAsk x0.dat a1).s).f0, .int .i64 ((mAsk x0.dat a1).s).f1, .slice P10_0_2 (((mAsk x0.dat a1).p).length) pc10_0_2]) w3.heap.size 47 #[.int .i64 T6.p0, .slice T6.A1 T6.n1 T6.c1, .slice T6.A2 T6.n2 T6.c2, .slice T6.A3 T6.n3 T6.c3, .slice T6.A4 T6.n4 T6.c4, .slice T6.A5 T6.n5 T6.c5, .slice T6.A6 T6.n6 T6.c6, .int .i64 T6.p7] ∧ BoxAt (World.setRow v3 gA #[.int .i64 ((mAsk x0.dat a1).c), .int .i64 ((mAsk x0.dat a1).s).f0, .int .i64 ((mAsk x0.dat a1).s).f1, .slice P10_0_2 (((mAsk x0.dat a1).p).length) pc10_0_2]) (w.heap.size + 1) 33 #[.int .i64 a1.f0, .int .i64 a1.f1, .int .i64 a1.f2] ∧ Below (w3.alloc (.cells #[.int .i64 T6.p0, .slice T6.A1 T6.n1 T6.c1, .slice T6.A2 T6.n2 T6.c2, .slice T6.A3 T6.n3 T6.c3, .slice T6.A4 T6.n4 T6.c4, .slice T6.A5 T6.n5 T6.c5, .slice T6.A6 T6.n6 T6.c6, .int .i64 T6.p7] 47)).heap.size (w3.alloc (.cells #[.int .i64 T6.p0, .slice T6.A1 T6.n1 T6.c1, .slice T6.A2 T6.n2 T6.c2, .slice T6.A3 T6.n3 T6.c3, .slice T6.A4 T6.n4 T6.c4, .slice T6.A5 T6.n5 T6.c5, .slice T6.A6 T6.n6 T6.c6, .int .i64 T6.p7] 47)) (World.setRow v3 gA #[.int .i64 ((mAsk x0.dat a1).c), .int .i64 ((mAsk x0.dat a1).s).f0, .int .i64 ((mAsk x0.dat a1).s).f1, .slice P10_0_2 (((mAsk x0.dat a1).p).length) pc10_0_2]) := ⟨hHeld.1.chg hc1 (by omega), hHeld.2.1.chg hc1 (by omega), below_setRow hHeld.2.2 (by omega) _⟩
            replace GFP10_0_2 := GFP10_0_2.chg hc1 (by omega)
            clear hc1
            have Z4 : (v3).heap.size ≤ (World.setRow v3 gA #[.int .i64 ((mAsk x0.dat a1).c), .int .i64 ((mAsk x0.dat a1).s).f0, .int .i64 ((mAsk x0.dat a1).s).f1, .slice P10_0_2 (((mAsk x0.dat a1).p).length) pc10_0_2]).heap.size := by simp
            generalize World.setRow v3 gA #[.int .i64 ((mAsk x0.dat a1).c), .int .i64 ((mAsk x0.dat a1).s).f0, .int .i64 ((mAsk x0.dat a1).s).f1, .slice P10_0_2 (((mAsk x0.dat a1).p).length) pc10_0_2] = v4 at hHeld2 GA GFP10_0_2 Z4 ⊢
            refine hK.out _ _ hHeld2 (fun hHeld' => ?_)
            clear hHeld2
            clear hK K hHeld
            have hHeld := hHeld'
            clear hHeld'
            try simp only [Act.put, List.setIfInBounds_toArray, List.set_cons_zero, List.set_cons_succ]
            refine wpAnyH_done (by kernel_rfl) ?_ _
            go_wp2_with fail
            have hSz := hHeld.2.2.size
            go_meet
            exact ⟨gA, P10_0_2, pc10_0_2, plo10_0_2, phi10_0_2, rfl, Lib.hid GA, Lib.hid GFP10_0_2, Lib.hid (by unfold SepOutcome; omega), ⟨by omega, by omega⟩, Lib.hid hHeld.2.2, by omega, GA.lt, by omega⟩
          exact AllReadyH.nil
        refine AllReadyH.cons (o := ⟨some 8, _, _, _, _, _⟩) rfl (fun K hK => ?_) ?_
        · skip
          go_simp
          have GA := box_new (v0) 38 #[.int .i64 0, .int .i64 0, .int .i64 0, .slice none 0 0]
          have hb1 := (Below.refl (v0).heap.size (v0)).alloc (Nat.le_refl _) (.cells #[.int .i64 0, .int .i64 0, .int .i64 0, .slice none 0 0] 38)
          have HSa := hHeld.2.2.size
          have MA0 := (hHeld.1).lt
          have MA1 := (hHeld.2.1).lt
          generalize (v0).alloc (.cells #[.int .i64 0, .int .i64 0, .int .i64 0, .slice none 0 0] 38) = v1 at hb1 GA  ⊢
          have Za := hb1.size
          generalize hgA : (v0).heap.size = gA at GA ⊢
          refine hK.out _ _ ⟨hHeld.1.new hb1, hHeld.2.1.new hb1, below_trans hHeld.2.2 hb1 (Nat.le_refl _)⟩ (fun hHeld' => ?_)
          clear hK K hHeld hb1
          have hHeld := hHeld'
          clear hHeld'
          try simp only [Act.put, List.setIfInBounds_toArray, List.set_cons_zero, List.set_cons_succ]
          refine wpAnyH_ready (rs := [2]) (by kernel_rfl) (by simp) ?_
          refine AllReadyH.cons (o := ⟨some 27, _, _, _, _, _⟩) rfl (fun K hK => ?_) AllReadyH.nil
          go_simp
          have P2 := GA.lt
          have HS2 := hHeld.2.2.size
          refine Calls.mono (to_request_one a1 _) ?_
          rintro e v2 ⟨rfl, hb1⟩
          have Z2 := hb1.size
          replace GA := GA.new hb1
          refine hK.out _ _ ⟨hHeld.1.new hb1, hHeld.2.1.new hb1, below_trans hHeld.2.2 hb1 (Nat.le_refl _)⟩ (fun hHeld' => ?_)
          clear hK K hHeld hb1
          have hHeld := hHeld'
          clear hHeld'
          try simp only [Act.put, List.setIfInBounds_toArray, List.set_cons_zero, List.set_cons_succ]
          refine wpAnyH_ready (rs := [3]) (by kernel_rfl) (by simp) ?_
          refine AllReadyH.cons (o := ⟨some 28, _, _, _, _, _⟩) rfl (fun K hK => ?_) AllReadyH.nil
          go_simp
          have P3 := GA.lt
          have HS3 := hHeld.2.2.size
          refine Calls.mono (impl_AskPageC T6 x0.dat _ _ a1 _ ET6.out (by omega) H0.out (FT6.new hHeld.2.2).rd (FT6.new hHeld.2.2).caps H1) ?_
          rintro e v3 ⟨P10_0_2, pc10_0_2, plo10_0_2, phi10_0_2, rfl, GFP10_0_2, MP10_0, hb1⟩
          have Z3 := hb1.size
          have QMP10_0 := SepOutcome_bd MP10_0.out
          replace GA := GA.new hb1
          refine hK.out _ _ ⟨hHeld.1.new hb1, hHeld.2.1.new hb1, below_trans hHeld.2.2 hb1 (Nat.le_refl _)⟩ (fun hHeld' => ?_)
          clear hK K hHeld hb1
          have hHeld := hHeld'
          clear hHeld'
          try simp only [Act.put, List.setIfInBounds_toArray, List.set_cons_zero, List.set_cons_succ]
          refine wpAnyH_ready (rs := [5]) (by kernel_rfl) (by simp) ?_
          refine AllReadyH.cons (o := ⟨none, _, _, _, _, _⟩) rfl (fun K hK => ?_) AllReadyH.nil
          rw [if_pos (by rfl)]
          refine wp_store_row 38 _ _ rfl gA #[.int .i64 ((mAsk x0.dat a1).c), .int .i64 ((mAsk x0.dat a1).s).f0, .int .i64 ((mAsk x0.dat a1).s).f1, .slice P10_0_2 (((mAsk x0.dat a1).p).length) pc10_0_2] rfl rfl 38 _ GA (by kernel_rfl) (by kernel_rfl) (by kernel_rfl) ?_
          replace GA := box_row (cs := #[.int .i64 ((mAsk x0.dat a1).c), .int .i64 ((mAsk x0.dat a1).s).f0, .int .i64 ((mAsk x0.dat a1).s).f1, .slice P10_0_2 (((mAsk x0.dat a1).p).length) pc10_0_2]) GA
          have hc1 := chg_row v3 gA #[.int .i64 ((mAsk x0.dat a1).c), .int .i64 ((mAsk x0.dat a1).s).f0, .int .i64 ((mAsk x0.dat a1).s).f1, .slice P10_0_2 (((mAsk x0.dat a1).p).length) pc10_0_2]
          have hHeld2 : BoxAt (World.setRow v3 gA #[.int .i64 ((mAsk x0.dat a1).c), .int .i64 ((mAsk x0.dat a1).s).f0, .int .i64 ((mAsk x0.dat a1).s).f1, .slice P10_0_2 (((mAsk x0.dat a1).p).length) pc10_0_2]) w3.heap.size 47 #[.int .i64 T6.p0, .slice T6.A1 T6.n1 T6.c1, .slice T6.A2 T6.n2 T6.c2, .slice T6.A3 T6.n3 T6.c3, .slice T6.A4 T6.n4 T6.c4, .slice T6.A5 T6.n5 T6.c5, .slice T6.A6 T6.n6 T6.c6, .int .i64 T6.p7] ∧ BoxAt (World.setRow v3 gA #[.int .i64 ((mAsk x0.dat a1).c), .int .i64 ((mAsk x0.dat a1).s).f0, .int .i64 ((mAsk x0.dat a1).s).f1, .slice P10_0_2 (((mAsk x0.dat a1).p).length) pc10_0_2]) (w.heap.size + 1) 33 #[.int .i64 a1.f0, .int .i64 a1.f1, .int .i64 a1.f2] ∧ Below (w3.alloc (.cells #[.int .i64 T6.p0, .slice T6.A1 T6.n1 T6.c1, .slice T6.A2 T6.n2 T6.c2, .slice T6.A3 T6.n3 T6.c3, .slice T6.A4 T6.n4 T6.c4, .slice T6.A5 T6.n5 T6.c5, .slice T6.A6 T6.n6 T6.c6, .int .i64 T6.p7] 47)).heap.size (w3.alloc (.cells #[.int .i64 T6.p0, .slice T6.A1 T6.n1 T6.c1, .slice T6.A2 T6.n2 T6.c2, .slice T6.A3 T6.n3 T6.c3, .slice T6.A4 T6.n4 T6.c4, .slice T6.A5 T6.n5 T6.c5, .slice T6.A6 T6.n6 T6.c6, .int .i64 T6.p7] 47)) (World.setRow v3 gA #[.int .i64 ((mAsk x0.dat a1).c), .int .i64 ((mAsk x0.dat a1).s).f0, .int .i64 ((mAsk x0.dat a1).s).f1, .slice P10_0_2 (((mAsk x0.dat a1).p).length) pc10_0_2]) := ⟨hHeld.1.chg hc1 (by omega), hHeld.2.1.chg hc1 (by omega), below_setRow hHeld.2.2 (by omega) _⟩
          replace GFP10_0_2 := GFP10_0_2.chg hc1 (by omega)
          clear hc1
          have Z4 : (v3).heap.size ≤ (World.setRow v3 gA #[.int .i64 ((mAsk x0.dat a1).c), .int .i64 ((mAsk x0.dat a1).s).f0, .int .i64 ((mAsk x0.dat a1).s).f1, .slice P10_0_2 (((mAsk x0.dat a1).p).length) pc10_0_2]).heap.size := by simp
          generalize World.setRow v3 gA #[.int .i64 ((mAsk x0.dat a1).c), .int .i64 ((mAsk x0.dat a1).s).f0, .int .i64 ((mAsk x0.dat a1).s).f1, .slice P10_0_2 (((mAsk x0.dat a1).p).length) pc10_0_2] = v4 at hHeld2 GA GFP10_0_2 Z4 ⊢
          refine hK.out _ _ hHeld2 (fun hHeld' => ?_)
          clear hHeld2
          clear hK K hHeld
          have hHeld := hHeld'
          clear hHeld'
          try simp only [Act.put, List.setIfInBounds_toArray, List.set_cons_zero, List.set_cons_succ]
          refine wpAnyH_done (by kernel_rfl) ?_ _
          go_wp2_with fail
          have hSz := hHeld.2.2.size
          go_meet
          exact ⟨gA, P10_0_2, pc10_0_2, plo10_0_2, phi10_0_2, rfl, Lib.hid GA, Lib.hid GFP10_0_2, Lib.hid (by unfold SepOutcome; omega), ⟨by omega, by omega⟩, Lib.hid hHeld.2.2, by omega, GA.lt, by omega⟩
        exact AllReadyH.nil
      case rest =>
        obtain ⟨g11, P10_0_2, pc10_0_2, plo10_0_2, phi10_0_2, rfl, KX11, FP10_0_2, MP10_0, ⟨LB11_0, UB11_0⟩, B11, LA11, MA11, NA11_0⟩ := hcut
        rename World => w4
        replace B11 := B11.out
        replace KX11 := KX11.out
        replace FP10_0_2 := FP10_0_2.out
        replace R0 := DBrowser.rd_nw B11 R0
        replace KB0 := box_nw B11 KB0
        replace KB1 := box_nw B11 KB1
        replace FP4_0_2 := fr_nw B11 FP4_0_2
        replace KX5 := box_nw B11 KX5
        replace FT6 := DBrowser.fr_nw B11 FT6
        replace KX7 := box_nw B11 KX7
        replace G := (by first | exact below_trans G B11 (Nat.le_refl _) | exact below_trans G.drew B11 (Nat.le_refl _) | exact below_trans (below_dN G _) B11 (Nat.le_refl _))
        have S4 := Lib.hid (show (w3.alloc (.cells #[.int .i64 T6.p0, .slice T6.A1 T6.n1 T6.c1, .slice T6.A2 T6.n2 T6.c2, .slice T6.A3 T6.n3 T6.c3, .slice T6.A4 T6.n4 T6.c4, .slice T6.A5 T6.n5 T6.c5, .slice T6.A6 T6.n6 T6.c6, .int .i64 T6.p7] 47)).heap.size ≤ w4.heap.size from B11.size)
        clear B11
        have xKX11_0 : w4.cell? ⟨g11, 0, none⟩ = some (.int .i64 ((mAsk x0.dat a1).c)) := KX11.at_ rfl
        have xKX11_1 : w4.cell? ⟨g11, 1, none⟩ = some (.int .i64 ((mAsk x0.dat a1).s).f0) := KX11.at_ rfl
        have xKX11_2 : w4.cell? ⟨g11, 2, none⟩ = some (.int .i64 ((mAsk x0.dat a1).s).f1) := KX11.at_ rfl
        have xKX11_3 : w4.cell? ⟨g11, 3, none⟩ = some (.slice P10_0_2 (((mAsk x0.dat a1).p).length) pc10_0_2) := KX11.at_ rfl
        have xKX5_0 : w4.cell? ⟨g5, 0, none⟩ = some (.int .i64 ((mAsk x0.dat a1).c)) := KX5.at_ rfl
        have xKX5_1 : w4.cell? ⟨g5, 1, none⟩ = some (.int .i64 ((mAsk x0.dat a1).s).f0) := KX5.at_ rfl
        have xKX5_2 : w4.cell? ⟨g5, 2, none⟩ = some (.int .i64 ((mAsk x0.dat a1).s).f1) := KX5.at_ rfl
        have xKX5_3 : w4.cell? ⟨g5, 3, none⟩ = some (.slice P4_0_2 (((mAsk x0.dat a1).p).length) pc4_0_2) := KX5.at_ rfl
        go_wp2_with fail
        refine Calls.mono (eq_outcome_same ((mAsk x0.dat a1).c) ((mAsk x0.dat a1).s) ((mAsk x0.dat a1).p) (((mAsk x0.dat a1).p).length) P10_0_2 P4_0_2 pc10_0_2 pc4_0_2 _ _ _ _ _ (by omega) FP10_0_2.rd FP4_0_2.rd) ?_
        rintro e w5 ⟨rfl, B12⟩
        replace R0 := (R0).new B12
        replace KB0 := (KB0).new B12
        replace KB1 := (KB1).new B12
        replace FP4_0_2 := (FP4_0_2).new B12
        replace KX5 := (KX5).new B12
        replace FT6 := (FT6).new B12
        replace KX7 := (KX7).new B12
        replace FP10_0_2 := (FP10_0_2).new B12
        replace KX11 := (KX11).new B12
        replace G := below_trans G B12 (Nat.le_refl _)
        have S5 := Lib.hid (show w4.heap.size + 0 ≤ w5.heap.size by have := B12.size; first | (simpa using this) | ((try simp at this); omega))
        clear B12
        clear xKX11_0 xKX11_1 xKX11_2 xKX11_3 xKX5_0 xKX5_1 xKX5_2 xKX5_3
        go_wp2_with fail
        replace G := G.drew
        replace R0 := R0.drw
        replace KB0 := KB0.drw
        replace KB1 := KB1.drw
        replace FP4_0_2 := FP4_0_2.drw
        replace KX5 := KX5.drw
        replace FT6 := FT6.drw
        replace KX7 := KX7.drw
        replace FP10_0_2 := FP10_0_2.drw
        replace KX11 := KX11.drw
        go_region_held3 (fun w' => w'.cell? ⟨w3.heap.size, 0, none⟩ = some (.int .i64 T6.p0) ∧ w'.cell? ⟨w3.heap.size, 1, none⟩ = some (.slice T6.A1 T6.n1 T6.c1) ∧ w'.cell? ⟨w3.heap.size, 2, none⟩ = some (.slice T6.A2 T6.n2 T6.c2) ∧ w'.cell? ⟨w3.heap.size, 3, none⟩ = some (.slice T6.A3 T6.n3 T6.c3) ∧ w'.cell? ⟨w3.heap.size, 4, none⟩ = some (.slice T6.A4 T6.n4 T6.c4) ∧ w'.cell? ⟨w3.heap.size, 5, none⟩ = some (.slice T6.A5 T6.n5 T6.c5) ∧ w'.cell? ⟨w3.heap.size, 6, none⟩ = some (.slice T6.A6 T6.n6 T6.c6) ∧ w'.cell? ⟨w3.heap.size, 7, none⟩ = some (.int .i64 T6.p7) ∧ w'.cell? ⟨w.heap.size, 0, none⟩ = some (.int .i64 x0.p0) ∧ w'.cell? ⟨w.heap.size, 1, none⟩ = some (.slice x0.A1 x0.n1 x0.c1) ∧ w'.cell? ⟨w.heap.size, 2, none⟩ = some (.slice x0.A2 x0.n2 x0.c2) ∧ w'.cell? ⟨w.heap.size, 3, none⟩ = some (.slice x0.A3 x0.n3 x0.c3) ∧ w'.cell? ⟨w.heap.size, 4, none⟩ = some (.slice x0.A4 x0.n4 x0.c4) ∧ w'.cell? ⟨w.heap.size, 5, none⟩ = some (.slice x0.A5 x0.n5 x0.c5) ∧ w'.cell? ⟨w.heap.size, 6, none⟩ = some (.slice x0.A6 x0.n6 x0.c6) ∧ w'.cell? ⟨w.heap.size, 7, none⟩ = some (.int .i64 x0.p7))
          (exact ⟨KX7.at_ rfl, KX7.at_ rfl, KX7.at_ rfl, KX7.at_ rfl, KX7.at_ rfl, KX7.at_ rfl, KX7.at_ rfl, KX7.at_ rfl, KB0.at_ rfl, KB0.at_ rfl, KB0.at_ rfl, KB0.at_ rfl, KB0.at_ rfl, KB0.at_ rfl, KB0.at_ rfl, KB0.at_ rfl⟩)
          (first
            | (go_at_call 6; (fail_if_success (have hx := B13)); refine Calls.mono (to_browser x0 _ _ _ (by omega) R0) ?_; rintro e w6 ⟨T13, rfl, ET13, FT13, B13⟩; (replace ET13 := Lib.hid ET13); (replace R0 := DBrowser.rd_nw B13 R0); (replace KB0 := box_nw B13 KB0); (replace KB1 := box_nw B13 KB1); (replace FP4_0_2 := fr_nw B13 FP4_0_2); (replace KX5 := box_nw B13 KX5); (replace FT6 := DBrowser.fr_nw B13 FT6); (replace KX7 := box_nw B13 KX7); (replace FP10_0_2 := fr_nw B13 FP10_0_2); (replace KX11 := box_nw B13 KX11); (replace G := (by first | exact below_trans G B13 (Nat.le_refl _) | exact below_trans G.drew B13 (Nat.le_refl _) | exact below_trans (below_dN G _) B13 (Nat.le_refl _))); (have S6 := Lib.hid (show w5.heap.size ≤ w6.heap.size from B13.size)))
            | (go_at_call 10; (fail_if_success (have hx := B14)); refine Calls.mono (eq_browser_same T6 T13 _ _ _ _ _ (Eq.trans ET13.out (Eq.symm ET6.out)) (by rw [ET6.out]; omega) FT6.rd FT13.rd) ?_; rintro e w7 ⟨rfl, B14⟩; (replace R0 := DBrowser.rd_nw B14 R0); (replace KB0 := box_nw B14 KB0); (replace KB1 := box_nw B14 KB1); (replace FP4_0_2 := fr_nw B14 FP4_0_2); (replace KX5 := box_nw B14 KX5); (replace FT6 := DBrowser.fr_nw B14 FT6); (replace KX7 := box_nw B14 KX7); (replace FP10_0_2 := fr_nw B14 FP10_0_2); (replace KX11 := box_nw B14 KX11); (replace FT13 := DBrowser.fr_nw B14 FT13); (replace G := (by first | exact below_trans G B14 (Nat.le_refl _) | exact below_trans G.drew B14 (Nat.le_refl _) | exact below_trans (below_dN G _) B14 (Nat.le_refl _))); (have S7 := Lib.hid (show w6.heap.size ≤ w7.heap.size from B14.size))))
        clear B13
        clear B14
        clear FT13
        have xKX7_0 : w7.cell? ⟨w3.heap.size, 0, none⟩ = some (.int .i64 T6.p0) := KX7.at_ rfl
        have xKX7_1 : w7.cell? ⟨w3.heap.size, 1, none⟩ = some (.slice T6.A1 T6.n1 T6.c1) := KX7.at_ rfl
        have xKX7_2 : w7.cell? ⟨w3.heap.size, 2, none⟩ = some (.slice T6.A2 T6.n2 T6.c2) := KX7.at_ rfl
        have xKX7_3 : w7.cell? ⟨w3.heap.size, 3, none⟩ = some (.slice T6.A3 T6.n3 T6.c3) := KX7.at_ rfl
        have xKX7_4 : w7.cell? ⟨w3.heap.size, 4, none⟩ = some (.slice T6.A4 T6.n4 T6.c4) := KX7.at_ rfl
        have xKX7_5 : w7.cell? ⟨w3.heap.size, 5, none⟩ = some (.slice T6.A5 T6.n5 T6.c5) := KX7.at_ rfl
        have xKX7_6 : w7.cell? ⟨w3.heap.size, 6, none⟩ = some (.slice T6.A6 T6.n6 T6.c6) := KX7.at_ rfl
        have xKX7_7 : w7.cell? ⟨w3.heap.size, 7, none⟩ = some (.int .i64 T6.p7) := KX7.at_ rfl
        go_wp2_with fail
        refine Calls.mono (mark_browser T6 (1) w2.heap.size w3.heap.size _ (by have q1 := FT6.rd.cnt_le; rw [ET6.out] at q1; omega) (by rw [ET6.out]; omega) FT6 (by have := S0.out; have := S1.out; have := S2.out; have := S3.out; have := SA8.out; have := S4.out; have := S5.out; have := S6.out; have := S7.out; have := SepOutcome_bd MP4_0.out; have := SepOutcome_bd MP10_0.out; omega)) ?_
        rintro e w8 ⟨rfl, B15⟩
        have CB15 : T6.cnt ≤ 8388608 := by have q1 := FT6.rd.cnt_le; rw [ET6.out] at q1; omega
        replace R0 := (R0).chg B15 (by have := S0.out; have := S1.out; have := S2.out; have := S3.out; have := SA8.out; have := S4.out; have := S5.out; have := S6.out; have := S7.out; have := SepOutcome_bd MP4_0.out; have := SepOutcome_bd MP10_0.out; omega)
        replace KB0 := (KB0).chg B15 (by have := S0.out; have := S1.out; have := S2.out; have := S3.out; have := SA8.out; have := S4.out; have := S5.out; have := S6.out; have := S7.out; have := SepOutcome_bd MP4_0.out; have := SepOutcome_bd MP10_0.out; omega)
        replace KB1 := (KB1).chg B15 (by have := S0.out; have := S1.out; have := S2.out; have := S3.out; have := SA8.out; have := S4.out; have := S5.out; have := S6.out; have := S7.out; have := SepOutcome_bd MP4_0.out; have := SepOutcome_bd MP10_0.out; omega)
        replace FP4_0_2 := (FP4_0_2).chg B15 (by have := S0.out; have := S1.out; have := S2.out; have := S3.out; have := SA8.out; have := S4.out; have := S5.out; have := S6.out; have := S7.out; have := SepOutcome_bd MP4_0.out; have := SepOutcome_bd MP10_0.out; omega)
        replace KX5 := (KX5).chg B15 (by have := S0.out; have := S1.out; have := S2.out; have := S3.out; have := SA8.out; have := S4.out; have := S5.out; have := S6.out; have := S7.out; have := SepOutcome_bd MP4_0.out; have := SepOutcome_bd MP10_0.out; omega)
        replace KX7 := (KX7).chg B15 (by have := S0.out; have := S1.out; have := S2.out; have := S3.out; have := SA8.out; have := S4.out; have := S5.out; have := S6.out; have := S7.out; have := SepOutcome_bd MP4_0.out; have := SepOutcome_bd MP10_0.out; omega)
        replace FP10_0_2 := (FP10_0_2).chg B15 (by have := S0.out; have := S1.out; have := S2.out; have := S3.out; have := SA8.out; have := S4.out; have := S5.out; have := S6.out; have := S7.out; have := SepOutcome_bd MP4_0.out; have := SepOutcome_bd MP10_0.out; omega)
        replace KX11 := (KX11).chg B15 (by have := S0.out; have := S1.out; have := S2.out; have := S3.out; have := SA8.out; have := S4.out; have := S5.out; have := S6.out; have := S7.out; have := SepOutcome_bd MP4_0.out; have := SepOutcome_bd MP10_0.out; omega)
        replace G := G.trans (B15.below (.inl (by have := S0.out; have := S1.out; have := S2.out; have := S3.out; have := SA8.out; have := S4.out; have := S5.out; have := S6.out; have := S7.out; have := SepOutcome_bd MP4_0.out; have := SepOutcome_bd MP10_0.out; omega)) (by have := S0.out; have := S1.out; have := S2.out; have := S3.out; have := SA8.out; have := S4.out; have := S5.out; have := S6.out; have := S7.out; have := SepOutcome_bd MP4_0.out; have := SepOutcome_bd MP10_0.out; first | omega | (simp; omega)))
        have S8 := Lib.hid (show w7.heap.size + 0 ≤ w8.heap.size by have := B15.size; first | (simpa using this) | ((try simp at this); omega))
        clear FT6
        clear B15
        clear xKX7_0 xKX7_1 xKX7_2 xKX7_3 xKX7_4 xKX7_5 xKX7_6 xKX7_7
        have xKX11_0 : w8.cell? ⟨g11, 0, none⟩ = some (.int .i64 ((mAsk x0.dat a1).c)) := KX11.at_ rfl
        have xKX11_1 : w8.cell? ⟨g11, 1, none⟩ = some (.int .i64 ((mAsk x0.dat a1).s).f0) := KX11.at_ rfl
        have xKX11_2 : w8.cell? ⟨g11, 2, none⟩ = some (.int .i64 ((mAsk x0.dat a1).s).f1) := KX11.at_ rfl
        have xKX11_3 : w8.cell? ⟨g11, 3, none⟩ = some (.slice P10_0_2 (((mAsk x0.dat a1).p).length) pc10_0_2) := KX11.at_ rfl
        have xKX5_0 : w8.cell? ⟨g5, 0, none⟩ = some (.int .i64 ((mAsk x0.dat a1).c)) := KX5.at_ rfl
        have xKX5_1 : w8.cell? ⟨g5, 1, none⟩ = some (.int .i64 ((mAsk x0.dat a1).s).f0) := KX5.at_ rfl
        have xKX5_2 : w8.cell? ⟨g5, 2, none⟩ = some (.int .i64 ((mAsk x0.dat a1).s).f1) := KX5.at_ rfl
        have xKX5_3 : w8.cell? ⟨g5, 3, none⟩ = some (.slice P4_0_2 (((mAsk x0.dat a1).p).length) pc4_0_2) := KX5.at_ rfl
        go_wp2_with fail
        refine Calls.mono (eq_outcome_same ((mAsk x0.dat a1).c) ((mAsk x0.dat a1).s) ((mAsk x0.dat a1).p) (((mAsk x0.dat a1).p).length) P10_0_2 P4_0_2 pc10_0_2 pc4_0_2 _ _ _ _ _ (by omega) FP10_0_2.rd FP4_0_2.rd) ?_
        rintro e w9 ⟨rfl, B16⟩
        replace R0 := (R0).new B16
        replace KB0 := (KB0).new B16
        replace KB1 := (KB1).new B16
        replace FP4_0_2 := (FP4_0_2).new B16
        replace KX5 := (KX5).new B16
        replace KX7 := (KX7).new B16
        replace FP10_0_2 := (FP10_0_2).new B16
        replace KX11 := (KX11).new B16
        replace G := below_trans G B16 (Nat.le_refl _)
        have S9 := Lib.hid (show w8.heap.size + 0 ≤ w9.heap.size by have := B16.size; first | (simpa using this) | ((try simp at this); omega))
        clear B16
        clear xKX11_0 xKX11_1 xKX11_2 xKX11_3 xKX5_0 xKX5_1 xKX5_2 xKX5_3
        have xKX11_0 : w9.cell? ⟨g11, 0, none⟩ = some (.int .i64 ((mAsk x0.dat a1).c)) := KX11.at_ rfl
        have xKX11_1 : w9.cell? ⟨g11, 1, none⟩ = some (.int .i64 ((mAsk x0.dat a1).s).f0) := KX11.at_ rfl
        have xKX11_2 : w9.cell? ⟨g11, 2, none⟩ = some (.int .i64 ((mAsk x0.dat a1).s).f1) := KX11.at_ rfl
        have xKX11_3 : w9.cell? ⟨g11, 3, none⟩ = some (.slice P10_0_2 (((mAsk x0.dat a1).p).length) pc10_0_2) := KX11.at_ rfl
        go_wp2_with fail
        refine Calls.mono (mark_outcome ((mAsk x0.dat a1).c) ((mAsk x0.dat a1).s) _ P10_0_2 (((mAsk x0.dat a1).p).length) pc10_0_2 _ _ (1) plo10_0_2 phi10_0_2 _ (by omega) (by omega) (by have := S0.out; have := S1.out; have := S2.out; have := S3.out; have := SA8.out; have := S4.out; have := S5.out; have := S6.out; have := S7.out; have := S8.out; have := S9.out; have := SepOutcome_bd MP4_0.out; have := SepOutcome_bd MP10_0.out; omega) MP10_0 FP10_0_2) ?_
        rintro e w10 ⟨rfl, FM17_2, B17⟩
        replace R0 := (R0).chg B17 (by have := S0.out; have := S1.out; have := S2.out; have := S3.out; have := SA8.out; have := S4.out; have := S5.out; have := S6.out; have := S7.out; have := S8.out; have := S9.out; have := SepOutcome_bd MP4_0.out; have := SepOutcome_bd MP10_0.out; omega)
        replace KB0 := (KB0).chg B17 (by have := S0.out; have := S1.out; have := S2.out; have := S3.out; have := SA8.out; have := S4.out; have := S5.out; have := S6.out; have := S7.out; have := S8.out; have := S9.out; have := SepOutcome_bd MP4_0.out; have := SepOutcome_bd MP10_0.out; omega)
        replace KB1 := (KB1).chg B17 (by have := S0.out; have := S1.out; have := S2.out; have := S3.out; have := SA8.out; have := S4.out; have := S5.out; have := S6.out; have := S7.out; have := S8.out; have := S9.out; have := SepOutcome_bd MP4_0.out; have := SepOutcome_bd MP10_0.out; omega)
        replace FP4_0_2 := (FP4_0_2).chg B17 (by have := S0.out; have := S1.out; have := S2.out; have := S3.out; have := SA8.out; have := S4.out; have := S5.out; have := S6.out; have := S7.out; have := S8.out; have := S9.out; have := SepOutcome_bd MP4_0.out; have := SepOutcome_bd MP10_0.out; omega)
        replace KX5 := (KX5).chg B17 (by have := S0.out; have := S1.out; have := S2.out; have := S3.out; have := SA8.out; have := S4.out; have := S5.out; have := S6.out; have := S7.out; have := S8.out; have := S9.out; have := SepOutcome_bd MP4_0.out; have := SepOutcome_bd MP10_0.out; omega)
        replace KX7 := (KX7).chg B17 (by have := S0.out; have := S1.out; have := S2.out; have := S3.out; have := SA8.out; have := S4.out; have := S5.out; have := S6.out; have := S7.out; have := S8.out; have := S9.out; have := SepOutcome_bd MP4_0.out; have := SepOutcome_bd MP10_0.out; omega)
        replace KX11 := (KX11).chg B17 (by have := S0.out; have := S1.out; have := S2.out; have := S3.out; have := SA8.out; have := S4.out; have := S5.out; have := S6.out; have := S7.out; have := S8.out; have := S9.out; have := SepOutcome_bd MP4_0.out; have := SepOutcome_bd MP10_0.out; omega)
        replace G := G.trans (B17.below (.inl (by have := S0.out; have := S1.out; have := S2.out; have := S3.out; have := SA8.out; have := S4.out; have := S5.out; have := S6.out; have := S7.out; have := S8.out; have := S9.out; have := SepOutcome_bd MP4_0.out; have := SepOutcome_bd MP10_0.out; omega)) (by have := S0.out; have := S1.out; have := S2.out; have := S3.out; have := SA8.out; have := S4.out; have := S5.out; have := S6.out; have := S7.out; have := S8.out; have := S9.out; have := SepOutcome_bd MP4_0.out; have := SepOutcome_bd MP10_0.out; first | omega | (simp; omega)))
        have S10 := Lib.hid (show w9.heap.size + 0 ≤ w10.heap.size by have := B17.size; first | (simpa using this) | ((try simp at this); omega))
        clear FP10_0_2
        clear B17
        clear xKX11_0 xKX11_1 xKX11_2 xKX11_3
        have xKX11_0 : w10.cell? ⟨g11, 0, none⟩ = some (.int .i64 ((mAsk x0.dat a1).c)) := KX11.at_ rfl
        have xKX11_1 : w10.cell? ⟨g11, 1, none⟩ = some (.int .i64 ((mAsk x0.dat a1).s).f0) := KX11.at_ rfl
        have xKX11_2 : w10.cell? ⟨g11, 2, none⟩ = some (.int .i64 ((mAsk x0.dat a1).s).f1) := KX11.at_ rfl
        have xKX11_3 : w10.cell? ⟨g11, 3, none⟩ = some (.slice P10_0_2 (((mAsk x0.dat a1).p).length) pc10_0_2) := KX11.at_ rfl
        go_wp2_with fail
        refine Calls.mono (held_outcome ((mAsk x0.dat a1).c) ((mAsk x0.dat a1).s) P10_0_2 (((mAsk x0.dat a1).p).length) pc10_0_2 _ _ (1) _ (by omega) (by omega) FM17_2.rd) ?_
        rintro e w11 ⟨rfl, B18⟩
        replace R0 := (R0).new B18
        replace KB0 := (KB0).new B18
        replace KB1 := (KB1).new B18
        replace FP4_0_2 := (FP4_0_2).new B18
        replace KX5 := (KX5).new B18
        replace KX7 := (KX7).new B18
        replace KX11 := (KX11).new B18
        replace FM17_2 := (FM17_2).new B18
        replace G := below_trans G B18 (Nat.le_refl _)
        have S11 := Lib.hid (show w10.heap.size + 0 ≤ w11.heap.size by have := B18.size; first | (simpa using this) | ((try simp at this); omega))
        clear B18
        clear xKX11_0 xKX11_1 xKX11_2 xKX11_3
        go_upto_region 24 with fail
        go_cut [12] (fun s12 wx => ∃ (gA : Nat) (P21_0_2 : Option Addr) (pc21_0_2 : Nat) (plo21_0_2 : Nat) (phi21_0_2 : Nat), s12 = .pointer (some ⟨gA, 0, none⟩) ∧ Hid (BoxAt wx gA 38 #[.int .i64 ((mAsk x0.dat a1).c), .int .i64 ((mAsk x0.dat a1).s).f0, .int .i64 ((mAsk x0.dat a1).s).f1, .slice P21_0_2 (((mAsk x0.dat a1).p).length) pc21_0_2]) ∧ Hid (Fr wx plo21_0_2 phi21_0_2 35 2 P21_0_2 (((mAsk x0.dat a1).p).length) pc21_0_2 (cSite ((mAsk x0.dat a1).p))) ∧ Hid (SepOutcome plo21_0_2 phi21_0_2 plo21_0_2 phi21_0_2) ∧ (w11.heap.size ≤ plo21_0_2 ∧ phi21_0_2 ≤ wx.heap.size) ∧ Hid (Below w11.heap.size w11 wx) ∧ w11.heap.size ≤ gA ∧ gA < wx.heap.size ∧ (gA < plo21_0_2 ∨ phi21_0_2 ≤ gA))
        case first =>
          refine wp_region_held_drew (S := fun w' => BoxAt w' w.heap.size 29 #[.int .i64 x0.p0, .slice x0.A1 x0.n1 x0.c1, .slice x0.A2 x0.n2 x0.c2, .slice x0.A3 x0.n3 x0.c3, .slice x0.A4 x0.n4 x0.c4, .slice x0.A5 x0.n5 x0.c5, .slice x0.A6 x0.n6 x0.c6, .int .i64 x0.p7] ∧ BoxAt w' (w.heap.size + 1) 33 #[.int .i64 a1.f0, .int .i64 a1.f1, .int .i64 a1.f2] ∧ Below w11.heap.size w11 w') (by kernel_rfl) ?_ (fun hHeld => ?_)
          · exact ⟨KB0.drw, KB1.drw, (Below.refl _ _).drew⟩
          generalize (World.drew _) = v0 at hHeld ⊢
          refine wpAnyH_take (i := 0) (oi := ⟨some 60, _, _, _, _, _⟩) (v := ?_) rfl (by kernel_rfl) (by kernel_rfl) (by kernel_rfl) (fun _ _ _ h => h) (Or.inl ⟨by kernel_rfl, ?_⟩) hHeld ?_
          rotate_left
          focus (intro W hS; have c0_0 := (hS.1).at_ (j := 0) rfl; have c0_1 := (hS.1).at_ (j := 1) rfl; have c0_2 := (hS.1).at_ (j := 2) rfl; have c0_3 := (hS.1).at_ (j := 3) rfl; have c0_4 := (hS.1).at_ (j := 4) rfl; have c0_5 := (hS.1).at_ (j := 5) rfl; have c0_6 := (hS.1).at_ (j := 6) rfl; have c0_7 := (hS.1).at_ (j := 7) rfl; have c1_0 := (hS.2.1).at_ (j := 0) rfl; have c1_1 := (hS.2.1).at_ (j := 1) rfl; have c1_2 := (hS.2.1).at_ (j := 2) rfl; clear hS; first | (go_simp; done) | (go_simp; with_reducible rfl))
          try simp only [Act.put, List.setIfInBounds_toArray, List.set_cons_zero, List.set_cons_succ]
          refine wpAnyH_take (i := 2) (oi := ⟨some 62, _, _, _, _, _⟩) (v := ?_) rfl (by kernel_rfl) (by kernel_rfl) (by kernel_rfl) (fun _ _ _ h => h) (Or.inl ⟨by kernel_rfl, ?_⟩) hHeld ?_
          rotate_left
          focus (intro W hS; have c0_0 := (hS.1).at_ (j := 0) rfl; have c0_1 := (hS.1).at_ (j := 1) rfl; have c0_2 := (hS.1).at_ (j := 2) rfl; have c0_3 := (hS.1).at_ (j := 3) rfl; have c0_4 := (hS.1).at_ (j := 4) rfl; have c0_5 := (hS.1).at_ (j := 5) rfl; have c0_6 := (hS.1).at_ (j := 6) rfl; have c0_7 := (hS.1).at_ (j := 7) rfl; have c1_0 := (hS.2.1).at_ (j := 0) rfl; have c1_1 := (hS.2.1).at_ (j := 1) rfl; have c1_2 := (hS.2.1).at_ (j := 2) rfl; clear hS; first | (go_simp; done) | (go_simp; with_reducible rfl))
          try simp only [Act.put, List.setIfInBounds_toArray, List.set_cons_zero, List.set_cons_succ]
          refine wpAnyH_ready (rs := [1, 5]) (by kernel_rfl) (by simp) ?_
          refine AllReadyH.cons (o := ⟨some 61, _, _, _, _, _⟩) rfl (fun K hK => ?_) ?_
          · skip
            go_simp
            have HS1 := hHeld.2.2.size
            refine Calls.mono (to_browser x0 _ _ _ (by omega) (R0.new hHeld.2.2)) ?_
            rintro e v1 ⟨T19, rfl, ET19, GFT19, hb1⟩
            replace ET19 := Lib.hid ET19
            have Z1 := hb1.size
            refine hK.out _ _ ⟨hHeld.1.new hb1, hHeld.2.1.new hb1, below_trans hHeld.2.2 hb1 (Nat.le_refl _)⟩ (fun hHeld' => ?_)
            clear hK K hHeld hb1
            have hHeld := hHeld'
            clear hHeld'
            try simp only [Act.put, List.setIfInBounds_toArray, List.set_cons_zero, List.set_cons_succ]
            refine wpAnyH_ready (rs := [3, 5]) (by kernel_rfl) (by simp) ?_
            refine AllReadyH.cons (o := ⟨some 63, _, _, _, _, _⟩) rfl (fun K hK => ?_) ?_
            · skip
              go_simp
              have HS3 := hHeld.2.2.size
              refine Calls.mono (to_request_one a1 _) ?_
              rintro e v2 ⟨rfl, hb1⟩
              have Z3 := hb1.size
              replace GFT19 := GFT19.new hb1
              refine hK.out _ _ ⟨hHeld.1.new hb1, hHeld.2.1.new hb1, below_trans hHeld.2.2 hb1 (Nat.le_refl _)⟩ (fun hHeld' => ?_)
              clear hK K hHeld hb1
              have hHeld := hHeld'
              clear hHeld'
              try simp only [Act.put, List.setIfInBounds_toArray, List.set_cons_zero, List.set_cons_succ]
              refine wpAnyH_ready (rs := [4, 5]) (by kernel_rfl) (by simp) ?_
              refine AllReadyH.cons (o := ⟨some 64, _, _, _, _, _⟩) rfl (fun K hK => ?_) ?_
              · skip
                go_simp
                have HS4 := hHeld.2.2.size
                refine Calls.mono (impl_AskPageC T19 x0.dat _ _ a1 _ ET19.out (by omega) H0.out GFT19.rd GFT19.caps H1) ?_
                rintro e v3 ⟨P21_0_2, pc21_0_2, plo21_0_2, phi21_0_2, rfl, GFP21_0_2, MP21_0, hb1⟩
                have Z4 := hb1.size
                clear GFT19
                have QMP21_0 := SepOutcome_bd MP21_0.out
                refine hK.out _ _ ⟨hHeld.1.new hb1, hHeld.2.1.new hb1, below_trans hHeld.2.2 hb1 (Nat.le_refl _)⟩ (fun hHeld' => ?_)
                clear hK K hHeld hb1
                have hHeld := hHeld'
                clear hHeld'
                try simp only [Act.put, List.setIfInBounds_toArray, List.set_cons_zero, List.set_cons_succ]
                refine wpAnyH_ready (rs := [5]) (by kernel_rfl) (by simp) ?_
                refine AllReadyH.cons (o := ⟨some 12, _, _, _, _, _⟩) rfl (fun K hK => ?_) AllReadyH.nil
                go_simp
                have GA := box_new (v3) 38 #[.int .i64 0, .int .i64 0, .int .i64 0, .slice none 0 0]
                have hb1 := (Below.refl (v3).heap.size (v3)).alloc (Nat.le_refl _) (.cells #[.int .i64 0, .int .i64 0, .int .i64 0, .slice none 0 0] 38)
                have HSa := hHeld.2.2.size
                have MA0 := (hHeld.1).lt
                have MA1 := (hHeld.2.1).lt
                replace GFP21_0_2 := GFP21_0_2.new hb1
                generalize (v3).alloc (.cells #[.int .i64 0, .int .i64 0, .int .i64 0, .slice none 0 0] 38) = v4 at hb1 GA GFP21_0_2 ⊢
                have Za := hb1.size
                generalize hgA : (v3).heap.size = gA at GA ⊢
                refine hK.out _ _ ⟨hHeld.1.new hb1, hHeld.2.1.new hb1, below_trans hHeld.2.2 hb1 (Nat.le_refl _)⟩ (fun hHeld' => ?_)
                clear hK K hHeld hb1
                have hHeld := hHeld'
                clear hHeld'
                try simp only [Act.put, List.setIfInBounds_toArray, List.set_cons_zero, List.set_cons_succ]
                refine wpAnyH_ready (rs := [6]) (by kernel_rfl) (by simp) ?_
                refine AllReadyH.cons (o := ⟨none, _, _, _, _, _⟩) rfl (fun K hK => ?_) AllReadyH.nil
                rw [if_pos (by rfl)]
                refine wp_store_row 38 _ _ rfl gA #[.int .i64 ((mAsk x0.dat a1).c), .int .i64 ((mAsk x0.dat a1).s).f0, .int .i64 ((mAsk x0.dat a1).s).f1, .slice P21_0_2 (((mAsk x0.dat a1).p).length) pc21_0_2] rfl rfl 38 _ GA (by kernel_rfl) (by kernel_rfl) (by kernel_rfl) ?_
                replace GA := box_row (cs := #[.int .i64 ((mAsk x0.dat a1).c), .int .i64 ((mAsk x0.dat a1).s).f0, .int .i64 ((mAsk x0.dat a1).s).f1, .slice P21_0_2 (((mAsk x0.dat a1).p).length) pc21_0_2]) GA
                have hc1 := chg_row v4 gA #[.int .i64 ((mAsk x0.dat a1).c), .int .i64 ((mAsk x0.dat a1).s).f0, .int .i64 ((mAsk x0.dat a1).s).f1, .slice P21_0_2 (((mAsk x0.dat a1).p).length) pc21_0_2]
                have hHeld2 : BoxAt (World.setRow v4 gA #[.int .i64 ((mAsk x0.dat a1).c), .int .i64 ((mAsk x0.dat a1).s).f0, .int .i64 ((mAsk x0.dat a1).s).f1, .slice P21_0_2 (((mAsk x0.dat a1).p).length) pc21_0_2]) w.heap.size 29 #[.int .i64 x0.p0, .slice x0.A1 x0.n1 x0.c1, .slice x0.A2 x0.n2 x0.c2, .slice x0.A3 x0.n3 x0.c3, .slice x0.A4 x0.n4 x0.c4, .slice x0.A5 x0.n5 x0.c5, .slice x0.A6 x0.n6 x0.c6, .int .i64 x0.p7] ∧ BoxAt (World.setRow v4 gA #[.int .i64 ((mAsk x0.dat a1).c), .int .i64 ((mAsk x0.dat a1).s).f0, .int .i64 ((mAsk x0.dat a1).s).f1, .slice P21_0_2 (((mAsk x0.dat a1).p).length) pc21_0_2]) (w.heap.size + 1) 33 #[.int .i64 a1.f0, .int .i64 a1.f1, .int .i64 a1.f2] ∧ Below w11.heap.size w11 (World.setRow v4 gA #[.int .i64 ((mAsk x0.dat a1).c), .int .i64 ((mAsk x0.dat a1).s).f0, .int .i64 ((mAsk x0.dat a1).s).f1, .slice P21_0_2 (((mAsk x0.dat a1).p).length) pc21_0_2]) := ⟨hHeld.1.chg hc1 (by omega), hHeld.2.1.chg hc1 (by omega), below_setRow hHeld.2.2 (by omega) _⟩
                replace GFP21_0_2 := GFP21_0_2.chg hc1 (by omega)
                clear hc1
                have Z5 : (v4).heap.size ≤ (World.setRow v4 gA #[.int .i64 ((mAsk x0.dat a1).c), .int .i64 ((mAsk x0.dat a1).s).f0, .int .i64 ((mAsk x0.dat a1).s).f1, .slice P21_0_2 (((mAsk x0.dat a1).p).length) pc21_0_2]).heap.size := by simp
                generalize World.setRow v4 gA #[.int .i64 ((mAsk x0.dat a1).c), .int .i64 ((mAsk x0.dat a1).s).f0, .int .i64 ((mAsk x0.dat a1).s).f1, .slice P21_0_2 (((mAsk x0.dat a1).p).length) pc21_0_2] = v5 at hHeld2 GA GFP21_0_2 Z5 ⊢
                refine hK.out _ _ hHeld2 (fun hHeld' => ?_)
                clear hHeld2
                clear hK K hHeld
                have hHeld := hHeld'
                clear hHeld'
                try simp only [Act.put, List.setIfInBounds_toArray, List.set_cons_zero, List.set_cons_succ]
                refine wpAnyH_done (by kernel_rfl) ?_ _
                go_wp2_with fail
                have hSz := hHeld.2.2.size
                go_meet
                exact ⟨gA, P21_0_2, pc21_0_2, plo21_0_2, phi21_0_2, rfl, Lib.hid GA, Lib.hid GFP21_0_2, Lib.hid (by unfold SepOutcome; omega), ⟨by omega, by omega⟩, Lib.hid hHeld.2.2, by omega, GA.lt, by omega⟩
              refine AllReadyH.cons (o := ⟨some 12, _, _, _, _, _⟩) rfl (fun K hK => ?_) ?_
              · skip
                go_simp
                have GA := box_new (v2) 38 #[.int .i64 0, .int .i64 0, .int .i64 0, .slice none 0 0]
                have hb1 := (Below.refl (v2).heap.size (v2)).alloc (Nat.le_refl _) (.cells #[.int .i64 0, .int .i64 0, .int .i64 0, .slice none 0 0] 38)
                have HSa := hHeld.2.2.size
                have MA0 := (hHeld.1).lt
                have MA1 := (hHeld.2.1).lt
                replace GFT19 := GFT19.new hb1
                generalize (v2).alloc (.cells #[.int .i64 0, .int .i64 0, .int .i64 0, .slice none 0 0] 38) = v3 at hb1 GA GFT19 ⊢
                have Za := hb1.size
                generalize hgA : (v2).heap.size = gA at GA ⊢
                refine hK.out _ _ ⟨hHeld.1.new hb1, hHeld.2.1.new hb1, below_trans hHeld.2.2 hb1 (Nat.le_refl _)⟩ (fun hHeld' => ?_)
                clear hK K hHeld hb1
                have hHeld := hHeld'
                clear hHeld'
                try simp only [Act.put, List.setIfInBounds_toArray, List.set_cons_zero, List.set_cons_succ]
                refine wpAnyH_ready (rs := [4]) (by kernel_rfl) (by simp) ?_
                refine AllReadyH.cons (o := ⟨some 64, _, _, _, _, _⟩) rfl (fun K hK => ?_) AllReadyH.nil
                go_simp
                have P4 := GA.lt
                have HS4 := hHeld.2.2.size
                refine Calls.mono (impl_AskPageC T19 x0.dat _ _ a1 _ ET19.out (by omega) H0.out GFT19.rd GFT19.caps H1) ?_
                rintro e v4 ⟨P21_0_2, pc21_0_2, plo21_0_2, phi21_0_2, rfl, GFP21_0_2, MP21_0, hb1⟩
                have Z4 := hb1.size
                clear GFT19
                have QMP21_0 := SepOutcome_bd MP21_0.out
                replace GA := GA.new hb1
                refine hK.out _ _ ⟨hHeld.1.new hb1, hHeld.2.1.new hb1, below_trans hHeld.2.2 hb1 (Nat.le_refl _)⟩ (fun hHeld' => ?_)
                clear hK K hHeld hb1
                have hHeld := hHeld'
                clear hHeld'
                try simp only [Act.put, List.setIfInBounds_toArray, List.set_cons_zero, List.set_cons_succ]
                refine wpAnyH_ready (rs := [6]) (by kernel_rfl) (by simp) ?_
                refine AllReadyH.cons (o := ⟨none, _, _, _, _, _⟩) rfl (fun K hK => ?_) AllReadyH.nil
                rw [if_pos (by rfl)]
                refine wp_store_row 38 _ _ rfl gA #[.int .i64 ((mAsk x0.dat a1).c), .int .i64 ((mAsk x0.dat a1).s).f0, .int .i64 ((mAsk x0.dat a1).s).f1, .slice P21_0_2 (((mAsk x0.dat a1).p).length) pc21_0_2] rfl rfl 38 _ GA (by kernel_rfl) (by kernel_rfl) (by kernel_rfl) ?_
                replace GA := box_row (cs := #[.int .i64 ((mAsk x0.dat a1).c), .int .i64 ((mAsk x0.dat a1).s).f0, .int .i64 ((mAsk x0.dat a1).s).f1, .slice P21_0_2 (((mAsk x0.dat a1).p).length) pc21_0_2]) GA
                have hc1 := chg_row v4 gA #[.int .i64 ((mAsk x0.dat a1).c), .int .i64 ((mAsk x0.dat a1).s).f0, .int .i64 ((mAsk x0.dat a1).s).f1, .slice P21_0_2 (((mAsk x0.dat a1).p).length) pc21_0_2]
                have hHeld2 : BoxAt (World.setRow v4 gA #[.int .i64 ((mAsk x0.dat a1).c), .int .i64 ((mAsk x0.dat a1).s).f0, .int .i64 ((mAsk x0.dat a1).s).f1, .slice P21_0_2 (((mAsk x0.dat a1).p).length) pc21_0_2]) w.heap.size 29 #[.int .i64 x0.p0, .slice x0.A1 x0.n1 x0.c1, .slice x0.A2 x0.n2 x0.c2, .slice x0.A3 x0.n3 x0.c3, .slice x0.A4 x0.n4 x0.c4, .slice x0.A5 x0.n5 x0.c5, .slice x0.A6 x0.n6 x0.c6, .int .i64 x0.p7] ∧ BoxAt (World.setRow v4 gA #[.int .i64 ((mAsk x0.dat a1).c), .int .i64 ((mAsk x0.dat a1).s).f0, .int .i64 ((mAsk x0.dat a1).s).f1, .slice P21_0_2 (((mAsk x0.dat a1).p).length) pc21_0_2]) (w.heap.size + 1) 33 #[.int .i64 a1.f0, .int .i64 a1.f1, .int .i64 a1.f2] ∧ Below w11.heap.size w11 (World.setRow v4 gA #[.int .i64 ((mAsk x0.dat a1).c), .int .i64 ((mAsk x0.dat a1).s).f0, .int .i64 ((mAsk x0.dat a1).s).f1, .slice P21_0_2 (((mAsk x0.dat a1).p).length) pc21_0_2]) := ⟨hHeld.1.chg hc1 (by omega), hHeld.2.1.chg hc1 (by omega), below_setRow hHeld.2.2 (by omega) _⟩
                replace GFP21_0_2 := GFP21_0_2.chg hc1 (by omega)
                clear hc1
                have Z5 : (v4).heap.size ≤ (World.setRow v4 gA #[.int .i64 ((mAsk x0.dat a1).c), .int .i64 ((mAsk x0.dat a1).s).f0, .int .i64 ((mAsk x0.dat a1).s).f1, .slice P21_0_2 (((mAsk x0.dat a1).p).length) pc21_0_2]).heap.size := by simp
                generalize World.setRow v4 gA #[.int .i64 ((mAsk x0.dat a1).c), .int .i64 ((mAsk x0.dat a1).s).f0, .int .i64 ((mAsk x0.dat a1).s).f1, .slice P21_0_2 (((mAsk x0.dat a1).p).length) pc21_0_2] = v5 at hHeld2 GA GFP21_0_2 Z5 ⊢
                refine hK.out _ _ hHeld2 (fun hHeld' => ?_)
                clear hHeld2
                clear hK K hHeld
                have hHeld := hHeld'
                clear hHeld'
                try simp only [Act.put, List.setIfInBounds_toArray, List.set_cons_zero, List.set_cons_succ]
                refine wpAnyH_done (by kernel_rfl) ?_ _
                go_wp2_with fail
                have hSz := hHeld.2.2.size
                go_meet
                exact ⟨gA, P21_0_2, pc21_0_2, plo21_0_2, phi21_0_2, rfl, Lib.hid GA, Lib.hid GFP21_0_2, Lib.hid (by unfold SepOutcome; omega), ⟨by omega, by omega⟩, Lib.hid hHeld.2.2, by omega, GA.lt, by omega⟩
              exact AllReadyH.nil
            refine AllReadyH.cons (o := ⟨some 12, _, _, _, _, _⟩) rfl (fun K hK => ?_) ?_
            · skip
              go_simp
              have GA := box_new (v1) 38 #[.int .i64 0, .int .i64 0, .int .i64 0, .slice none 0 0]
              have hb1 := (Below.refl (v1).heap.size (v1)).alloc (Nat.le_refl _) (.cells #[.int .i64 0, .int .i64 0, .int .i64 0, .slice none 0 0] 38)
              have HSa := hHeld.2.2.size
              have MA0 := (hHeld.1).lt
              have MA1 := (hHeld.2.1).lt
              replace GFT19 := GFT19.new hb1
              generalize (v1).alloc (.cells #[.int .i64 0, .int .i64 0, .int .i64 0, .slice none 0 0] 38) = v2 at hb1 GA GFT19 ⊢
              have Za := hb1.size
              generalize hgA : (v1).heap.size = gA at GA ⊢
              refine hK.out _ _ ⟨hHeld.1.new hb1, hHeld.2.1.new hb1, below_trans hHeld.2.2 hb1 (Nat.le_refl _)⟩ (fun hHeld' => ?_)
              clear hK K hHeld hb1
              have hHeld := hHeld'
              clear hHeld'
              try simp only [Act.put, List.setIfInBounds_toArray, List.set_cons_zero, List.set_cons_succ]
              refine wpAnyH_ready (rs := [3]) (by kernel_rfl) (by simp) ?_
              refine AllReadyH.cons (o := ⟨some 63, _, _, _, _, _⟩) rfl (fun K hK => ?_) AllReadyH.nil
              go_simp
              have P3 := GA.lt
              have HS3 := hHeld.2.2.size
              refine Calls.mono (to_request_one a1 _) ?_
              rintro e v3 ⟨rfl, hb1⟩
              have Z3 := hb1.size
              replace GA := GA.new hb1
              replace GFT19 := GFT19.new hb1
              refine hK.out _ _ ⟨hHeld.1.new hb1, hHeld.2.1.new hb1, below_trans hHeld.2.2 hb1 (Nat.le_refl _)⟩ (fun hHeld' => ?_)
              clear hK K hHeld hb1
              have hHeld := hHeld'
              clear hHeld'
              try simp only [Act.put, List.setIfInBounds_toArray, List.set_cons_zero, List.set_cons_succ]
              refine wpAnyH_ready (rs := [4]) (by kernel_rfl) (by simp) ?_
              refine AllReadyH.cons (o := ⟨some 64, _, _, _, _, _⟩) rfl (fun K hK => ?_) AllReadyH.nil
              go_simp
              have P4 := GA.lt
              have HS4 := hHeld.2.2.size
              refine Calls.mono (impl_AskPageC T19 x0.dat _ _ a1 _ ET19.out (by omega) H0.out GFT19.rd GFT19.caps H1) ?_
              rintro e v4 ⟨P21_0_2, pc21_0_2, plo21_0_2, phi21_0_2, rfl, GFP21_0_2, MP21_0, hb1⟩
              have Z4 := hb1.size
              clear GFT19
              have QMP21_0 := SepOutcome_bd MP21_0.out
              replace GA := GA.new hb1
              refine hK.out _ _ ⟨hHeld.1.new hb1, hHeld.2.1.new hb1, below_trans hHeld.2.2 hb1 (Nat.le_refl _)⟩ (fun hHeld' => ?_)
              clear hK K hHeld hb1
              have hHeld := hHeld'
              clear hHeld'
              try simp only [Act.put, List.setIfInBounds_toArray, List.set_cons_zero, List.set_cons_succ]
              refine wpAnyH_ready (rs := [6]) (by kernel_rfl) (by simp) ?_
              refine AllReadyH.cons (o := ⟨none, _, _, _, _, _⟩) rfl (fun K hK => ?_) AllReadyH.nil
              rw [if_pos (by rfl)]
              refine wp_store_row 38 _ _ rfl gA #[.int .i64 ((mAsk x0.dat a1).c), .int .i64 ((mAsk x0.dat a1).s).f0, .int .i64 ((mAsk x0.dat a1).s).f1, .slice P21_0_2 (((mAsk x0.dat a1).p).length) pc21_0_2] rfl rfl 38 _ GA (by kernel_rfl) (by kernel_rfl) (by kernel_rfl) ?_
              replace GA := box_row (cs := #[.int .i64 ((mAsk x0.dat a1).c), .int .i64 ((mAsk x0.dat a1).s).f0, .int .i64 ((mAsk x0.dat a1).s).f1, .slice P21_0_2 (((mAsk x0.dat a1).p).length) pc21_0_2]) GA
              have hc1 := chg_row v4 gA #[.int .i64 ((mAsk x0.dat a1).c), .int .i64 ((mAsk x0.dat a1).s).f0, .int .i64 ((mAsk x0.dat a1).s).f1, .slice P21_0_2 (((mAsk x0.dat a1).p).length) pc21_0_2]
              have hHeld2 : BoxAt (World.setRow v4 gA #[.int .i64 ((mAsk x0.dat a1).c), .int .i64 ((mAsk x0.dat a1).s).f0, .int .i64 ((mAsk x0.dat a1).s).f1, .slice P21_0_2 (((mAsk x0.dat a1).p).length) pc21_0_2]) w.heap.size 29 #[.int .i64 x0.p0, .slice x0.A1 x0.n1 x0.c1, .slice x0.A2 x0.n2 x0.c2, .slice x0.A3 x0.n3 x0.c3, .slice x0.A4 x0.n4 x0.c4, .slice x0.A5 x0.n5 x0.c5, .slice x0.A6 x0.n6 x0.c6, .int .i64 x0.p7] ∧ BoxAt (World.setRow v4 gA #[.int .i64 ((mAsk x0.dat a1).c), .int .i64 ((mAsk x0.dat a1).s).f0, .int .i64 ((mAsk x0.dat a1).s).f1, .slice P21_0_2 (((mAsk x0.dat a1).p).length) pc21_0_2]) (w.heap.size + 1) 33 #[.int .i64 a1.f0, .int .i64 a1.f1, .int .i64 a1.f2] ∧ Below w11.heap.size w11 (World.setRow v4 gA #[.int .i64 ((mAsk x0.dat a1).c), .int .i64 ((mAsk x0.dat a1).s).f0, .int .i64 ((mAsk x0.dat a1).s).f1, .slice P21_0_2 (((mAsk x0.dat a1).p).length) pc21_0_2]) := ⟨hHeld.1.chg hc1 (by omega), hHeld.2.1.chg hc1 (by omega), below_setRow hHeld.2.2 (by omega) _⟩
              replace GFP21_0_2 := GFP21_0_2.chg hc1 (by omega)
              clear hc1
              have Z5 : (v4).heap.size ≤ (World.setRow v4 gA #[.int .i64 ((mAsk x0.dat a1).c), .int .i64 ((mAsk x0.dat a1).s).f0, .int .i64 ((mAsk x0.dat a1).s).f1, .slice P21_0_2 (((mAsk x0.dat a1).p).length) pc21_0_2]).heap.size := by simp
              generalize World.setRow v4 gA #[.int .i64 ((mAsk x0.dat a1).c), .int .i64 ((mAsk x0.dat a1).s).f0, .int .i64 ((mAsk x0.dat a1).s).f1, .slice P21_0_2 (((mAsk x0.dat a1).p).length) pc21_0_2] = v5 at hHeld2 GA GFP21_0_2 Z5 ⊢
              refine hK.out _ _ hHeld2 (fun hHeld' => ?_)
              clear hHeld2
              clear hK K hHeld
              have hHeld := hHeld'
              clear hHeld'
              try simp only [Act.put, List.setIfInBounds_toArray, List.set_cons_zero, List.set_cons_succ]
              refine wpAnyH_done (by kernel_rfl) ?_ _
              go_wp2_with fail
              have hSz := hHeld.2.2.size
              go_meet
              exact ⟨gA, P21_0_2, pc21_0_2, plo21_0_2, phi21_0_2, rfl, Lib.hid GA, Lib.hid GFP21_0_2, Lib.hid (by unfold SepOutcome; omega), ⟨by omega, by omega⟩, Lib.hid hHeld.2.2, by omega, GA.lt, by omega⟩
            exact AllReadyH.nil
          refine AllReadyH.cons (o := ⟨some 12, _, _, _, _, _⟩) rfl (fun K hK => ?_) ?_
          · skip
            go_simp
            have GA := box_new (v0) 38 #[.int .i64 0, .int .i64 0, .int .i64 0, .slice none 0 0]
            have hb1 := (Below.refl (v0).heap.size (v0)).alloc (Nat.le_refl _) (.cells #[.int .i64 0, .int .i64 0, .int .i64 0, .slice none 0 0] 38)
            have HSa := hHeld.2.2.size
            have MA0 := (hHeld.1).lt
            have MA1 := (hHeld.2.1).lt
            generalize (v0).alloc (.cells #[.int .i64 0, .int .i64 0, .int .i64 0, .slice none 0 0] 38) = v1 at hb1 GA  ⊢
            have Za := hb1.size
            generalize hgA : (v0).heap.size = gA at GA ⊢
            refine hK.out _ _ ⟨hHeld.1.new hb1, hHeld.2.1.new hb1, below_trans hHeld.2.2 hb1 (Nat.le_refl _)⟩ (fun hHeld' => ?_)
            clear hK K hHeld hb1
            have hHeld := hHeld'
            clear hHeld'
            try simp only [Act.put, List.setIfInBounds_toArray, List.set_cons_zero, List.set_cons_succ]
            refine wpAnyH_ready (rs := [1]) (by kernel_rfl) (by simp) ?_
            refine AllReadyH.cons (o := ⟨some 61, _, _, _, _, _⟩) rfl (fun K hK => ?_) AllReadyH.nil
            go_simp
            have P1 := GA.lt
            have HS1 := hHeld.2.2.size
            refine Calls.mono (to_browser x0 _ _ _ (by omega) (R0.new hHeld.2.2)) ?_
            rintro e v2 ⟨T19, rfl, ET19, GFT19, hb1⟩
            replace ET19 := Lib.hid ET19
            have Z1 := hb1.size
            replace GA := GA.new hb1
            refine hK.out _ _ ⟨hHeld.1.new hb1, hHeld.2.1.new hb1, below_trans hHeld.2.2 hb1 (Nat.le_refl _)⟩ (fun hHeld' => ?_)
            clear hK K hHeld hb1
            have hHeld := hHeld'
            clear hHeld'
            try simp only [Act.put, List.setIfInBounds_toArray, List.set_cons_zero, List.set_cons_succ]
            refine wpAnyH_ready (rs := [3]) (by kernel_rfl) (by simp) ?_
            refine AllReadyH.cons (o := ⟨some 63, _, _, _, _, _⟩) rfl (fun K hK => ?_) AllReadyH.nil
            go_simp
            have P3 := GA.lt
            have HS3 := hHeld.2.2.size
            refine Calls.mono (to_request_one a1 _) ?_
            rintro e v3 ⟨rfl, hb1⟩
            have Z3 := hb1.size
            replace GA := GA.new hb1
            replace GFT19 := GFT19.new hb1
            refine hK.out _ _ ⟨hHeld.1.new hb1, hHeld.2.1.new hb1, below_trans hHeld.2.2 hb1 (Nat.le_refl _)⟩ (fun hHeld' => ?_)
            clear hK K hHeld hb1
            have hHeld := hHeld'
            clear hHeld'
            try simp only [Act.put, List.setIfInBounds_toArray, List.set_cons_zero, List.set_cons_succ]
            refine wpAnyH_ready (rs := [4]) (by kernel_rfl) (by simp) ?_
            refine AllReadyH.cons (o := ⟨some 64, _, _, _, _, _⟩) rfl (fun K hK => ?_) AllReadyH.nil
            go_simp
            have P4 := GA.lt
            have HS4 := hHeld.2.2.size
            refine Calls.mono (impl_AskPageC T19 x0.dat _ _ a1 _ ET19.out (by omega) H0.out GFT19.rd GFT19.caps H1) ?_
            rintro e v4 ⟨P21_0_2, pc21_0_2, plo21_0_2, phi21_0_2, rfl, GFP21_0_2, MP21_0, hb1⟩
            have Z4 := hb1.size
            clear GFT19
            have QMP21_0 := SepOutcome_bd MP21_0.out
            replace GA := GA.new hb1
            refine hK.out _ _ ⟨hHeld.1.new hb1, hHeld.2.1.new hb1, below_trans hHeld.2.2 hb1 (Nat.le_refl _)⟩ (fun hHeld' => ?_)
            clear hK K hHeld hb1
            have hHeld := hHeld'
            clear hHeld'
            try simp only [Act.put, List.setIfInBounds_toArray, List.set_cons_zero, List.set_cons_succ]
            refine wpAnyH_ready (rs := [6]) (by kernel_rfl) (by simp) ?_
            refine AllReadyH.cons (o := ⟨none, _, _, _, _, _⟩) rfl (fun K hK => ?_) AllReadyH.nil
            rw [if_pos (by rfl)]
            refine wp_store_row 38 _ _ rfl gA #[.int .i64 ((mAsk x0.dat a1).c), .int .i64 ((mAsk x0.dat a1).s).f0, .int .i64 ((mAsk x0.dat a1).s).f1, .slice P21_0_2 (((mAsk x0.dat a1).p).length) pc21_0_2] rfl rfl 38 _ GA (by kernel_rfl) (by kernel_rfl) (by kernel_rfl) ?_
            replace GA := box_row (cs := #[.int .i64 ((mAsk x0.dat a1).c), .int .i64 ((mAsk x0.dat a1).s).f0, .int .i64 ((mAsk x0.dat a1).s).f1, .slice P21_0_2 (((mAsk x0.dat a1).p).length) pc21_0_2]) GA
            have hc1 := chg_row v4 gA #[.int .i64 ((mAsk x0.dat a1).c), .int .i64 ((mAsk x0.dat a1).s).f0, .int .i64 ((mAsk x0.dat a1).s).f1, .slice P21_0_2 (((mAsk x0.dat a1).p).length) pc21_0_2]
            have hHeld2 : BoxAt (World.setRow v4 gA #[.int .i64 ((mAsk x0.dat a1).c), .int .i64 ((mAsk x0.dat a1).s).f0, .int .i64 ((mAsk x0.dat a1).s).f1, .slice P21_0_2 (((mAsk x0.dat a1).p).length) pc21_0_2]) w.heap.size 29 #[.int .i64 x0.p0, .slice x0.A1 x0.n1 x0.c1, .slice x0.A2 x0.n2 x0.c2, .slice x0.A3 x0.n3 x0.c3, .slice x0.A4 x0.n4 x0.c4, .slice x0.A5 x0.n5 x0.c5, .slice x0.A6 x0.n6 x0.c6, .int .i64 x0.p7] ∧ BoxAt (World.setRow v4 gA #[.int .i64 ((mAsk x0.dat a1).c), .int .i64 ((mAsk x0.dat a1).s).f0, .int .i64 ((mAsk x0.dat a1).s).f1, .slice P21_0_2 (((mAsk x0.dat a1).p).length) pc21_0_2]) (w.heap.size + 1) 33 #[.int .i64 a1.f0, .int .i64 a1.f1, .int .i64 a1.f2] ∧ Below w11.heap.size w11 (World.setRow v4 gA #[.int .i64 ((mAsk x0.dat a1).c), .int .i64 ((mAsk x0.dat a1).s).f0, .int .i64 ((mAsk x0.dat a1).s).f1, .slice P21_0_2 (((mAsk x0.dat a1).p).length) pc21_0_2]) := ⟨hHeld.1.chg hc1 (by omega), hHeld.2.1.chg hc1 (by omega), below_setRow hHeld.2.2 (by omega) _⟩
            replace GFP21_0_2 := GFP21_0_2.chg hc1 (by omega)
            clear hc1
            have Z5 : (v4).heap.size ≤ (World.setRow v4 gA #[.int .i64 ((mAsk x0.dat a1).c), .int .i64 ((mAsk x0.dat a1).s).f0, .int .i64 ((mAsk x0.dat a1).s).f1, .slice P21_0_2 (((mAsk x0.dat a1).p).length) pc21_0_2]).heap.size := by simp
            generalize World.setRow v4 gA #[.int .i64 ((mAsk x0.dat a1).c), .int .i64 ((mAsk x0.dat a1).s).f0, .int .i64 ((mAsk x0.dat a1).s).f1, .slice P21_0_2 (((mAsk x0.dat a1).p).length) pc21_0_2] = v5 at hHeld2 GA GFP21_0_2 Z5 ⊢
            refine hK.out _ _ hHeld2 (fun hHeld' => ?_)
            clear hHeld2
            clear hK K hHeld
            have hHeld := hHeld'
            clear hHeld'
            try simp only [Act.put, List.setIfInBounds_toArray, List.set_cons_zero, List.set_cons_succ]
            refine wpAnyH_done (by kernel_rfl) ?_ _
            go_wp2_with fail
            have hSz := hHeld.2.2.size
            go_meet
            exact ⟨gA, P21_0_2, pc21_0_2, plo21_0_2, phi21_0_2, rfl, Lib.hid GA, Lib.hid GFP21_0_2, Lib.hid (by unfold SepOutcome; omega), ⟨by omega, by omega⟩, Lib.hid hHeld.2.2, by omega, GA.lt, by omega⟩
          exact AllReadyH.nil
        case rest =>
          obtain ⟨g22, P21_0_2, pc21_0_2, plo21_0_2, phi21_0_2, rfl, KX22, FP21_0_2, MP21_0, ⟨LB22_0, UB22_0⟩, B22, LA22, MA22, NA22_0⟩ := hcut
          rename World => w12
          replace B22 := B22.out
          replace KX22 := KX22.out
          replace FP21_0_2 := FP21_0_2.out
          replace R0 := DBrowser.rd_nw B22 R0
          replace KB0 := box_nw B22 KB0
          replace KB1 := box_nw B22 KB1
          replace FP4_0_2 := fr_nw B22 FP4_0_2
          replace KX5 := box_nw B22 KX5
          replace KX7 := box_nw B22 KX7
          replace KX11 := box_nw B22 KX11
          replace FM17_2 := fr_nw B22 FM17_2
          replace G := (by first | exact below_trans G B22 (Nat.le_refl _) | exact below_trans G.drew B22 (Nat.le_refl _) | exact below_trans (below_dN G _) B22 (Nat.le_refl _))
          have S12 := Lib.hid (show w11.heap.size ≤ w12.heap.size from B22.size)
          clear B22
          have xKX22_0 : w12.cell? ⟨g22, 0, none⟩ = some (.int .i64 ((mAsk x0.dat a1).c)) := KX22.at_ rfl
          have xKX22_1 : w12.cell? ⟨g22, 1, none⟩ = some (.int .i64 ((mAsk x0.dat a1).s).f0) := KX22.at_ rfl
          have xKX22_2 : w12.cell? ⟨g22, 2, none⟩ = some (.int .i64 ((mAsk x0.dat a1).s).f1) := KX22.at_ rfl
          have xKX22_3 : w12.cell? ⟨g22, 3, none⟩ = some (.slice P21_0_2 (((mAsk x0.dat a1).p).length) pc21_0_2) := KX22.at_ rfl
          have xKX5_0 : w12.cell? ⟨g5, 0, none⟩ = some (.int .i64 ((mAsk x0.dat a1).c)) := KX5.at_ rfl
          have xKX5_1 : w12.cell? ⟨g5, 1, none⟩ = some (.int .i64 ((mAsk x0.dat a1).s).f0) := KX5.at_ rfl
          have xKX5_2 : w12.cell? ⟨g5, 2, none⟩ = some (.int .i64 ((mAsk x0.dat a1).s).f1) := KX5.at_ rfl
          have xKX5_3 : w12.cell? ⟨g5, 3, none⟩ = some (.slice P4_0_2 (((mAsk x0.dat a1).p).length) pc4_0_2) := KX5.at_ rfl
          go_wp2_with fail
          refine Calls.mono (eq_outcome_same ((mAsk x0.dat a1).c) ((mAsk x0.dat a1).s) ((mAsk x0.dat a1).p) (((mAsk x0.dat a1).p).length) P21_0_2 P4_0_2 pc21_0_2 pc4_0_2 _ _ _ _ _ (by omega) FP21_0_2.rd FP4_0_2.rd) ?_
          rintro e w13 ⟨rfl, B23⟩
          replace R0 := (R0).new B23
          replace KB0 := (KB0).new B23
          replace KB1 := (KB1).new B23
          replace FP4_0_2 := (FP4_0_2).new B23
          replace KX5 := (KX5).new B23
          replace KX7 := (KX7).new B23
          replace KX11 := (KX11).new B23
          replace FM17_2 := (FM17_2).new B23
          replace FP21_0_2 := (FP21_0_2).new B23
          replace KX22 := (KX22).new B23
          replace G := below_trans G B23 (Nat.le_refl _)
          have S13 := Lib.hid (show w12.heap.size + 0 ≤ w13.heap.size by have := B23.size; first | (simpa using this) | ((try simp at this); omega))
          clear B23
          clear xKX22_0 xKX22_1 xKX22_2 xKX22_3 xKX5_0 xKX5_1 xKX5_2 xKX5_3
          have xKX11_0 : w13.cell? ⟨g11, 0, none⟩ = some (.int .i64 ((mAsk x0.dat a1).c)) := KX11.at_ rfl
          have xKX11_1 : w13.cell? ⟨g11, 1, none⟩ = some (.int .i64 ((mAsk x0.dat a1).s).f0) := KX11.at_ rfl
          have xKX11_2 : w13.cell? ⟨g11, 2, none⟩ = some (.int .i64 ((mAsk x0.dat a1).s).f1) := KX11.at_ rfl
          have xKX11_3 : w13.cell? ⟨g11, 3, none⟩ = some (.slice P10_0_2 (((mAsk x0.dat a1).p).length) pc10_0_2) := KX11.at_ rfl
          go_wp2_with fail
          refine Calls.mono (held_outcome ((mAsk x0.dat a1).c) ((mAsk x0.dat a1).s) P10_0_2 (((mAsk x0.dat a1).p).length) pc10_0_2 _ _ (1) _ (by omega) (by omega) FM17_2.rd) ?_
          rintro e w14 ⟨rfl, B24⟩
          replace R0 := (R0).new B24
          replace KB0 := (KB0).new B24
          replace KB1 := (KB1).new B24
          replace FP4_0_2 := (FP4_0_2).new B24
          replace KX5 := (KX5).new B24
          replace KX7 := (KX7).new B24
          replace KX11 := (KX11).new B24
          replace FM17_2 := (FM17_2).new B24
          replace FP21_0_2 := (FP21_0_2).new B24
          replace KX22 := (KX22).new B24
          replace G := below_trans G B24 (Nat.le_refl _)
          have S14 := Lib.hid (show w13.heap.size + 0 ≤ w14.heap.size by have := B24.size; first | (simpa using this) | ((try simp at this); omega))
          clear B24
          clear xKX11_0 xKX11_1 xKX11_2 xKX11_3
          go_wp2_with fail
          go_ret
          exact ⟨rfl, G⟩
  · skip
    have G : Below w.heap.size w ((w.alloc (.cells #[.int .i64 x0.p0, .slice x0.A1 x0.n1 x0.c1, .slice x0.A2 x0.n2 x0.c2, .slice x0.A3 x0.n3 x0.c3, .slice x0.A4 x0.n4 x0.c4, .slice x0.A5 x0.n5 x0.c5, .slice x0.A6 x0.n6 x0.c6, .int .i64 x0.p7] 29)).alloc (.cells #[.int .i64 a1.f0, .int .i64 a1.f1, .int .i64 a1.f2] 33)) := ((Below.refl _ _).alloc (by simp) _).alloc (by simp) _
    have S0 := Lib.hid (show ((w.alloc (.cells #[.int .i64 x0.p0, .slice x0.A1 x0.n1 x0.c1, .slice x0.A2 x0.n2 x0.c2, .slice x0.A3 x0.n3 x0.c3, .slice x0.A4 x0.n4 x0.c4, .slice x0.A5 x0.n5 x0.c5, .slice x0.A6 x0.n6 x0.c6, .int .i64 x0.p7] 29)).alloc (.cells #[.int .i64 a1.f0, .int .i64 a1.f1, .int .i64 a1.f2] 33)).heap.size = w.heap.size + 2 by simp)
    replace R0 := R0.alloc (.cells #[.int .i64 x0.p0, .slice x0.A1 x0.n1 x0.c1, .slice x0.A2 x0.n2 x0.c2, .slice x0.A3 x0.n3 x0.c3, .slice x0.A4 x0.n4 x0.c4, .slice x0.A5 x0.n5 x0.c5, .slice x0.A6 x0.n6 x0.c6, .int .i64 x0.p7] 29)
    have KB0 : BoxAt (w.alloc (.cells #[.int .i64 x0.p0, .slice x0.A1 x0.n1 x0.c1, .slice x0.A2 x0.n2 x0.c2, .slice x0.A3 x0.n3 x0.c3, .slice x0.A4 x0.n4 x0.c4, .slice x0.A5 x0.n5 x0.c5, .slice x0.A6 x0.n6 x0.c6, .int .i64 x0.p7] 29)) (w.heap.size) 29 #[.int .i64 x0.p0, .slice x0.A1 x0.n1 x0.c1, .slice x0.A2 x0.n2 x0.c2, .slice x0.A3 x0.n3 x0.c3, .slice x0.A4 x0.n4 x0.c4, .slice x0.A5 x0.n5 x0.c5, .slice x0.A6 x0.n6 x0.c6, .int .i64 x0.p7] := box_new _ _ _
    replace R0 := R0.alloc (.cells #[.int .i64 a1.f0, .int .i64 a1.f1, .int .i64 a1.f2] 33)
    replace KB0 := KB0.alloc_ (.cells #[.int .i64 a1.f0, .int .i64 a1.f1, .int .i64 a1.f2] 33)
    have KB1 : BoxAt ((w.alloc (.cells #[.int .i64 x0.p0, .slice x0.A1 x0.n1 x0.c1, .slice x0.A2 x0.n2 x0.c2, .slice x0.A3 x0.n3 x0.c3, .slice x0.A4 x0.n4 x0.c4, .slice x0.A5 x0.n5 x0.c5, .slice x0.A6 x0.n6 x0.c6, .int .i64 x0.p7] 29)).alloc (.cells #[.int .i64 a1.f0, .int .i64 a1.f1, .int .i64 a1.f2] 33)) (w.heap.size + 1) 33 #[.int .i64 a1.f0, .int .i64 a1.f1, .int .i64 a1.f2] := by simpa using box_new (w.alloc (.cells #[.int .i64 x0.p0, .slice x0.A1 x0.n1 x0.c1, .slice x0.A2 x0.n2 x0.c2, .slice x0.A3 x0.n3 x0.c3, .slice x0.A4 x0.n4 x0.c4, .slice x0.A5 x0.n5 x0.c5, .slice x0.A6 x0.n6 x0.c6, .int .i64 x0.p7] 29)) 33 #[.int .i64 a1.f0, .int .i64 a1.f1, .int .i64 a1.f2]
    go_enter Tryz.func3, Tryz.ntmps3
    have xKB0_0 : ((w.alloc (.cells #[.int .i64 x0.p0, .slice x0.A1 x0.n1 x0.c1, .slice x0.A2 x0.n2 x0.c2, .slice x0.A3 x0.n3 x0.c3, .slice x0.A4 x0.n4 x0.c4, .slice x0.A5 x0.n5 x0.c5, .slice x0.A6 x0.n6 x0.c6, .int .i64 x0.p7] 29)).alloc (.cells #[.int .i64 a1.f0, .int .i64 a1.f1, .int .i64 a1.f2] 33)).cell? ⟨w.heap.size, 0, none⟩ = some (.int .i64 x0.p0) := KB0.at_ rfl
    have xKB0_1 : ((w.alloc (.cells #[.int .i64 x0.p0, .slice x0.A1 x0.n1 x0.c1, .slice x0.A2 x0.n2 x0.c2, .slice x0.A3 x0.n3 x0.c3, .slice x0.A4 x0.n4 x0.c4, .slice x0.A5 x0.n5 x0.c5, .slice x0.A6 x0.n6 x0.c6, .int .i64 x0.p7] 29)).alloc (.cells #[.int .i64 a1.f0, .int .i64 a1.f1, .int .i64 a1.f2] 33)).cell? ⟨w.heap.size, 1, none⟩ = some (.slice x0.A1 x0.n1 x0.c1) := KB0.at_ rfl
    have xKB0_2 : ((w.alloc (.cells #[.int .i64 x0.p0, .slice x0.A1 x0.n1 x0.c1, .slice x0.A2 x0.n2 x0.c2, .slice x0.A3 x0.n3 x0.c3, .slice x0.A4 x0.n4 x0.c4, .slice x0.A5 x0.n5 x0.c5, .slice x0.A6 x0.n6 x0.c6, .int .i64 x0.p7] 29)).alloc (.cells #[.int .i64 a1.f0, .int .i64 a1.f1, .int .i64 a1.f2] 33)).cell? ⟨w.heap.size, 2, none⟩ = some (.slice x0.A2 x0.n2 x0.c2) := KB0.at_ rfl
    have xKB0_3 : ((w.alloc (.cells #[.int .i64 x0.p0, .slice x0.A1 x0.n1 x0.c1, .slice x0.A2 x0.n2 x0.c2, .slice x0.A3 x0.n3 x0.c3, .slice x0.A4 x0.n4 x0.c4, .slice x0.A5 x0.n5 x0.c5, .slice x0.A6 x0.n6 x0.c6, .int .i64 x0.p7] 29)).alloc (.cells #[.int .i64 a1.f0, .int .i64 a1.f1, .int .i64 a1.f2] 33)).cell? ⟨w.heap.size, 3, none⟩ = some (.slice x0.A3 x0.n3 x0.c3) := KB0.at_ rfl
    have xKB0_4 : ((w.alloc (.cells #[.int .i64 x0.p0, .slice x0.A1 x0.n1 x0.c1, .slice x0.A2 x0.n2 x0.c2, .slice x0.A3 x0.n3 x0.c3, .slice x0.A4 x0.n4 x0.c4, .slice x0.A5 x0.n5 x0.c5, .slice x0.A6 x0.n6 x0.c6, .int .i64 x0.p7] 29)).alloc (.cells #[.int .i64 a1.f0, .int .i64 a1.f1, .int .i64 a1.f2] 33)).cell? ⟨w.heap.size, 4, none⟩ = some (.slice x0.A4 x0.n4 x0.c4) := KB0.at_ rfl
    have xKB0_5 : ((w.alloc (.cells #[.int .i64 x0.p0, .slice x0.A1 x0.n1 x0.c1, .slice x0.A2 x0.n2 x0.c2, .slice x0.A3 x0.n3 x0.c3, .slice x0.A4 x0.n4 x0.c4, .slice x0.A5 x0.n5 x0.c5, .slice x0.A6 x0.n6 x0.c6, .int .i64 x0.p7] 29)).alloc (.cells #[.int .i64 a1.f0, .int .i64 a1.f1, .int .i64 a1.f2] 33)).cell? ⟨w.heap.size, 5, none⟩ = some (.slice x0.A5 x0.n5 x0.c5) := KB0.at_ rfl
    have xKB0_6 : ((w.alloc (.cells #[.int .i64 x0.p0, .slice x0.A1 x0.n1 x0.c1, .slice x0.A2 x0.n2 x0.c2, .slice x0.A3 x0.n3 x0.c3, .slice x0.A4 x0.n4 x0.c4, .slice x0.A5 x0.n5 x0.c5, .slice x0.A6 x0.n6 x0.c6, .int .i64 x0.p7] 29)).alloc (.cells #[.int .i64 a1.f0, .int .i64 a1.f1, .int .i64 a1.f2] 33)).cell? ⟨w.heap.size, 6, none⟩ = some (.slice x0.A6 x0.n6 x0.c6) := KB0.at_ rfl
    have xKB0_7 : ((w.alloc (.cells #[.int .i64 x0.p0, .slice x0.A1 x0.n1 x0.c1, .slice x0.A2 x0.n2 x0.c2, .slice x0.A3 x0.n3 x0.c3, .slice x0.A4 x0.n4 x0.c4, .slice x0.A5 x0.n5 x0.c5, .slice x0.A6 x0.n6 x0.c6, .int .i64 x0.p7] 29)).alloc (.cells #[.int .i64 a1.f0, .int .i64 a1.f1, .int .i64 a1.f2] 33)).cell? ⟨w.heap.size, 7, none⟩ = some (.int .i64 x0.p7) := KB0.at_ rfl
    go_wp2_with fail
    refine Calls.mono (szno_browser x0 _ _ (1048576) _ R0 (by omega) (by omega) (by omega)) ?_
    rintro e w1 ⟨rfl, B25⟩
    clear xKB0_0 xKB0_1 xKB0_2 xKB0_3 xKB0_4 xKB0_5 xKB0_6 xKB0_7
    go_wp2_with fail
    go_ret
    exact ⟨rfl, below_trans G B25 (Nat.le_refl _)⟩

set_option maxRecDepth 100000 in
theorem lifted (os : Os) (started : os.Started) (H : Type) (enc : TypeId × Value → H) :
    ReturnsInHanded {} Tryz.checked os 3 .any (Rows.fnExactAskPageSpec.pre6 enc Tryz.prog Tryz.f3 Rows.fnExactAskPageRow.domain false) (Rows.fnExactAskPageSpec.post enc Tryz.prog Tryz.f3 false true false false) := by
  refine law_lifted Tryz.func3 (by kernel_rfl) rfl rfl (by kernel_rfl) os started
    (ChangeSpec.witness6 (enc := enc) (C := Tryz.checked) false ⟨#[], #[.agg #[.int .i64 0, .slice none 0 0, .slice none 0 0, .slice none 0 0, .slice none 0 0, .slice none 0 0, .slice none 0 0, .int .i64 0], .agg #[.int .i64 0, .int .i64 0, .int .i64 0]], []⟩ 8 (by kernel_rfl) (by kernel_rfl) (by kernel_rfl) (by kernel_rfl)) ?_
  intro W base args ds p hval hA hlt
  rw [Tryz.params3] at hA hval
  obtain ⟨v0, vs0, d0, ds0, p0, q0, hargs, rfl, rfl, h0, r0⟩ := trodAll_cons hA
  obtain ⟨v1, vs1, d1, ds1, p1, q1, rfl, rfl, rfl, h1, r1⟩ := trodAll_cons r0
  obtain ⟨rfl, rfl, rfl⟩ := trodAll_nil r1
  obtain rfl : args = #[v0, v1] := by cases args; simp_all
  obtain ⟨x0, rfl, R0, H0⟩ := open_browser (hval 0 29 v0 rfl rfl) h0 (fun x hx => hlt x (by simp [hx]))
  obtain ⟨a1, rfl, H1⟩ := open_request (hval 1 33 v1 rfl rfl) h1
  exact ⟨⟨rfl, rfl, rfl⟩, walk x0 a1 W R0 H0 H1⟩

set_option maxRecDepth 100000 in
set_option maxHeartbeats 8000000 in
theorem closed : joinedFacts Tryz.pinned.checked.prog 3 Tryz.f3 Rows.fnExactAskPageSpec Rows.fnExactAskPageRow = true :=
  (and_i (and_i (and_i (and_i (and_i (and_i (and_i (and_i (and_i (and_i (and_i (and_i (and_i (and_i (and_i (and_i (and_i (and_i (and_i (and_i (and_i (and_i (and_i (and_i (and_i (and_i (and_i (and_i (and_i (and_i (and_i (by as_aux_lemma => kernel_rfl) seatLaid) sf_maps) (by as_aux_lemma => kernel_rfl)) (by as_aux_lemma => kernel_rfl)) (by as_aux_lemma => kernel_rfl)) (by as_aux_lemma => kernel_rfl)) (by as_aux_lemma => kernel_rfl)) (by as_aux_lemma => kernel_rfl)) (by as_aux_lemma => kernel_rfl)) (by as_aux_lemma => kernel_rfl)) (by as_aux_lemma => kernel_rfl)) (by as_aux_lemma => kernel_rfl)) (by as_aux_lemma => kernel_rfl)) (by as_aux_lemma => kernel_rfl)) (by as_aux_lemma => kernel_rfl)) (by as_aux_lemma => kernel_rfl)) (by as_aux_lemma => kernel_rfl)) (by as_aux_lemma => kernel_rfl)) (by as_aux_lemma => kernel_rfl)) (by as_aux_lemma => kernel_rfl)) (by as_aux_lemma => kernel_rfl)) sf_plain) (by as_aux_lemma => kernel_rfl)) sf_heard) sf_enter) sf_lifts) sf_make) (by as_aux_lemma => kernel_rfl)) (by as_aux_lemma => kernel_rfl)) (by as_aux_lemma => kernel_rfl)) (by as_aux_lemma => kernel_rfl))

theorem over : Rows.fnExactAskPageRow.holds Tryz.pinned (OpenSpec.ofChange Rows.fnExactAskPageSpec) :=
  OpenClaim.holds_of_wide 3 Tryz.f3 rfl rfl rfl rfl rfl rfl rfl ⟨rfl, rfl, rfl, rfl, rfl⟩ rfl rfl rfl rfl rfl (by kernel_rfl) Tryz.func3 closed
    (of_decide_eq_true (by kernel_rfl)) (by unfold Func.isWrapper; first | (rw [if_pos (by decide +kernel)]; kernel_rfl) | (rw [if_neg (by decide +kernel)]; exact ⟨rfl, rfl⟩))
    (fun os started H enc _ => lifted os started H enc)

theorem proved : Rows.FnExactAskPageSaid := over
#print axioms proved
end Go.Proofs.YtafekceggpbnlaaGreat.fnExactAskPage
