/- IsPackage of the model. -/
import Derived.Test.YtmelfgimhilhbaaGreatDoorIsPackI
import Derived.Deep.LoopGhost
import Derived.Deep.RegionHeld3
import Derived.Handy
namespace Go.Proofs.YtmelfgimhilhbaaGreatDoor
open Go Go.ChangeShapes Go.WideShapes Go.ChangeAt Go.RowKit Go.Lib
set_option linter.unusedVariables false
set_option linter.unusedSimpArgs false
set_option maxRecDepth 100000
set_option maxHeartbeats 32000000 in
theorem spec_IsPackage (p0_0 : Int) (p0_1 : Int) (p0_2 : Int) (l0_3 : List TGrant) (A0_3 : Option Addr) (n0_3 c0_3 lo0_3 hi0_3 : Nat) (l0_4 : List TFlow) (A0_4 : Option Addr) (n0_4 c0_4 lo0_4 hi0_4 : Nat) (l0_5 : List TRule) (A0_5 : Option Addr) (n0_5 c0_5 lo0_5 hi0_5 : Nat) (l0_6 : List TOp) (A0_6 : Option Addr) (n0_6 c0_6 lo0_6 hi0_6 : Nat) (p0_7 : Int) (w : World) (h0_3 : n0_3 ≤ 1048576) (r0_3 : Rd w lo0_3 hi0_3 7 A0_3 n0_3 (cGrant l0_3)) (k0_3 : n0_3 ≤ c0_3) (b0_3 : Hid (cGrantOk l0_3)) (h0_4 : n0_4 ≤ 1048576) (r0_4 : Rd w lo0_4 hi0_4 3 A0_4 n0_4 (cFlow l0_4)) (k0_4 : n0_4 ≤ c0_4) (b0_4 : Hid (cFlowOk l0_4)) (h0_5 : n0_5 ≤ 1048576) (r0_5 : Rd w lo0_5 hi0_5 8 A0_5 n0_5 (cRule l0_5)) (k0_5 : n0_5 ≤ c0_5) (b0_5 : Hid (cRuleOk l0_5)) (h0_6 : n0_6 ≤ 1048576) (r0_6 : Rd w lo0_6 hi0_6 4 A0_6 n0_6 (cOp l0_6)) (k0_6 : n0_6 ≤ c0_6) (b0_6 : Hid (cOpOk l0_6)) :
    Calls Tryz.prog 26 #[.agg #[.int .i64 p0_0, .int .i64 p0_1, .int .i64 p0_2, .slice A0_3 n0_3 c0_3, .slice A0_4 n0_4 c0_4, .slice A0_5 n0_5 c0_5, .slice A0_6 n0_6 c0_6, .int .i64 p0_7]] w (Says (.bool (mIsPack p0_0 p0_1 p0_2 l0_3 l0_4 l0_5 l0_6)) w) := by
  have R0_3 := Lib.hid r0_3
  clear r0_3
  have R0_4 := Lib.hid r0_4
  clear r0_4
  have R0_5 := Lib.hid r0_5
  clear r0_5
  have R0_6 := Lib.hid r0_6
  clear r0_6
  have KB0 := Lib.hid (show BoxAt (w.alloc (.cells #[.int .i64 p0_0, .int .i64 p0_1, .int .i64 p0_2, .slice A0_3 n0_3 c0_3, .slice A0_4 n0_4 c0_4, .slice A0_5 n0_5 c0_5, .slice A0_6 n0_6 c0_6, .int .i64 p0_7] 39)) w.heap.size 39 #[.int .i64 p0_0, .int .i64 p0_1, .int .i64 p0_2, .slice A0_3 n0_3 c0_3, .slice A0_4 n0_4 c0_4, .slice A0_5 n0_5 c0_5, .slice A0_6 n0_6 c0_6, .int .i64 p0_7] from (box_new _ _ _ : BoxAt (w.alloc (.cells #[.int .i64 p0_0, .int .i64 p0_1, .int .i64 p0_2, .slice A0_3 n0_3 c0_3, .slice A0_4 n0_4 c0_4, .slice A0_5 n0_5 c0_5, .slice A0_6 n0_6 c0_6, .int .i64 p0_7] 39)) w.heap.size 39 #[.int .i64 p0_0, .int .i64 p0_1, .int .i64 p0_2, .slice A0_3 n0_3 c0_3, .slice A0_4 n0_4 c0_4, .slice A0_5 n0_5 c0_5, .slice A0_6 n0_6 c0_6, .int .i64 p0_7]))
  have HB := Lib.hid (show Below w.heap.size w (w.alloc (.cells #[.int .i64 p0_0, .int .i64 p0_1, .int .i64 p0_2, .slice A0_3 n0_3 c0_3, .slice A0_4 n0_4 c0_4, .slice A0_5 n0_5 c0_5, .slice A0_6 n0_6 c0_6, .int .i64 p0_7] 39)) from (Below.refl _ _).alloc (by first | exact Nat.le_refl _ | (simp; done) | (simp; omega)) _)
  have HL0_3 := Lib.hid (rd_len TGrant.len R0_3.out (by decide))
  have HL0_4 := Lib.hid (rd_len TFlow.len R0_4.out (by decide))
  have HL0_5 := Lib.hid (rd_len TRule.len R0_5.out (by decide))
  go_enter Tryz.func26, Tryz.ntmps26
  cases q0 : inR p0_0 1 5 with
  | true =>
    have Q0 := Lib.hid q0
    clear q0
    have eb0 := KB0.out.at_ (j := 0) rfl
    have eb1 := KB0.out.at_ (j := 1) rfl
    have eb2 := KB0.out.at_ (j := 2) rfl
    have eb3 := KB0.out.at_ (j := 3) rfl
    have eb4 := KB0.out.at_ (j := 4) rfl
    have eb5 := KB0.out.at_ (j := 5) rfl
    have eb6 := KB0.out.at_ (j := 6) rfl
    have eb7 := KB0.out.at_ (j := 7) rfl
    go_wp2_with fail
    clear eb0 eb1 eb2 eb3 eb4 eb5 eb6 eb7
    refine Calls.mono (spec_in _ _ _ _) ?_
    rw [Q0.out]
    rintro e v0 ⟨rfl, rfl⟩
    cases q1 : inR p0_1 1 9 with
    | true =>
      have Q1 := Lib.hid q1
      clear q1
      have eb0 := KB0.out.at_ (j := 0) rfl
      have eb1 := KB0.out.at_ (j := 1) rfl
      have eb2 := KB0.out.at_ (j := 2) rfl
      have eb3 := KB0.out.at_ (j := 3) rfl
      have eb4 := KB0.out.at_ (j := 4) rfl
      have eb5 := KB0.out.at_ (j := 5) rfl
      have eb6 := KB0.out.at_ (j := 6) rfl
      have eb7 := KB0.out.at_ (j := 7) rfl
      go_wp2_with fail
      clear eb0 eb1 eb2 eb3 eb4 eb5 eb6 eb7
      refine Calls.mono (spec_in _ _ _ _) ?_
      rw [Q1.out]
      rintro e v1 ⟨rfl, rfl⟩
      cases q2 : inR p0_2 1 999 with
      | true =>
        have Q2 := Lib.hid q2
        clear q2
        have eb0 := KB0.out.at_ (j := 0) rfl
        have eb1 := KB0.out.at_ (j := 1) rfl
        have eb2 := KB0.out.at_ (j := 2) rfl
        have eb3 := KB0.out.at_ (j := 3) rfl
        have eb4 := KB0.out.at_ (j := 4) rfl
        have eb5 := KB0.out.at_ (j := 5) rfl
        have eb6 := KB0.out.at_ (j := 6) rfl
        have eb7 := KB0.out.at_ (j := 7) rfl
        go_wp2_with fail
        clear eb0 eb1 eb2 eb3 eb4 eb5 eb6 eb7
        refine Calls.mono (spec_in _ _ _ _) ?_
        rw [Q2.out]
        rintro e v2 ⟨rfl, rfl⟩
        cases q3 : decide (l0_3.length ≤ 6) with
        | true =>
          have Q3 := Lib.hid q3
          clear q3
          have g3 : decide ((6 : Int) < (n0_3 : Int)) = false := by
            have h1 := Q3.out
            rw [HL0_3.out] at h1
            simp at h1 ⊢
            omega
          cases q4 : decide (l0_4.length ≤ 6) with
          | true =>
            have Q4 := Lib.hid q4
            clear q4
            have g4 : decide ((6 : Int) < (n0_4 : Int)) = false := by
              have h1 := Q4.out
              rw [HL0_4.out] at h1
              simp at h1 ⊢
              omega
            cases q5 : decide (l0_5.length ≤ 6) with
            | true =>
              have Q5 := Lib.hid q5
              clear q5
              have g5 : decide ((6 : Int) < (n0_5 : Int)) = false := by
                have h1 := Q5.out
                rw [HL0_5.out] at h1
                simp at h1 ⊢
                omega
              cases q6 : mAreOps l0_6 with
              | true =>
                have Q6 := Lib.hid q6
                clear q6
                have eb0 := KB0.out.at_ (j := 0) rfl
                have eb1 := KB0.out.at_ (j := 1) rfl
                have eb2 := KB0.out.at_ (j := 2) rfl
                have eb3 := KB0.out.at_ (j := 3) rfl
                have eb4 := KB0.out.at_ (j := 4) rfl
                have eb5 := KB0.out.at_ (j := 5) rfl
                have eb6 := KB0.out.at_ (j := 6) rfl
                have eb7 := KB0.out.at_ (j := 7) rfl
                go_wp2_with fail
                clear eb0 eb1 eb2 eb3 eb4 eb5 eb6 eb7
                refine Calls.mono (spec_AreOps l0_6 A0_6 n0_6 c0_6 lo0_6 hi0_6 _ h0_6 (R0_6.out.new HB.out) k0_6 b0_6) ?_
                rw [Q6.out]
                rintro e v6 ⟨rfl, hb⟩
                replace KB0 := Lib.hid (KB0.out.new hb)
                replace HB := Lib.hid (below_trans HB.out hb (Nat.le_refl _))
                clear hb
                have eb0 := KB0.out.at_ (j := 0) rfl
                have eb1 := KB0.out.at_ (j := 1) rfl
                have eb2 := KB0.out.at_ (j := 2) rfl
                have eb3 := KB0.out.at_ (j := 3) rfl
                have eb4 := KB0.out.at_ (j := 4) rfl
                have eb5 := KB0.out.at_ (j := 5) rfl
                have eb6 := KB0.out.at_ (j := 6) rfl
                have eb7 := KB0.out.at_ (j := 7) rfl
                go_wp2_with fail
                clear eb0 eb1 eb2 eb3 eb4 eb5 eb6 eb7
                go_loopg [3] n0_3 (fun gg i wr => ∃ k : Nat, k ≤ n0_3 ∧ n0_3 - k ≤ gg ∧ i = .int .i64 k ∧ Hid ((l0_3.take k).all (pPkG p0_0) = true) ∧ Hid (BoxAt wr w.heap.size 39 #[.int .i64 p0_0, .int .i64 p0_1, .int .i64 p0_2, .slice A0_3 n0_3 c0_3, .slice A0_4 n0_4 c0_4, .slice A0_5 n0_5 c0_5, .slice A0_6 n0_6 c0_6, .int .i64 p0_7]) ∧ Hid (Below w.heap.size w wr))
                case atStart => exact ⟨0, Nat.zero_le _, by omega, rfl, Lib.hid (by simp), KB0, HB⟩
                case round =>
                  clear KB0 HB
                  obtain ⟨k, hk, hg, rfl, HA, KB0, HB⟩ := hrel
                  by_cases hlt : k < n0_3
                  · obtain ⟨b, off, x, rfl, _, _, hz, hc⟩ := rd_elem TGrant.len (R0_3.out.new HB.out) HL0_3.out hlt
                    have c0 : wr.cell? ⟨b, off + k * 7, none⟩ = _ := hc 0 _ rfl
                    have c1 := hc 1 _ rfl
                    have c2 := hc 2 _ rfl
                    have c3 := hc 3 _ rfl
                    have c4 := hc 4 _ rfl
                    have c5 := hc 5 _ rfl
                    have c6 := hc 6 _ rfl
                    have C0 := fun W => spec_IsGrant x W
                    have HX := Lib.hid (show pPkG p0_0 x = (mIsGrant x && x.f0 == p0_0) from rfl)
                    have HAt := Lib.hid (fun (h : pPkG p0_0 x = true) => show ((l0_3.take (k + 1)).all (pPkG p0_0) = true) by rw [List.take_add_one, hz, List.all_append, HA.out]; simp [h])
                    have HAf := Lib.hid (fun (h : pPkG p0_0 x = false) => show (l0_3.all (pPkG p0_0) = false) by rw [List.all_eq_false]; exact ⟨x, List.mem_of_getElem? hz, by rw [h]; simp⟩)
                    clear hz hc
                    generalize mIsGrant x = r at C0 HX
                    replace C0 := Lib.hid C0
                    have eb0 := KB0.out.at_ (j := 0) rfl
                    have eb1 := KB0.out.at_ (j := 1) rfl
                    have eb2 := KB0.out.at_ (j := 2) rfl
                    have eb3 := KB0.out.at_ (j := 3) rfl
                    have eb4 := KB0.out.at_ (j := 4) rfl
                    have eb5 := KB0.out.at_ (j := 5) rfl
                    have eb6 := KB0.out.at_ (j := 6) rfl
                    have eb7 := KB0.out.at_ (j := 7) rfl
                    go_wp2_with fail
                    clear eb0 eb1 eb2 eb3 eb4 eb5 eb6 eb7
                    refine wp_region_held_drew (S := fun w' => BoxAt w' w.heap.size 39 #[.int .i64 p0_0, .int .i64 p0_1, .int .i64 p0_2, .slice (some ⟨b, off, none⟩) n0_3 c0_3, .slice A0_4 n0_4 c0_4, .slice A0_5 n0_5 c0_5, .slice A0_6 n0_6 c0_6, .int .i64 p0_7] ∧ Below wr.heap.size wr w') (by kernel_rfl) ?_ (fun hHeld => ?_)
                    · exact ⟨KB0.out.drw, (Below.refl _ _).drew⟩
                    refine wpAnyH_take (i := 0) (oi := ⟨some 53, _, _, _, _, _⟩) (v := ?_) rfl (by kernel_rfl) (by kernel_rfl) (by kernel_rfl) (fun _ _ _ h => h) (Or.inl ⟨by kernel_rfl, ?_⟩) hHeld ?_
                    rotate_left
                    focus (intro W hS; have c0_0 := (hS.1).at_ (j := 0) rfl; have c0_1 := (hS.1).at_ (j := 1) rfl; have c0_2 := (hS.1).at_ (j := 2) rfl; have c0_3 := (hS.1).at_ (j := 3) rfl; have c0_4 := (hS.1).at_ (j := 4) rfl; have c0_5 := (hS.1).at_ (j := 5) rfl; have c0_6 := (hS.1).at_ (j := 6) rfl; have c0_7 := (hS.1).at_ (j := 7) rfl; have c0' := cell_nw hS.2 c0; have c1' := cell_nw hS.2 c1; have c2' := cell_nw hS.2 c2; have c3' := cell_nw hS.2 c3; have c4' := cell_nw hS.2 c4; have c5' := cell_nw hS.2 c5; have c6' := cell_nw hS.2 c6; clear hS; first | (go_simp; done) | (go_simp; with_reducible rfl))
                    try simp only [Act.put, List.setIfInBounds_toArray, List.set_cons_zero, List.set_cons_succ]
                    refine wpAnyH_take (i := 1) (oi := ⟨some 54, _, _, _, _, _⟩) (v := ?_) rfl (by kernel_rfl) (by kernel_rfl) (by kernel_rfl) (fun _ _ _ h => h) (Or.inl ⟨by kernel_rfl, ?_⟩) hHeld ?_
                    rotate_left
                    focus (intro W hS; have c0_0 := (hS.1).at_ (j := 0) rfl; have c0_1 := (hS.1).at_ (j := 1) rfl; have c0_2 := (hS.1).at_ (j := 2) rfl; have c0_3 := (hS.1).at_ (j := 3) rfl; have c0_4 := (hS.1).at_ (j := 4) rfl; have c0_5 := (hS.1).at_ (j := 5) rfl; have c0_6 := (hS.1).at_ (j := 6) rfl; have c0_7 := (hS.1).at_ (j := 7) rfl; have c0' := cell_nw hS.2 c0; have c1' := cell_nw hS.2 c1; have c2' := cell_nw hS.2 c2; have c3' := cell_nw hS.2 c3; have c4' := cell_nw hS.2 c4; have c5' := cell_nw hS.2 c5; have c6' := cell_nw hS.2 c6; clear hS; first | (go_simp; done) | (go_simp; with_reducible rfl))
                    try simp only [Act.put, List.setIfInBounds_toArray, List.set_cons_zero, List.set_cons_succ]
                    refine wpAnyH_take (i := 2) (oi := ⟨some 55, _, _, _, _, _⟩) (v := ?_) rfl (by kernel_rfl) (by kernel_rfl) (by kernel_rfl) (fun _ _ _ h => h) (Or.inl ⟨by kernel_rfl, ?_⟩) hHeld ?_
                    rotate_left
                    focus (intro W hS; have c0_0 := (hS.1).at_ (j := 0) rfl; have c0_1 := (hS.1).at_ (j := 1) rfl; have c0_2 := (hS.1).at_ (j := 2) rfl; have c0_3 := (hS.1).at_ (j := 3) rfl; have c0_4 := (hS.1).at_ (j := 4) rfl; have c0_5 := (hS.1).at_ (j := 5) rfl; have c0_6 := (hS.1).at_ (j := 6) rfl; have c0_7 := (hS.1).at_ (j := 7) rfl; have c0' := cell_nw hS.2 c0; have c1' := cell_nw hS.2 c1; have c2' := cell_nw hS.2 c2; have c3' := cell_nw hS.2 c3; have c4' := cell_nw hS.2 c4; have c5' := cell_nw hS.2 c5; have c6' := cell_nw hS.2 c6; clear hS; first | (go_simp; done) | (go_simp; with_reducible rfl))
                    try simp only [Act.put, List.setIfInBounds_toArray, List.set_cons_zero, List.set_cons_succ]
                    refine wpAnyH_take (i := 3) (oi := ⟨some 56, _, _, _, _, _⟩) (v := ?_) rfl (by kernel_rfl) (by kernel_rfl) (by kernel_rfl) (fun _ _ _ h => h) (Or.inl ⟨by kernel_rfl, ?_⟩) hHeld ?_
                    rotate_left
                    focus (intro W hS; have c0_0 := (hS.1).at_ (j := 0) rfl; have c0_1 := (hS.1).at_ (j := 1) rfl; have c0_2 := (hS.1).at_ (j := 2) rfl; have c0_3 := (hS.1).at_ (j := 3) rfl; have c0_4 := (hS.1).at_ (j := 4) rfl; have c0_5 := (hS.1).at_ (j := 5) rfl; have c0_6 := (hS.1).at_ (j := 6) rfl; have c0_7 := (hS.1).at_ (j := 7) rfl; have c0' := cell_nw hS.2 c0; have c1' := cell_nw hS.2 c1; have c2' := cell_nw hS.2 c2; have c3' := cell_nw hS.2 c3; have c4' := cell_nw hS.2 c4; have c5' := cell_nw hS.2 c5; have c6' := cell_nw hS.2 c6; clear hS; first | (go_simp; done) | (go_simp; with_reducible rfl))
                    try simp only [Act.put, List.setIfInBounds_toArray, List.set_cons_zero, List.set_cons_succ]
                    refine wpAnyH_take (i := 4) (oi := ⟨some 57, _, _, _, _, _⟩) (v := ?_) rfl (by kernel_rfl) (by kernel_rfl) (by kernel_rfl) (fun _ _ _ h => h) (Or.inl ⟨by kernel_rfl, ?_⟩) hHeld ?_
                    rotate_left
                    focus (intro W hS; have c0_0 := (hS.1).at_ (j := 0) rfl; have c0_1 := (hS.1).at_ (j := 1) rfl; have c0_2 := (hS.1).at_ (j := 2) rfl; have c0_3 := (hS.1).at_ (j := 3) rfl; have c0_4 := (hS.1).at_ (j := 4) rfl; have c0_5 := (hS.1).at_ (j := 5) rfl; have c0_6 := (hS.1).at_ (j := 6) rfl; have c0_7 := (hS.1).at_ (j := 7) rfl; have c0' := cell_nw hS.2 c0; have c1' := cell_nw hS.2 c1; have c2' := cell_nw hS.2 c2; have c3' := cell_nw hS.2 c3; have c4' := cell_nw hS.2 c4; have c5' := cell_nw hS.2 c5; have c6' := cell_nw hS.2 c6; clear hS; first | (go_simp; done) | (go_simp; with_reducible rfl))
                    try simp only [Act.put, List.setIfInBounds_toArray, List.set_cons_zero, List.set_cons_succ]
                    refine wpAnyH_ready (rs := [5]) (by kernel_rfl) (by simp) ?_
                    refine AllReadyH.cons (o := ⟨some 58, _, _, _, _, _⟩) rfl (fun K hK => ?_) AllReadyH.nil
                    go_simp
                    refine Calls.mono (C0.out _) ?_
                    rintro e x1 ⟨rfl, hb1⟩
                    refine hK.out _ _ ⟨hHeld.1.new hb1, below_trans hHeld.2 hb1 (Nat.le_refl _)⟩ (fun hHeld' => ?_)
                    clear hK K hHeld hb1
                    have hHeld := hHeld'
                    clear hHeld'
                    try simp only [Act.put, List.setIfInBounds_toArray, List.set_cons_zero, List.set_cons_succ]
                    cases r
                    · skip
                      refine wpAnyH_take (i := 6) (oi := ⟨some 59, _, _, _, _, _⟩) (v := ?_) rfl (by kernel_rfl) (by kernel_rfl) (by kernel_rfl) (fun _ _ _ h => h) (Or.inl ⟨by kernel_rfl, ?_⟩) hHeld ?_
                      rotate_left
                      focus (intro W hS; have c0_0 := (hS.1).at_ (j := 0) rfl; have c0_1 := (hS.1).at_ (j := 1) rfl; have c0_2 := (hS.1).at_ (j := 2) rfl; have c0_3 := (hS.1).at_ (j := 3) rfl; have c0_4 := (hS.1).at_ (j := 4) rfl; have c0_5 := (hS.1).at_ (j := 5) rfl; have c0_6 := (hS.1).at_ (j := 6) rfl; have c0_7 := (hS.1).at_ (j := 7) rfl; have c0' := cell_nw hS.2 c0; have c1' := cell_nw hS.2 c1; have c2' := cell_nw hS.2 c2; have c3' := cell_nw hS.2 c3; have c4' := cell_nw hS.2 c4; have c5' := cell_nw hS.2 c5; have c6' := cell_nw hS.2 c6; clear hS; first | (go_simp; done) | (go_simp; with_reducible rfl))
                      try simp only [Act.put, List.setIfInBounds_toArray, List.set_cons_zero, List.set_cons_succ]
                      refine wpAnyH_take (i := 7) (oi := ⟨some 60, _, _, _, _, _⟩) (v := ?_) rfl (by kernel_rfl) (by kernel_rfl) (by kernel_rfl) (fun _ _ _ h => h) (Or.inl ⟨by kernel_rfl, ?_⟩) hHeld ?_
                      rotate_left
                      focus (intro W hS; have c0_0 := (hS.1).at_ (j := 0) rfl; have c0_1 := (hS.1).at_ (j := 1) rfl; have c0_2 := (hS.1).at_ (j := 2) rfl; have c0_3 := (hS.1).at_ (j := 3) rfl; have c0_4 := (hS.1).at_ (j := 4) rfl; have c0_5 := (hS.1).at_ (j := 5) rfl; have c0_6 := (hS.1).at_ (j := 6) rfl; have c0_7 := (hS.1).at_ (j := 7) rfl; have c0' := cell_nw hS.2 c0; have c1' := cell_nw hS.2 c1; have c2' := cell_nw hS.2 c2; have c3' := cell_nw hS.2 c3; have c4' := cell_nw hS.2 c4; have c5' := cell_nw hS.2 c5; have c6' := cell_nw hS.2 c6; clear hS; first | (go_simp; done) | (go_simp; with_reducible rfl))
                      try simp only [Act.put, List.setIfInBounds_toArray, List.set_cons_zero, List.set_cons_succ]
                      refine wpAnyH_take (i := 8) (oi := ⟨some 61, _, _, _, _, _⟩) (v := undef) rfl (by kernel_rfl) (by kernel_rfl) (by kernel_rfl) (fun _ _ _ h => h) (Or.inr ⟨by kernel_rfl, rfl⟩) hHeld ?_
                      try simp only [Act.put, List.setIfInBounds_toArray, List.set_cons_zero, List.set_cons_succ]
                      refine wpAnyH_take (i := 9) (oi := ⟨some 62, _, _, _, _, _⟩) (v := undef) rfl (by kernel_rfl) (by kernel_rfl) (by kernel_rfl) (fun _ _ _ h => h) (Or.inr ⟨by kernel_rfl, rfl⟩) hHeld ?_
                      try simp only [Act.put, List.setIfInBounds_toArray, List.set_cons_zero, List.set_cons_succ]
                      refine wpAnyH_take (i := 10) (oi := ⟨some 63, _, _, _, _, _⟩) (v := undef) rfl (by kernel_rfl) (by kernel_rfl) (by kernel_rfl) (fun _ _ _ h => h) (Or.inr ⟨by kernel_rfl, rfl⟩) hHeld ?_
                      try simp only [Act.put, List.setIfInBounds_toArray, List.set_cons_zero, List.set_cons_succ]
                      refine wpAnyH_take (i := 11) (oi := ⟨some 64, _, _, _, _, _⟩) (v := undef) rfl (by kernel_rfl) (by kernel_rfl) (by kernel_rfl) (fun _ _ _ h => h) (Or.inr ⟨by kernel_rfl, rfl⟩) hHeld ?_
                      try simp only [Act.put, List.setIfInBounds_toArray, List.set_cons_zero, List.set_cons_succ]
                      refine wpAnyH_take (i := 12) (oi := ⟨some 65, _, _, _, _, _⟩) (v := undef) rfl (by kernel_rfl) (by kernel_rfl) (by kernel_rfl) (fun _ _ _ h => h) (Or.inr ⟨by kernel_rfl, rfl⟩) hHeld ?_
                      try simp only [Act.put, List.setIfInBounds_toArray, List.set_cons_zero, List.set_cons_succ]
                      refine wpAnyH_take (i := 13) (oi := ⟨some 66, _, _, _, _, _⟩) (v := undef) rfl (by kernel_rfl) (by kernel_rfl) (by kernel_rfl) (fun _ _ _ h => h) (Or.inr ⟨by kernel_rfl, rfl⟩) hHeld ?_
                      try simp only [Act.put, List.setIfInBounds_toArray, List.set_cons_zero, List.set_cons_succ]
                      refine wpAnyH_take (i := 14) (oi := ⟨some 67, _, _, _, _, _⟩) (v := undef) rfl (by kernel_rfl) (by kernel_rfl) (by kernel_rfl) (fun _ _ _ h => h) (Or.inr ⟨by kernel_rfl, rfl⟩) hHeld ?_
                      try simp only [Act.put, List.setIfInBounds_toArray, List.set_cons_zero, List.set_cons_succ]
                      refine wpAnyH_take (i := 15) (oi := ⟨some 68, _, _, _, _, _⟩) (v := undef) rfl (by kernel_rfl) (by kernel_rfl) (by kernel_rfl) (fun _ _ _ h => h) (Or.inr ⟨by kernel_rfl, rfl⟩) hHeld ?_
                      try simp only [Act.put, List.setIfInBounds_toArray, List.set_cons_zero, List.set_cons_succ]
                      refine wpAnyH_take (i := 16) (oi := ⟨some 69, _, _, _, _, _⟩) (v := undef) rfl (by kernel_rfl) (by kernel_rfl) (by kernel_rfl) (fun _ _ _ h => h) (Or.inr ⟨by kernel_rfl, rfl⟩) hHeld ?_
                      try simp only [Act.put, List.setIfInBounds_toArray, List.set_cons_zero, List.set_cons_succ]
                      refine wpAnyH_take (i := 17) (oi := ⟨some 70, _, _, _, _, _⟩) (v := ?_) rfl (by kernel_rfl) (by kernel_rfl) (by kernel_rfl) (fun _ _ _ h => h) (Or.inl ⟨by kernel_rfl, ?_⟩) hHeld ?_
                      rotate_left
                      focus (intro W hS; have c0_0 := (hS.1).at_ (j := 0) rfl; have c0_1 := (hS.1).at_ (j := 1) rfl; have c0_2 := (hS.1).at_ (j := 2) rfl; have c0_3 := (hS.1).at_ (j := 3) rfl; have c0_4 := (hS.1).at_ (j := 4) rfl; have c0_5 := (hS.1).at_ (j := 5) rfl; have c0_6 := (hS.1).at_ (j := 6) rfl; have c0_7 := (hS.1).at_ (j := 7) rfl; have c0' := cell_nw hS.2 c0; have c1' := cell_nw hS.2 c1; have c2' := cell_nw hS.2 c2; have c3' := cell_nw hS.2 c3; have c4' := cell_nw hS.2 c4; have c5' := cell_nw hS.2 c5; have c6' := cell_nw hS.2 c6; clear hS; first | (go_simp; done) | (go_simp; with_reducible rfl))
                      try simp only [Act.put, List.setIfInBounds_toArray, List.set_cons_zero, List.set_cons_succ]
                      refine wpAnyH_done (by kernel_rfl) ?_ _
                      have KB2 := Lib.hid hHeld.1
                      have HB2 := Lib.hid (below_trans HB.out hHeld.2 (Nat.le_refl _))
                      clear hHeld
                      have HE := Lib.hid (HAf.out (by rw [HX.out]; rfl))
                      go_wp2_with fail
                      go_ret
                      exact ⟨by rw [show mIsPack p0_0 p0_1 p0_2 l0_3 l0_4 l0_5 l0_6 = false by simp only [mIsPack, mPkG, mPkF, mPkR, HE.out, Bool.and_false, Bool.false_and, Bool.true_and]]; rfl, HB2.out⟩
                    · skip
                      refine wpAnyH_take (i := 6) (oi := ⟨some 59, _, _, _, _, _⟩) (v := ?_) rfl (by kernel_rfl) (by kernel_rfl) (by kernel_rfl) (fun _ _ _ h => h) (Or.inl ⟨by kernel_rfl, ?_⟩) hHeld ?_
                      rotate_left
                      focus (intro W hS; have c0_0 := (hS.1).at_ (j := 0) rfl; have c0_1 := (hS.1).at_ (j := 1) rfl; have c0_2 := (hS.1).at_ (j := 2) rfl; have c0_3 := (hS.1).at_ (j := 3) rfl; have c0_4 := (hS.1).at_ (j := 4) rfl; have c0_5 := (hS.1).at_ (j := 5) rfl; have c0_6 := (hS.1).at_ (j := 6) rfl; have c0_7 := (hS.1).at_ (j := 7) rfl; have c0' := cell_nw hS.2 c0; have c1' := cell_nw hS.2 c1; have c2' := cell_nw hS.2 c2; have c3' := cell_nw hS.2 c3; have c4' := cell_nw hS.2 c4; have c5' := cell_nw hS.2 c5; have c6' := cell_nw hS.2 c6; clear hS; first | (go_simp; done) | (go_simp; with_reducible rfl))
                      try simp only [Act.put, List.setIfInBounds_toArray, List.set_cons_zero, List.set_cons_succ]
                      refine wpAnyH_take (i := 7) (oi := ⟨some 60, _, _, _, _, _⟩) (v := ?_) rfl (by kernel_rfl) (by kernel_rfl) (by kernel_rfl) (fun _ _ _ h => h) (Or.inl ⟨by kernel_rfl, ?_⟩) hHeld ?_
                      rotate_left
                      focus (intro W hS; have c0_0 := (hS.1).at_ (j := 0) rfl; have c0_1 := (hS.1).at_ (j := 1) rfl; have c0_2 := (hS.1).at_ (j := 2) rfl; have c0_3 := (hS.1).at_ (j := 3) rfl; have c0_4 := (hS.1).at_ (j := 4) rfl; have c0_5 := (hS.1).at_ (j := 5) rfl; have c0_6 := (hS.1).at_ (j := 6) rfl; have c0_7 := (hS.1).at_ (j := 7) rfl; have c0' := cell_nw hS.2 c0; have c1' := cell_nw hS.2 c1; have c2' := cell_nw hS.2 c2; have c3' := cell_nw hS.2 c3; have c4' := cell_nw hS.2 c4; have c5' := cell_nw hS.2 c5; have c6' := cell_nw hS.2 c6; clear hS; first | (go_simp; done) | (go_simp; with_reducible rfl))
                      try simp only [Act.put, List.setIfInBounds_toArray, List.set_cons_zero, List.set_cons_succ]
                      refine wpAnyH_take (i := 8) (oi := ⟨some 61, _, _, _, _, _⟩) (v := ?_) rfl (by kernel_rfl) (by kernel_rfl) (by kernel_rfl) (fun _ _ _ h => h) (Or.inl ⟨by kernel_rfl, ?_⟩) hHeld ?_
                      rotate_left
                      focus (intro W hS; have c0_0 := (hS.1).at_ (j := 0) rfl; have c0_1 := (hS.1).at_ (j := 1) rfl; have c0_2 := (hS.1).at_ (j := 2) rfl; have c0_3 := (hS.1).at_ (j := 3) rfl; have c0_4 := (hS.1).at_ (j := 4) rfl; have c0_5 := (hS.1).at_ (j := 5) rfl; have c0_6 := (hS.1).at_ (j := 6) rfl; have c0_7 := (hS.1).at_ (j := 7) rfl; have c0' := cell_nw hS.2 c0; have c1' := cell_nw hS.2 c1; have c2' := cell_nw hS.2 c2; have c3' := cell_nw hS.2 c3; have c4' := cell_nw hS.2 c4; have c5' := cell_nw hS.2 c5; have c6' := cell_nw hS.2 c6; clear hS; first | (go_simp; done) | (go_simp; with_reducible rfl))
                      try simp only [Act.put, List.setIfInBounds_toArray, List.set_cons_zero, List.set_cons_succ]
                      refine wpAnyH_take (i := 9) (oi := ⟨some 62, _, _, _, _, _⟩) (v := ?_) rfl (by kernel_rfl) (by kernel_rfl) (by kernel_rfl) (fun _ _ _ h => h) (Or.inl ⟨by kernel_rfl, ?_⟩) hHeld ?_
                      rotate_left
                      focus (intro W hS; have c0_0 := (hS.1).at_ (j := 0) rfl; have c0_1 := (hS.1).at_ (j := 1) rfl; have c0_2 := (hS.1).at_ (j := 2) rfl; have c0_3 := (hS.1).at_ (j := 3) rfl; have c0_4 := (hS.1).at_ (j := 4) rfl; have c0_5 := (hS.1).at_ (j := 5) rfl; have c0_6 := (hS.1).at_ (j := 6) rfl; have c0_7 := (hS.1).at_ (j := 7) rfl; have c0' := cell_nw hS.2 c0; have c1' := cell_nw hS.2 c1; have c2' := cell_nw hS.2 c2; have c3' := cell_nw hS.2 c3; have c4' := cell_nw hS.2 c4; have c5' := cell_nw hS.2 c5; have c6' := cell_nw hS.2 c6; clear hS; first | (go_simp; done) | (go_simp; with_reducible rfl))
                      try simp only [Act.put, List.setIfInBounds_toArray, List.set_cons_zero, List.set_cons_succ]
                      refine wpAnyH_take (i := 10) (oi := ⟨some 63, _, _, _, _, _⟩) (v := ?_) rfl (by kernel_rfl) (by kernel_rfl) (by kernel_rfl) (fun _ _ _ h => h) (Or.inl ⟨by kernel_rfl, ?_⟩) hHeld ?_
                      rotate_left
                      focus (intro W hS; have c0_0 := (hS.1).at_ (j := 0) rfl; have c0_1 := (hS.1).at_ (j := 1) rfl; have c0_2 := (hS.1).at_ (j := 2) rfl; have c0_3 := (hS.1).at_ (j := 3) rfl; have c0_4 := (hS.1).at_ (j := 4) rfl; have c0_5 := (hS.1).at_ (j := 5) rfl; have c0_6 := (hS.1).at_ (j := 6) rfl; have c0_7 := (hS.1).at_ (j := 7) rfl; have c0' := cell_nw hS.2 c0; have c1' := cell_nw hS.2 c1; have c2' := cell_nw hS.2 c2; have c3' := cell_nw hS.2 c3; have c4' := cell_nw hS.2 c4; have c5' := cell_nw hS.2 c5; have c6' := cell_nw hS.2 c6; clear hS; first | (go_simp; done) | (go_simp; with_reducible rfl))
                      try simp only [Act.put, List.setIfInBounds_toArray, List.set_cons_zero, List.set_cons_succ]
                      refine wpAnyH_take (i := 11) (oi := ⟨some 64, _, _, _, _, _⟩) (v := ?_) rfl (by kernel_rfl) (by kernel_rfl) (by kernel_rfl) (fun _ _ _ h => h) (Or.inl ⟨by kernel_rfl, ?_⟩) hHeld ?_
                      rotate_left
                      focus (intro W hS; have c0_0 := (hS.1).at_ (j := 0) rfl; have c0_1 := (hS.1).at_ (j := 1) rfl; have c0_2 := (hS.1).at_ (j := 2) rfl; have c0_3 := (hS.1).at_ (j := 3) rfl; have c0_4 := (hS.1).at_ (j := 4) rfl; have c0_5 := (hS.1).at_ (j := 5) rfl; have c0_6 := (hS.1).at_ (j := 6) rfl; have c0_7 := (hS.1).at_ (j := 7) rfl; have c0' := cell_nw hS.2 c0; have c1' := cell_nw hS.2 c1; have c2' := cell_nw hS.2 c2; have c3' := cell_nw hS.2 c3; have c4' := cell_nw hS.2 c4; have c5' := cell_nw hS.2 c5; have c6' := cell_nw hS.2 c6; clear hS; first | (go_simp; done) | (go_simp; with_reducible rfl))
                      try simp only [Act.put, List.setIfInBounds_toArray, List.set_cons_zero, List.set_cons_succ]
                      refine wpAnyH_take (i := 12) (oi := ⟨some 65, _, _, _, _, _⟩) (v := ?_) rfl (by kernel_rfl) (by kernel_rfl) (by kernel_rfl) (fun _ _ _ h => h) (Or.inl ⟨by kernel_rfl, ?_⟩) hHeld ?_
                      rotate_left
                      focus (intro W hS; have c0_0 := (hS.1).at_ (j := 0) rfl; have c0_1 := (hS.1).at_ (j := 1) rfl; have c0_2 := (hS.1).at_ (j := 2) rfl; have c0_3 := (hS.1).at_ (j := 3) rfl; have c0_4 := (hS.1).at_ (j := 4) rfl; have c0_5 := (hS.1).at_ (j := 5) rfl; have c0_6 := (hS.1).at_ (j := 6) rfl; have c0_7 := (hS.1).at_ (j := 7) rfl; have c0' := cell_nw hS.2 c0; have c1' := cell_nw hS.2 c1; have c2' := cell_nw hS.2 c2; have c3' := cell_nw hS.2 c3; have c4' := cell_nw hS.2 c4; have c5' := cell_nw hS.2 c5; have c6' := cell_nw hS.2 c6; clear hS; first | (go_simp; done) | (go_simp; with_reducible rfl))
                      try simp only [Act.put, List.setIfInBounds_toArray, List.set_cons_zero, List.set_cons_succ]
                      refine wpAnyH_take (i := 13) (oi := ⟨some 66, _, _, _, _, _⟩) (v := ?_) rfl (by kernel_rfl) (by kernel_rfl) (by kernel_rfl) (fun _ _ _ h => h) (Or.inl ⟨by kernel_rfl, ?_⟩) hHeld ?_
                      rotate_left
                      focus (intro W hS; have c0_0 := (hS.1).at_ (j := 0) rfl; have c0_1 := (hS.1).at_ (j := 1) rfl; have c0_2 := (hS.1).at_ (j := 2) rfl; have c0_3 := (hS.1).at_ (j := 3) rfl; have c0_4 := (hS.1).at_ (j := 4) rfl; have c0_5 := (hS.1).at_ (j := 5) rfl; have c0_6 := (hS.1).at_ (j := 6) rfl; have c0_7 := (hS.1).at_ (j := 7) rfl; have c0' := cell_nw hS.2 c0; have c1' := cell_nw hS.2 c1; have c2' := cell_nw hS.2 c2; have c3' := cell_nw hS.2 c3; have c4' := cell_nw hS.2 c4; have c5' := cell_nw hS.2 c5; have c6' := cell_nw hS.2 c6; clear hS; first | (go_simp; done) | (go_simp; with_reducible rfl))
                      try simp only [Act.put, List.setIfInBounds_toArray, List.set_cons_zero, List.set_cons_succ]
                      refine wpAnyH_take (i := 14) (oi := ⟨some 67, _, _, _, _, _⟩) (v := ?_) rfl (by kernel_rfl) (by kernel_rfl) (by kernel_rfl) (fun _ _ _ h => h) (Or.inl ⟨by kernel_rfl, ?_⟩) hHeld ?_
                      rotate_left
                      focus (intro W hS; have c0_0 := (hS.1).at_ (j := 0) rfl; have c0_1 := (hS.1).at_ (j := 1) rfl; have c0_2 := (hS.1).at_ (j := 2) rfl; have c0_3 := (hS.1).at_ (j := 3) rfl; have c0_4 := (hS.1).at_ (j := 4) rfl; have c0_5 := (hS.1).at_ (j := 5) rfl; have c0_6 := (hS.1).at_ (j := 6) rfl; have c0_7 := (hS.1).at_ (j := 7) rfl; have c0' := cell_nw hS.2 c0; have c1' := cell_nw hS.2 c1; have c2' := cell_nw hS.2 c2; have c3' := cell_nw hS.2 c3; have c4' := cell_nw hS.2 c4; have c5' := cell_nw hS.2 c5; have c6' := cell_nw hS.2 c6; clear hS; first | (go_simp; done) | (go_simp; with_reducible rfl))
                      try simp only [Act.put, List.setIfInBounds_toArray, List.set_cons_zero, List.set_cons_succ]
                      refine wpAnyH_take (i := 15) (oi := ⟨some 68, _, _, _, _, _⟩) (v := ?_) rfl (by kernel_rfl) (by kernel_rfl) (by kernel_rfl) (fun _ _ _ h => h) (Or.inl ⟨by kernel_rfl, ?_⟩) hHeld ?_
                      rotate_left
                      focus (intro W hS; have c0_0 := (hS.1).at_ (j := 0) rfl; have c0_1 := (hS.1).at_ (j := 1) rfl; have c0_2 := (hS.1).at_ (j := 2) rfl; have c0_3 := (hS.1).at_ (j := 3) rfl; have c0_4 := (hS.1).at_ (j := 4) rfl; have c0_5 := (hS.1).at_ (j := 5) rfl; have c0_6 := (hS.1).at_ (j := 6) rfl; have c0_7 := (hS.1).at_ (j := 7) rfl; have c0' := cell_nw hS.2 c0; have c1' := cell_nw hS.2 c1; have c2' := cell_nw hS.2 c2; have c3' := cell_nw hS.2 c3; have c4' := cell_nw hS.2 c4; have c5' := cell_nw hS.2 c5; have c6' := cell_nw hS.2 c6; clear hS; first | (go_simp; done) | (go_simp; with_reducible rfl))
                      try simp only [Act.put, List.setIfInBounds_toArray, List.set_cons_zero, List.set_cons_succ]
                      by_cases e16 : ((x.f0 != p0_0)) = true
                      · skip
                        refine wpAnyH_take (i := 16) (oi := ⟨some 69, _, _, _, _, _⟩) (v := ?_) rfl (by kernel_rfl) (by kernel_rfl) (by kernel_rfl) (fun _ _ _ h => h) (Or.inl ⟨by kernel_rfl, ?_⟩) hHeld ?_
                        rotate_left
                        focus (intro W hS; have c0_0 := (hS.1).at_ (j := 0) rfl; have c0_1 := (hS.1).at_ (j := 1) rfl; have c0_2 := (hS.1).at_ (j := 2) rfl; have c0_3 := (hS.1).at_ (j := 3) rfl; have c0_4 := (hS.1).at_ (j := 4) rfl; have c0_5 := (hS.1).at_ (j := 5) rfl; have c0_6 := (hS.1).at_ (j := 6) rfl; have c0_7 := (hS.1).at_ (j := 7) rfl; have c0' := cell_nw hS.2 c0; have c1' := cell_nw hS.2 c1; have c2' := cell_nw hS.2 c2; have c3' := cell_nw hS.2 c3; have c4' := cell_nw hS.2 c4; have c5' := cell_nw hS.2 c5; have c6' := cell_nw hS.2 c6; clear hS; first | (go_simp; done) | (go_simp; with_reducible rfl))
                        try simp only [Act.put, List.setIfInBounds_toArray, List.set_cons_zero, List.set_cons_succ]
                        refine wpAnyH_take (i := 17) (oi := ⟨some 70, _, _, _, _, _⟩) (v := ?_) rfl (by kernel_rfl) (by kernel_rfl) (by kernel_rfl) (fun _ _ _ h => h) (Or.inl ⟨by kernel_rfl, ?_⟩) hHeld ?_
                        rotate_left
                        focus (intro W hS; have c0_0 := (hS.1).at_ (j := 0) rfl; have c0_1 := (hS.1).at_ (j := 1) rfl; have c0_2 := (hS.1).at_ (j := 2) rfl; have c0_3 := (hS.1).at_ (j := 3) rfl; have c0_4 := (hS.1).at_ (j := 4) rfl; have c0_5 := (hS.1).at_ (j := 5) rfl; have c0_6 := (hS.1).at_ (j := 6) rfl; have c0_7 := (hS.1).at_ (j := 7) rfl; have c0' := cell_nw hS.2 c0; have c1' := cell_nw hS.2 c1; have c2' := cell_nw hS.2 c2; have c3' := cell_nw hS.2 c3; have c4' := cell_nw hS.2 c4; have c5' := cell_nw hS.2 c5; have c6' := cell_nw hS.2 c6; clear hS; first | (go_simp; done) | (go_simp; with_reducible rfl))
                        try simp only [Act.put, List.setIfInBounds_toArray, List.set_cons_zero, List.set_cons_succ]
                        refine wpAnyH_done (by kernel_rfl) ?_ _
                        have KB2 := Lib.hid hHeld.1
                        have HB2 := Lib.hid (below_trans HB.out hHeld.2 (Nat.le_refl _))
                        clear hHeld
                        have HE := Lib.hid (HAf.out (by rw [HX.out]; simpa using e16))
                        go_wp2_with fail
                        go_ret
                        exact ⟨by rw [show mIsPack p0_0 p0_1 p0_2 l0_3 l0_4 l0_5 l0_6 = false by simp only [mIsPack, mPkG, mPkF, mPkR, HE.out, Bool.and_false, Bool.false_and, Bool.true_and]]; rfl, HB2.out⟩
                      · have e16 : ((x.f0 != p0_0)) = false := by simpa using e16
                        refine wpAnyH_take (i := 16) (oi := ⟨some 69, _, _, _, _, _⟩) (v := ?_) rfl (by kernel_rfl) (by kernel_rfl) (by kernel_rfl) (fun _ _ _ h => h) (Or.inl ⟨by kernel_rfl, ?_⟩) hHeld ?_
                        rotate_left
                        focus (intro W hS; have c0_0 := (hS.1).at_ (j := 0) rfl; have c0_1 := (hS.1).at_ (j := 1) rfl; have c0_2 := (hS.1).at_ (j := 2) rfl; have c0_3 := (hS.1).at_ (j := 3) rfl; have c0_4 := (hS.1).at_ (j := 4) rfl; have c0_5 := (hS.1).at_ (j := 5) rfl; have c0_6 := (hS.1).at_ (j := 6) rfl; have c0_7 := (hS.1).at_ (j := 7) rfl; have c0' := cell_nw hS.2 c0; have c1' := cell_nw hS.2 c1; have c2' := cell_nw hS.2 c2; have c3' := cell_nw hS.2 c3; have c4' := cell_nw hS.2 c4; have c5' := cell_nw hS.2 c5; have c6' := cell_nw hS.2 c6; clear hS; first | (go_simp; done) | (go_simp; with_reducible rfl))
                        try simp only [Act.put, List.setIfInBounds_toArray, List.set_cons_zero, List.set_cons_succ]
                        refine wpAnyH_take (i := 17) (oi := ⟨some 70, _, _, _, _, _⟩) (v := ?_) rfl (by kernel_rfl) (by kernel_rfl) (by kernel_rfl) (fun _ _ _ h => h) (Or.inl ⟨by kernel_rfl, ?_⟩) hHeld ?_
                        rotate_left
                        focus (intro W hS; have c0_0 := (hS.1).at_ (j := 0) rfl; have c0_1 := (hS.1).at_ (j := 1) rfl; have c0_2 := (hS.1).at_ (j := 2) rfl; have c0_3 := (hS.1).at_ (j := 3) rfl; have c0_4 := (hS.1).at_ (j := 4) rfl; have c0_5 := (hS.1).at_ (j := 5) rfl; have c0_6 := (hS.1).at_ (j := 6) rfl; have c0_7 := (hS.1).at_ (j := 7) rfl; have c0' := cell_nw hS.2 c0; have c1' := cell_nw hS.2 c1; have c2' := cell_nw hS.2 c2; have c3' := cell_nw hS.2 c3; have c4' := cell_nw hS.2 c4; have c5' := cell_nw hS.2 c5; have c6' := cell_nw hS.2 c6; clear hS; first | (go_simp; done) | (go_simp; with_reducible rfl))
                        try simp only [Act.put, List.setIfInBounds_toArray, List.set_cons_zero, List.set_cons_succ]
                        refine wpAnyH_done (by kernel_rfl) ?_ _
                        have KB2 := Lib.hid hHeld.1
                        have HB2 := Lib.hid (below_trans HB.out hHeld.2 (Nat.le_refl _))
                        clear hHeld
                        have HE := Lib.hid (HAt.out (by rw [HX.out]; simpa using e16))
                        go_wp2_with fail
                        go_roundg (n0_3 - (k + 1))
                        case measure => omega
                        case rel => exact ⟨k + 1, by omega, by omega, by go_num, HE, KB2, HB2⟩
                  · obtain rfl : n0_3 = k := by omega
                    have HAG := Lib.hid (show l0_3.all (pPkG p0_0) = true by have := HA.out; rwa [List.take_of_length_le (by rw [HL0_3.out]; omega)] at this)
                    clear HA
                    have eb0 := KB0.out.at_ (j := 0) rfl
                    have eb1 := KB0.out.at_ (j := 1) rfl
                    have eb2 := KB0.out.at_ (j := 2) rfl
                    have eb3 := KB0.out.at_ (j := 3) rfl
                    have eb4 := KB0.out.at_ (j := 4) rfl
                    have eb5 := KB0.out.at_ (j := 5) rfl
                    have eb6 := KB0.out.at_ (j := 6) rfl
                    have eb7 := KB0.out.at_ (j := 7) rfl
                    go_wp2_with fail
                    clear eb0 eb1 eb2 eb3 eb4 eb5 eb6 eb7
                    go_loopg [4] n0_4 (fun gg i wr => ∃ k : Nat, k ≤ n0_4 ∧ n0_4 - k ≤ gg ∧ i = .int .i64 k ∧ Hid ((l0_4.take k).all (pPkF p0_0) = true) ∧ Hid (BoxAt wr w.heap.size 39 #[.int .i64 p0_0, .int .i64 p0_1, .int .i64 p0_2, .slice A0_3 n0_3 c0_3, .slice A0_4 n0_4 c0_4, .slice A0_5 n0_5 c0_5, .slice A0_6 n0_6 c0_6, .int .i64 p0_7]) ∧ Hid (Below w.heap.size w wr))
                    case atStart => exact ⟨0, Nat.zero_le _, by omega, rfl, Lib.hid (by simp), KB0, HB⟩
                    case round =>
                      clear KB0 HB
                      obtain ⟨k, hk, hg, rfl, HA, KB0, HB⟩ := hrel
                      by_cases hlt : k < n0_4
                      · obtain ⟨b, off, x, rfl, _, _, hz, hc⟩ := rd_elem TFlow.len (R0_4.out.new HB.out) HL0_4.out hlt
                        have c0 : wr.cell? ⟨b, off + k * 3, none⟩ = _ := hc 0 _ rfl
                        have c1 := hc 1 _ rfl
                        have c2 := hc 2 _ rfl
                        have C0 := fun W => spec_IsFlow x W
                        have HX := Lib.hid (show pPkF p0_0 x = (mIsFlow x && x.f0 == p0_0) from rfl)
                        have HAt := Lib.hid (fun (h : pPkF p0_0 x = true) => show ((l0_4.take (k + 1)).all (pPkF p0_0) = true) by rw [List.take_add_one, hz, List.all_append, HA.out]; simp [h])
                        have HAf := Lib.hid (fun (h : pPkF p0_0 x = false) => show (l0_4.all (pPkF p0_0) = false) by rw [List.all_eq_false]; exact ⟨x, List.mem_of_getElem? hz, by rw [h]; simp⟩)
                        clear hz hc
                        generalize mIsFlow x = r at C0 HX
                        replace C0 := Lib.hid C0
                        have eb0 := KB0.out.at_ (j := 0) rfl
                        have eb1 := KB0.out.at_ (j := 1) rfl
                        have eb2 := KB0.out.at_ (j := 2) rfl
                        have eb3 := KB0.out.at_ (j := 3) rfl
                        have eb4 := KB0.out.at_ (j := 4) rfl
                        have eb5 := KB0.out.at_ (j := 5) rfl
                        have eb6 := KB0.out.at_ (j := 6) rfl
                        have eb7 := KB0.out.at_ (j := 7) rfl
                        go_wp2_with fail
                        clear eb0 eb1 eb2 eb3 eb4 eb5 eb6 eb7
                        refine wp_region_held_drew (S := fun w' => BoxAt w' w.heap.size 39 #[.int .i64 p0_0, .int .i64 p0_1, .int .i64 p0_2, .slice A0_3 n0_3 c0_3, .slice (some ⟨b, off, none⟩) n0_4 c0_4, .slice A0_5 n0_5 c0_5, .slice A0_6 n0_6 c0_6, .int .i64 p0_7] ∧ Below wr.heap.size wr w') (by kernel_rfl) ?_ (fun hHeld => ?_)
                        · exact ⟨KB0.out.drw, (Below.refl _ _).drew⟩
                        refine wpAnyH_take (i := 0) (oi := ⟨some 78, _, _, _, _, _⟩) (v := ?_) rfl (by kernel_rfl) (by kernel_rfl) (by kernel_rfl) (fun _ _ _ h => h) (Or.inl ⟨by kernel_rfl, ?_⟩) hHeld ?_
                        rotate_left
                        focus (intro W hS; have c0_0 := (hS.1).at_ (j := 0) rfl; have c0_1 := (hS.1).at_ (j := 1) rfl; have c0_2 := (hS.1).at_ (j := 2) rfl; have c0_3 := (hS.1).at_ (j := 3) rfl; have c0_4 := (hS.1).at_ (j := 4) rfl; have c0_5 := (hS.1).at_ (j := 5) rfl; have c0_6 := (hS.1).at_ (j := 6) rfl; have c0_7 := (hS.1).at_ (j := 7) rfl; have c0' := cell_nw hS.2 c0; have c1' := cell_nw hS.2 c1; have c2' := cell_nw hS.2 c2; clear hS; first | (go_simp; done) | (go_simp; with_reducible rfl))
                        try simp only [Act.put, List.setIfInBounds_toArray, List.set_cons_zero, List.set_cons_succ]
                        refine wpAnyH_take (i := 1) (oi := ⟨some 79, _, _, _, _, _⟩) (v := ?_) rfl (by kernel_rfl) (by kernel_rfl) (by kernel_rfl) (fun _ _ _ h => h) (Or.inl ⟨by kernel_rfl, ?_⟩) hHeld ?_
                        rotate_left
                        focus (intro W hS; have c0_0 := (hS.1).at_ (j := 0) rfl; have c0_1 := (hS.1).at_ (j := 1) rfl; have c0_2 := (hS.1).at_ (j := 2) rfl; have c0_3 := (hS.1).at_ (j := 3) rfl; have c0_4 := (hS.1).at_ (j := 4) rfl; have c0_5 := (hS.1).at_ (j := 5) rfl; have c0_6 := (hS.1).at_ (j := 6) rfl; have c0_7 := (hS.1).at_ (j := 7) rfl; have c0' := cell_nw hS.2 c0; have c1' := cell_nw hS.2 c1; have c2' := cell_nw hS.2 c2; clear hS; first | (go_simp; done) | (go_simp; with_reducible rfl))
                        try simp only [Act.put, List.setIfInBounds_toArray, List.set_cons_zero, List.set_cons_succ]
                        refine wpAnyH_take (i := 2) (oi := ⟨some 80, _, _, _, _, _⟩) (v := ?_) rfl (by kernel_rfl) (by kernel_rfl) (by kernel_rfl) (fun _ _ _ h => h) (Or.inl ⟨by kernel_rfl, ?_⟩) hHeld ?_
                        rotate_left
                        focus (intro W hS; have c0_0 := (hS.1).at_ (j := 0) rfl; have c0_1 := (hS.1).at_ (j := 1) rfl; have c0_2 := (hS.1).at_ (j := 2) rfl; have c0_3 := (hS.1).at_ (j := 3) rfl; have c0_4 := (hS.1).at_ (j := 4) rfl; have c0_5 := (hS.1).at_ (j := 5) rfl; have c0_6 := (hS.1).at_ (j := 6) rfl; have c0_7 := (hS.1).at_ (j := 7) rfl; have c0' := cell_nw hS.2 c0; have c1' := cell_nw hS.2 c1; have c2' := cell_nw hS.2 c2; clear hS; first | (go_simp; done) | (go_simp; with_reducible rfl))
                        try simp only [Act.put, List.setIfInBounds_toArray, List.set_cons_zero, List.set_cons_succ]
                        refine wpAnyH_take (i := 3) (oi := ⟨some 81, _, _, _, _, _⟩) (v := ?_) rfl (by kernel_rfl) (by kernel_rfl) (by kernel_rfl) (fun _ _ _ h => h) (Or.inl ⟨by kernel_rfl, ?_⟩) hHeld ?_
                        rotate_left
                        focus (intro W hS; have c0_0 := (hS.1).at_ (j := 0) rfl; have c0_1 := (hS.1).at_ (j := 1) rfl; have c0_2 := (hS.1).at_ (j := 2) rfl; have c0_3 := (hS.1).at_ (j := 3) rfl; have c0_4 := (hS.1).at_ (j := 4) rfl; have c0_5 := (hS.1).at_ (j := 5) rfl; have c0_6 := (hS.1).at_ (j := 6) rfl; have c0_7 := (hS.1).at_ (j := 7) rfl; have c0' := cell_nw hS.2 c0; have c1' := cell_nw hS.2 c1; have c2' := cell_nw hS.2 c2; clear hS; first | (go_simp; done) | (go_simp; with_reducible rfl))
                        try simp only [Act.put, List.setIfInBounds_toArray, List.set_cons_zero, List.set_cons_succ]
                        refine wpAnyH_take (i := 4) (oi := ⟨some 82, _, _, _, _, _⟩) (v := ?_) rfl (by kernel_rfl) (by kernel_rfl) (by kernel_rfl) (fun _ _ _ h => h) (Or.inl ⟨by kernel_rfl, ?_⟩) hHeld ?_
                        rotate_left
                        focus (intro W hS; have c0_0 := (hS.1).at_ (j := 0) rfl; have c0_1 := (hS.1).at_ (j := 1) rfl; have c0_2 := (hS.1).at_ (j := 2) rfl; have c0_3 := (hS.1).at_ (j := 3) rfl; have c0_4 := (hS.1).at_ (j := 4) rfl; have c0_5 := (hS.1).at_ (j := 5) rfl; have c0_6 := (hS.1).at_ (j := 6) rfl; have c0_7 := (hS.1).at_ (j := 7) rfl; have c0' := cell_nw hS.2 c0; have c1' := cell_nw hS.2 c1; have c2' := cell_nw hS.2 c2; clear hS; first | (go_simp; done) | (go_simp; with_reducible rfl))
                        try simp only [Act.put, List.setIfInBounds_toArray, List.set_cons_zero, List.set_cons_succ]
                        refine wpAnyH_ready (rs := [5]) (by kernel_rfl) (by simp) ?_
                        refine AllReadyH.cons (o := ⟨some 83, _, _, _, _, _⟩) rfl (fun K hK => ?_) AllReadyH.nil
                        go_simp
                        refine Calls.mono (C0.out _) ?_
                        rintro e x1 ⟨rfl, hb1⟩
                        refine hK.out _ _ ⟨hHeld.1.new hb1, below_trans hHeld.2 hb1 (Nat.le_refl _)⟩ (fun hHeld' => ?_)
                        clear hK K hHeld hb1
                        have hHeld := hHeld'
                        clear hHeld'
                        try simp only [Act.put, List.setIfInBounds_toArray, List.set_cons_zero, List.set_cons_succ]
                        cases r
                        · skip
                          refine wpAnyH_take (i := 6) (oi := ⟨some 84, _, _, _, _, _⟩) (v := ?_) rfl (by kernel_rfl) (by kernel_rfl) (by kernel_rfl) (fun _ _ _ h => h) (Or.inl ⟨by kernel_rfl, ?_⟩) hHeld ?_
                          rotate_left
                          focus (intro W hS; have c0_0 := (hS.1).at_ (j := 0) rfl; have c0_1 := (hS.1).at_ (j := 1) rfl; have c0_2 := (hS.1).at_ (j := 2) rfl; have c0_3 := (hS.1).at_ (j := 3) rfl; have c0_4 := (hS.1).at_ (j := 4) rfl; have c0_5 := (hS.1).at_ (j := 5) rfl; have c0_6 := (hS.1).at_ (j := 6) rfl; have c0_7 := (hS.1).at_ (j := 7) rfl; have c0' := cell_nw hS.2 c0; have c1' := cell_nw hS.2 c1; have c2' := cell_nw hS.2 c2; clear hS; first | (go_simp; done) | (go_simp; with_reducible rfl))
                          try simp only [Act.put, List.setIfInBounds_toArray, List.set_cons_zero, List.set_cons_succ]
                          refine wpAnyH_take (i := 7) (oi := ⟨some 85, _, _, _, _, _⟩) (v := ?_) rfl (by kernel_rfl) (by kernel_rfl) (by kernel_rfl) (fun _ _ _ h => h) (Or.inl ⟨by kernel_rfl, ?_⟩) hHeld ?_
                          rotate_left
                          focus (intro W hS; have c0_0 := (hS.1).at_ (j := 0) rfl; have c0_1 := (hS.1).at_ (j := 1) rfl; have c0_2 := (hS.1).at_ (j := 2) rfl; have c0_3 := (hS.1).at_ (j := 3) rfl; have c0_4 := (hS.1).at_ (j := 4) rfl; have c0_5 := (hS.1).at_ (j := 5) rfl; have c0_6 := (hS.1).at_ (j := 6) rfl; have c0_7 := (hS.1).at_ (j := 7) rfl; have c0' := cell_nw hS.2 c0; have c1' := cell_nw hS.2 c1; have c2' := cell_nw hS.2 c2; clear hS; first | (go_simp; done) | (go_simp; with_reducible rfl))
                          try simp only [Act.put, List.setIfInBounds_toArray, List.set_cons_zero, List.set_cons_succ]
                          refine wpAnyH_take (i := 8) (oi := ⟨some 86, _, _, _, _, _⟩) (v := undef) rfl (by kernel_rfl) (by kernel_rfl) (by kernel_rfl) (fun _ _ _ h => h) (Or.inr ⟨by kernel_rfl, rfl⟩) hHeld ?_
                          try simp only [Act.put, List.setIfInBounds_toArray, List.set_cons_zero, List.set_cons_succ]
                          refine wpAnyH_take (i := 9) (oi := ⟨some 87, _, _, _, _, _⟩) (v := undef) rfl (by kernel_rfl) (by kernel_rfl) (by kernel_rfl) (fun _ _ _ h => h) (Or.inr ⟨by kernel_rfl, rfl⟩) hHeld ?_
                          try simp only [Act.put, List.setIfInBounds_toArray, List.set_cons_zero, List.set_cons_succ]
                          refine wpAnyH_take (i := 10) (oi := ⟨some 88, _, _, _, _, _⟩) (v := undef) rfl (by kernel_rfl) (by kernel_rfl) (by kernel_rfl) (fun _ _ _ h => h) (Or.inr ⟨by kernel_rfl, rfl⟩) hHeld ?_
                          try simp only [Act.put, List.setIfInBounds_toArray, List.set_cons_zero, List.set_cons_succ]
                          refine wpAnyH_take (i := 11) (oi := ⟨some 89, _, _, _, _, _⟩) (v := undef) rfl (by kernel_rfl) (by kernel_rfl) (by kernel_rfl) (fun _ _ _ h => h) (Or.inr ⟨by kernel_rfl, rfl⟩) hHeld ?_
                          try simp only [Act.put, List.setIfInBounds_toArray, List.set_cons_zero, List.set_cons_succ]
                          refine wpAnyH_take (i := 12) (oi := ⟨some 90, _, _, _, _, _⟩) (v := undef) rfl (by kernel_rfl) (by kernel_rfl) (by kernel_rfl) (fun _ _ _ h => h) (Or.inr ⟨by kernel_rfl, rfl⟩) hHeld ?_
                          try simp only [Act.put, List.setIfInBounds_toArray, List.set_cons_zero, List.set_cons_succ]
                          refine wpAnyH_take (i := 13) (oi := ⟨some 91, _, _, _, _, _⟩) (v := undef) rfl (by kernel_rfl) (by kernel_rfl) (by kernel_rfl) (fun _ _ _ h => h) (Or.inr ⟨by kernel_rfl, rfl⟩) hHeld ?_
                          try simp only [Act.put, List.setIfInBounds_toArray, List.set_cons_zero, List.set_cons_succ]
                          refine wpAnyH_take (i := 14) (oi := ⟨some 92, _, _, _, _, _⟩) (v := undef) rfl (by kernel_rfl) (by kernel_rfl) (by kernel_rfl) (fun _ _ _ h => h) (Or.inr ⟨by kernel_rfl, rfl⟩) hHeld ?_
                          try simp only [Act.put, List.setIfInBounds_toArray, List.set_cons_zero, List.set_cons_succ]
                          refine wpAnyH_take (i := 15) (oi := ⟨some 93, _, _, _, _, _⟩) (v := undef) rfl (by kernel_rfl) (by kernel_rfl) (by kernel_rfl) (fun _ _ _ h => h) (Or.inr ⟨by kernel_rfl, rfl⟩) hHeld ?_
                          try simp only [Act.put, List.setIfInBounds_toArray, List.set_cons_zero, List.set_cons_succ]
                          refine wpAnyH_take (i := 16) (oi := ⟨some 94, _, _, _, _, _⟩) (v := undef) rfl (by kernel_rfl) (by kernel_rfl) (by kernel_rfl) (fun _ _ _ h => h) (Or.inr ⟨by kernel_rfl, rfl⟩) hHeld ?_
                          try simp only [Act.put, List.setIfInBounds_toArray, List.set_cons_zero, List.set_cons_succ]
                          refine wpAnyH_take (i := 17) (oi := ⟨some 95, _, _, _, _, _⟩) (v := ?_) rfl (by kernel_rfl) (by kernel_rfl) (by kernel_rfl) (fun _ _ _ h => h) (Or.inl ⟨by kernel_rfl, ?_⟩) hHeld ?_
                          rotate_left
                          focus (intro W hS; have c0_0 := (hS.1).at_ (j := 0) rfl; have c0_1 := (hS.1).at_ (j := 1) rfl; have c0_2 := (hS.1).at_ (j := 2) rfl; have c0_3 := (hS.1).at_ (j := 3) rfl; have c0_4 := (hS.1).at_ (j := 4) rfl; have c0_5 := (hS.1).at_ (j := 5) rfl; have c0_6 := (hS.1).at_ (j := 6) rfl; have c0_7 := (hS.1).at_ (j := 7) rfl; have c0' := cell_nw hS.2 c0; have c1' := cell_nw hS.2 c1; have c2' := cell_nw hS.2 c2; clear hS; first | (go_simp; done) | (go_simp; with_reducible rfl))
                          try simp only [Act.put, List.setIfInBounds_toArray, List.set_cons_zero, List.set_cons_succ]
                          refine wpAnyH_done (by kernel_rfl) ?_ _
                          have KB2 := Lib.hid hHeld.1
                          have HB2 := Lib.hid (below_trans HB.out hHeld.2 (Nat.le_refl _))
                          clear hHeld
                          have HE := Lib.hid (HAf.out (by rw [HX.out]; rfl))
                          go_wp2_with fail
                          go_ret
                          exact ⟨by rw [show mIsPack p0_0 p0_1 p0_2 l0_3 l0_4 l0_5 l0_6 = false by simp only [mIsPack, mPkG, mPkF, mPkR, HE.out, Bool.and_false, Bool.false_and, Bool.true_and]]; rfl, HB2.out⟩
                        · skip
                          refine wpAnyH_take (i := 6) (oi := ⟨some 84, _, _, _, _, _⟩) (v := ?_) rfl (by kernel_rfl) (by kernel_rfl) (by kernel_rfl) (fun _ _ _ h => h) (Or.inl ⟨by kernel_rfl, ?_⟩) hHeld ?_
                          rotate_left
                          focus (intro W hS; have c0_0 := (hS.1).at_ (j := 0) rfl; have c0_1 := (hS.1).at_ (j := 1) rfl; have c0_2 := (hS.1).at_ (j := 2) rfl; have c0_3 := (hS.1).at_ (j := 3) rfl; have c0_4 := (hS.1).at_ (j := 4) rfl; have c0_5 := (hS.1).at_ (j := 5) rfl; have c0_6 := (hS.1).at_ (j := 6) rfl; have c0_7 := (hS.1).at_ (j := 7) rfl; have c0' := cell_nw hS.2 c0; have c1' := cell_nw hS.2 c1; have c2' := cell_nw hS.2 c2; clear hS; first | (go_simp; done) | (go_simp; with_reducible rfl))
                          try simp only [Act.put, List.setIfInBounds_toArray, List.set_cons_zero, List.set_cons_succ]
                          refine wpAnyH_take (i := 7) (oi := ⟨some 85, _, _, _, _, _⟩) (v := ?_) rfl (by kernel_rfl) (by kernel_rfl) (by kernel_rfl) (fun _ _ _ h => h) (Or.inl ⟨by kernel_rfl, ?_⟩) hHeld ?_
                          rotate_left
                          focus (intro W hS; have c0_0 := (hS.1).at_ (j := 0) rfl; have c0_1 := (hS.1).at_ (j := 1) rfl; have c0_2 := (hS.1).at_ (j := 2) rfl; have c0_3 := (hS.1).at_ (j := 3) rfl; have c0_4 := (hS.1).at_ (j := 4) rfl; have c0_5 := (hS.1).at_ (j := 5) rfl; have c0_6 := (hS.1).at_ (j := 6) rfl; have c0_7 := (hS.1).at_ (j := 7) rfl; have c0' := cell_nw hS.2 c0; have c1' := cell_nw hS.2 c1; have c2' := cell_nw hS.2 c2; clear hS; first | (go_simp; done) | (go_simp; with_reducible rfl))
                          try simp only [Act.put, List.setIfInBounds_toArray, List.set_cons_zero, List.set_cons_succ]
                          refine wpAnyH_take (i := 8) (oi := ⟨some 86, _, _, _, _, _⟩) (v := ?_) rfl (by kernel_rfl) (by kernel_rfl) (by kernel_rfl) (fun _ _ _ h => h) (Or.inl ⟨by kernel_rfl, ?_⟩) hHeld ?_
                          rotate_left
                          focus (intro W hS; have c0_0 := (hS.1).at_ (j := 0) rfl; have c0_1 := (hS.1).at_ (j := 1) rfl; have c0_2 := (hS.1).at_ (j := 2) rfl; have c0_3 := (hS.1).at_ (j := 3) rfl; have c0_4 := (hS.1).at_ (j := 4) rfl; have c0_5 := (hS.1).at_ (j := 5) rfl; have c0_6 := (hS.1).at_ (j := 6) rfl; have c0_7 := (hS.1).at_ (j := 7) rfl; have c0' := cell_nw hS.2 c0; have c1' := cell_nw hS.2 c1; have c2' := cell_nw hS.2 c2; clear hS; first | (go_simp; done) | (go_simp; with_reducible rfl))
                          try simp only [Act.put, List.setIfInBounds_toArray, List.set_cons_zero, List.set_cons_succ]
                          refine wpAnyH_take (i := 9) (oi := ⟨some 87, _, _, _, _, _⟩) (v := ?_) rfl (by kernel_rfl) (by kernel_rfl) (by kernel_rfl) (fun _ _ _ h => h) (Or.inl ⟨by kernel_rfl, ?_⟩) hHeld ?_
                          rotate_left
                          focus (intro W hS; have c0_0 := (hS.1).at_ (j := 0) rfl; have c0_1 := (hS.1).at_ (j := 1) rfl; have c0_2 := (hS.1).at_ (j := 2) rfl; have c0_3 := (hS.1).at_ (j := 3) rfl; have c0_4 := (hS.1).at_ (j := 4) rfl; have c0_5 := (hS.1).at_ (j := 5) rfl; have c0_6 := (hS.1).at_ (j := 6) rfl; have c0_7 := (hS.1).at_ (j := 7) rfl; have c0' := cell_nw hS.2 c0; have c1' := cell_nw hS.2 c1; have c2' := cell_nw hS.2 c2; clear hS; first | (go_simp; done) | (go_simp; with_reducible rfl))
                          try simp only [Act.put, List.setIfInBounds_toArray, List.set_cons_zero, List.set_cons_succ]
                          refine wpAnyH_take (i := 10) (oi := ⟨some 88, _, _, _, _, _⟩) (v := ?_) rfl (by kernel_rfl) (by kernel_rfl) (by kernel_rfl) (fun _ _ _ h => h) (Or.inl ⟨by kernel_rfl, ?_⟩) hHeld ?_
                          rotate_left
                          focus (intro W hS; have c0_0 := (hS.1).at_ (j := 0) rfl; have c0_1 := (hS.1).at_ (j := 1) rfl; have c0_2 := (hS.1).at_ (j := 2) rfl; have c0_3 := (hS.1).at_ (j := 3) rfl; have c0_4 := (hS.1).at_ (j := 4) rfl; have c0_5 := (hS.1).at_ (j := 5) rfl; have c0_6 := (hS.1).at_ (j := 6) rfl; have c0_7 := (hS.1).at_ (j := 7) rfl; have c0' := cell_nw hS.2 c0; have c1' := cell_nw hS.2 c1; have c2' := cell_nw hS.2 c2; clear hS; first | (go_simp; done) | (go_simp; with_reducible rfl))
                          try simp only [Act.put, List.setIfInBounds_toArray, List.set_cons_zero, List.set_cons_succ]
                          refine wpAnyH_take (i := 11) (oi := ⟨some 89, _, _, _, _, _⟩) (v := ?_) rfl (by kernel_rfl) (by kernel_rfl) (by kernel_rfl) (fun _ _ _ h => h) (Or.inl ⟨by kernel_rfl, ?_⟩) hHeld ?_
                          rotate_left
                          focus (intro W hS; have c0_0 := (hS.1).at_ (j := 0) rfl; have c0_1 := (hS.1).at_ (j := 1) rfl; have c0_2 := (hS.1).at_ (j := 2) rfl; have c0_3 := (hS.1).at_ (j := 3) rfl; have c0_4 := (hS.1).at_ (j := 4) rfl; have c0_5 := (hS.1).at_ (j := 5) rfl; have c0_6 := (hS.1).at_ (j := 6) rfl; have c0_7 := (hS.1).at_ (j := 7) rfl; have c0' := cell_nw hS.2 c0; have c1' := cell_nw hS.2 c1; have c2' := cell_nw hS.2 c2; clear hS; first | (go_simp; done) | (go_simp; with_reducible rfl))
                          try simp only [Act.put, List.setIfInBounds_toArray, List.set_cons_zero, List.set_cons_succ]
                          refine wpAnyH_take (i := 12) (oi := ⟨some 90, _, _, _, _, _⟩) (v := ?_) rfl (by kernel_rfl) (by kernel_rfl) (by kernel_rfl) (fun _ _ _ h => h) (Or.inl ⟨by kernel_rfl, ?_⟩) hHeld ?_
                          rotate_left
                          focus (intro W hS; have c0_0 := (hS.1).at_ (j := 0) rfl; have c0_1 := (hS.1).at_ (j := 1) rfl; have c0_2 := (hS.1).at_ (j := 2) rfl; have c0_3 := (hS.1).at_ (j := 3) rfl; have c0_4 := (hS.1).at_ (j := 4) rfl; have c0_5 := (hS.1).at_ (j := 5) rfl; have c0_6 := (hS.1).at_ (j := 6) rfl; have c0_7 := (hS.1).at_ (j := 7) rfl; have c0' := cell_nw hS.2 c0; have c1' := cell_nw hS.2 c1; have c2' := cell_nw hS.2 c2; clear hS; first | (go_simp; done) | (go_simp; with_reducible rfl))
                          try simp only [Act.put, List.setIfInBounds_toArray, List.set_cons_zero, List.set_cons_succ]
                          refine wpAnyH_take (i := 13) (oi := ⟨some 91, _, _, _, _, _⟩) (v := ?_) rfl (by kernel_rfl) (by kernel_rfl) (by kernel_rfl) (fun _ _ _ h => h) (Or.inl ⟨by kernel_rfl, ?_⟩) hHeld ?_
                          rotate_left
                          focus (intro W hS; have c0_0 := (hS.1).at_ (j := 0) rfl; have c0_1 := (hS.1).at_ (j := 1) rfl; have c0_2 := (hS.1).at_ (j := 2) rfl; have c0_3 := (hS.1).at_ (j := 3) rfl; have c0_4 := (hS.1).at_ (j := 4) rfl; have c0_5 := (hS.1).at_ (j := 5) rfl; have c0_6 := (hS.1).at_ (j := 6) rfl; have c0_7 := (hS.1).at_ (j := 7) rfl; have c0' := cell_nw hS.2 c0; have c1' := cell_nw hS.2 c1; have c2' := cell_nw hS.2 c2; clear hS; first | (go_simp; done) | (go_simp; with_reducible rfl))
                          try simp only [Act.put, List.setIfInBounds_toArray, List.set_cons_zero, List.set_cons_succ]
                          refine wpAnyH_take (i := 14) (oi := ⟨some 92, _, _, _, _, _⟩) (v := ?_) rfl (by kernel_rfl) (by kernel_rfl) (by kernel_rfl) (fun _ _ _ h => h) (Or.inl ⟨by kernel_rfl, ?_⟩) hHeld ?_
                          rotate_left
                          focus (intro W hS; have c0_0 := (hS.1).at_ (j := 0) rfl; have c0_1 := (hS.1).at_ (j := 1) rfl; have c0_2 := (hS.1).at_ (j := 2) rfl; have c0_3 := (hS.1).at_ (j := 3) rfl; have c0_4 := (hS.1).at_ (j := 4) rfl; have c0_5 := (hS.1).at_ (j := 5) rfl; have c0_6 := (hS.1).at_ (j := 6) rfl; have c0_7 := (hS.1).at_ (j := 7) rfl; have c0' := cell_nw hS.2 c0; have c1' := cell_nw hS.2 c1; have c2' := cell_nw hS.2 c2; clear hS; first | (go_simp; done) | (go_simp; with_reducible rfl))
                          try simp only [Act.put, List.setIfInBounds_toArray, List.set_cons_zero, List.set_cons_succ]
                          refine wpAnyH_take (i := 15) (oi := ⟨some 93, _, _, _, _, _⟩) (v := ?_) rfl (by kernel_rfl) (by kernel_rfl) (by kernel_rfl) (fun _ _ _ h => h) (Or.inl ⟨by kernel_rfl, ?_⟩) hHeld ?_
                          rotate_left
                          focus (intro W hS; have c0_0 := (hS.1).at_ (j := 0) rfl; have c0_1 := (hS.1).at_ (j := 1) rfl; have c0_2 := (hS.1).at_ (j := 2) rfl; have c0_3 := (hS.1).at_ (j := 3) rfl; have c0_4 := (hS.1).at_ (j := 4) rfl; have c0_5 := (hS.1).at_ (j := 5) rfl; have c0_6 := (hS.1).at_ (j := 6) rfl; have c0_7 := (hS.1).at_ (j := 7) rfl; have c0' := cell_nw hS.2 c0; have c1' := cell_nw hS.2 c1; have c2' := cell_nw hS.2 c2; clear hS; first | (go_simp; done) | (go_simp; with_reducible rfl))
                          try simp only [Act.put, List.setIfInBounds_toArray, List.set_cons_zero, List.set_cons_succ]
                          by_cases e16 : ((x.f0 != p0_0)) = true
                          · skip
                            refine wpAnyH_take (i := 16) (oi := ⟨some 94, _, _, _, _, _⟩) (v := ?_) rfl (by kernel_rfl) (by kernel_rfl) (by kernel_rfl) (fun _ _ _ h => h) (Or.inl ⟨by kernel_rfl, ?_⟩) hHeld ?_
                            rotate_left
                            focus (intro W hS; have c0_0 := (hS.1).at_ (j := 0) rfl; have c0_1 := (hS.1).at_ (j := 1) rfl; have c0_2 := (hS.1).at_ (j := 2) rfl; have c0_3 := (hS.1).at_ (j := 3) rfl; have c0_4 := (hS.1).at_ (j := 4) rfl; have c0_5 := (hS.1).at_ (j := 5) rfl; have c0_6 := (hS.1).at_ (j := 6) rfl; have c0_7 := (hS.1).at_ (j := 7) rfl; have c0' := cell_nw hS.2 c0; have c1' := cell_nw hS.2 c1; have c2' := cell_nw hS.2 c2; clear hS; first | (go_simp; done) | (go_simp; with_reducible rfl))
                            try simp only [Act.put, List.setIfInBounds_toArray, List.set_cons_zero, List.set_cons_succ]
                            refine wpAnyH_take (i := 17) (oi := ⟨some 95, _, _, _, _, _⟩) (v := ?_) rfl (by kernel_rfl) (by kernel_rfl) (by kernel_rfl) (fun _ _ _ h => h) (Or.inl ⟨by kernel_rfl, ?_⟩) hHeld ?_
                            rotate_left
                            focus (intro W hS; have c0_0 := (hS.1).at_ (j := 0) rfl; have c0_1 := (hS.1).at_ (j := 1) rfl; have c0_2 := (hS.1).at_ (j := 2) rfl; have c0_3 := (hS.1).at_ (j := 3) rfl; have c0_4 := (hS.1).at_ (j := 4) rfl; have c0_5 := (hS.1).at_ (j := 5) rfl; have c0_6 := (hS.1).at_ (j := 6) rfl; have c0_7 := (hS.1).at_ (j := 7) rfl; have c0' := cell_nw hS.2 c0; have c1' := cell_nw hS.2 c1; have c2' := cell_nw hS.2 c2; clear hS; first | (go_simp; done) | (go_simp; with_reducible rfl))
                            try simp only [Act.put, List.setIfInBounds_toArray, List.set_cons_zero, List.set_cons_succ]
                            refine wpAnyH_done (by kernel_rfl) ?_ _
                            have KB2 := Lib.hid hHeld.1
                            have HB2 := Lib.hid (below_trans HB.out hHeld.2 (Nat.le_refl _))
                            clear hHeld
                            have HE := Lib.hid (HAf.out (by rw [HX.out]; simpa using e16))
                            go_wp2_with fail
                            go_ret
                            exact ⟨by rw [show mIsPack p0_0 p0_1 p0_2 l0_3 l0_4 l0_5 l0_6 = false by simp only [mIsPack, mPkG, mPkF, mPkR, HE.out, Bool.and_false, Bool.false_and, Bool.true_and]]; rfl, HB2.out⟩
                          · have e16 : ((x.f0 != p0_0)) = false := by simpa using e16
                            refine wpAnyH_take (i := 16) (oi := ⟨some 94, _, _, _, _, _⟩) (v := ?_) rfl (by kernel_rfl) (by kernel_rfl) (by kernel_rfl) (fun _ _ _ h => h) (Or.inl ⟨by kernel_rfl, ?_⟩) hHeld ?_
                            rotate_left
                            focus (intro W hS; have c0_0 := (hS.1).at_ (j := 0) rfl; have c0_1 := (hS.1).at_ (j := 1) rfl; have c0_2 := (hS.1).at_ (j := 2) rfl; have c0_3 := (hS.1).at_ (j := 3) rfl; have c0_4 := (hS.1).at_ (j := 4) rfl; have c0_5 := (hS.1).at_ (j := 5) rfl; have c0_6 := (hS.1).at_ (j := 6) rfl; have c0_7 := (hS.1).at_ (j := 7) rfl; have c0' := cell_nw hS.2 c0; have c1' := cell_nw hS.2 c1; have c2' := cell_nw hS.2 c2; clear hS; first | (go_simp; done) | (go_simp; with_reducible rfl))
                            try simp only [Act.put, List.setIfInBounds_toArray, List.set_cons_zero, List.set_cons_succ]
                            refine wpAnyH_take (i := 17) (oi := ⟨some 95, _, _, _, _, _⟩) (v := ?_) rfl (by kernel_rfl) (by kernel_rfl) (by kernel_rfl) (fun _ _ _ h => h) (Or.inl ⟨by kernel_rfl, ?_⟩) hHeld ?_
                            rotate_left
                            focus (intro W hS; have c0_0 := (hS.1).at_ (j := 0) rfl; have c0_1 := (hS.1).at_ (j := 1) rfl; have c0_2 := (hS.1).at_ (j := 2) rfl; have c0_3 := (hS.1).at_ (j := 3) rfl; have c0_4 := (hS.1).at_ (j := 4) rfl; have c0_5 := (hS.1).at_ (j := 5) rfl; have c0_6 := (hS.1).at_ (j := 6) rfl; have c0_7 := (hS.1).at_ (j := 7) rfl; have c0' := cell_nw hS.2 c0; have c1' := cell_nw hS.2 c1; have c2' := cell_nw hS.2 c2; clear hS; first | (go_simp; done) | (go_simp; with_reducible rfl))
                            try simp only [Act.put, List.setIfInBounds_toArray, List.set_cons_zero, List.set_cons_succ]
                            refine wpAnyH_done (by kernel_rfl) ?_ _
                            have KB2 := Lib.hid hHeld.1
                            have HB2 := Lib.hid (below_trans HB.out hHeld.2 (Nat.le_refl _))
                            clear hHeld
                            have HE := Lib.hid (HAt.out (by rw [HX.out]; simpa using e16))
                            go_wp2_with fail
                            go_roundg (n0_4 - (k + 1))
                            case measure => omega
                            case rel => exact ⟨k + 1, by omega, by omega, by go_num, HE, KB2, HB2⟩
                      · obtain rfl : n0_4 = k := by omega
                        have HAF := Lib.hid (show l0_4.all (pPkF p0_0) = true by have := HA.out; rwa [List.take_of_length_le (by rw [HL0_4.out]; omega)] at this)
                        clear HA
                        have eb0 := KB0.out.at_ (j := 0) rfl
                        have eb1 := KB0.out.at_ (j := 1) rfl
                        have eb2 := KB0.out.at_ (j := 2) rfl
                        have eb3 := KB0.out.at_ (j := 3) rfl
                        have eb4 := KB0.out.at_ (j := 4) rfl
                        have eb5 := KB0.out.at_ (j := 5) rfl
                        have eb6 := KB0.out.at_ (j := 6) rfl
                        have eb7 := KB0.out.at_ (j := 7) rfl
                        go_wp2_with fail
                        clear eb0 eb1 eb2 eb3 eb4 eb5 eb6 eb7
                        go_loopg [5] n0_5 (fun gg i wr => ∃ k : Nat, k ≤ n0_5 ∧ n0_5 - k ≤ gg ∧ i = .int .i64 k ∧ Hid ((l0_5.take k).all (pPkR p0_0) = true) ∧ Hid (BoxAt wr w.heap.size 39 #[.int .i64 p0_0, .int .i64 p0_1, .int .i64 p0_2, .slice A0_3 n0_3 c0_3, .slice A0_4 n0_4 c0_4, .slice A0_5 n0_5 c0_5, .slice A0_6 n0_6 c0_6, .int .i64 p0_7]) ∧ Hid (Below w.heap.size w wr))
                        case atStart => exact ⟨0, Nat.zero_le _, by omega, rfl, Lib.hid (by simp), KB0, HB⟩
                        case round =>
                          clear KB0 HB
                          obtain ⟨k, hk, hg, rfl, HA, KB0, HB⟩ := hrel
                          by_cases hlt : k < n0_5
                          · obtain ⟨b, off, x, rfl, _, _, hz, hc⟩ := rd_elem TRule.len (R0_5.out.new HB.out) HL0_5.out hlt
                            have c0 : wr.cell? ⟨b, off + k * 8, none⟩ = _ := hc 0 _ rfl
                            have c1 := hc 1 _ rfl
                            have c2 := hc 2 _ rfl
                            have c3 := hc 3 _ rfl
                            have c4 := hc 4 _ rfl
                            have c5 := hc 5 _ rfl
                            have c6 := hc 6 _ rfl
                            have c7 := hc 7 _ rfl
                            have C0 := fun W => spec_IsRule x W
                            have HX := Lib.hid (show pPkR p0_0 x = (mIsRule x && x.f0 == p0_0) from rfl)
                            have HAt := Lib.hid (fun (h : pPkR p0_0 x = true) => show ((l0_5.take (k + 1)).all (pPkR p0_0) = true) by rw [List.take_add_one, hz, List.all_append, HA.out]; simp [h])
                            have HAf := Lib.hid (fun (h : pPkR p0_0 x = false) => show (l0_5.all (pPkR p0_0) = false) by rw [List.all_eq_false]; exact ⟨x, List.mem_of_getElem? hz, by rw [h]; simp⟩)
                            clear hz hc
                            generalize mIsRule x = r at C0 HX
                            replace C0 := Lib.hid C0
                            have eb0 := KB0.out.at_ (j := 0) rfl
                            have eb1 := KB0.out.at_ (j := 1) rfl
                            have eb2 := KB0.out.at_ (j := 2) rfl
                            have eb3 := KB0.out.at_ (j := 3) rfl
                            have eb4 := KB0.out.at_ (j := 4) rfl
                            have eb5 := KB0.out.at_ (j := 5) rfl
                            have eb6 := KB0.out.at_ (j := 6) rfl
                            have eb7 := KB0.out.at_ (j := 7) rfl
                            go_wp2_with fail
                            clear eb0 eb1 eb2 eb3 eb4 eb5 eb6 eb7
                            refine wp_region_held_drew (S := fun w' => BoxAt w' w.heap.size 39 #[.int .i64 p0_0, .int .i64 p0_1, .int .i64 p0_2, .slice A0_3 n0_3 c0_3, .slice A0_4 n0_4 c0_4, .slice (some ⟨b, off, none⟩) n0_5 c0_5, .slice A0_6 n0_6 c0_6, .int .i64 p0_7] ∧ Below wr.heap.size wr w') (by kernel_rfl) ?_ (fun hHeld => ?_)
                            · exact ⟨KB0.out.drw, (Below.refl _ _).drew⟩
                            refine wpAnyH_take (i := 0) (oi := ⟨some 103, _, _, _, _, _⟩) (v := ?_) rfl (by kernel_rfl) (by kernel_rfl) (by kernel_rfl) (fun _ _ _ h => h) (Or.inl ⟨by kernel_rfl, ?_⟩) hHeld ?_
                            rotate_left
                            focus (intro W hS; have c0_0 := (hS.1).at_ (j := 0) rfl; have c0_1 := (hS.1).at_ (j := 1) rfl; have c0_2 := (hS.1).at_ (j := 2) rfl; have c0_3 := (hS.1).at_ (j := 3) rfl; have c0_4 := (hS.1).at_ (j := 4) rfl; have c0_5 := (hS.1).at_ (j := 5) rfl; have c0_6 := (hS.1).at_ (j := 6) rfl; have c0_7 := (hS.1).at_ (j := 7) rfl; have c0' := cell_nw hS.2 c0; have c1' := cell_nw hS.2 c1; have c2' := cell_nw hS.2 c2; have c3' := cell_nw hS.2 c3; have c4' := cell_nw hS.2 c4; have c5' := cell_nw hS.2 c5; have c6' := cell_nw hS.2 c6; have c7' := cell_nw hS.2 c7; clear hS; first | (go_simp; done) | (go_simp; with_reducible rfl))
                            try simp only [Act.put, List.setIfInBounds_toArray, List.set_cons_zero, List.set_cons_succ]
                            refine wpAnyH_take (i := 1) (oi := ⟨some 104, _, _, _, _, _⟩) (v := ?_) rfl (by kernel_rfl) (by kernel_rfl) (by kernel_rfl) (fun _ _ _ h => h) (Or.inl ⟨by kernel_rfl, ?_⟩) hHeld ?_
                            rotate_left
                            focus (intro W hS; have c0_0 := (hS.1).at_ (j := 0) rfl; have c0_1 := (hS.1).at_ (j := 1) rfl; have c0_2 := (hS.1).at_ (j := 2) rfl; have c0_3 := (hS.1).at_ (j := 3) rfl; have c0_4 := (hS.1).at_ (j := 4) rfl; have c0_5 := (hS.1).at_ (j := 5) rfl; have c0_6 := (hS.1).at_ (j := 6) rfl; have c0_7 := (hS.1).at_ (j := 7) rfl; have c0' := cell_nw hS.2 c0; have c1' := cell_nw hS.2 c1; have c2' := cell_nw hS.2 c2; have c3' := cell_nw hS.2 c3; have c4' := cell_nw hS.2 c4; have c5' := cell_nw hS.2 c5; have c6' := cell_nw hS.2 c6; have c7' := cell_nw hS.2 c7; clear hS; first | (go_simp; done) | (go_simp; with_reducible rfl))
                            try simp only [Act.put, List.setIfInBounds_toArray, List.set_cons_zero, List.set_cons_succ]
                            refine wpAnyH_take (i := 2) (oi := ⟨some 105, _, _, _, _, _⟩) (v := ?_) rfl (by kernel_rfl) (by kernel_rfl) (by kernel_rfl) (fun _ _ _ h => h) (Or.inl ⟨by kernel_rfl, ?_⟩) hHeld ?_
                            rotate_left
                            focus (intro W hS; have c0_0 := (hS.1).at_ (j := 0) rfl; have c0_1 := (hS.1).at_ (j := 1) rfl; have c0_2 := (hS.1).at_ (j := 2) rfl; have c0_3 := (hS.1).at_ (j := 3) rfl; have c0_4 := (hS.1).at_ (j := 4) rfl; have c0_5 := (hS.1).at_ (j := 5) rfl; have c0_6 := (hS.1).at_ (j := 6) rfl; have c0_7 := (hS.1).at_ (j := 7) rfl; have c0' := cell_nw hS.2 c0; have c1' := cell_nw hS.2 c1; have c2' := cell_nw hS.2 c2; have c3' := cell_nw hS.2 c3; have c4' := cell_nw hS.2 c4; have c5' := cell_nw hS.2 c5; have c6' := cell_nw hS.2 c6; have c7' := cell_nw hS.2 c7; clear hS; first | (go_simp; done) | (go_simp; with_reducible rfl))
                            try simp only [Act.put, List.setIfInBounds_toArray, List.set_cons_zero, List.set_cons_succ]
                            refine wpAnyH_take (i := 3) (oi := ⟨some 106, _, _, _, _, _⟩) (v := ?_) rfl (by kernel_rfl) (by kernel_rfl) (by kernel_rfl) (fun _ _ _ h => h) (Or.inl ⟨by kernel_rfl, ?_⟩) hHeld ?_
                            rotate_left
                            focus (intro W hS; have c0_0 := (hS.1).at_ (j := 0) rfl; have c0_1 := (hS.1).at_ (j := 1) rfl; have c0_2 := (hS.1).at_ (j := 2) rfl; have c0_3 := (hS.1).at_ (j := 3) rfl; have c0_4 := (hS.1).at_ (j := 4) rfl; have c0_5 := (hS.1).at_ (j := 5) rfl; have c0_6 := (hS.1).at_ (j := 6) rfl; have c0_7 := (hS.1).at_ (j := 7) rfl; have c0' := cell_nw hS.2 c0; have c1' := cell_nw hS.2 c1; have c2' := cell_nw hS.2 c2; have c3' := cell_nw hS.2 c3; have c4' := cell_nw hS.2 c4; have c5' := cell_nw hS.2 c5; have c6' := cell_nw hS.2 c6; have c7' := cell_nw hS.2 c7; clear hS; first | (go_simp; done) | (go_simp; with_reducible rfl))
                            try simp only [Act.put, List.setIfInBounds_toArray, List.set_cons_zero, List.set_cons_succ]
                            refine wpAnyH_take (i := 4) (oi := ⟨some 107, _, _, _, _, _⟩) (v := ?_) rfl (by kernel_rfl) (by kernel_rfl) (by kernel_rfl) (fun _ _ _ h => h) (Or.inl ⟨by kernel_rfl, ?_⟩) hHeld ?_
                            rotate_left
                            focus (intro W hS; have c0_0 := (hS.1).at_ (j := 0) rfl; have c0_1 := (hS.1).at_ (j := 1) rfl; have c0_2 := (hS.1).at_ (j := 2) rfl; have c0_3 := (hS.1).at_ (j := 3) rfl; have c0_4 := (hS.1).at_ (j := 4) rfl; have c0_5 := (hS.1).at_ (j := 5) rfl; have c0_6 := (hS.1).at_ (j := 6) rfl; have c0_7 := (hS.1).at_ (j := 7) rfl; have c0' := cell_nw hS.2 c0; have c1' := cell_nw hS.2 c1; have c2' := cell_nw hS.2 c2; have c3' := cell_nw hS.2 c3; have c4' := cell_nw hS.2 c4; have c5' := cell_nw hS.2 c5; have c6' := cell_nw hS.2 c6; have c7' := cell_nw hS.2 c7; clear hS; first | (go_simp; done) | (go_simp; with_reducible rfl))
                            try simp only [Act.put, List.setIfInBounds_toArray, List.set_cons_zero, List.set_cons_succ]
                            refine wpAnyH_ready (rs := [5]) (by kernel_rfl) (by simp) ?_
                            refine AllReadyH.cons (o := ⟨some 108, _, _, _, _, _⟩) rfl (fun K hK => ?_) AllReadyH.nil
                            go_simp
                            refine Calls.mono (C0.out _) ?_
                            rintro e x1 ⟨rfl, hb1⟩
                            refine hK.out _ _ ⟨hHeld.1.new hb1, below_trans hHeld.2 hb1 (Nat.le_refl _)⟩ (fun hHeld' => ?_)
                            clear hK K hHeld hb1
                            have hHeld := hHeld'
                            clear hHeld'
                            try simp only [Act.put, List.setIfInBounds_toArray, List.set_cons_zero, List.set_cons_succ]
                            cases r
                            · skip
                              refine wpAnyH_take (i := 6) (oi := ⟨some 109, _, _, _, _, _⟩) (v := ?_) rfl (by kernel_rfl) (by kernel_rfl) (by kernel_rfl) (fun _ _ _ h => h) (Or.inl ⟨by kernel_rfl, ?_⟩) hHeld ?_
                              rotate_left
                              focus (intro W hS; have c0_0 := (hS.1).at_ (j := 0) rfl; have c0_1 := (hS.1).at_ (j := 1) rfl; have c0_2 := (hS.1).at_ (j := 2) rfl; have c0_3 := (hS.1).at_ (j := 3) rfl; have c0_4 := (hS.1).at_ (j := 4) rfl; have c0_5 := (hS.1).at_ (j := 5) rfl; have c0_6 := (hS.1).at_ (j := 6) rfl; have c0_7 := (hS.1).at_ (j := 7) rfl; have c0' := cell_nw hS.2 c0; have c1' := cell_nw hS.2 c1; have c2' := cell_nw hS.2 c2; have c3' := cell_nw hS.2 c3; have c4' := cell_nw hS.2 c4; have c5' := cell_nw hS.2 c5; have c6' := cell_nw hS.2 c6; have c7' := cell_nw hS.2 c7; clear hS; first | (go_simp; done) | (go_simp; with_reducible rfl))
                              try simp only [Act.put, List.setIfInBounds_toArray, List.set_cons_zero, List.set_cons_succ]
                              refine wpAnyH_take (i := 7) (oi := ⟨some 110, _, _, _, _, _⟩) (v := ?_) rfl (by kernel_rfl) (by kernel_rfl) (by kernel_rfl) (fun _ _ _ h => h) (Or.inl ⟨by kernel_rfl, ?_⟩) hHeld ?_
                              rotate_left
                              focus (intro W hS; have c0_0 := (hS.1).at_ (j := 0) rfl; have c0_1 := (hS.1).at_ (j := 1) rfl; have c0_2 := (hS.1).at_ (j := 2) rfl; have c0_3 := (hS.1).at_ (j := 3) rfl; have c0_4 := (hS.1).at_ (j := 4) rfl; have c0_5 := (hS.1).at_ (j := 5) rfl; have c0_6 := (hS.1).at_ (j := 6) rfl; have c0_7 := (hS.1).at_ (j := 7) rfl; have c0' := cell_nw hS.2 c0; have c1' := cell_nw hS.2 c1; have c2' := cell_nw hS.2 c2; have c3' := cell_nw hS.2 c3; have c4' := cell_nw hS.2 c4; have c5' := cell_nw hS.2 c5; have c6' := cell_nw hS.2 c6; have c7' := cell_nw hS.2 c7; clear hS; first | (go_simp; done) | (go_simp; with_reducible rfl))
                              try simp only [Act.put, List.setIfInBounds_toArray, List.set_cons_zero, List.set_cons_succ]
                              refine wpAnyH_take (i := 8) (oi := ⟨some 111, _, _, _, _, _⟩) (v := undef) rfl (by kernel_rfl) (by kernel_rfl) (by kernel_rfl) (fun _ _ _ h => h) (Or.inr ⟨by kernel_rfl, rfl⟩) hHeld ?_
                              try simp only [Act.put, List.setIfInBounds_toArray, List.set_cons_zero, List.set_cons_succ]
                              refine wpAnyH_take (i := 9) (oi := ⟨some 112, _, _, _, _, _⟩) (v := undef) rfl (by kernel_rfl) (by kernel_rfl) (by kernel_rfl) (fun _ _ _ h => h) (Or.inr ⟨by kernel_rfl, rfl⟩) hHeld ?_
                              try simp only [Act.put, List.setIfInBounds_toArray, List.set_cons_zero, List.set_cons_succ]
                              refine wpAnyH_take (i := 10) (oi := ⟨some 113, _, _, _, _, _⟩) (v := undef) rfl (by kernel_rfl) (by kernel_rfl) (by kernel_rfl) (fun _ _ _ h => h) (Or.inr ⟨by kernel_rfl, rfl⟩) hHeld ?_
                              try simp only [Act.put, List.setIfInBounds_toArray, List.set_cons_zero, List.set_cons_succ]
                              refine wpAnyH_take (i := 11) (oi := ⟨some 114, _, _, _, _, _⟩) (v := undef) rfl (by kernel_rfl) (by kernel_rfl) (by kernel_rfl) (fun _ _ _ h => h) (Or.inr ⟨by kernel_rfl, rfl⟩) hHeld ?_
                              try simp only [Act.put, List.setIfInBounds_toArray, List.set_cons_zero, List.set_cons_succ]
                              refine wpAnyH_take (i := 12) (oi := ⟨some 115, _, _, _, _, _⟩) (v := undef) rfl (by kernel_rfl) (by kernel_rfl) (by kernel_rfl) (fun _ _ _ h => h) (Or.inr ⟨by kernel_rfl, rfl⟩) hHeld ?_
                              try simp only [Act.put, List.setIfInBounds_toArray, List.set_cons_zero, List.set_cons_succ]
                              refine wpAnyH_take (i := 13) (oi := ⟨some 116, _, _, _, _, _⟩) (v := undef) rfl (by kernel_rfl) (by kernel_rfl) (by kernel_rfl) (fun _ _ _ h => h) (Or.inr ⟨by kernel_rfl, rfl⟩) hHeld ?_
                              try simp only [Act.put, List.setIfInBounds_toArray, List.set_cons_zero, List.set_cons_succ]
                              refine wpAnyH_take (i := 14) (oi := ⟨some 117, _, _, _, _, _⟩) (v := undef) rfl (by kernel_rfl) (by kernel_rfl) (by kernel_rfl) (fun _ _ _ h => h) (Or.inr ⟨by kernel_rfl, rfl⟩) hHeld ?_
                              try simp only [Act.put, List.setIfInBounds_toArray, List.set_cons_zero, List.set_cons_succ]
                              refine wpAnyH_take (i := 15) (oi := ⟨some 118, _, _, _, _, _⟩) (v := undef) rfl (by kernel_rfl) (by kernel_rfl) (by kernel_rfl) (fun _ _ _ h => h) (Or.inr ⟨by kernel_rfl, rfl⟩) hHeld ?_
                              try simp only [Act.put, List.setIfInBounds_toArray, List.set_cons_zero, List.set_cons_succ]
                              refine wpAnyH_take (i := 16) (oi := ⟨some 119, _, _, _, _, _⟩) (v := undef) rfl (by kernel_rfl) (by kernel_rfl) (by kernel_rfl) (fun _ _ _ h => h) (Or.inr ⟨by kernel_rfl, rfl⟩) hHeld ?_
                              try simp only [Act.put, List.setIfInBounds_toArray, List.set_cons_zero, List.set_cons_succ]
                              refine wpAnyH_take (i := 17) (oi := ⟨some 120, _, _, _, _, _⟩) (v := ?_) rfl (by kernel_rfl) (by kernel_rfl) (by kernel_rfl) (fun _ _ _ h => h) (Or.inl ⟨by kernel_rfl, ?_⟩) hHeld ?_
                              rotate_left
                              focus (intro W hS; have c0_0 := (hS.1).at_ (j := 0) rfl; have c0_1 := (hS.1).at_ (j := 1) rfl; have c0_2 := (hS.1).at_ (j := 2) rfl; have c0_3 := (hS.1).at_ (j := 3) rfl; have c0_4 := (hS.1).at_ (j := 4) rfl; have c0_5 := (hS.1).at_ (j := 5) rfl; have c0_6 := (hS.1).at_ (j := 6) rfl; have c0_7 := (hS.1).at_ (j := 7) rfl; have c0' := cell_nw hS.2 c0; have c1' := cell_nw hS.2 c1; have c2' := cell_nw hS.2 c2; have c3' := cell_nw hS.2 c3; have c4' := cell_nw hS.2 c4; have c5' := cell_nw hS.2 c5; have c6' := cell_nw hS.2 c6; have c7' := cell_nw hS.2 c7; clear hS; first | (go_simp; done) | (go_simp; with_reducible rfl))
                              try simp only [Act.put, List.setIfInBounds_toArray, List.set_cons_zero, List.set_cons_succ]
                              refine wpAnyH_done (by kernel_rfl) ?_ _
                              have KB2 := Lib.hid hHeld.1
                              have HB2 := Lib.hid (below_trans HB.out hHeld.2 (Nat.le_refl _))
                              clear hHeld
                              have HE := Lib.hid (HAf.out (by rw [HX.out]; rfl))
                              go_wp2_with fail
                              go_ret
                              exact ⟨by rw [show mIsPack p0_0 p0_1 p0_2 l0_3 l0_4 l0_5 l0_6 = false by simp only [mIsPack, mPkG, mPkF, mPkR, HE.out, Bool.and_false, Bool.false_and, Bool.true_and]]; rfl, HB2.out⟩
                            · skip
                              refine wpAnyH_take (i := 6) (oi := ⟨some 109, _, _, _, _, _⟩) (v := ?_) rfl (by kernel_rfl) (by kernel_rfl) (by kernel_rfl) (fun _ _ _ h => h) (Or.inl ⟨by kernel_rfl, ?_⟩) hHeld ?_
                              rotate_left
                              focus (intro W hS; have c0_0 := (hS.1).at_ (j := 0) rfl; have c0_1 := (hS.1).at_ (j := 1) rfl; have c0_2 := (hS.1).at_ (j := 2) rfl; have c0_3 := (hS.1).at_ (j := 3) rfl; have c0_4 := (hS.1).at_ (j := 4) rfl; have c0_5 := (hS.1).at_ (j := 5) rfl; have c0_6 := (hS.1).at_ (j := 6) rfl; have c0_7 := (hS.1).at_ (j := 7) rfl; have c0' := cell_nw hS.2 c0; have c1' := cell_nw hS.2 c1; have c2' := cell_nw hS.2 c2; have c3' := cell_nw hS.2 c3; have c4' := cell_nw hS.2 c4; have c5' := cell_nw hS.2 c5; have c6' := cell_nw hS.2 c6; have c7' := cell_nw hS.2 c7; clear hS; first | (go_simp; done) | (go_simp; with_reducible rfl))
                              try simp only [Act.put, List.setIfInBounds_toArray, List.set_cons_zero, List.set_cons_succ]
                              refine wpAnyH_take (i := 7) (oi := ⟨some 110, _, _, _, _, _⟩) (v := ?_) rfl (by kernel_rfl) (by kernel_rfl) (by kernel_rfl) (fun _ _ _ h => h) (Or.inl ⟨by kernel_rfl, ?_⟩) hHeld ?_
                              rotate_left
                              focus (intro W hS; have c0_0 := (hS.1).at_ (j := 0) rfl; have c0_1 := (hS.1).at_ (j := 1) rfl; have c0_2 := (hS.1).at_ (j := 2) rfl; have c0_3 := (hS.1).at_ (j := 3) rfl; have c0_4 := (hS.1).at_ (j := 4) rfl; have c0_5 := (hS.1).at_ (j := 5) rfl; have c0_6 := (hS.1).at_ (j := 6) rfl; have c0_7 := (hS.1).at_ (j := 7) rfl; have c0' := cell_nw hS.2 c0; have c1' := cell_nw hS.2 c1; have c2' := cell_nw hS.2 c2; have c3' := cell_nw hS.2 c3; have c4' := cell_nw hS.2 c4; have c5' := cell_nw hS.2 c5; have c6' := cell_nw hS.2 c6; have c7' := cell_nw hS.2 c7; clear hS; first | (go_simp; done) | (go_simp; with_reducible rfl))
                              try simp only [Act.put, List.setIfInBounds_toArray, List.set_cons_zero, List.set_cons_succ]
                              refine wpAnyH_take (i := 8) (oi := ⟨some 111, _, _, _, _, _⟩) (v := ?_) rfl (by kernel_rfl) (by kernel_rfl) (by kernel_rfl) (fun _ _ _ h => h) (Or.inl ⟨by kernel_rfl, ?_⟩) hHeld ?_
                              rotate_left
                              focus (intro W hS; have c0_0 := (hS.1).at_ (j := 0) rfl; have c0_1 := (hS.1).at_ (j := 1) rfl; have c0_2 := (hS.1).at_ (j := 2) rfl; have c0_3 := (hS.1).at_ (j := 3) rfl; have c0_4 := (hS.1).at_ (j := 4) rfl; have c0_5 := (hS.1).at_ (j := 5) rfl; have c0_6 := (hS.1).at_ (j := 6) rfl; have c0_7 := (hS.1).at_ (j := 7) rfl; have c0' := cell_nw hS.2 c0; have c1' := cell_nw hS.2 c1; have c2' := cell_nw hS.2 c2; have c3' := cell_nw hS.2 c3; have c4' := cell_nw hS.2 c4; have c5' := cell_nw hS.2 c5; have c6' := cell_nw hS.2 c6; have c7' := cell_nw hS.2 c7; clear hS; first | (go_simp; done) | (go_simp; with_reducible rfl))
                              try simp only [Act.put, List.setIfInBounds_toArray, List.set_cons_zero, List.set_cons_succ]
                              refine wpAnyH_take (i := 9) (oi := ⟨some 112, _, _, _, _, _⟩) (v := ?_) rfl (by kernel_rfl) (by kernel_rfl) (by kernel_rfl) (fun _ _ _ h => h) (Or.inl ⟨by kernel_rfl, ?_⟩) hHeld ?_
                              rotate_left
                              focus (intro W hS; have c0_0 := (hS.1).at_ (j := 0) rfl; have c0_1 := (hS.1).at_ (j := 1) rfl; have c0_2 := (hS.1).at_ (j := 2) rfl; have c0_3 := (hS.1).at_ (j := 3) rfl; have c0_4 := (hS.1).at_ (j := 4) rfl; have c0_5 := (hS.1).at_ (j := 5) rfl; have c0_6 := (hS.1).at_ (j := 6) rfl; have c0_7 := (hS.1).at_ (j := 7) rfl; have c0' := cell_nw hS.2 c0; have c1' := cell_nw hS.2 c1; have c2' := cell_nw hS.2 c2; have c3' := cell_nw hS.2 c3; have c4' := cell_nw hS.2 c4; have c5' := cell_nw hS.2 c5; have c6' := cell_nw hS.2 c6; have c7' := cell_nw hS.2 c7; clear hS; first | (go_simp; done) | (go_simp; with_reducible rfl))
                              try simp only [Act.put, List.setIfInBounds_toArray, List.set_cons_zero, List.set_cons_succ]
                              refine wpAnyH_take (i := 10) (oi := ⟨some 113, _, _, _, _, _⟩) (v := ?_) rfl (by kernel_rfl) (by kernel_rfl) (by kernel_rfl) (fun _ _ _ h => h) (Or.inl ⟨by kernel_rfl, ?_⟩) hHeld ?_
                              rotate_left
                              focus (intro W hS; have c0_0 := (hS.1).at_ (j := 0) rfl; have c0_1 := (hS.1).at_ (j := 1) rfl; have c0_2 := (hS.1).at_ (j := 2) rfl; have c0_3 := (hS.1).at_ (j := 3) rfl; have c0_4 := (hS.1).at_ (j := 4) rfl; have c0_5 := (hS.1).at_ (j := 5) rfl; have c0_6 := (hS.1).at_ (j := 6) rfl; have c0_7 := (hS.1).at_ (j := 7) rfl; have c0' := cell_nw hS.2 c0; have c1' := cell_nw hS.2 c1; have c2' := cell_nw hS.2 c2; have c3' := cell_nw hS.2 c3; have c4' := cell_nw hS.2 c4; have c5' := cell_nw hS.2 c5; have c6' := cell_nw hS.2 c6; have c7' := cell_nw hS.2 c7; clear hS; first | (go_simp; done) | (go_simp; with_reducible rfl))
                              try simp only [Act.put, List.setIfInBounds_toArray, List.set_cons_zero, List.set_cons_succ]
                              refine wpAnyH_take (i := 11) (oi := ⟨some 114, _, _, _, _, _⟩) (v := ?_) rfl (by kernel_rfl) (by kernel_rfl) (by kernel_rfl) (fun _ _ _ h => h) (Or.inl ⟨by kernel_rfl, ?_⟩) hHeld ?_
                              rotate_left
                              focus (intro W hS; have c0_0 := (hS.1).at_ (j := 0) rfl; have c0_1 := (hS.1).at_ (j := 1) rfl; have c0_2 := (hS.1).at_ (j := 2) rfl; have c0_3 := (hS.1).at_ (j := 3) rfl; have c0_4 := (hS.1).at_ (j := 4) rfl; have c0_5 := (hS.1).at_ (j := 5) rfl; have c0_6 := (hS.1).at_ (j := 6) rfl; have c0_7 := (hS.1).at_ (j := 7) rfl; have c0' := cell_nw hS.2 c0; have c1' := cell_nw hS.2 c1; have c2' := cell_nw hS.2 c2; have c3' := cell_nw hS.2 c3; have c4' := cell_nw hS.2 c4; have c5' := cell_nw hS.2 c5; have c6' := cell_nw hS.2 c6; have c7' := cell_nw hS.2 c7; clear hS; first | (go_simp; done) | (go_simp; with_reducible rfl))
                              try simp only [Act.put, List.setIfInBounds_toArray, List.set_cons_zero, List.set_cons_succ]
                              refine wpAnyH_take (i := 12) (oi := ⟨some 115, _, _, _, _, _⟩) (v := ?_) rfl (by kernel_rfl) (by kernel_rfl) (by kernel_rfl) (fun _ _ _ h => h) (Or.inl ⟨by kernel_rfl, ?_⟩) hHeld ?_
                              rotate_left
                              focus (intro W hS; have c0_0 := (hS.1).at_ (j := 0) rfl; have c0_1 := (hS.1).at_ (j := 1) rfl; have c0_2 := (hS.1).at_ (j := 2) rfl; have c0_3 := (hS.1).at_ (j := 3) rfl; have c0_4 := (hS.1).at_ (j := 4) rfl; have c0_5 := (hS.1).at_ (j := 5) rfl; have c0_6 := (hS.1).at_ (j := 6) rfl; have c0_7 := (hS.1).at_ (j := 7) rfl; have c0' := cell_nw hS.2 c0; have c1' := cell_nw hS.2 c1; have c2' := cell_nw hS.2 c2; have c3' := cell_nw hS.2 c3; have c4' := cell_nw hS.2 c4; have c5' := cell_nw hS.2 c5; have c6' := cell_nw hS.2 c6; have c7' := cell_nw hS.2 c7; clear hS; first | (go_simp; done) | (go_simp; with_reducible rfl))
                              try simp only [Act.put, List.setIfInBounds_toArray, List.set_cons_zero, List.set_cons_succ]
                              refine wpAnyH_take (i := 13) (oi := ⟨some 116, _, _, _, _, _⟩) (v := ?_) rfl (by kernel_rfl) (by kernel_rfl) (by kernel_rfl) (fun _ _ _ h => h) (Or.inl ⟨by kernel_rfl, ?_⟩) hHeld ?_
                              rotate_left
                              focus (intro W hS; have c0_0 := (hS.1).at_ (j := 0) rfl; have c0_1 := (hS.1).at_ (j := 1) rfl; have c0_2 := (hS.1).at_ (j := 2) rfl; have c0_3 := (hS.1).at_ (j := 3) rfl; have c0_4 := (hS.1).at_ (j := 4) rfl; have c0_5 := (hS.1).at_ (j := 5) rfl; have c0_6 := (hS.1).at_ (j := 6) rfl; have c0_7 := (hS.1).at_ (j := 7) rfl; have c0' := cell_nw hS.2 c0; have c1' := cell_nw hS.2 c1; have c2' := cell_nw hS.2 c2; have c3' := cell_nw hS.2 c3; have c4' := cell_nw hS.2 c4; have c5' := cell_nw hS.2 c5; have c6' := cell_nw hS.2 c6; have c7' := cell_nw hS.2 c7; clear hS; first | (go_simp; done) | (go_simp; with_reducible rfl))
                              try simp only [Act.put, List.setIfInBounds_toArray, List.set_cons_zero, List.set_cons_succ]
                              refine wpAnyH_take (i := 14) (oi := ⟨some 117, _, _, _, _, _⟩) (v := ?_) rfl (by kernel_rfl) (by kernel_rfl) (by kernel_rfl) (fun _ _ _ h => h) (Or.inl ⟨by kernel_rfl, ?_⟩) hHeld ?_
                              rotate_left
                              focus (intro W hS; have c0_0 := (hS.1).at_ (j := 0) rfl; have c0_1 := (hS.1).at_ (j := 1) rfl; have c0_2 := (hS.1).at_ (j := 2) rfl; have c0_3 := (hS.1).at_ (j := 3) rfl; have c0_4 := (hS.1).at_ (j := 4) rfl; have c0_5 := (hS.1).at_ (j := 5) rfl; have c0_6 := (hS.1).at_ (j := 6) rfl; have c0_7 := (hS.1).at_ (j := 7) rfl; have c0' := cell_nw hS.2 c0; have c1' := cell_nw hS.2 c1; have c2' := cell_nw hS.2 c2; have c3' := cell_nw hS.2 c3; have c4' := cell_nw hS.2 c4; have c5' := cell_nw hS.2 c5; have c6' := cell_nw hS.2 c6; have c7' := cell_nw hS.2 c7; clear hS; first | (go_simp; done) | (go_simp; with_reducible rfl))
                              try simp only [Act.put, List.setIfInBounds_toArray, List.set_cons_zero, List.set_cons_succ]
                              refine wpAnyH_take (i := 15) (oi := ⟨some 118, _, _, _, _, _⟩) (v := ?_) rfl (by kernel_rfl) (by kernel_rfl) (by kernel_rfl) (fun _ _ _ h => h) (Or.inl ⟨by kernel_rfl, ?_⟩) hHeld ?_
                              rotate_left
                              focus (intro W hS; have c0_0 := (hS.1).at_ (j := 0) rfl; have c0_1 := (hS.1).at_ (j := 1) rfl; have c0_2 := (hS.1).at_ (j := 2) rfl; have c0_3 := (hS.1).at_ (j := 3) rfl; have c0_4 := (hS.1).at_ (j := 4) rfl; have c0_5 := (hS.1).at_ (j := 5) rfl; have c0_6 := (hS.1).at_ (j := 6) rfl; have c0_7 := (hS.1).at_ (j := 7) rfl; have c0' := cell_nw hS.2 c0; have c1' := cell_nw hS.2 c1; have c2' := cell_nw hS.2 c2; have c3' := cell_nw hS.2 c3; have c4' := cell_nw hS.2 c4; have c5' := cell_nw hS.2 c5; have c6' := cell_nw hS.2 c6; have c7' := cell_nw hS.2 c7; clear hS; first | (go_simp; done) | (go_simp; with_reducible rfl))
                              try simp only [Act.put, List.setIfInBounds_toArray, List.set_cons_zero, List.set_cons_succ]
                              by_cases e16 : ((x.f0 != p0_0)) = true
                              · skip
                                refine wpAnyH_take (i := 16) (oi := ⟨some 119, _, _, _, _, _⟩) (v := ?_) rfl (by kernel_rfl) (by kernel_rfl) (by kernel_rfl) (fun _ _ _ h => h) (Or.inl ⟨by kernel_rfl, ?_⟩) hHeld ?_
                                rotate_left
                                focus (intro W hS; have c0_0 := (hS.1).at_ (j := 0) rfl; have c0_1 := (hS.1).at_ (j := 1) rfl; have c0_2 := (hS.1).at_ (j := 2) rfl; have c0_3 := (hS.1).at_ (j := 3) rfl; have c0_4 := (hS.1).at_ (j := 4) rfl; have c0_5 := (hS.1).at_ (j := 5) rfl; have c0_6 := (hS.1).at_ (j := 6) rfl; have c0_7 := (hS.1).at_ (j := 7) rfl; have c0' := cell_nw hS.2 c0; have c1' := cell_nw hS.2 c1; have c2' := cell_nw hS.2 c2; have c3' := cell_nw hS.2 c3; have c4' := cell_nw hS.2 c4; have c5' := cell_nw hS.2 c5; have c6' := cell_nw hS.2 c6; have c7' := cell_nw hS.2 c7; clear hS; first | (go_simp; done) | (go_simp; with_reducible rfl))
                                try simp only [Act.put, List.setIfInBounds_toArray, List.set_cons_zero, List.set_cons_succ]
                                refine wpAnyH_take (i := 17) (oi := ⟨some 120, _, _, _, _, _⟩) (v := ?_) rfl (by kernel_rfl) (by kernel_rfl) (by kernel_rfl) (fun _ _ _ h => h) (Or.inl ⟨by kernel_rfl, ?_⟩) hHeld ?_
                                rotate_left
                                focus (intro W hS; have c0_0 := (hS.1).at_ (j := 0) rfl; have c0_1 := (hS.1).at_ (j := 1) rfl; have c0_2 := (hS.1).at_ (j := 2) rfl; have c0_3 := (hS.1).at_ (j := 3) rfl; have c0_4 := (hS.1).at_ (j := 4) rfl; have c0_5 := (hS.1).at_ (j := 5) rfl; have c0_6 := (hS.1).at_ (j := 6) rfl; have c0_7 := (hS.1).at_ (j := 7) rfl; have c0' := cell_nw hS.2 c0; have c1' := cell_nw hS.2 c1; have c2' := cell_nw hS.2 c2; have c3' := cell_nw hS.2 c3; have c4' := cell_nw hS.2 c4; have c5' := cell_nw hS.2 c5; have c6' := cell_nw hS.2 c6; have c7' := cell_nw hS.2 c7; clear hS; first | (go_simp; done) | (go_simp; with_reducible rfl))
                                try simp only [Act.put, List.setIfInBounds_toArray, List.set_cons_zero, List.set_cons_succ]
                                refine wpAnyH_done (by kernel_rfl) ?_ _
                                have KB2 := Lib.hid hHeld.1
                                have HB2 := Lib.hid (below_trans HB.out hHeld.2 (Nat.le_refl _))
                                clear hHeld
                                have HE := Lib.hid (HAf.out (by rw [HX.out]; simpa using e16))
                                go_wp2_with fail
                                go_ret
                                exact ⟨by rw [show mIsPack p0_0 p0_1 p0_2 l0_3 l0_4 l0_5 l0_6 = false by simp only [mIsPack, mPkG, mPkF, mPkR, HE.out, Bool.and_false, Bool.false_and, Bool.true_and]]; rfl, HB2.out⟩
                              · have e16 : ((x.f0 != p0_0)) = false := by simpa using e16
                                refine wpAnyH_take (i := 16) (oi := ⟨some 119, _, _, _, _, _⟩) (v := ?_) rfl (by kernel_rfl) (by kernel_rfl) (by kernel_rfl) (fun _ _ _ h => h) (Or.inl ⟨by kernel_rfl, ?_⟩) hHeld ?_
                                rotate_left
                                focus (intro W hS; have c0_0 := (hS.1).at_ (j := 0) rfl; have c0_1 := (hS.1).at_ (j := 1) rfl; have c0_2 := (hS.1).at_ (j := 2) rfl; have c0_3 := (hS.1).at_ (j := 3) rfl; have c0_4 := (hS.1).at_ (j := 4) rfl; have c0_5 := (hS.1).at_ (j := 5) rfl; have c0_6 := (hS.1).at_ (j := 6) rfl; have c0_7 := (hS.1).at_ (j := 7) rfl; have c0' := cell_nw hS.2 c0; have c1' := cell_nw hS.2 c1; have c2' := cell_nw hS.2 c2; have c3' := cell_nw hS.2 c3; have c4' := cell_nw hS.2 c4; have c5' := cell_nw hS.2 c5; have c6' := cell_nw hS.2 c6; have c7' := cell_nw hS.2 c7; clear hS; first | (go_simp; done) | (go_simp; with_reducible rfl))
                                try simp only [Act.put, List.setIfInBounds_toArray, List.set_cons_zero, List.set_cons_succ]
                                refine wpAnyH_take (i := 17) (oi := ⟨some 120, _, _, _, _, _⟩) (v := ?_) rfl (by kernel_rfl) (by kernel_rfl) (by kernel_rfl) (fun _ _ _ h => h) (Or.inl ⟨by kernel_rfl, ?_⟩) hHeld ?_
                                rotate_left
                                focus (intro W hS; have c0_0 := (hS.1).at_ (j := 0) rfl; have c0_1 := (hS.1).at_ (j := 1) rfl; have c0_2 := (hS.1).at_ (j := 2) rfl; have c0_3 := (hS.1).at_ (j := 3) rfl; have c0_4 := (hS.1).at_ (j := 4) rfl; have c0_5 := (hS.1).at_ (j := 5) rfl; have c0_6 := (hS.1).at_ (j := 6) rfl; have c0_7 := (hS.1).at_ (j := 7) rfl; have c0' := cell_nw hS.2 c0; have c1' := cell_nw hS.2 c1; have c2' := cell_nw hS.2 c2; have c3' := cell_nw hS.2 c3; have c4' := cell_nw hS.2 c4; have c5' := cell_nw hS.2 c5; have c6' := cell_nw hS.2 c6; have c7' := cell_nw hS.2 c7; clear hS; first | (go_simp; done) | (go_simp; with_reducible rfl))
                                try simp only [Act.put, List.setIfInBounds_toArray, List.set_cons_zero, List.set_cons_succ]
                                refine wpAnyH_done (by kernel_rfl) ?_ _
                                have KB2 := Lib.hid hHeld.1
                                have HB2 := Lib.hid (below_trans HB.out hHeld.2 (Nat.le_refl _))
                                clear hHeld
                                have HE := Lib.hid (HAt.out (by rw [HX.out]; simpa using e16))
                                go_wp2_with fail
                                go_roundg (n0_5 - (k + 1))
                                case measure => omega
                                case rel => exact ⟨k + 1, by omega, by omega, by go_num, HE, KB2, HB2⟩
                          · obtain rfl : n0_5 = k := by omega
                            have HAR := Lib.hid (show l0_5.all (pPkR p0_0) = true by have := HA.out; rwa [List.take_of_length_le (by rw [HL0_5.out]; omega)] at this)
                            clear HA
                            have eb0 := KB0.out.at_ (j := 0) rfl
                            have eb1 := KB0.out.at_ (j := 1) rfl
                            have eb2 := KB0.out.at_ (j := 2) rfl
                            have eb3 := KB0.out.at_ (j := 3) rfl
                            have eb4 := KB0.out.at_ (j := 4) rfl
                            have eb5 := KB0.out.at_ (j := 5) rfl
                            have eb6 := KB0.out.at_ (j := 6) rfl
                            have eb7 := KB0.out.at_ (j := 7) rfl
                            go_wp2_with fail
                            go_ret
                            exact ⟨by rw [show mIsPack p0_0 p0_1 p0_2 l0_3 l0_4 l0_5 l0_6 = true by simp only [mIsPack, mPkG, mPkF, mPkR, Q0.out, Q1.out, Q2.out, Q3.out, Q4.out, Q5.out, Q6.out, HAG.out, HAF.out, HAR.out, Bool.and_true, Bool.true_and]]; rfl, HB.out⟩
              | false =>
                have Q6 := Lib.hid q6
                clear q6
                have eb0 := KB0.out.at_ (j := 0) rfl
                have eb1 := KB0.out.at_ (j := 1) rfl
                have eb2 := KB0.out.at_ (j := 2) rfl
                have eb3 := KB0.out.at_ (j := 3) rfl
                have eb4 := KB0.out.at_ (j := 4) rfl
                have eb5 := KB0.out.at_ (j := 5) rfl
                have eb6 := KB0.out.at_ (j := 6) rfl
                have eb7 := KB0.out.at_ (j := 7) rfl
                go_wp2_with fail
                clear eb0 eb1 eb2 eb3 eb4 eb5 eb6 eb7
                refine Calls.mono (spec_AreOps l0_6 A0_6 n0_6 c0_6 lo0_6 hi0_6 _ h0_6 (R0_6.out.new HB.out) k0_6 b0_6) ?_
                rw [Q6.out]
                rintro e v6 ⟨rfl, hb⟩
                replace KB0 := Lib.hid (KB0.out.new hb)
                replace HB := Lib.hid (below_trans HB.out hb (Nat.le_refl _))
                clear hb
                have eb0 := KB0.out.at_ (j := 0) rfl
                have eb1 := KB0.out.at_ (j := 1) rfl
                have eb2 := KB0.out.at_ (j := 2) rfl
                have eb3 := KB0.out.at_ (j := 3) rfl
                have eb4 := KB0.out.at_ (j := 4) rfl
                have eb5 := KB0.out.at_ (j := 5) rfl
                have eb6 := KB0.out.at_ (j := 6) rfl
                have eb7 := KB0.out.at_ (j := 7) rfl
                go_wp2_with fail
                go_ret
                exact ⟨by rw [show mIsPack p0_0 p0_1 p0_2 l0_3 l0_4 l0_5 l0_6 = false by simp only [mIsPack, mPkG, mPkF, mPkR, Q6.out, Bool.and_false, Bool.false_and, Bool.true_and]]; rfl, HB.out⟩
            | false =>
              have Q5 := Lib.hid q5
              clear q5
              have g5 : decide ((6 : Int) < (n0_5 : Int)) = true := by
                have h1 := Q5.out
                rw [HL0_5.out] at h1
                simp at h1 ⊢
                omega
              have eb0 := KB0.out.at_ (j := 0) rfl
              have eb1 := KB0.out.at_ (j := 1) rfl
              have eb2 := KB0.out.at_ (j := 2) rfl
              have eb3 := KB0.out.at_ (j := 3) rfl
              have eb4 := KB0.out.at_ (j := 4) rfl
              have eb5 := KB0.out.at_ (j := 5) rfl
              have eb6 := KB0.out.at_ (j := 6) rfl
              have eb7 := KB0.out.at_ (j := 7) rfl
              go_wp2_with fail
              go_ret
              exact ⟨by rw [show mIsPack p0_0 p0_1 p0_2 l0_3 l0_4 l0_5 l0_6 = false by simp only [mIsPack, mPkG, mPkF, mPkR, Q5.out, Bool.and_false, Bool.false_and, Bool.true_and]]; rfl, HB.out⟩
          | false =>
            have Q4 := Lib.hid q4
            clear q4
            have g4 : decide ((6 : Int) < (n0_4 : Int)) = true := by
              have h1 := Q4.out
              rw [HL0_4.out] at h1
              simp at h1 ⊢
              omega
            have eb0 := KB0.out.at_ (j := 0) rfl
            have eb1 := KB0.out.at_ (j := 1) rfl
            have eb2 := KB0.out.at_ (j := 2) rfl
            have eb3 := KB0.out.at_ (j := 3) rfl
            have eb4 := KB0.out.at_ (j := 4) rfl
            have eb5 := KB0.out.at_ (j := 5) rfl
            have eb6 := KB0.out.at_ (j := 6) rfl
            have eb7 := KB0.out.at_ (j := 7) rfl
            go_wp2_with fail
            go_ret
            exact ⟨by rw [show mIsPack p0_0 p0_1 p0_2 l0_3 l0_4 l0_5 l0_6 = false by simp only [mIsPack, mPkG, mPkF, mPkR, Q4.out, Bool.and_false, Bool.false_and, Bool.true_and]]; rfl, HB.out⟩
        | false =>
          have Q3 := Lib.hid q3
          clear q3
          have g3 : decide ((6 : Int) < (n0_3 : Int)) = true := by
            have h1 := Q3.out
            rw [HL0_3.out] at h1
            simp at h1 ⊢
            omega
          have eb0 := KB0.out.at_ (j := 0) rfl
          have eb1 := KB0.out.at_ (j := 1) rfl
          have eb2 := KB0.out.at_ (j := 2) rfl
          have eb3 := KB0.out.at_ (j := 3) rfl
          have eb4 := KB0.out.at_ (j := 4) rfl
          have eb5 := KB0.out.at_ (j := 5) rfl
          have eb6 := KB0.out.at_ (j := 6) rfl
          have eb7 := KB0.out.at_ (j := 7) rfl
          go_wp2_with fail
          go_ret
          exact ⟨by rw [show mIsPack p0_0 p0_1 p0_2 l0_3 l0_4 l0_5 l0_6 = false by simp only [mIsPack, mPkG, mPkF, mPkR, Q3.out, Bool.and_false, Bool.false_and, Bool.true_and]]; rfl, HB.out⟩
      | false =>
        have Q2 := Lib.hid q2
        clear q2
        have eb0 := KB0.out.at_ (j := 0) rfl
        have eb1 := KB0.out.at_ (j := 1) rfl
        have eb2 := KB0.out.at_ (j := 2) rfl
        have eb3 := KB0.out.at_ (j := 3) rfl
        have eb4 := KB0.out.at_ (j := 4) rfl
        have eb5 := KB0.out.at_ (j := 5) rfl
        have eb6 := KB0.out.at_ (j := 6) rfl
        have eb7 := KB0.out.at_ (j := 7) rfl
        go_wp2_with fail
        clear eb0 eb1 eb2 eb3 eb4 eb5 eb6 eb7
        refine Calls.mono (spec_in _ _ _ _) ?_
        rw [Q2.out]
        rintro e v2 ⟨rfl, rfl⟩
        have eb0 := KB0.out.at_ (j := 0) rfl
        have eb1 := KB0.out.at_ (j := 1) rfl
        have eb2 := KB0.out.at_ (j := 2) rfl
        have eb3 := KB0.out.at_ (j := 3) rfl
        have eb4 := KB0.out.at_ (j := 4) rfl
        have eb5 := KB0.out.at_ (j := 5) rfl
        have eb6 := KB0.out.at_ (j := 6) rfl
        have eb7 := KB0.out.at_ (j := 7) rfl
        go_wp2_with fail
        go_ret
        exact ⟨by rw [show mIsPack p0_0 p0_1 p0_2 l0_3 l0_4 l0_5 l0_6 = false by simp only [mIsPack, mPkG, mPkF, mPkR, Q2.out, Bool.and_false, Bool.false_and, Bool.true_and]]; rfl, HB.out⟩
    | false =>
      have Q1 := Lib.hid q1
      clear q1
      have eb0 := KB0.out.at_ (j := 0) rfl
      have eb1 := KB0.out.at_ (j := 1) rfl
      have eb2 := KB0.out.at_ (j := 2) rfl
      have eb3 := KB0.out.at_ (j := 3) rfl
      have eb4 := KB0.out.at_ (j := 4) rfl
      have eb5 := KB0.out.at_ (j := 5) rfl
      have eb6 := KB0.out.at_ (j := 6) rfl
      have eb7 := KB0.out.at_ (j := 7) rfl
      go_wp2_with fail
      clear eb0 eb1 eb2 eb3 eb4 eb5 eb6 eb7
      refine Calls.mono (spec_in _ _ _ _) ?_
      rw [Q1.out]
      rintro e v1 ⟨rfl, rfl⟩
      have eb0 := KB0.out.at_ (j := 0) rfl
      have eb1 := KB0.out.at_ (j := 1) rfl
      have eb2 := KB0.out.at_ (j := 2) rfl
      have eb3 := KB0.out.at_ (j := 3) rfl
      have eb4 := KB0.out.at_ (j := 4) rfl
      have eb5 := KB0.out.at_ (j := 5) rfl
      have eb6 := KB0.out.at_ (j := 6) rfl
      have eb7 := KB0.out.at_ (j := 7) rfl
      go_wp2_with fail
      go_ret
      exact ⟨by rw [show mIsPack p0_0 p0_1 p0_2 l0_3 l0_4 l0_5 l0_6 = false by simp only [mIsPack, mPkG, mPkF, mPkR, Q1.out, Bool.and_false, Bool.false_and, Bool.true_and]]; rfl, HB.out⟩
  | false =>
    have Q0 := Lib.hid q0
    clear q0
    have eb0 := KB0.out.at_ (j := 0) rfl
    have eb1 := KB0.out.at_ (j := 1) rfl
    have eb2 := KB0.out.at_ (j := 2) rfl
    have eb3 := KB0.out.at_ (j := 3) rfl
    have eb4 := KB0.out.at_ (j := 4) rfl
    have eb5 := KB0.out.at_ (j := 5) rfl
    have eb6 := KB0.out.at_ (j := 6) rfl
    have eb7 := KB0.out.at_ (j := 7) rfl
    go_wp2_with fail
    clear eb0 eb1 eb2 eb3 eb4 eb5 eb6 eb7
    refine Calls.mono (spec_in _ _ _ _) ?_
    rw [Q0.out]
    rintro e v0 ⟨rfl, rfl⟩
    have eb0 := KB0.out.at_ (j := 0) rfl
    have eb1 := KB0.out.at_ (j := 1) rfl
    have eb2 := KB0.out.at_ (j := 2) rfl
    have eb3 := KB0.out.at_ (j := 3) rfl
    have eb4 := KB0.out.at_ (j := 4) rfl
    have eb5 := KB0.out.at_ (j := 5) rfl
    have eb6 := KB0.out.at_ (j := 6) rfl
    have eb7 := KB0.out.at_ (j := 7) rfl
    go_wp2_with fail
    go_ret
    exact ⟨by rw [show mIsPack p0_0 p0_1 p0_2 l0_3 l0_4 l0_5 l0_6 = false by simp only [mIsPack, mPkG, mPkF, mPkR, Q0.out, Bool.and_false, Bool.false_and, Bool.true_and]]; rfl, HB.out⟩

end Go.Proofs.YtmelfgimhilhbaaGreatDoor
