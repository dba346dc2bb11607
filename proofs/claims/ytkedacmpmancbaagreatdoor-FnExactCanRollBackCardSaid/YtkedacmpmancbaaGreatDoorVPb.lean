/- IsPackS, PkS, SealP, IsSl, what is needed of it. -/
import Derived.Test.YtkedacmpmancbaaGreatDoorVFrame
import Derived.Test.YtkedacmpmancbaaGreatDoorVRgn
import Derived.Test.YtkedacmpmancbaaGreatDoorVPa
import Derived.Deep.LoopGhost
import Derived.Deep.RegionHeld3
import Derived.Handy
import Derived.Test.YtkedacmpmancbaaGreatDoorVApp0
import Derived.Test.YtkedacmpmancbaaGreatDoorVAppO
import Derived.Test.YtkedacmpmancbaaGreatDoorVSeal
import Derived.Test.YtkedacmpmancbaaGreatDoorVValid
namespace Go.Proofs.YtkedacmpmancbaaGreatDoor
open Go Go.ChangeShapes Go.WideShapes Go.ChangeAt Go.RowKit Go.Lib
set_option linter.unusedVariables false
set_option linter.unusedSimpArgs false
set_option maxRecDepth 100000
set_option maxHeartbeats 32000000 in
theorem spec_IsPackage (p0_0 : Int) (p0_1 : Int) (p0_2 : Int) (l0_3 : List TGrant) (A0_3 : Option Addr) (n0_3 c0_3 lo0_3 hi0_3 : Nat) (l0_4 : List TFlow) (A0_4 : Option Addr) (n0_4 c0_4 lo0_4 hi0_4 : Nat) (l0_5 : List TRule) (A0_5 : Option Addr) (n0_5 c0_5 lo0_5 hi0_5 : Nat) (l0_6 : List TOp) (A0_6 : Option Addr) (n0_6 c0_6 lo0_6 hi0_6 : Nat) (p0_7 : Int) (w : World) (h0_3 : n0_3 ≤ 1048576) (r0_3 : Rd w lo0_3 hi0_3 7 A0_3 n0_3 (cGrant l0_3)) (k0_3 : n0_3 ≤ c0_3) (b0_3 : Hid (cGrantOk l0_3)) (h0_4 : n0_4 ≤ 1048576) (r0_4 : Rd w lo0_4 hi0_4 3 A0_4 n0_4 (cFlow l0_4)) (k0_4 : n0_4 ≤ c0_4) (b0_4 : Hid (cFlowOk l0_4)) (h0_5 : n0_5 ≤ 1048576) (r0_5 : Rd w lo0_5 hi0_5 8 A0_5 n0_5 (cRule l0_5)) (k0_5 : n0_5 ≤ c0_5) (b0_5 : Hid (cRuleOk l0_5)) (h0_6 : n0_6 ≤ 1048576) (r0_6 : Rd w lo0_6 hi0_6 4 A0_6 n0_6 (cOp l0_6)) (k0_6 : n0_6 ≤ c0_6) (b0_6 : Hid (cOpOk l0_6)) :
  Calls Tryz.prog 30 #[.agg #[.int .i64 p0_0, .int .i64 p0_1, .int .i64 p0_2, .slice A0_3 n0_3 c0_3, .slice A0_4 n0_4 c0_4, .slice A0_5 n0_5 c0_5, .slice A0_6 n0_6 c0_6, .int .i64 p0_7]] w (Says (.bool (mIsPack p0_0 p0_1 p0_2 l0_3 l0_4 l0_5 l0_6)) w) := by
 have R0_3 := Lib.hid r0_3
 clear r0_3
 have R0_4 := Lib.hid r0_4
 clear r0_4
 have R0_5 := Lib.hid r0_5
 clear r0_5
 have R0_6 := Lib.hid r0_6
 clear r0_6
 have KB0 := Lib.hid (show BoxAt (w.alloc (.cells #[.int .i64 p0_0, .int .i64 p0_1, .int .i64 p0_2, .slice A0_3 n0_3 c0_3, .slice A0_4 n0_4 c0_4, .slice A0_5 n0_5 c0_5, .slice A0_6 n0_6 c0_6, .int .i64 p0_7] 35)) w.heap.size 35 #[.int .i64 p0_0, .int .i64 p0_1, .int .i64 p0_2, .slice A0_3 n0_3 c0_3, .slice A0_4 n0_4 c0_4, .slice A0_5 n0_5 c0_5, .slice A0_6 n0_6 c0_6, .int .i64 p0_7] from (box_new _ _ _ : BoxAt (w.alloc (.cells #[.int .i64 p0_0, .int .i64 p0_1, .int .i64 p0_2, .slice A0_3 n0_3 c0_3, .slice A0_4 n0_4 c0_4, .slice A0_5 n0_5 c0_5, .slice A0_6 n0_6 c0_6, .int .i64 p0_7] 35)) w.heap.size 35 #[.int .i64 p0_0, .int .i64 p0_1, .int .i64 p0_2, .slice A0_3 n0_3 c0_3, .slice A0_4 n0_4 c0_4, .slice A0_5 n0_5 c0_5, .slice A0_6 n0_6 c0_6, .int .i64 p0_7]))
 have HB := Lib.hid (show Below w.heap.size w (w.alloc (.cells #[.int .i64 p0_0, .int .i64 p0_1, .int .i64 p0_2, .slice A0_3 n0_3 c0_3, .slice A0_4 n0_4 c0_4, .slice A0_5 n0_5 c0_5, .slice A0_6 n0_6 c0_6, .int .i64 p0_7] 35)) from (Below.refl _ _).alloc (by first | exact Nat.le_refl _ | (simp; done) | (simp; omega)) _)
 have HL0_3 := Lib.hid (rd_len TGrant.len R0_3.out (by decide))
 have HL0_4 := Lib.hid (rd_len TFlow.len R0_4.out (by decide))
 have HL0_5 := Lib.hid (rd_len TRule.len R0_5.out (by decide))
 go_enter Tryz.func30, Tryz.ntmps30
 cases q0 : inR p0_0 1 5 with
 | true =>
  have Q0 := Lib.hid q0
  clear q0
  obtain ⟨eb0, eb1, eb2, eb3, eb4, eb5, eb6, eb7⟩ := KB0.out.p8
  go_wp2_with fail
  clear eb0 eb1 eb2 eb3 eb4 eb5 eb6 eb7
  refine Calls.mono (spec_in _ _ _ _) ?_
  rw [Q0.out]
  rintro e v0 ⟨rfl, rfl⟩
  cases q1 : inR p0_1 1 9 with
  | true =>
   have Q1 := Lib.hid q1
   clear q1
   obtain ⟨eb0, eb1, eb2, eb3, eb4, eb5, eb6, eb7⟩ := KB0.out.p8
   go_wp2_with fail
   clear eb0 eb1 eb2 eb3 eb4 eb5 eb6 eb7
   refine Calls.mono (spec_in _ _ _ _) ?_
   rw [Q1.out]
   rintro e v1 ⟨rfl, rfl⟩
   cases q2 : inR p0_2 1 999 with
   | true =>
    have Q2 := Lib.hid q2
    clear q2
    obtain ⟨eb0, eb1, eb2, eb3, eb4, eb5, eb6, eb7⟩ := KB0.out.p8
    go_wp2_with fail
    clear eb0 eb1 eb2 eb3 eb4 eb5 eb6 eb7
    refine Calls.mono (spec_in _ _ _ _) ?_
    rw [Q2.out]
    rintro e v2 ⟨rfl, rfl⟩
    cases q3 : decide (l0_3.length ≤ 6) with
    | true =>
     have Q3 := Lib.hid q3
     clear q3
     have g3 : decide ((6 : Int) < (n0_3 : Int)) = false := by
      have h1 := Q3.out
      rw [HL0_3.out] at h1
      simp at h1 ⊢
      omega
     cases q4 : decide (l0_4.length ≤ 6) with
     | true =>
      have Q4 := Lib.hid q4
      clear q4
      have g4 : decide ((6 : Int) < (n0_4 : Int)) = false := by
       have h1 := Q4.out
       rw [HL0_4.out] at h1
       simp at h1 ⊢
       omega
      cases q5 : decide (l0_5.length ≤ 6) with
      | true =>
       have Q5 := Lib.hid q5
       clear q5
       have g5 : decide ((6 : Int) < (n0_5 : Int)) = false := by
        have h1 := Q5.out
        rw [HL0_5.out] at h1
        simp at h1 ⊢
        omega
       cases q6 : mAreOps l0_6 with
       | true =>
        have Q6 := Lib.hid q6
        clear q6
        obtain ⟨eb0, eb1, eb2, eb3, eb4, eb5, eb6, eb7⟩ := KB0.out.p8
        go_wp2_with fail
        clear eb0 eb1 eb2 eb3 eb4 eb5 eb6 eb7
        refine Calls.mono (spec_AreOps l0_6 A0_6 n0_6 c0_6 lo0_6 hi0_6 _ h0_6 (R0_6.out.new HB.out) k0_6 b0_6) ?_
        rw [Q6.out]
        rintro e v6 ⟨rfl, hb⟩
        replace KB0 := Lib.hid (KB0.out.new hb)
        replace HB := Lib.hid (below_trans HB.out hb (Nat.le_refl _))
        clear hb
        obtain ⟨eb0, eb1, eb2, eb3, eb4, eb5, eb6, eb7⟩ := KB0.out.p8
        go_wp2_with fail
        clear eb0 eb1 eb2 eb3 eb4 eb5 eb6 eb7
        go_loopg [3] n0_3 (fun gg i wr => ∃ k : Nat, k ≤ n0_3 ∧ n0_3 - k ≤ gg ∧ i = .int .i64 k ∧ Hid ((l0_3.take k).all (pPkG p0_0) = true) ∧ Hid (BoxAt wr w.heap.size 35 #[.int .i64 p0_0, .int .i64 p0_1, .int .i64 p0_2, .slice A0_3 n0_3 c0_3, .slice A0_4 n0_4 c0_4, .slice A0_5 n0_5 c0_5, .slice A0_6 n0_6 c0_6, .int .i64 p0_7]) ∧ Hid (Below w.heap.size w wr))
        case atStart => exact ⟨0, Nat.zero_le _, by omega, rfl, Lib.hid (by simp), KB0, HB⟩
        case round =>
         clear KB0 HB
         obtain ⟨k, hk, hg, rfl, HA, KB0, HB⟩ := hrel
         by_cases hlt : k < n0_3
         ·
          obtain ⟨b, off, x, rfl, _, _, hz, hc⟩ := rd_elem TGrant.len (R0_3.out.new HB.out) HL0_3.out hlt
          have c0 : wr.cell? ⟨b, off + k * 7, none⟩ = _ := hc 0 _ rfl
          have c1 := hc 1 _ rfl
          have c2 := hc 2 _ rfl
          have c3 := hc 3 _ rfl
          have c4 := hc 4 _ rfl
          have c5 := hc 5 _ rfl
          have c6 := hc 6 _ rfl
          have C0 := fun W => spec_IsGrant x W
          have HX := Lib.hid (show pPkG p0_0 x = (mIsGrant x && x.f0 == p0_0) from rfl)
          have HAt := Lib.hid (fun (h : pPkG p0_0 x = true) => show ((l0_3.take (k + 1)).all (pPkG p0_0) = true) by rw [List.take_add_one, hz, List.all_append, HA.out]; simp [h])
          have HAf := Lib.hid (fun (h : pPkG p0_0 x = false) => show (l0_3.all (pPkG p0_0) = false) by rw [List.all_eq_false]; exact ⟨x, List.mem_of_getElem? hz, by rw [h]; simp⟩)
          clear hz hc
          generalize mIsGrant x = r at C0 HX
          replace C0 := Lib.hid C0
          obtain ⟨eb0, eb1, eb2, eb3, eb4, eb5, eb6, eb7⟩ := KB0.out.p8
          go_wp2_with fail
          clear eb0 eb1 eb2 eb3 eb4 eb5 eb6 eb7
          refine wp_region_held_drew (S := fun w' => BoxAt w' w.heap.size 35 #[.int .i64 p0_0, .int .i64 p0_1, .int .i64 p0_2, .slice (some ⟨b, off, none⟩) n0_3 c0_3, .slice A0_4 n0_4 c0_4, .slice A0_5 n0_5 c0_5, .slice A0_6 n0_6 c0_6, .int .i64 p0_7] ∧ Below wr.heap.size wr w') (by kernel_rfl) ?_ (fun hHeld => ?_)
          ·
           exact ⟨KB0.out.drw, (Below.refl _ _).drew⟩
          refine tz 0 53 hHeld ?_; try simp only [ptl]
          refine tl 1 54 hHeld rfl ?_ (by intro W hS; obtain ⟨c0_0, c0_1, c0_2, c0_3, c0_4, c0_5, c0_6, c0_7⟩ := (hS.1).p8; have c0' := cell_nw hS.2 c0; have c1' := cell_nw hS.2 c1; have c2' := cell_nw hS.2 c2; have c3' := cell_nw hS.2 c3; have c4' := cell_nw hS.2 c4; have c5' := cell_nw hS.2 c5; have c6' := cell_nw hS.2 c6; clear hS; go_simp; try with_reducible rfl); try simp only [ptl]
          refine tz 2 55 hHeld ?_; try simp only [ptl]
          refine tz 3 56 hHeld ?_; try simp only [ptl]
          refine tl 4 57 hHeld rfl ?_ (by intro W hS; obtain ⟨c0_0, c0_1, c0_2, c0_3, c0_4, c0_5, c0_6, c0_7⟩ := (hS.1).p8; have c0' := cell_nw hS.2 c0; have c1' := cell_nw hS.2 c1; have c2' := cell_nw hS.2 c2; have c3' := cell_nw hS.2 c3; have c4' := cell_nw hS.2 c4; have c5' := cell_nw hS.2 c5; have c6' := cell_nw hS.2 c6; clear hS; go_simp; try with_reducible rfl); try simp only [ptl]
          refine rd1 (i := 5) (o := ⟨some 58, _, _, _, _, _⟩) rfl (fun K hK => ?_)
          go_simp
          refine Calls.mono (C0.out _) ?_
          rintro e x1 ⟨rfl, hb1⟩
          refine hK.out _ _ ⟨hHeld.1.new hb1, below_trans hHeld.2 hb1 (Nat.le_refl _)⟩ (fun hHeld' => ?_)
          clear hK K hHeld hb1; have hHeld := hHeld'; clear hHeld'
          try simp only [ptl]
          cases r
          ·
           refine tz 6 59 hHeld ?_; try simp only [ptl]
           refine tz 7 60 hHeld ?_; try simp only [ptl]
           refine tu (i := 8) (oi := ⟨some 61, _, _, _, _, _⟩) rfl hHeld ?_; try simp only [ptl]
           refine tu (i := 9) (oi := ⟨some 62, _, _, _, _, _⟩) rfl hHeld ?_; try simp only [ptl]
           refine tu (i := 10) (oi := ⟨some 63, _, _, _, _, _⟩) rfl hHeld ?_; try simp only [ptl]
           refine tu (i := 11) (oi := ⟨some 64, _, _, _, _, _⟩) rfl hHeld ?_; try simp only [ptl]
           refine tu (i := 12) (oi := ⟨some 65, _, _, _, _, _⟩) rfl hHeld ?_; try simp only [ptl]
           refine tu (i := 13) (oi := ⟨some 66, _, _, _, _, _⟩) rfl hHeld ?_; try simp only [ptl]
           refine tu (i := 14) (oi := ⟨some 67, _, _, _, _, _⟩) rfl hHeld ?_; try simp only [ptl]
           refine tu (i := 15) (oi := ⟨some 68, _, _, _, _, _⟩) rfl hHeld ?_; try simp only [ptl]
           refine tu (i := 16) (oi := ⟨some 69, _, _, _, _, _⟩) rfl hHeld ?_; try simp only [ptl]
           refine tz 17 70 hHeld ?_; try simp only [ptl]
           refine wpAnyH_done (by kernel_rfl) ?_ _
           have KB2 := Lib.hid hHeld.1
           have HB2 := Lib.hid (below_trans HB.out hHeld.2 (Nat.le_refl _))
           clear hHeld
           have HE := Lib.hid (HAf.out (by rw [HX.out]; rfl))
           go_wp2_with fail
           go_ret
           exact ⟨by rw [show mIsPack p0_0 p0_1 p0_2 l0_3 l0_4 l0_5 l0_6 = false by simp only [mIsPack, mPkG, mPkF, mPkR, HE.out, Bool.and_false, Bool.false_and, Bool.true_and]]; rfl, HB2.out⟩
          ·
           refine tz 6 59 hHeld ?_; try simp only [ptl]
           refine tz 7 60 hHeld ?_; try simp only [ptl]
           refine tz 8 61 hHeld ?_; try simp only [ptl]
           refine tl 9 62 hHeld rfl ?_ (by intro W hS; obtain ⟨c0_0, c0_1, c0_2, c0_3, c0_4, c0_5, c0_6, c0_7⟩ := (hS.1).p8; have c0' := cell_nw hS.2 c0; have c1' := cell_nw hS.2 c1; have c2' := cell_nw hS.2 c2; have c3' := cell_nw hS.2 c3; have c4' := cell_nw hS.2 c4; have c5' := cell_nw hS.2 c5; have c6' := cell_nw hS.2 c6; clear hS; go_simp; try with_reducible rfl); try simp only [ptl]
           refine tz 10 63 hHeld ?_; try simp only [ptl]
           refine tz 11 64 hHeld ?_; try simp only [ptl]
           refine tz 12 65 hHeld ?_; try simp only [ptl]
           refine tl 13 66 hHeld rfl ?_ (by intro W hS; obtain ⟨c0_0, c0_1, c0_2, c0_3, c0_4, c0_5, c0_6, c0_7⟩ := (hS.1).p8; have c0' := cell_nw hS.2 c0; have c1' := cell_nw hS.2 c1; have c2' := cell_nw hS.2 c2; have c3' := cell_nw hS.2 c3; have c4' := cell_nw hS.2 c4; have c5' := cell_nw hS.2 c5; have c6' := cell_nw hS.2 c6; clear hS; go_simp; try with_reducible rfl); try simp only [ptl]
           refine tz 14 67 hHeld ?_; try simp only [ptl]
           refine tl 15 68 hHeld rfl ?_ (by intro W hS; obtain ⟨c0_0, c0_1, c0_2, c0_3, c0_4, c0_5, c0_6, c0_7⟩ := (hS.1).p8; have c0' := cell_nw hS.2 c0; have c1' := cell_nw hS.2 c1; have c2' := cell_nw hS.2 c2; have c3' := cell_nw hS.2 c3; have c4' := cell_nw hS.2 c4; have c5' := cell_nw hS.2 c5; have c6' := cell_nw hS.2 c6; clear hS; go_simp; try with_reducible rfl); try simp only [ptl]
           by_cases e16 : ((x.f0 != p0_0)) = true
           ·
            refine tz 16 69 hHeld ?_; try simp only [ptl]
            refine tz 17 70 hHeld ?_; try simp only [ptl]
            refine wpAnyH_done (by kernel_rfl) ?_ _
            have KB2 := Lib.hid hHeld.1
            have HB2 := Lib.hid (below_trans HB.out hHeld.2 (Nat.le_refl _))
            clear hHeld
            have HE := Lib.hid (HAf.out (by rw [HX.out]; simpa using e16))
            go_wp2_with fail
            go_ret
            exact ⟨by rw [show mIsPack p0_0 p0_1 p0_2 l0_3 l0_4 l0_5 l0_6 = false by simp only [mIsPack, mPkG, mPkF, mPkR, HE.out, Bool.and_false, Bool.false_and, Bool.true_and]]; rfl, HB2.out⟩
           ·
            have e16 : ((x.f0 != p0_0)) = false := by simpa using e16
            refine tz 16 69 hHeld ?_; try simp only [ptl]
            refine tz 17 70 hHeld ?_; try simp only [ptl]
            refine wpAnyH_done (by kernel_rfl) ?_ _
            have KB2 := Lib.hid hHeld.1
            have HB2 := Lib.hid (below_trans HB.out hHeld.2 (Nat.le_refl _))
            clear hHeld
            have HE := Lib.hid (HAt.out (by rw [HX.out]; simpa using e16))
            go_wp2_with fail
            go_roundg (n0_3 - (k + 1))
            case measure => omega
            case rel => exact ⟨k + 1, by omega, by omega, by go_num, HE, KB2, HB2⟩
         ·
          obtain rfl : n0_3 = k := by omega
          have HAG := Lib.hid (show l0_3.all (pPkG p0_0) = true by have := HA.out; rwa [List.take_of_length_le (by rw [HL0_3.out]; omega)] at this)
          clear HA
          obtain ⟨eb0, eb1, eb2, eb3, eb4, eb5, eb6, eb7⟩ := KB0.out.p8
          go_wp2_with fail
          clear eb0 eb1 eb2 eb3 eb4 eb5 eb6 eb7
          go_loopg [4] n0_4 (fun gg i wr => ∃ k : Nat, k ≤ n0_4 ∧ n0_4 - k ≤ gg ∧ i = .int .i64 k ∧ Hid ((l0_4.take k).all (pPkF p0_0) = true) ∧ Hid (BoxAt wr w.heap.size 35 #[.int .i64 p0_0, .int .i64 p0_1, .int .i64 p0_2, .slice A0_3 n0_3 c0_3, .slice A0_4 n0_4 c0_4, .slice A0_5 n0_5 c0_5, .slice A0_6 n0_6 c0_6, .int .i64 p0_7]) ∧ Hid (Below w.heap.size w wr))
          case atStart => exact ⟨0, Nat.zero_le _, by omega, rfl, Lib.hid (by simp), KB0, HB⟩
          case round =>
           clear KB0 HB
           obtain ⟨k, hk, hg, rfl, HA, KB0, HB⟩ := hrel
           by_cases hlt : k < n0_4
           ·
            obtain ⟨b, off, x, rfl, _, _, hz, hc⟩ := rd_elem TFlow.len (R0_4.out.new HB.out) HL0_4.out hlt
            have c0 : wr.cell? ⟨b, off + k * 3, none⟩ = _ := hc 0 _ rfl
            have c1 := hc 1 _ rfl
            have c2 := hc 2 _ rfl
            have C0 := fun W => spec_IsFlow x W
            have HX := Lib.hid (show pPkF p0_0 x = (mIsFlow x && x.f0 == p0_0) from rfl)
            have HAt := Lib.hid (fun (h : pPkF p0_0 x = true) => show ((l0_4.take (k + 1)).all (pPkF p0_0) = true) by rw [List.take_add_one, hz, List.all_append, HA.out]; simp [h])
            have HAf := Lib.hid (fun (h : pPkF p0_0 x = false) => show (l0_4.all (pPkF p0_0) = false) by rw [List.all_eq_false]; exact ⟨x, List.mem_of_getElem? hz, by rw [h]; simp⟩)
            clear hz hc
            generalize mIsFlow x = r at C0 HX
            replace C0 := Lib.hid C0
            obtain ⟨eb0, eb1, eb2, eb3, eb4, eb5, eb6, eb7⟩ := KB0.out.p8
            go_wp2_with fail
            clear eb0 eb1 eb2 eb3 eb4 eb5 eb6 eb7
            refine wp_region_held_drew (S := fun w' => BoxAt w' w.heap.size 35 #[.int .i64 p0_0, .int .i64 p0_1, .int .i64 p0_2, .slice A0_3 n0_3 c0_3, .slice (some ⟨b, off, none⟩) n0_4 c0_4, .slice A0_5 n0_5 c0_5, .slice A0_6 n0_6 c0_6, .int .i64 p0_7] ∧ Below wr.heap.size wr w') (by kernel_rfl) ?_ (fun hHeld => ?_)
            ·
             exact ⟨KB0.out.drw, (Below.refl _ _).drew⟩
            refine tz 0 78 hHeld ?_; try simp only [ptl]
            refine tl 1 79 hHeld rfl ?_ (by intro W hS; obtain ⟨c0_0, c0_1, c0_2, c0_3, c0_4, c0_5, c0_6, c0_7⟩ := (hS.1).p8; have c0' := cell_nw hS.2 c0; have c1' := cell_nw hS.2 c1; have c2' := cell_nw hS.2 c2; clear hS; go_simp; try with_reducible rfl); try simp only [ptl]
            refine tz 2 80 hHeld ?_; try simp only [ptl]
            refine tz 3 81 hHeld ?_; try simp only [ptl]
            refine tl 4 82 hHeld rfl ?_ (by intro W hS; obtain ⟨c0_0, c0_1, c0_2, c0_3, c0_4, c0_5, c0_6, c0_7⟩ := (hS.1).p8; have c0' := cell_nw hS.2 c0; have c1' := cell_nw hS.2 c1; have c2' := cell_nw hS.2 c2; clear hS; go_simp; try with_reducible rfl); try simp only [ptl]
            refine rd1 (i := 5) (o := ⟨some 83, _, _, _, _, _⟩) rfl (fun K hK => ?_)
            go_simp
            refine Calls.mono (C0.out _) ?_
            rintro e x1 ⟨rfl, hb1⟩
            refine hK.out _ _ ⟨hHeld.1.new hb1, below_trans hHeld.2 hb1 (Nat.le_refl _)⟩ (fun hHeld' => ?_)
            clear hK K hHeld hb1; have hHeld := hHeld'; clear hHeld'
            try simp only [ptl]
            cases r
            ·
             refine tz 6 84 hHeld ?_; try simp only [ptl]
             refine tz 7 85 hHeld ?_; try simp only [ptl]
             refine tu (i := 8) (oi := ⟨some 86, _, _, _, _, _⟩) rfl hHeld ?_; try simp only [ptl]
             refine tu (i := 9) (oi := ⟨some 87, _, _, _, _, _⟩) rfl hHeld ?_; try simp only [ptl]
             refine tu (i := 10) (oi := ⟨some 88, _, _, _, _, _⟩) rfl hHeld ?_; try simp only [ptl]
             refine tu (i := 11) (oi := ⟨some 89, _, _, _, _, _⟩) rfl hHeld ?_; try simp only [ptl]
             refine tu (i := 12) (oi := ⟨some 90, _, _, _, _, _⟩) rfl hHeld ?_; try simp only [ptl]
             refine tu (i := 13) (oi := ⟨some 91, _, _, _, _, _⟩) rfl hHeld ?_; try simp only [ptl]
             refine tu (i := 14) (oi := ⟨some 92, _, _, _, _, _⟩) rfl hHeld ?_; try simp only [ptl]
             refine tu (i := 15) (oi := ⟨some 93, _, _, _, _, _⟩) rfl hHeld ?_; try simp only [ptl]
             refine tu (i := 16) (oi := ⟨some 94, _, _, _, _, _⟩) rfl hHeld ?_; try simp only [ptl]
             refine tz 17 95 hHeld ?_; try simp only [ptl]
             refine wpAnyH_done (by kernel_rfl) ?_ _
             have KB2 := Lib.hid hHeld.1
             have HB2 := Lib.hid (below_trans HB.out hHeld.2 (Nat.le_refl _))
             clear hHeld
             have HE := Lib.hid (HAf.out (by rw [HX.out]; rfl))
             go_wp2_with fail
             go_ret
             exact ⟨by rw [show mIsPack p0_0 p0_1 p0_2 l0_3 l0_4 l0_5 l0_6 = false by simp only [mIsPack, mPkG, mPkF, mPkR, HE.out, Bool.and_false, Bool.false_and, Bool.true_and]]; rfl, HB2.out⟩
            ·
             refine tz 6 84 hHeld ?_; try simp only [ptl]
             refine tz 7 85 hHeld ?_; try simp only [ptl]
             refine tz 8 86 hHeld ?_; try simp only [ptl]
             refine tl 9 87 hHeld rfl ?_ (by intro W hS; obtain ⟨c0_0, c0_1, c0_2, c0_3, c0_4, c0_5, c0_6, c0_7⟩ := (hS.1).p8; have c0' := cell_nw hS.2 c0; have c1' := cell_nw hS.2 c1; have c2' := cell_nw hS.2 c2; clear hS; go_simp; try with_reducible rfl); try simp only [ptl]
             refine tz 10 88 hHeld ?_; try simp only [ptl]
             refine tz 11 89 hHeld ?_; try simp only [ptl]
             refine tz 12 90 hHeld ?_; try simp only [ptl]
             refine tl 13 91 hHeld rfl ?_ (by intro W hS; obtain ⟨c0_0, c0_1, c0_2, c0_3, c0_4, c0_5, c0_6, c0_7⟩ := (hS.1).p8; have c0' := cell_nw hS.2 c0; have c1' := cell_nw hS.2 c1; have c2' := cell_nw hS.2 c2; clear hS; go_simp; try with_reducible rfl); try simp only [ptl]
             refine tz 14 92 hHeld ?_; try simp only [ptl]
             refine tl 15 93 hHeld rfl ?_ (by intro W hS; obtain ⟨c0_0, c0_1, c0_2, c0_3, c0_4, c0_5, c0_6, c0_7⟩ := (hS.1).p8; have c0' := cell_nw hS.2 c0; have c1' := cell_nw hS.2 c1; have c2' := cell_nw hS.2 c2; clear hS; go_simp; try with_reducible rfl); try simp only [ptl]
             by_cases e16 : ((x.f0 != p0_0)) = true
             ·
              refine tz 16 94 hHeld ?_; try simp only [ptl]
              refine tz 17 95 hHeld ?_; try simp only [ptl]
              refine wpAnyH_done (by kernel_rfl) ?_ _
              have KB2 := Lib.hid hHeld.1
              have HB2 := Lib.hid (below_trans HB.out hHeld.2 (Nat.le_refl _))
              clear hHeld
              have HE := Lib.hid (HAf.out (by rw [HX.out]; simpa using e16))
              go_wp2_with fail
              go_ret
              exact ⟨by rw [show mIsPack p0_0 p0_1 p0_2 l0_3 l0_4 l0_5 l0_6 = false by simp only [mIsPack, mPkG, mPkF, mPkR, HE.out, Bool.and_false, Bool.false_and, Bool.true_and]]; rfl, HB2.out⟩
             ·
              have e16 : ((x.f0 != p0_0)) = false := by simpa using e16
              refine tz 16 94 hHeld ?_; try simp only [ptl]
              refine tz 17 95 hHeld ?_; try simp only [ptl]
              refine wpAnyH_done (by kernel_rfl) ?_ _
              have KB2 := Lib.hid hHeld.1
              have HB2 := Lib.hid (below_trans HB.out hHeld.2 (Nat.le_refl _))
              clear hHeld
              have HE := Lib.hid (HAt.out (by rw [HX.out]; simpa using e16))
              go_wp2_with fail
              go_roundg (n0_4 - (k + 1))
              case measure => omega
              case rel => exact ⟨k + 1, by omega, by omega, by go_num, HE, KB2, HB2⟩
           ·
            obtain rfl : n0_4 = k := by omega
            have HAF := Lib.hid (show l0_4.all (pPkF p0_0) = true by have := HA.out; rwa [List.take_of_length_le (by rw [HL0_4.out]; omega)] at this)
            clear HA
            obtain ⟨eb0, eb1, eb2, eb3, eb4, eb5, eb6, eb7⟩ := KB0.out.p8
            go_wp2_with fail
            clear eb0 eb1 eb2 eb3 eb4 eb5 eb6 eb7
            go_loopg [5] n0_5 (fun gg i wr => ∃ k : Nat, k ≤ n0_5 ∧ n0_5 - k ≤ gg ∧ i = .int .i64 k ∧ Hid ((l0_5.take k).all (pPkR p0_0) = true) ∧ Hid (BoxAt wr w.heap.size 35 #[.int .i64 p0_0, .int .i64 p0_1, .int .i64 p0_2, .slice A0_3 n0_3 c0_3, .slice A0_4 n0_4 c0_4, .slice A0_5 n0_5 c0_5, .slice A0_6 n0_6 c0_6, .int .i64 p0_7]) ∧ Hid (Below w.heap.size w wr))
            case atStart => exact ⟨0, Nat.zero_le _, by omega, rfl, Lib.hid (by simp), KB0, HB⟩
            case round =>
             clear KB0 HB
             obtain ⟨k, hk, hg, rfl, HA, KB0, HB⟩ := hrel
             by_cases hlt : k < n0_5
             ·
              obtain ⟨b, off, x, rfl, _, _, hz, hc⟩ := rd_elem TRule.len (R0_5.out.new HB.out) HL0_5.out hlt
              have c0 : wr.cell? ⟨b, off + k * 8, none⟩ = _ := hc 0 _ rfl
              have c1 := hc 1 _ rfl
              have c2 := hc 2 _ rfl
              have c3 := hc 3 _ rfl
              have c4 := hc 4 _ rfl
              have c5 := hc 5 _ rfl
              have c6 := hc 6 _ rfl
              have c7 := hc 7 _ rfl
              have C0 := fun W => spec_IsRule x W
              have HX := Lib.hid (show pPkR p0_0 x = (mIsRule x && x.f0 == p0_0) from rfl)
              have HAt := Lib.hid (fun (h : pPkR p0_0 x = true) => show ((l0_5.take (k + 1)).all (pPkR p0_0) = true) by rw [List.take_add_one, hz, List.all_append, HA.out]; simp [h])
              have HAf := Lib.hid (fun (h : pPkR p0_0 x = false) => show (l0_5.all (pPkR p0_0) = false) by rw [List.all_eq_false]; exact ⟨x, List.mem_of_getElem? hz, by rw [h]; simp⟩)
              clear hz hc
              generalize mIsRule x = r at C0 HX
              replace C0 := Lib.hid C0
              obtain ⟨eb0, eb1, eb2, eb3, eb4, eb5, eb6, eb7⟩ := KB0.out.p8
              go_wp2_with fail
              clear eb0 eb1 eb2 eb3 eb4 eb5 eb6 eb7
              refine wp_region_held_drew (S := fun w' => BoxAt w' w.heap.size 35 #[.int .i64 p0_0, .int .i64 p0_1, .int .i64 p0_2, .slice A0_3 n0_3 c0_3, .slice A0_4 n0_4 c0_4, .slice (some ⟨b, off, none⟩) n0_5 c0_5, .slice A0_6 n0_6 c0_6, .int .i64 p0_7] ∧ Below wr.heap.size wr w') (by kernel_rfl) ?_ (fun hHeld => ?_)
              ·
               exact ⟨KB0.out.drw, (Below.refl _ _).drew⟩
              refine tz 0 103 hHeld ?_; try simp only [ptl]
              refine tl 1 104 hHeld rfl ?_ (by intro W hS; obtain ⟨c0_0, c0_1, c0_2, c0_3, c0_4, c0_5, c0_6, c0_7⟩ := (hS.1).p8; have c0' := cell_nw hS.2 c0; have c1' := cell_nw hS.2 c1; have c2' := cell_nw hS.2 c2; have c3' := cell_nw hS.2 c3; have c4' := cell_nw hS.2 c4; have c5' := cell_nw hS.2 c5; have c6' := cell_nw hS.2 c6; have c7' := cell_nw hS.2 c7; clear hS; go_simp; try with_reducible rfl); try simp only [ptl]
              refine tz 2 105 hHeld ?_; try simp only [ptl]
              refine tz 3 106 hHeld ?_; try simp only [ptl]
              refine tl 4 107 hHeld rfl ?_ (by intro W hS; obtain ⟨c0_0, c0_1, c0_2, c0_3, c0_4, c0_5, c0_6, c0_7⟩ := (hS.1).p8; have c0' := cell_nw hS.2 c0; have c1' := cell_nw hS.2 c1; have c2' := cell_nw hS.2 c2; have c3' := cell_nw hS.2 c3; have c4' := cell_nw hS.2 c4; have c5' := cell_nw hS.2 c5; have c6' := cell_nw hS.2 c6; have c7' := cell_nw hS.2 c7; clear hS; go_simp; try with_reducible rfl); try simp only [ptl]
              refine rd1 (i := 5) (o := ⟨some 108, _, _, _, _, _⟩) rfl (fun K hK => ?_)
              go_simp
              refine Calls.mono (C0.out _) ?_
              rintro e x1 ⟨rfl, hb1⟩
              refine hK.out _ _ ⟨hHeld.1.new hb1, below_trans hHeld.2 hb1 (Nat.le_refl _)⟩ (fun hHeld' => ?_)
              clear hK K hHeld hb1; have hHeld := hHeld'; clear hHeld'
              try simp only [ptl]
              cases r
              ·
               refine tz 6 109 hHeld ?_; try simp only [ptl]
               refine tz 7 110 hHeld ?_; try simp only [ptl]
               refine tu (i := 8) (oi := ⟨some 111, _, _, _, _, _⟩) rfl hHeld ?_; try simp only [ptl]
               refine tu (i := 9) (oi := ⟨some 112, _, _, _, _, _⟩) rfl hHeld ?_; try simp only [ptl]
               refine tu (i := 10) (oi := ⟨some 113, _, _, _, _, _⟩) rfl hHeld ?_; try simp only [ptl]
               refine tu (i := 11) (oi := ⟨some 114, _, _, _, _, _⟩) rfl hHeld ?_; try simp only [ptl]
               refine tu (i := 12) (oi := ⟨some 115, _, _, _, _, _⟩) rfl hHeld ?_; try simp only [ptl]
               refine tu (i := 13) (oi := ⟨some 116, _, _, _, _, _⟩) rfl hHeld ?_; try simp only [ptl]
               refine tu (i := 14) (oi := ⟨some 117, _, _, _, _, _⟩) rfl hHeld ?_; try simp only [ptl]
               refine tu (i := 15) (oi := ⟨some 118, _, _, _, _, _⟩) rfl hHeld ?_; try simp only [ptl]
               refine tu (i := 16) (oi := ⟨some 119, _, _, _, _, _⟩) rfl hHeld ?_; try simp only [ptl]
               refine tz 17 120 hHeld ?_; try simp only [ptl]
               refine wpAnyH_done (by kernel_rfl) ?_ _
               have KB2 := Lib.hid hHeld.1
               have HB2 := Lib.hid (below_trans HB.out hHeld.2 (Nat.le_refl _))
               clear hHeld
               have HE := Lib.hid (HAf.out (by rw [HX.out]; rfl))
               go_wp2_with fail
               go_ret
               exact ⟨by rw [show mIsPack p0_0 p0_1 p0_2 l0_3 l0_4 l0_5 l0_6 = false by simp only [mIsPack, mPkG, mPkF, mPkR, HE.out, Bool.and_false, Bool.false_and, Bool.true_and]]; rfl, HB2.out⟩
              ·
               refine tz 6 109 hHeld ?_; try simp only [ptl]
               refine tz 7 110 hHeld ?_; try simp only [ptl]
               refine tz 8 111 hHeld ?_; try simp only [ptl]
               refine tl 9 112 hHeld rfl ?_ (by intro W hS; obtain ⟨c0_0, c0_1, c0_2, c0_3, c0_4, c0_5, c0_6, c0_7⟩ := (hS.1).p8; have c0' := cell_nw hS.2 c0; have c1' := cell_nw hS.2 c1; have c2' := cell_nw hS.2 c2; have c3' := cell_nw hS.2 c3; have c4' := cell_nw hS.2 c4; have c5' := cell_nw hS.2 c5; have c6' := cell_nw hS.2 c6; have c7' := cell_nw hS.2 c7; clear hS; go_simp; try with_reducible rfl); try simp only [ptl]
               refine tz 10 113 hHeld ?_; try simp only [ptl]
               refine tz 11 114 hHeld ?_; try simp only [ptl]
               refine tz 12 115 hHeld ?_; try simp only [ptl]
               refine tl 13 116 hHeld rfl ?_ (by intro W hS; obtain ⟨c0_0, c0_1, c0_2, c0_3, c0_4, c0_5, c0_6, c0_7⟩ := (hS.1).p8; have c0' := cell_nw hS.2 c0; have c1' := cell_nw hS.2 c1; have c2' := cell_nw hS.2 c2; have c3' := cell_nw hS.2 c3; have c4' := cell_nw hS.2 c4; have c5' := cell_nw hS.2 c5; have c6' := cell_nw hS.2 c6; have c7' := cell_nw hS.2 c7; clear hS; go_simp; try with_reducible rfl); try simp only [ptl]
               refine tz 14 117 hHeld ?_; try simp only [ptl]
               refine tl 15 118 hHeld rfl ?_ (by intro W hS; obtain ⟨c0_0, c0_1, c0_2, c0_3, c0_4, c0_5, c0_6, c0_7⟩ := (hS.1).p8; have c0' := cell_nw hS.2 c0; have c1' := cell_nw hS.2 c1; have c2' := cell_nw hS.2 c2; have c3' := cell_nw hS.2 c3; have c4' := cell_nw hS.2 c4; have c5' := cell_nw hS.2 c5; have c6' := cell_nw hS.2 c6; have c7' := cell_nw hS.2 c7; clear hS; go_simp; try with_reducible rfl); try simp only [ptl]
               by_cases e16 : ((x.f0 != p0_0)) = true
               ·
                refine tz 16 119 hHeld ?_; try simp only [ptl]
                refine tz 17 120 hHeld ?_; try simp only [ptl]
                refine wpAnyH_done (by kernel_rfl) ?_ _
                have KB2 := Lib.hid hHeld.1
                have HB2 := Lib.hid (below_trans HB.out hHeld.2 (Nat.le_refl _))
                clear hHeld
                have HE := Lib.hid (HAf.out (by rw [HX.out]; simpa using e16))
                go_wp2_with fail
                go_ret
                exact ⟨by rw [show mIsPack p0_0 p0_1 p0_2 l0_3 l0_4 l0_5 l0_6 = false by simp only [mIsPack, mPkG, mPkF, mPkR, HE.out, Bool.and_false, Bool.false_and, Bool.true_and]]; rfl, HB2.out⟩
               ·
                have e16 : ((x.f0 != p0_0)) = false := by simpa using e16
                refine tz 16 119 hHeld ?_; try simp only [ptl]
                refine tz 17 120 hHeld ?_; try simp only [ptl]
                refine wpAnyH_done (by kernel_rfl) ?_ _
                have KB2 := Lib.hid hHeld.1
                have HB2 := Lib.hid (below_trans HB.out hHeld.2 (Nat.le_refl _))
                clear hHeld
                have HE := Lib.hid (HAt.out (by rw [HX.out]; simpa using e16))
                go_wp2_with fail
                go_roundg (n0_5 - (k + 1))
                case measure => omega
                case rel => exact ⟨k + 1, by omega, by omega, by go_num, HE, KB2, HB2⟩
             ·
              obtain rfl : n0_5 = k := by omega
              have HAR := Lib.hid (show l0_5.all (pPkR p0_0) = true by have := HA.out; rwa [List.take_of_length_le (by rw [HL0_5.out]; omega)] at this)
              clear HA
              obtain ⟨eb0, eb1, eb2, eb3, eb4, eb5, eb6, eb7⟩ := KB0.out.p8
              go_wp2_with fail
              go_ret
              exact ⟨by rw [show mIsPack p0_0 p0_1 p0_2 l0_3 l0_4 l0_5 l0_6 = true by simp only [mIsPack, mPkG, mPkF, mPkR, Q0.out, Q1.out, Q2.out, Q3.out, Q4.out, Q5.out, Q6.out, HAG.out, HAF.out, HAR.out, Bool.and_true, Bool.true_and]]; rfl, HB.out⟩
       | false =>
        have Q6 := Lib.hid q6
        clear q6
        obtain ⟨eb0, eb1, eb2, eb3, eb4, eb5, eb6, eb7⟩ := KB0.out.p8
        go_wp2_with fail
        clear eb0 eb1 eb2 eb3 eb4 eb5 eb6 eb7
        refine Calls.mono (spec_AreOps l0_6 A0_6 n0_6 c0_6 lo0_6 hi0_6 _ h0_6 (R0_6.out.new HB.out) k0_6 b0_6) ?_
        rw [Q6.out]
        rintro e v6 ⟨rfl, hb⟩
        replace KB0 := Lib.hid (KB0.out.new hb)
        replace HB := Lib.hid (below_trans HB.out hb (Nat.le_refl _))
        clear hb
        obtain ⟨eb0, eb1, eb2, eb3, eb4, eb5, eb6, eb7⟩ := KB0.out.p8
        go_wp2_with fail
        go_ret
        exact ⟨by rw [show mIsPack p0_0 p0_1 p0_2 l0_3 l0_4 l0_5 l0_6 = false by simp only [mIsPack, mPkG, mPkF, mPkR, Q6.out, Bool.and_false, Bool.false_and, Bool.true_and]]; rfl, HB.out⟩
      | false =>
       have Q5 := Lib.hid q5
       clear q5
       have g5 : decide ((6 : Int) < (n0_5 : Int)) = true := by
        have h1 := Q5.out
        rw [HL0_5.out] at h1
        simp at h1 ⊢
        omega
       obtain ⟨eb0, eb1, eb2, eb3, eb4, eb5, eb6, eb7⟩ := KB0.out.p8
       go_wp2_with fail
       go_ret
       exact ⟨by rw [show mIsPack p0_0 p0_1 p0_2 l0_3 l0_4 l0_5 l0_6 = false by simp only [mIsPack, mPkG, mPkF, mPkR, Q5.out, Bool.and_false, Bool.false_and, Bool.true_and]]; rfl, HB.out⟩
     | false =>
      have Q4 := Lib.hid q4
      clear q4
      have g4 : decide ((6 : Int) < (n0_4 : Int)) = true := by
       have h1 := Q4.out
       rw [HL0_4.out] at h1
       simp at h1 ⊢
       omega
      obtain ⟨eb0, eb1, eb2, eb3, eb4, eb5, eb6, eb7⟩ := KB0.out.p8
      go_wp2_with fail
      go_ret
      exact ⟨by rw [show mIsPack p0_0 p0_1 p0_2 l0_3 l0_4 l0_5 l0_6 = false by simp only [mIsPack, mPkG, mPkF, mPkR, Q4.out, Bool.and_false, Bool.false_and, Bool.true_and]]; rfl, HB.out⟩
    | false =>
     have Q3 := Lib.hid q3
     clear q3
     have g3 : decide ((6 : Int) < (n0_3 : Int)) = true := by
      have h1 := Q3.out
      rw [HL0_3.out] at h1
      simp at h1 ⊢
      omega
     obtain ⟨eb0, eb1, eb2, eb3, eb4, eb5, eb6, eb7⟩ := KB0.out.p8
     go_wp2_with fail
     go_ret
     exact ⟨by rw [show mIsPack p0_0 p0_1 p0_2 l0_3 l0_4 l0_5 l0_6 = false by simp only [mIsPack, mPkG, mPkF, mPkR, Q3.out, Bool.and_false, Bool.false_and, Bool.true_and]]; rfl, HB.out⟩
   | false =>
    have Q2 := Lib.hid q2
    clear q2
    obtain ⟨eb0, eb1, eb2, eb3, eb4, eb5, eb6, eb7⟩ := KB0.out.p8
    go_wp2_with fail
    clear eb0 eb1 eb2 eb3 eb4 eb5 eb6 eb7
    refine Calls.mono (spec_in _ _ _ _) ?_
    rw [Q2.out]
    rintro e v2 ⟨rfl, rfl⟩
    obtain ⟨eb0, eb1, eb2, eb3, eb4, eb5, eb6, eb7⟩ := KB0.out.p8
    go_wp2_with fail
    go_ret
    exact ⟨by rw [show mIsPack p0_0 p0_1 p0_2 l0_3 l0_4 l0_5 l0_6 = false by simp only [mIsPack, mPkG, mPkF, mPkR, Q2.out, Bool.and_false, Bool.false_and, Bool.true_and]]; rfl, HB.out⟩
  | false =>
   have Q1 := Lib.hid q1
   clear q1
   obtain ⟨eb0, eb1, eb2, eb3, eb4, eb5, eb6, eb7⟩ := KB0.out.p8
   go_wp2_with fail
   clear eb0 eb1 eb2 eb3 eb4 eb5 eb6 eb7
   refine Calls.mono (spec_in _ _ _ _) ?_
   rw [Q1.out]
   rintro e v1 ⟨rfl, rfl⟩
   obtain ⟨eb0, eb1, eb2, eb3, eb4, eb5, eb6, eb7⟩ := KB0.out.p8
   go_wp2_with fail
   go_ret
   exact ⟨by rw [show mIsPack p0_0 p0_1 p0_2 l0_3 l0_4 l0_5 l0_6 = false by simp only [mIsPack, mPkG, mPkF, mPkR, Q1.out, Bool.and_false, Bool.false_and, Bool.true_and]]; rfl, HB.out⟩
 | false =>
  have Q0 := Lib.hid q0
  clear q0
  obtain ⟨eb0, eb1, eb2, eb3, eb4, eb5, eb6, eb7⟩ := KB0.out.p8
  go_wp2_with fail
  clear eb0 eb1 eb2 eb3 eb4 eb5 eb6 eb7
  refine Calls.mono (spec_in _ _ _ _) ?_
  rw [Q0.out]
  rintro e v0 ⟨rfl, rfl⟩
  obtain ⟨eb0, eb1, eb2, eb3, eb4, eb5, eb6, eb7⟩ := KB0.out.p8
  go_wp2_with fail
  go_ret
  exact ⟨by rw [show mIsPack p0_0 p0_1 p0_2 l0_3 l0_4 l0_5 l0_6 = false by simp only [mIsPack, mPkG, mPkF, mPkR, Q0.out, Bool.and_false, Bool.false_and, Bool.true_and]]; rfl, HB.out⟩

end Go.Proofs.YtkedacmpmancbaaGreatDoor
namespace Go.Proofs.YtkedacmpmancbaaGreatDoor
open Go Go.ChangeShapes Go.WideShapes Go.ChangeAt Go.RowKit Go.Lib
set_option linter.unusedVariables false
set_option linter.unusedSimpArgs false
set_option maxRecDepth 100000
theorem pk_boxp {w : World} {g : Nat} {t : TypeId} {cs : Array Value} (h : BoxAt w g t cs) (n : Nat) (hn : cs.size = n) : Rd w g (g + 1) 1 (some ⟨g, 0, none⟩) n cs.toList :=
 ⟨by simpa using hn, fun _ => ⟨g, 0, rfl, Nat.le_refl _, by omega, fun j u hu => by rw [Nat.zero_add]; exact h.at_ (by simpa using hu)⟩⟩
theorem ones_i64s (us : Array Value) (h : us.toList.all (fun u => u.oneCell') = true) : ∀ u ∈ us.toList, u.oneCell' = true := fun u hu => List.all_eq_true.1 h u hu
set_option maxHeartbeats 32000000 in
theorem spec_PackageInts (p0 p1 p2 : Int) (l3 : List TGrant) (A3 : Option Addr) (n3 c3 lo3 hi3 : Nat) (l4 : List TFlow) (A4 : Option Addr) (n4 c4 lo4 hi4 : Nat) (l5 : List TRule) (A5 : Option Addr) (n5 c5 lo5 hi5 : Nat) (l6 : List TOp) (A6 : Option Addr) (n6 c6 lo6 hi6 : Nat) (p7 : Int) (w : World) (h3 : n3 ≤ 1048576) (r3 : Rd w lo3 hi3 7 A3 n3 (cGrant l3)) (k3 : n3 ≤ c3) (b3 : Hid (cGrantOk l3)) (h4 : n4 ≤ 1048576) (r4 : Rd w lo4 hi4 3 A4 n4 (cFlow l4)) (k4 : n4 ≤ c4) (b4 : Hid (cFlowOk l4)) (h5 : n5 ≤ 1048576) (r5 : Rd w lo5 hi5 8 A5 n5 (cRule l5)) (k5 : n5 ≤ c5) (b5 : Hid (cRuleOk l5)) (h6 : n6 ≤ 1048576) (r6 : Rd w lo6 hi6 4 A6 n6 (cOp l6)) (k6 : n6 ≤ c6) (b6 : Hid (cOpOk l6)) :
  Calls Tryz.prog 171 #[.agg #[.int .i64 p0, .int .i64 p1, .int .i64 p2, .slice A3 n3 c3, .slice A4 n4 c4, .slice A5 n5 c5, .slice A6 n6 c6, .int .i64 p7]] w (Makes 3 1 (mPInts p0 p1 p2 l3 l4 l5 l6).length (i64s (mPInts p0 p1 p2 l3 l4 l5 l6)) w) := by
 have KB0 := Lib.hid (box_new w 35 #[.int .i64 p0, .int .i64 p1, .int .i64 p2, .slice A3 n3 c3, .slice A4 n4 c4, .slice A5 n5 c5, .slice A6 n6 c6, .int .i64 p7])
 have HB0 := Lib.hid ((Below.refl w.heap.size w).alloc (Nat.le_refl _) (.cells #[.int .i64 p0, .int .i64 p1, .int .i64 p2, .slice A3 n3 c3, .slice A4 n4 c4, .slice A5 n5 c5, .slice A6 n6 c6, .int .i64 p7] 35))
 have CQ := Lib.hid (spec_IsPackage p0 p1 p2 l3 A3 n3 c3 lo3 hi3 l4 A4 n4 c4 lo4 hi4 l5 A5 n5 c5 lo5 hi5 l6 A6 n6 c6 lo6 hi6 p7 (w.alloc (.cells #[.int .i64 p0, .int .i64 p1, .int .i64 p2, .slice A3 n3 c3, .slice A4 n4 c4, .slice A5 n5 c5, .slice A6 n6 c6, .int .i64 p7] 35)) h3 (r3.alloc _) k3 b3 h4 (r4.alloc _) k4 b4 h5 (r5.alloc _) k5 b5 h6 (r6.alloc _) k6 b6)
 have HL3 := Lib.hid (rd_len TGrant.len r3 (by decide))
 have RA3 := Lib.hid (r3.alloc (.cells #[.int .i64 p0, .int .i64 p1, .int .i64 p2, .slice A3 n3 c3, .slice A4 n4 c4, .slice A5 n5 c5, .slice A6 n6 c6, .int .i64 p7] 35))
 have HL4 := Lib.hid (rd_len TFlow.len r4 (by decide))
 have RA4 := Lib.hid (r4.alloc (.cells #[.int .i64 p0, .int .i64 p1, .int .i64 p2, .slice A3 n3 c3, .slice A4 n4 c4, .slice A5 n5 c5, .slice A6 n6 c6, .int .i64 p7] 35))
 have HL5 := Lib.hid (rd_len TRule.len r5 (by decide))
 have RA5 := Lib.hid (r5.alloc (.cells #[.int .i64 p0, .int .i64 p1, .int .i64 p2, .slice A3 n3 c3, .slice A4 n4 c4, .slice A5 n5 c5, .slice A6 n6 c6, .int .i64 p7] 35))
 have HL6 := Lib.hid (rd_len TOp.len r6 (by decide))
 have RA6 := Lib.hid (r6.alloc (.cells #[.int .i64 p0, .int .i64 p1, .int .i64 p2, .slice A3 n3 c3, .slice A4 n4 c4, .slice A5 n5 c5, .slice A6 n6 c6, .int .i64 p7] 35))
 clear r3 r4 r5 r6
 cases hq : mIsPack p0 p1 p2 l3 l4 l5 l6 with
 | false =>
  rw [hq] at CQ
  have HE := Lib.hid (show mPInts p0 p1 p2 l3 l4 l5 l6 = [] by unfold mPInts; rw [if_neg (by rw [hq]; decide)])
  clear hq
  go_enter Tryz.func171, Tryz.ntmps171
  go_wp2_with fail
  refine CQ.out.mono ?_
  rintro e w1 ⟨rfl, hb⟩
  have HB1 := Lib.hid (below_trans HB0.out hb (by simp))
  have hs0 := HB1.out.size
  have HO1 := Lib.hid (show (w1.alloc (.cells #[] 3)).ownsRow w.heap.size 3 1 (.slice (some ⟨w1.heap.size, 0, none⟩) 0 0) 0 (i64s []) from World.ownsRow_lit w1 #[] 0 hs0 (by unfold maxLen; omega) rfl)
  clear hb CQ
  go_wp2_with fail
  go_ret
  rw [HE.out]
  exact makes_of_own HO1.out (HB1.out.alloc hs0 _)
 | true =>
  rw [hq] at CQ
  have HE := Lib.hid (show mPInts p0 p1 p2 l3 l4 l5 l6 = mAll p0 p1 p2 l3 l4 l5 l6 by unfold mPInts; rw [if_pos hq])
  clear hq
  go_enter Tryz.func171, Tryz.ntmps171
  go_wp2_with fail
  refine CQ.out.mono ?_
  rintro e w1 ⟨rfl, hb⟩
  have HB1 := Lib.hid (below_trans HB0.out hb (by simp))
  have KB := Lib.hid (KB0.out.new hb)
  have hs1 : w.heap.size + 1 ≤ w1.heap.size := by have := hb.size; simpa using this
  have hs0 := HB1.out.size
  have R3 := Lib.hid (RA3.out.new hb)
  have R4 := Lib.hid (RA4.out.new hb)
  have R5 := Lib.hid (RA5.out.new hb)
  have R6 := Lib.hid (RA6.out.new hb)
  clear hb CQ KB0 HB0
  obtain ⟨k0, k1, k2, k3, k4, k5, k6, k7⟩ := KB.out.p8
  have hkl := KB.out.lt
  obtain ⟨P0, HP0⟩ : ∃ P, Hid ([p0, p1, p2, (n3 : Int)] = P) := ⟨_, Lib.hid rfl⟩
  have NP0 := Lib.hid (show 4 = P0.length by rw [← HP0.out]; rfl)
  have RP0 := Lib.hid (show (w1.alloc (.cells #[.int .i64 p0, .int .i64 p1, .int .i64 p2, .int .i64 n3] 3)).ownsRow w1.heap.size 3 1 (.slice (some ⟨w1.heap.size, 0, none⟩) 4 4) 4 (i64s P0) by rw [← HP0.out]; exact World.ownsRow_lit w1 #[.int .i64 p0, .int .i64 p1, .int .i64 p2, .int .i64 n3] 4 (Nat.le_refl _) (by unfold maxLen; omega) rfl)
  have KP0 := Lib.hid (KB.out.alloc_ (.cells #[.int .i64 p0, .int .i64 p1, .int .i64 p2, .int .i64 n3] 3))
  have BP0 := Lib.hid ((Below.refl w1.heap.size w1).alloc (Nat.le_refl _) (.cells #[.int .i64 p0, .int .i64 p1, .int .i64 p2, .int .i64 n3] 3))
  go_wp2_with fail
  clear k0 k1 k2 k3 k4 k5 k6 k7 hkl KB
  go_loopg [3, 4] n3 (fun gg v i wr => ∃ (k nn : Nat) (X : List Int), k ≤ n3 ∧ n3 - k ≤ gg ∧ i = .int .i64 k ∧ nn ≤ 4 + k * 6 ∧ Hid (X = P0 ++ (l3.take k).flatMap iG ∧ nn = X.length) ∧ Hid (wr.ownsRow w1.heap.size 3 1 v nn (i64s X)) ∧ Hid (BoxAt wr w.heap.size 35 #[.int .i64 p0, .int .i64 p1, .int .i64 p2, .slice A3 n3 c3, .slice A4 n4 c4, .slice A5 n5 c5, .slice A6 n6 c6, .int .i64 p7]) ∧ Hid (Below w1.heap.size w1 wr))
  case atStart => exact ⟨0, _, P0, Nat.zero_le _, by omega, rfl, by omega, Lib.hid ⟨by simp, NP0.out⟩, RP0, KP0, BP0⟩
  case round =>
   clear RP0 KP0 BP0
   obtain ⟨k, nn, X, hk, hg, rfl, hnn, HX, HO, KB, HB⟩ := hrel
   by_cases hlt : k < n3
   ·
    obtain ⟨b, off, x, rfl, _, _, hz, hc⟩ := rd_elem TGrant.len (R3.out.new HB.out) HL3.out hlt
    have HX1 := Lib.hid (show X ++ iG x = P0 ++ (l3.take (k + 1)).flatMap iG by rw [flat_one_more hz, HX.out.1, List.append_assoc])
    obtain ⟨f0, f1, f2, f3, f4, f5, f6⟩ := x
    cases f6
    ·
     have c0 : wr.cell? ⟨b, off + k * 7, none⟩ = _ := hc 0 _ rfl
     have c1 := hc 1 _ rfl
     have c2 := hc 2 _ rfl
     have c3 := hc 3 _ rfl
     have c4 := hc 4 _ rfl
     have c5 := hc 5 _ rfl
     have c6 := hc 6 _ rfl
     have HS := Lib.hid HB.out.size
     have HB1 := Lib.hid (HB.out.alloc HS.out (.cells #[.int .i64 f0, .int .i64 f1, .int .i64 f2, .int .i64 f3, .int .i64 f4, .int .i64 f5, .bool false] 106))
     have HO1 := Lib.hid (HO.out.alloc (.cells #[.int .i64 f0, .int .i64 f1, .int .i64 f2, .int .i64 f3, .int .i64 f4, .int .i64 f5, .bool false] 106))
     have KB1 := Lib.hid (KB.out.alloc_ (.cells #[.int .i64 f0, .int .i64 f1, .int .i64 f2, .int .i64 f3, .int .i64 f4, .int .i64 f5, .bool false] 106))
     have HS1 := Lib.hid HB1.out.size
     obtain ⟨k0, k1, k2, k3, k4, k5, k6, k7⟩ := KB.out.p8
     have hkl := KB.out.lt
     clear hz hc
     go_wp2_with (at_builtin; refine wp_app_lit rfl _ _ _ rfl w1.heap.size 3 (.int .i64 0) 1 8 Tryz.underlying116 info_int rfl (by decide) _ _ _ rfl HO1.out #[.int .i64 f1, .int .i64 f2, .int .i64 f3, .int .i64 f4, .int .i64 f5, .int .i64 0] 6 6 _ rfl (by simp) rfl (ones_i64s _ (by rfl)) (by unfold maxLen; omega) (by omega) HS1.out ?_; intro v3 w3 ho3 hb3)
     have HO3 := Lib.hid (show w3.ownsRow w1.heap.size 3 1 v3 (nn + 6) (i64s (X ++ [f1, f2, f3, f4, f5, 0])) by rw [i64s_app]; exact ho3)
     have KB3 := Lib.hid ((hb3.block w.heap.size (by have := hs1; omega)).trans KB1.out)
     have HB3 := Lib.hid (HB1.out.trans hb3)
     clear ho3 hb3 k0 k1 k2 k3 k4 k5 k6 k7
     go_wp2_with fail
     go_roundg (n3 - (k + 1))
     case measure => omega
     case rel => exact ⟨k + 1, nn + 6, X ++ [f1, f2, f3, f4, f5, 0], by omega, by omega, by go_num, by omega, Lib.hid ⟨HX1.out, by rw [List.length_append, HX.out.2]; rfl⟩, HO3, KB3, HB3⟩
    ·
     have c0 : wr.cell? ⟨b, off + k * 7, none⟩ = _ := hc 0 _ rfl
     have c1 := hc 1 _ rfl
     have c2 := hc 2 _ rfl
     have c3 := hc 3 _ rfl
     have c4 := hc 4 _ rfl
     have c5 := hc 5 _ rfl
     have c6 := hc 6 _ rfl
     have HS := Lib.hid HB.out.size
     have HB1 := Lib.hid (HB.out.alloc HS.out (.cells #[.int .i64 f0, .int .i64 f1, .int .i64 f2, .int .i64 f3, .int .i64 f4, .int .i64 f5, .bool true] 106))
     have HO1 := Lib.hid (HO.out.alloc (.cells #[.int .i64 f0, .int .i64 f1, .int .i64 f2, .int .i64 f3, .int .i64 f4, .int .i64 f5, .bool true] 106))
     have KB1 := Lib.hid (KB.out.alloc_ (.cells #[.int .i64 f0, .int .i64 f1, .int .i64 f2, .int .i64 f3, .int .i64 f4, .int .i64 f5, .bool true] 106))
     have HS1 := Lib.hid HB1.out.size
     obtain ⟨k0, k1, k2, k3, k4, k5, k6, k7⟩ := KB.out.p8
     have hkl := KB.out.lt
     clear hz hc
     go_wp2_with (at_builtin; refine wp_app_lit rfl _ _ _ rfl w1.heap.size 3 (.int .i64 0) 1 8 Tryz.underlying116 info_int rfl (by decide) _ _ _ rfl HO1.out #[.int .i64 f1, .int .i64 f2, .int .i64 f3, .int .i64 f4, .int .i64 f5, .int .i64 1] 6 6 _ rfl (by simp) rfl (ones_i64s _ (by rfl)) (by unfold maxLen; omega) (by omega) HS1.out ?_; intro v3 w3 ho3 hb3)
     have HO3 := Lib.hid (show w3.ownsRow w1.heap.size 3 1 v3 (nn + 6) (i64s (X ++ [f1, f2, f3, f4, f5, 1])) by rw [i64s_app]; exact ho3)
     have KB3 := Lib.hid ((hb3.block w.heap.size (by have := hs1; omega)).trans KB1.out)
     have HB3 := Lib.hid (HB1.out.trans hb3)
     clear ho3 hb3 k0 k1 k2 k3 k4 k5 k6 k7
     go_wp2_with fail
     go_roundg (n3 - (k + 1))
     case measure => omega
     case rel => exact ⟨k + 1, nn + 6, X ++ [f1, f2, f3, f4, f5, 1], by omega, by omega, by go_num, by omega, Lib.hid ⟨HX1.out, by rw [List.length_append, HX.out.2]; rfl⟩, HO3, KB3, HB3⟩
   ·
    obtain rfl : n3 = k := by omega
    have HT := Lib.hid (show X = P0 ++ l3.flatMap iG by rw [HX.out.1, List.take_of_length_le (by rw [HL3.out]; omega)])
    have HS := Lib.hid HB.out.size
    obtain ⟨k0, k1, k2, k3, k4, k5, k6, k7⟩ := KB.out.p8
    have hkl := KB.out.lt
    go_wp2_with (at_builtin; refine wp_app_lit rfl _ _ _ rfl w1.heap.size 3 (.int .i64 0) 1 8 Tryz.underlying116 info_int rfl (by decide) _ _ _ rfl HO.out #[.int .i64 n4] 1 1 _ rfl (by simp) rfl (ones_i64s _ (by rfl)) (by unfold maxLen; omega) (by omega) HS.out ?_; intro v3 w3 ho3 hb3)
    obtain ⟨P1, HP1⟩ : ∃ P, Hid (P0 ++ l3.flatMap iG ++ [(n4 : Int)] = P) := ⟨_, Lib.hid rfl⟩
    have NP1 := Lib.hid (show nn + 1 = P1.length by rw [← HP1.out, ← HT.out, List.length_append, HX.out.2]; rfl)
    have RP1 := Lib.hid (show w3.ownsRow w1.heap.size 3 1 v3 (nn + 1) (i64s P1) by rw [← HP1.out, ← HT.out, i64s_app]; exact ho3)
    have KP1 := Lib.hid ((hb3.block w.heap.size (by have := hs1; omega)).trans KB.out)
    have BP1 := Lib.hid (HB.out.trans hb3)
    have hnb1 : nn + 1 ≤ 6291461 := by omega
    clear ho3 hb3 k0 k1 k2 k3 k4 k5 k6 k7 HO KB HB HX HT
    go_wp2_with fail
    go_loopg [3, 7] n4 (fun gg v i wr => ∃ (k nn : Nat) (X : List Int), k ≤ n4 ∧ n4 - k ≤ gg ∧ i = .int .i64 k ∧ nn ≤ 6291461 + k * 2 ∧ Hid (X = P1 ++ (l4.take k).flatMap iF ∧ nn = X.length) ∧ Hid (wr.ownsRow w1.heap.size 3 1 v nn (i64s X)) ∧ Hid (BoxAt wr w.heap.size 35 #[.int .i64 p0, .int .i64 p1, .int .i64 p2, .slice A3 n3 c3, .slice A4 n4 c4, .slice A5 n5 c5, .slice A6 n6 c6, .int .i64 p7]) ∧ Hid (Below w1.heap.size w1 wr))
    case atStart => exact ⟨0, _, P1, Nat.zero_le _, by omega, rfl, by omega, Lib.hid ⟨by simp, NP1.out⟩, RP1, KP1, BP1⟩
    case round =>
     clear RP1 KP1 BP1
     obtain ⟨k, nn, X, hk, hg, rfl, hnn, HX, HO, KB, HB⟩ := hrel
     by_cases hlt : k < n4
     ·
      obtain ⟨b, off, x, rfl, _, _, hz, hc⟩ := rd_elem TFlow.len R4.out HL4.out hlt
      have HX1 := Lib.hid (show X ++ iF x = P1 ++ (l4.take (k + 1)).flatMap iF by rw [flat_one_more hz, HX.out.1, List.append_assoc])
      have e0 : w1.cell? ⟨b, off + k * 3, none⟩ = _ := hc 0 _ rfl
      have e1 := hc 1 _ rfl
      have e2 := hc 2 _ rfl
      have hbl : b < w1.heap.size := World.block_lt_of_cell? _ _ e0
      obtain ⟨k0, k1, k2, k3, k4, k5, k6, k7⟩ := KB.out.p8
      have hkl := KB.out.lt
      clear hz hc
      go_wp2_with fail
      clear k0 k1 k2 k3 k4 k5 k6 k7
      have GK : World.ownsRow (World.drew wr) w1.heap.size 3 1 _ nn (i64s X) := HO.out
      clear HO
      refine wp_region_held_drew (S := fun w' => BoxAt w' w.heap.size 35 #[.int .i64 p0, .int .i64 p1, .int .i64 p2, .slice A3 n3 c3, .slice (some ⟨b, off, none⟩) n4 c4, .slice A5 n5 c5, .slice A6 n6 c6, .int .i64 p7] ∧ Below w1.heap.size w1 w') (by kernel_rfl) ?_ (fun hHeld => ?_)
      ·
       exact ⟨KB.out.drw, HB.out.drew⟩
      generalize (World.drew _) = x0 at hHeld GK ⊢
      refine tz 0 68 hHeld ?_; try simp only [ptl]
      refine tz 1 69 hHeld ?_; try simp only [ptl]
      refine tl 2 70 hHeld rfl ?_ (by intro W hS; obtain ⟨c0_0, c0_1, c0_2, c0_3, c0_4, c0_5, c0_6, c0_7⟩ := (hS.1).p8; have d1 := (hS.2.cell (p := ⟨b, off + k * 3 + 1, none⟩) hbl).trans e1; have d2 := (hS.2.cell (p := ⟨b, off + k * 3 + 2, none⟩) hbl).trans e2; clear hS; go_simp; try with_reducible rfl); try simp only [ptl]
      refine tz 3 71 hHeld ?_; try simp only [ptl]
      refine tz 4 72 hHeld ?_; try simp only [ptl]
      refine tz 5 73 hHeld ?_; try simp only [ptl]
      refine tl 6 74 hHeld rfl ?_ (by intro W hS; obtain ⟨c0_0, c0_1, c0_2, c0_3, c0_4, c0_5, c0_6, c0_7⟩ := (hS.1).p8; have d1 := (hS.2.cell (p := ⟨b, off + k * 3 + 1, none⟩) hbl).trans e1; have d2 := (hS.2.cell (p := ⟨b, off + k * 3 + 2, none⟩) hbl).trans e2; clear hS; go_simp; try with_reducible rfl); try simp only [ptl]
      refine tz 7 75 hHeld ?_; try simp only [ptl]
      refine tl 8 76 hHeld rfl ?_ (by intro W hS; obtain ⟨c0_0, c0_1, c0_2, c0_3, c0_4, c0_5, c0_6, c0_7⟩ := (hS.1).p8; have d1 := (hS.2.cell (p := ⟨b, off + k * 3 + 1, none⟩) hbl).trans e1; have d2 := (hS.2.cell (p := ⟨b, off + k * 3 + 2, none⟩) hbl).trans e2; clear hS; go_simp; try with_reducible rfl); try simp only [ptl]
      refine tz 9 77 hHeld ?_; try simp only [ptl]
      refine tz 10 78 hHeld ?_; try simp only [ptl]
      refine tz 11 79 hHeld ?_; try simp only [ptl]
      refine tl 12 80 hHeld rfl ?_ (by intro W hS; obtain ⟨c0_0, c0_1, c0_2, c0_3, c0_4, c0_5, c0_6, c0_7⟩ := (hS.1).p8; have d1 := (hS.2.cell (p := ⟨b, off + k * 3 + 1, none⟩) hbl).trans e1; have d2 := (hS.2.cell (p := ⟨b, off + k * 3 + 2, none⟩) hbl).trans e2; clear hS; go_simp; try with_reducible rfl); try simp only [ptl]
      refine rd1 (i := 13) (o := ⟨some 81, _, _, _, _, _⟩) rfl (fun K hK => ?_)
      go_simp
      have Gbl := box_new (x0) 3 #[.int .i64 x.f1, .int .i64 x.f2]
      have hb1 := (Below.refl (x0).heap.size (x0)).alloc (Nat.le_refl _) (.cells #[.int .i64 x.f1, .int .i64 x.f2] 3)
      have Lbl : w1.heap.size ≤ (x0).heap.size := by have := (hHeld.1).lt; have := (hHeld.2).size; omega
      have M0bl : w.heap.size < (x0).heap.size := (hHeld.1).lt
      replace GK := own_newer GK hb1
      generalize (x0).alloc (.cells #[.int .i64 x.f1, .int .i64 x.f2] 3) = x1 at hb1 Gbl GK ⊢
      generalize hg : (x0).heap.size = gbl at Gbl Lbl M0bl ⊢
      clear hg
      refine hK.out _ _ ⟨hHeld.1.new hb1, below_trans hHeld.2 hb1 (Nat.le_refl _)⟩ (fun hHeld' => ?_)
      clear hK K hHeld hb1; have hHeld := hHeld'; clear hHeld'
      try simp only [ptl]
      refine rd1 (i := 14) (o := ⟨some 82, _, _, _, _, _⟩) rfl (fun K hK => ?_)
      refine step_appo rfl _ _ _ (by rfl) w1.heap.size 3 (.int .i64 0) 1 8 Tryz.underlying116 info_int rfl (by decide) _ (by rfl) (nn) ((i64s X)) GK gbl (gbl + 1) (some ⟨gbl, 0, none⟩) 2 2 (#[.int .i64 x.f1, .int .i64 x.f2] : Array Value).toList (by rfl) (pk_boxp Gbl 2 rfl) (ones_i64s _ (by rfl)) (by unfold maxLen; omega) (by omega) (by have := (hHeld.2).size; omega) ?_
      intro Vp x2 hO hb0 hgr
      have hsz0 := hb0.size
      clear Gbl
      have OWp := hO
      have hb1 := hb0.mono (show w1.heap.size ≤ w1.heap.size by omega)
      refine hK.out _ _ ⟨(by have := (hHeld.1).lt; exact hHeld.1.chg (chg_of_below hb0) (by omega)), (hHeld.2).trans hb1⟩ (fun hHeld' => ?_)
      clear hK K hHeld hb1 hb0 hgr hO; have hHeld := hHeld'; clear hHeld'
      try simp only [ptl]
      refine tz 15 3 hHeld ?_; try simp only [ptl]
      refine wpAnyH_done (by kernel_rfl) ?_ _
      have HO3 := Lib.hid (show x2.ownsRow w1.heap.size 3 1 Vp (nn + 2) (i64s (X ++ iF x)) by rw [i64s_app]; exact OWp)
      have KB3 := Lib.hid hHeld.1
      have HB3 := Lib.hid hHeld.2
      clear OWp hHeld
      go_wp2_with fail
      go_roundg (n4 - (k + 1))
      case measure => omega
      case rel => exact ⟨k + 1, nn + 2, X ++ iF x, by omega, by omega, by go_num, by omega, Lib.hid ⟨HX1.out, by rw [List.length_append, HX.out.2]; rfl⟩, HO3, KB3, HB3⟩
     ·
      obtain rfl : n4 = k := by omega
      have HT := Lib.hid (show X = P1 ++ l4.flatMap iF by rw [HX.out.1, List.take_of_length_le (by rw [HL4.out]; omega)])
      have HS := Lib.hid HB.out.size
      obtain ⟨k0, k1, k2, k3, k4, k5, k6, k7⟩ := KB.out.p8
      have hkl := KB.out.lt
      go_wp2_with (at_builtin; refine wp_app_lit rfl _ _ _ rfl w1.heap.size 3 (.int .i64 0) 1 8 Tryz.underlying116 info_int rfl (by decide) _ _ _ rfl HO.out #[.int .i64 n5] 1 1 _ rfl (by simp) rfl (ones_i64s _ (by rfl)) (by unfold maxLen; omega) (by omega) HS.out ?_; intro v3 w3 ho3 hb3)
      obtain ⟨P2, HP2⟩ : ∃ P, Hid (P1 ++ l4.flatMap iF ++ [(n5 : Int)] = P) := ⟨_, Lib.hid rfl⟩
      have NP2 := Lib.hid (show nn + 1 = P2.length by rw [← HP2.out, ← HT.out, List.length_append, HX.out.2]; rfl)
      have RP2 := Lib.hid (show w3.ownsRow w1.heap.size 3 1 v3 (nn + 1) (i64s P2) by rw [← HP2.out, ← HT.out, i64s_app]; exact ho3)
      have KP2 := Lib.hid ((hb3.block w.heap.size (by have := hs1; omega)).trans KB.out)
      have BP2 := Lib.hid (HB.out.trans hb3)
      have hnb2 : nn + 1 ≤ 8388614 := by omega
      clear ho3 hb3 k0 k1 k2 k3 k4 k5 k6 k7 HO KB HB HX HT
      go_wp2_with fail
      go_loopg [3, 8] n5 (fun gg v i wr => ∃ (k nn : Nat) (X : List Int), k ≤ n5 ∧ n5 - k ≤ gg ∧ i = .int .i64 k ∧ nn ≤ 8388614 + k * 7 ∧ Hid (X = P2 ++ (l5.take k).flatMap iR ∧ nn = X.length) ∧ Hid (wr.ownsRow w1.heap.size 3 1 v nn (i64s X)) ∧ Hid (BoxAt wr w.heap.size 35 #[.int .i64 p0, .int .i64 p1, .int .i64 p2, .slice A3 n3 c3, .slice A4 n4 c4, .slice A5 n5 c5, .slice A6 n6 c6, .int .i64 p7]) ∧ Hid (Below w1.heap.size w1 wr))
      case atStart => exact ⟨0, _, P2, Nat.zero_le _, by omega, rfl, by omega, Lib.hid ⟨by simp, NP2.out⟩, RP2, KP2, BP2⟩
      case round =>
       clear RP2 KP2 BP2
       obtain ⟨k, nn, X, hk, hg, rfl, hnn, HX, HO, KB, HB⟩ := hrel
       by_cases hlt : k < n5
       ·
        obtain ⟨b, off, x, rfl, _, _, hz, hc⟩ := rd_elem TRule.len (R5.out.new HB.out) HL5.out hlt
        have HX1 := Lib.hid (show X ++ iR x = P2 ++ (l5.take (k + 1)).flatMap iR by rw [flat_one_more hz, HX.out.1, List.append_assoc])
        have c0 : wr.cell? ⟨b, off + k * 8, none⟩ = _ := hc 0 _ rfl
        have c1 := hc 1 _ rfl
        have c2 := hc 2 _ rfl
        have c3 := hc 3 _ rfl
        have c4 := hc 4 _ rfl
        have c5 := hc 5 _ rfl
        have c6 := hc 6 _ rfl
        have c7 := hc 7 _ rfl
        have HS := Lib.hid HB.out.size
        have HB1 := Lib.hid (HB.out.alloc HS.out (.cells #[.int .i64 x.f0, .int .i64 x.f1, .int .i64 x.f2, .int .i64 x.f3, .int .i64 x.f4, .int .i64 x.f5, .int .i64 x.f6, .int .i64 x.f7] 113))
        have HO1 := Lib.hid (HO.out.alloc (.cells #[.int .i64 x.f0, .int .i64 x.f1, .int .i64 x.f2, .int .i64 x.f3, .int .i64 x.f4, .int .i64 x.f5, .int .i64 x.f6, .int .i64 x.f7] 113))
        have KB1 := Lib.hid (KB.out.alloc_ (.cells #[.int .i64 x.f0, .int .i64 x.f1, .int .i64 x.f2, .int .i64 x.f3, .int .i64 x.f4, .int .i64 x.f5, .int .i64 x.f6, .int .i64 x.f7] 113))
        have HS1 := Lib.hid HB1.out.size
        obtain ⟨k0, k1, k2, k3, k4, k5, k6, k7⟩ := KB.out.p8
        have hkl := KB.out.lt
        clear hz hc
        go_wp2_with (at_builtin; refine wp_app_lit rfl _ _ _ rfl w1.heap.size 3 (.int .i64 0) 1 8 Tryz.underlying116 info_int rfl (by decide) _ _ _ rfl HO1.out #[.int .i64 x.f1, .int .i64 x.f2, .int .i64 x.f3, .int .i64 x.f4, .int .i64 x.f5, .int .i64 x.f6, .int .i64 x.f7] 7 7 _ rfl (by simp) rfl (ones_i64s _ (by rfl)) (by unfold maxLen; omega) (by omega) HS1.out ?_; intro v3 w3 ho3 hb3)
        have HO3 := Lib.hid (show w3.ownsRow w1.heap.size 3 1 v3 (nn + 7) (i64s (X ++ iR x)) by rw [i64s_app]; exact ho3)
        have KB3 := Lib.hid ((hb3.block w.heap.size (by have := hs1; omega)).trans KB1.out)
        have HB3 := Lib.hid (HB1.out.trans hb3)
        clear ho3 hb3 k0 k1 k2 k3 k4 k5 k6 k7
        go_wp2_with fail
        go_roundg (n5 - (k + 1))
        case measure => omega
        case rel => exact ⟨k + 1, nn + 7, X ++ iR x, by omega, by omega, by go_num, by omega, Lib.hid ⟨HX1.out, by rw [List.length_append, HX.out.2]; rfl⟩, HO3, KB3, HB3⟩
       ·
        obtain rfl : n5 = k := by omega
        have HT := Lib.hid (show X = P2 ++ l5.flatMap iR by rw [HX.out.1, List.take_of_length_le (by rw [HL5.out]; omega)])
        have HS := Lib.hid HB.out.size
        obtain ⟨k0, k1, k2, k3, k4, k5, k6, k7⟩ := KB.out.p8
        have hkl := KB.out.lt
        go_wp2_with (at_builtin; refine wp_app_lit rfl _ _ _ rfl w1.heap.size 3 (.int .i64 0) 1 8 Tryz.underlying116 info_int rfl (by decide) _ _ _ rfl HO.out #[.int .i64 n6] 1 1 _ rfl (by simp) rfl (ones_i64s _ (by rfl)) (by unfold maxLen; omega) (by omega) HS.out ?_; intro v3 w3 ho3 hb3)
        obtain ⟨P3, HP3⟩ : ∃ P, Hid (P2 ++ l5.flatMap iR ++ [(n6 : Int)] = P) := ⟨_, Lib.hid rfl⟩
        have NP3 := Lib.hid (show nn + 1 = P3.length by rw [← HP3.out, ← HT.out, List.length_append, HX.out.2]; rfl)
        have RP3 := Lib.hid (show w3.ownsRow w1.heap.size 3 1 v3 (nn + 1) (i64s P3) by rw [← HP3.out, ← HT.out, i64s_app]; exact ho3)
        have KP3 := Lib.hid ((hb3.block w.heap.size (by have := hs1; omega)).trans KB.out)
        have BP3 := Lib.hid (HB.out.trans hb3)
        have hnb3 : nn + 1 ≤ 15728647 := by omega
        clear ho3 hb3 k0 k1 k2 k3 k4 k5 k6 k7 HO KB HB HX HT
        go_wp2_with fail
        go_loopg [3, 10] n6 (fun gg v i wr => ∃ (k nn : Nat) (X : List Int), k ≤ n6 ∧ n6 - k ≤ gg ∧ i = .int .i64 k ∧ nn ≤ 15728647 + k * 4 ∧ Hid (X = P3 ++ (l6.take k).flatMap iO ∧ nn = X.length) ∧ Hid (wr.ownsRow w1.heap.size 3 1 v nn (i64s X)) ∧ Hid (BoxAt wr w.heap.size 35 #[.int .i64 p0, .int .i64 p1, .int .i64 p2, .slice A3 n3 c3, .slice A4 n4 c4, .slice A5 n5 c5, .slice A6 n6 c6, .int .i64 p7]) ∧ Hid (Below w1.heap.size w1 wr))
        case atStart => exact ⟨0, _, P3, Nat.zero_le _, by omega, rfl, by omega, Lib.hid ⟨by simp, NP3.out⟩, RP3, KP3, BP3⟩
        case round =>
         clear RP3 KP3 BP3
         obtain ⟨k, nn, X, hk, hg, rfl, hnn, HX, HO, KB, HB⟩ := hrel
         by_cases hlt : k < n6
         ·
          obtain ⟨b, off, x, rfl, _, _, hz, hc⟩ := rd_elem TOp.len R6.out HL6.out hlt
          have HX1 := Lib.hid (show X ++ iO x = P3 ++ (l6.take (k + 1)).flatMap iO by rw [flat_one_more hz, HX.out.1, List.append_assoc])
          have e0 : w1.cell? ⟨b, off + k * 4, none⟩ = _ := hc 0 _ rfl
          have e1 := hc 1 _ rfl
          have e2 := hc 2 _ rfl
          have e3 := hc 3 _ rfl
          have hbl : b < w1.heap.size := World.block_lt_of_cell? _ _ e0
          obtain ⟨k0, k1, k2, k3, k4, k5, k6, k7⟩ := KB.out.p8
          have hkl := KB.out.lt
          clear hz hc
          go_wp2_with fail
          clear k0 k1 k2 k3 k4 k5 k6 k7
          have GK : World.ownsRow (World.drew wr) w1.heap.size 3 1 _ nn (i64s X) := HO.out
          clear HO
          refine wp_region_held_drew (S := fun w' => BoxAt w' w.heap.size 35 #[.int .i64 p0, .int .i64 p1, .int .i64 p2, .slice A3 n3 c3, .slice A4 n4 c4, .slice A5 n5 c5, .slice (some ⟨b, off, none⟩) n6 c6, .int .i64 p7] ∧ Below w1.heap.size w1 w') (by kernel_rfl) ?_ (fun hHeld => ?_)
          ·
           exact ⟨KB.out.drw, HB.out.drew⟩
          generalize (World.drew _) = x0 at hHeld GK ⊢
          refine tz 0 135 hHeld ?_; try simp only [ptl]
          refine tz 1 136 hHeld ?_; try simp only [ptl]
          refine tl 2 137 hHeld rfl ?_ (by intro W hS; obtain ⟨c0_0, c0_1, c0_2, c0_3, c0_4, c0_5, c0_6, c0_7⟩ := (hS.1).p8; have d0 := (hS.2.cell (p := ⟨b, off + k * 4, none⟩) hbl).trans e0; have d1 := (hS.2.cell (p := ⟨b, off + k * 4 + 1, none⟩) hbl).trans e1; have d2 := (hS.2.cell (p := ⟨b, off + k * 4 + 2, none⟩) hbl).trans e2; have d3 := (hS.2.cell (p := ⟨b, off + k * 4 + 3, none⟩) hbl).trans e3; clear hS; go_simp; try with_reducible rfl); try simp only [ptl]
          refine tz 3 138 hHeld ?_; try simp only [ptl]
          refine tz 4 139 hHeld ?_; try simp only [ptl]
          refine tz 5 140 hHeld ?_; try simp only [ptl]
          refine tl 6 141 hHeld rfl ?_ (by intro W hS; obtain ⟨c0_0, c0_1, c0_2, c0_3, c0_4, c0_5, c0_6, c0_7⟩ := (hS.1).p8; have d0 := (hS.2.cell (p := ⟨b, off + k * 4, none⟩) hbl).trans e0; have d1 := (hS.2.cell (p := ⟨b, off + k * 4 + 1, none⟩) hbl).trans e1; have d2 := (hS.2.cell (p := ⟨b, off + k * 4 + 2, none⟩) hbl).trans e2; have d3 := (hS.2.cell (p := ⟨b, off + k * 4 + 3, none⟩) hbl).trans e3; clear hS; go_simp; try with_reducible rfl); try simp only [ptl]
          refine tz 7 142 hHeld ?_; try simp only [ptl]
          refine tl 8 143 hHeld rfl ?_ (by intro W hS; obtain ⟨c0_0, c0_1, c0_2, c0_3, c0_4, c0_5, c0_6, c0_7⟩ := (hS.1).p8; have d0 := (hS.2.cell (p := ⟨b, off + k * 4, none⟩) hbl).trans e0; have d1 := (hS.2.cell (p := ⟨b, off + k * 4 + 1, none⟩) hbl).trans e1; have d2 := (hS.2.cell (p := ⟨b, off + k * 4 + 2, none⟩) hbl).trans e2; have d3 := (hS.2.cell (p := ⟨b, off + k * 4 + 3, none⟩) hbl).trans e3; clear hS; go_simp; try with_reducible rfl); try simp only [ptl]
          refine tz 9 144 hHeld ?_; try simp only [ptl]
          refine tz 10 145 hHeld ?_; try simp only [ptl]
          refine tz 11 146 hHeld ?_; try simp only [ptl]
          refine tl 12 147 hHeld rfl ?_ (by intro W hS; obtain ⟨c0_0, c0_1, c0_2, c0_3, c0_4, c0_5, c0_6, c0_7⟩ := (hS.1).p8; have d0 := (hS.2.cell (p := ⟨b, off + k * 4, none⟩) hbl).trans e0; have d1 := (hS.2.cell (p := ⟨b, off + k * 4 + 1, none⟩) hbl).trans e1; have d2 := (hS.2.cell (p := ⟨b, off + k * 4 + 2, none⟩) hbl).trans e2; have d3 := (hS.2.cell (p := ⟨b, off + k * 4 + 3, none⟩) hbl).trans e3; clear hS; go_simp; try with_reducible rfl); try simp only [ptl]
          refine tz 13 148 hHeld ?_; try simp only [ptl]
          refine tl 14 149 hHeld rfl ?_ (by intro W hS; obtain ⟨c0_0, c0_1, c0_2, c0_3, c0_4, c0_5, c0_6, c0_7⟩ := (hS.1).p8; have d0 := (hS.2.cell (p := ⟨b, off + k * 4, none⟩) hbl).trans e0; have d1 := (hS.2.cell (p := ⟨b, off + k * 4 + 1, none⟩) hbl).trans e1; have d2 := (hS.2.cell (p := ⟨b, off + k * 4 + 2, none⟩) hbl).trans e2; have d3 := (hS.2.cell (p := ⟨b, off + k * 4 + 3, none⟩) hbl).trans e3; clear hS; go_simp; try with_reducible rfl); try simp only [ptl]
          refine tz 15 150 hHeld ?_; try simp only [ptl]
          refine tz 16 151 hHeld ?_; try simp only [ptl]
          refine tz 17 152 hHeld ?_; try simp only [ptl]
          refine tl 18 153 hHeld rfl ?_ (by intro W hS; obtain ⟨c0_0, c0_1, c0_2, c0_3, c0_4, c0_5, c0_6, c0_7⟩ := (hS.1).p8; have d0 := (hS.2.cell (p := ⟨b, off + k * 4, none⟩) hbl).trans e0; have d1 := (hS.2.cell (p := ⟨b, off + k * 4 + 1, none⟩) hbl).trans e1; have d2 := (hS.2.cell (p := ⟨b, off + k * 4 + 2, none⟩) hbl).trans e2; have d3 := (hS.2.cell (p := ⟨b, off + k * 4 + 3, none⟩) hbl).trans e3; clear hS; go_simp; try with_reducible rfl); try simp only [ptl]
          refine tz 19 154 hHeld ?_; try simp only [ptl]
          refine tl 20 155 hHeld rfl ?_ (by intro W hS; obtain ⟨c0_0, c0_1, c0_2, c0_3, c0_4, c0_5, c0_6, c0_7⟩ := (hS.1).p8; have d0 := (hS.2.cell (p := ⟨b, off + k * 4, none⟩) hbl).trans e0; have d1 := (hS.2.cell (p := ⟨b, off + k * 4 + 1, none⟩) hbl).trans e1; have d2 := (hS.2.cell (p := ⟨b, off + k * 4 + 2, none⟩) hbl).trans e2; have d3 := (hS.2.cell (p := ⟨b, off + k * 4 + 3, none⟩) hbl).trans e3; clear hS; go_simp; try with_reducible rfl); try simp only [ptl]
          refine tz 21 156 hHeld ?_; try simp only [ptl]
          refine tz 22 157 hHeld ?_; try simp only [ptl]
          refine tz 23 158 hHeld ?_; try simp only [ptl]
          refine tl 24 159 hHeld rfl ?_ (by intro W hS; obtain ⟨c0_0, c0_1, c0_2, c0_3, c0_4, c0_5, c0_6, c0_7⟩ := (hS.1).p8; have d0 := (hS.2.cell (p := ⟨b, off + k * 4, none⟩) hbl).trans e0; have d1 := (hS.2.cell (p := ⟨b, off + k * 4 + 1, none⟩) hbl).trans e1; have d2 := (hS.2.cell (p := ⟨b, off + k * 4 + 2, none⟩) hbl).trans e2; have d3 := (hS.2.cell (p := ⟨b, off + k * 4 + 3, none⟩) hbl).trans e3; clear hS; go_simp; try with_reducible rfl); try simp only [ptl]
          refine rd1 (i := 25) (o := ⟨some 160, _, _, _, _, _⟩) rfl (fun K hK => ?_)
          go_simp
          have Gbl := box_new (x0) 3 #[.int .i64 x.f0, .int .i64 x.f1, .int .i64 x.f2, .int .i64 x.f3]
          have hb1 := (Below.refl (x0).heap.size (x0)).alloc (Nat.le_refl _) (.cells #[.int .i64 x.f0, .int .i64 x.f1, .int .i64 x.f2, .int .i64 x.f3] 3)
          have Lbl : w1.heap.size ≤ (x0).heap.size := by have := (hHeld.1).lt; have := (hHeld.2).size; omega
          have M0bl : w.heap.size < (x0).heap.size := (hHeld.1).lt
          replace GK := own_newer GK hb1
          generalize (x0).alloc (.cells #[.int .i64 x.f0, .int .i64 x.f1, .int .i64 x.f2, .int .i64 x.f3] 3) = x1 at hb1 Gbl GK ⊢
          generalize hg : (x0).heap.size = gbl at Gbl Lbl M0bl ⊢
          clear hg
          refine hK.out _ _ ⟨hHeld.1.new hb1, below_trans hHeld.2 hb1 (Nat.le_refl _)⟩ (fun hHeld' => ?_)
          clear hK K hHeld hb1; have hHeld := hHeld'; clear hHeld'
          try simp only [ptl]
          refine rd1 (i := 26) (o := ⟨some 161, _, _, _, _, _⟩) rfl (fun K hK => ?_)
          refine step_appo rfl _ _ _ (by rfl) w1.heap.size 3 (.int .i64 0) 1 8 Tryz.underlying116 info_int rfl (by decide) _ (by rfl) (nn) ((i64s X)) GK gbl (gbl + 1) (some ⟨gbl, 0, none⟩) 4 4 (#[.int .i64 x.f0, .int .i64 x.f1, .int .i64 x.f2, .int .i64 x.f3] : Array Value).toList (by rfl) (pk_boxp Gbl 4 rfl) (ones_i64s _ (by rfl)) (by unfold maxLen; omega) (by omega) (by have := (hHeld.2).size; omega) ?_
          intro Vp x2 hO hb0 hgr
          have hsz0 := hb0.size
          clear Gbl
          have OWp := hO
          have hb1 := hb0.mono (show w1.heap.size ≤ w1.heap.size by omega)
          refine hK.out _ _ ⟨(by have := (hHeld.1).lt; exact hHeld.1.chg (chg_of_below hb0) (by omega)), (hHeld.2).trans hb1⟩ (fun hHeld' => ?_)
          clear hK K hHeld hb1 hb0 hgr hO; have hHeld := hHeld'; clear hHeld'
          try simp only [ptl]
          refine tz 27 3 hHeld ?_; try simp only [ptl]
          refine wpAnyH_done (by kernel_rfl) ?_ _
          have HO3 := Lib.hid (show x2.ownsRow w1.heap.size 3 1 Vp (nn + 4) (i64s (X ++ iO x)) by rw [i64s_app]; exact OWp)
          have KB3 := Lib.hid hHeld.1
          have HB3 := Lib.hid hHeld.2
          clear OWp hHeld
          go_wp2_with fail
          go_roundg (n6 - (k + 1))
          case measure => omega
          case rel => exact ⟨k + 1, nn + 4, X ++ iO x, by omega, by omega, by go_num, by omega, Lib.hid ⟨HX1.out, by rw [List.length_append, HX.out.2]; rfl⟩, HO3, KB3, HB3⟩
         ·
          obtain rfl : n6 = k := by omega
          have HT := Lib.hid (show X = P3 ++ l6.flatMap iO by rw [HX.out.1, List.take_of_length_le (by rw [HL6.out]; omega)])
          obtain ⟨k0, k1, k2, k3, k4, k5, k6, k7⟩ := KB.out.p8
          have hkl := KB.out.lt
          have HE2 := Lib.hid (show mPInts p0 p1 p2 l3 l4 l5 l6 = X by
           rw [HE.out, HT.out, ← HP3.out, ← HP2.out, ← HP1.out, ← HP0.out]
           unfold mAll cnt
           rw [HL3.out, HL4.out, HL5.out, HL6.out]
           simp)
          have HBf := Lib.hid (HB1.out.trans (HB.out.mono hs0))
          go_wp2_with fail
          go_ret
          rw [HE2.out, ← HX.out.2]
          exact makes_of_own (own_base HO.out hs0) HBf.out
end Go.Proofs.YtkedacmpmancbaaGreatDoor
namespace Go.Proofs.YtkedacmpmancbaaGreatDoor
open Go Go.ChangeShapes Go.WideShapes Go.ChangeAt Go.RowKit Go.Lib
set_option linter.unusedVariables false
set_option linter.unusedSimpArgs false
set_option maxRecDepth 100000
theorem inR_fits {x a b : Int} (h : inR x a b = true) (ha : -9223372036854775808 ≤ a) (hb : b ≤ 9223372036854775807) : -9223372036854775808 ≤ x ∧ x ≤ 9223372036854775807 := by have := inR_true.1 h; omega
theorem mPInts_fits {p0 p1 p2 : Int} {l3 : List TGrant} {l4 : List TFlow} {l5 : List TRule} {l6 : List TOp} (b3 : cGrantOk l3) (b4 : cFlowOk l4) (b5 : cRuleOk l5) (b6 : cOpOk l6) (n3 : l3.length ≤ 1048576) (n4 : l4.length ≤ 1048576) (n5 : l5.length ≤ 1048576) (n6 : l6.length ≤ 1048576) (hq : mIsPack p0 p1 p2 l3 l4 l5 l6 = true) : I64s (mPInts p0 p1 p2 l3 l4 l5 l6) := by
 unfold mPInts
 rw [if_pos hq]
 have hp : (-9223372036854775808 ≤ p0 ∧ p0 ≤ 9223372036854775807) ∧ (-9223372036854775808 ≤ p1 ∧ p1 ≤ 9223372036854775807) ∧ (-9223372036854775808 ≤ p2 ∧ p2 ≤ 9223372036854775807) := by
  unfold mIsPack at hq
  simp only [Bool.and_eq_true] at hq
  exact ⟨inR_fits hq.1.1.1.1.1.1 (by omega) (by omega), inR_fits hq.1.1.1.1.1.2 (by omega) (by omega), inR_fits hq.1.1.1.1.2 (by omega) (by omega)⟩
 obtain ⟨h0, h1, h2⟩ := hp
 intro z hz
 unfold mAll cnt at hz
 simp only [List.mem_append, List.mem_cons, List.not_mem_nil, or_false, List.mem_flatMap] at hz
 rcases hz with (((( rfl | rfl | rfl) | (rfl | ⟨x, hx, hz⟩)) | (rfl | ⟨x, hx, hz⟩)) | (rfl | ⟨x, hx, hz⟩)) | (rfl | ⟨x, hx, hz⟩)
 ·
  exact h0
 ·
  exact h1
 ·
  exact h2
 ·
  omega
 ·
  have h := b3 x hx
  simp only [iG, List.mem_cons, List.not_mem_nil, or_false] at hz
  rcases hz with rfl | rfl | rfl | rfl | rfl | rfl
  ·
   exact h.2.1
  ·
   exact h.2.2.1
  ·
   exact h.2.2.2.1
  ·
   exact h.2.2.2.2.1
  ·
   exact h.2.2.2.2.2
  ·
   split <;> omega
 ·
  omega
 ·
  have h := b4 x hx
  simp only [iF, List.mem_cons, List.not_mem_nil, or_false] at hz
  rcases hz with rfl | rfl
  ·
   exact h.2.1
  ·
   exact h.2.2
 ·
  omega
 ·
  have h := b5 x hx
  simp only [iR, List.mem_cons, List.not_mem_nil, or_false] at hz
  rcases hz with rfl | rfl | rfl | rfl | rfl | rfl | rfl
  ·
   exact h.2.1
  ·
   exact h.2.2.1
  ·
   exact h.2.2.2.1
  ·
   exact h.2.2.2.2.1
  ·
   exact h.2.2.2.2.2.1
  ·
   exact h.2.2.2.2.2.2.1
  ·
   exact h.2.2.2.2.2.2.2
 ·
  omega
 ·
  have h := b6 x hx
  simp only [iO, List.mem_cons, List.not_mem_nil, or_false] at hz
  rcases hz with rfl | rfl | rfl | rfl
  ·
   exact h.1
  ·
   exact h.2.1
  ·
   exact h.2.2.1
  ·
   exact h.2.2.2
def mSealPk (k p0 p1 p2 : Int) (l3 : List TGrant) (l4 : List TFlow) (l5 : List TRule) (l6 : List TOp) : Int := if mIsPack p0 p1 p2 l3 l4 l5 l6 = true then (if mValid k = true then mKHash k (mPInts p0 p1 p2 l3 l4 l5 l6) else 0) else 0
set_option maxHeartbeats 16000000 in
theorem impl_SealPackageC (a0 : Int) (p0 p1 p2 : Int) (l3 : List TGrant) (A3 : Option Addr) (n3 c3 lo3 hi3 : Nat) (l4 : List TFlow) (A4 : Option Addr) (n4 c4 lo4 hi4 : Nat) (l5 : List TRule) (A5 : Option Addr) (n5 c5 lo5 hi5 : Nat) (l6 : List TOp) (A6 : Option Addr) (n6 c6 lo6 hi6 : Nat) (p7 : Int) (w : World) (hT : Pow10 w) (wf0 : (Lit.int .i64 a0).wf = true) (h3 : n3 ≤ 1048576) (r3 : Rd w lo3 hi3 7 A3 n3 (cGrant l3)) (k3 : n3 ≤ c3) (b3 : Hid (cGrantOk l3)) (h4 : n4 ≤ 1048576) (r4 : Rd w lo4 hi4 3 A4 n4 (cFlow l4)) (k4 : n4 ≤ c4) (b4 : Hid (cFlowOk l4)) (h5 : n5 ≤ 1048576) (r5 : Rd w lo5 hi5 8 A5 n5 (cRule l5)) (k5 : n5 ≤ c5) (b5 : Hid (cRuleOk l5)) (h6 : n6 ≤ 1048576) (r6 : Rd w lo6 hi6 4 A6 n6 (cOp l6)) (k6 : n6 ≤ c6) (b6 : Hid (cOpOk l6)) :
  Calls Tryz.prog 185 #[.int .i64 a0, .agg #[.int .i64 p0, .int .i64 p1, .int .i64 p2, .slice A3 n3 c3, .slice A4 n4 c4, .slice A5 n5 c5, .slice A6 n6 c6, .int .i64 p7]] w (MakesPackage p0 p1 p2 l3.length l3 l4.length l4 l5.length l5 l6.length l6 (mSealPk a0 p0 p1 p2 l3 l4 l5 l6) w) := by
 have HL3 := rd_len TGrant.len r3 (by decide)
 have HL4 := rd_len TFlow.len r4 (by decide)
 have HL5 := rd_len TRule.len r5 (by decide)
 have HL6 := rd_len TOp.len r6 (by decide)
 rw [HL3, HL4, HL5, HL6]
 have HT := Lib.hid hT
 have R3 := Lib.hid (r3.old (by decide))
 have R4 := Lib.hid (r4.old (by decide))
 have R5 := Lib.hid (r5.old (by decide))
 have R6 := Lib.hid (r6.old (by decide))
 have WF := Lib.hid wf0
 have HB := Lib.hid (Below.refl w.heap.size w)
 have KB0 := Lib.hid ((box_new w 35 #[.int .i64 p0, .int .i64 p1, .int .i64 p2, .slice A3 n3 c3, .slice A4 n4 c4, .slice A5 n5 c5, .slice A6 n6 c6, .int .i64 p7]).alloc_ (.cells #[.int .i64 0, .int .i64 0, .int .i64 0, .slice none 0 0, .slice none 0 0, .slice none 0 0, .slice none 0 0, .int .i64 0] 35))
 have KR0 : Hid (BoxAt ((w.alloc (.cells #[.int .i64 p0, .int .i64 p1, .int .i64 p2, .slice A3 n3 c3, .slice A4 n4 c4, .slice A5 n5 c5, .slice A6 n6 c6, .int .i64 p7] 35)).alloc (.cells #[.int .i64 0, .int .i64 0, .int .i64 0, .slice none 0 0, .slice none 0 0, .slice none 0 0, .slice none 0 0, .int .i64 0] 35)) (w.heap.size + 1) 35 #[.int .i64 0, .int .i64 0, .int .i64 0, .slice none 0 0, .slice none 0 0, .slice none 0 0, .slice none 0 0, .int .i64 0]) := Lib.hid (by simpa using box_new (w.alloc (.cells #[.int .i64 p0, .int .i64 p1, .int .i64 p2, .slice A3 n3 c3, .slice A4 n4 c4, .slice A5 n5 c5, .slice A6 n6 c6, .int .i64 p7] 35)) 35 #[.int .i64 0, .int .i64 0, .int .i64 0, .slice none 0 0, .slice none 0 0, .slice none 0 0, .slice none 0 0, .int .i64 0])
 clear r3 r4 r5 r6 hT wf0 HL3 HL4 HL5 HL6
 cases hq : mIsPack p0 p1 p2 l3 l4 l5 l6 with
 | false =>
  have HE := Lib.hid (show mSealPk a0 p0 p1 p2 l3 l4 l5 l6 = 0 by unfold mSealPk; rw [if_neg (by rw [hq]; decide)])
  go_enter Tryz.func185, Tryz.ntmps185
  go_wp2_with fail
  refine (impl_copyPackage p0 p1 p2 l3 A3 n3 c3 0 w.heap.size l4 A4 n4 c4 0 w.heap.size l5 A5 n5 c5 0 w.heap.size l6 A6 n6 c6 0 w.heap.size p7 _ h3 (R3.out.below aU1 (Nat.le_refl _)) h4 (R4.out.below aU1 (Nat.le_refl _)) h5 (R5.out.below aU1 (Nat.le_refl _)) h6 (R6.out.below aU1 (Nat.le_refl _))).mono ?_
  rintro e w1 ⟨B3, B4, B5, B6, d3, g3, i3, d4, g4, i4, d5, g5, i5, d6, g6, i6, rfl, F3, F4, F5, F6, MS, hb⟩
  have KB1 := Lib.hid (KB0.out.new hb)
  have KR1 := Lib.hid (KR0.out.new hb)
  replace MS : Hid (SepPackage (w.heap.size + 2) w1.heap.size g3 i3 g4 i4 g5 i5 g6 i6) := Lib.hid (by have h := MS.out; unfold SepPackage at h ⊢; simp at h; omega)
  have MB := Lib.hid (SepPackage_bd MS.out)
  have hs1 := hb.size
  (try simp at hs1)
  replace HB := Lib.hid (show Below w.heap.size w w1 from Below.trans aU1 (hb.mono aW))
  have G3 := Lib.hid F3
  have G4 := Lib.hid F4
  have G5 := Lib.hid F5
  have G6 := Lib.hid F6
  have KO1 := Lib.hid (box_new w1 35 #[.int .i64 p0, .int .i64 p1, .int .i64 p2, .slice B3 n3 d3, .slice B4 n4 d4, .slice B5 n5 d5, .slice B6 n6 d6, .int .i64 0])
  have hz1 : w.heap.size + 1 < w1.heap.size := by omega
  clear hb F3 F4 F5 F6 KB0 KR0
  have HB2 := Lib.hid (show Below w.heap.size w (w1.alloc (.cells #[.int .i64 p0, .int .i64 p1, .int .i64 p2, .slice B3 n3 d3, .slice B4 n4 d4, .slice B5 n5 d5, .slice B6 n6 d6, .int .i64 0] 35)) from aU1)
  have CQ := Lib.hid (impl_IsPackageC p0 p1 p2 l3 A3 n3 c3 0 w.heap.size l4 A4 n4 c4 0 w.heap.size l5 A5 n5 c5 0 w.heap.size l6 A6 n6 c6 0 w.heap.size p7 (w1.alloc (.cells #[.int .i64 p0, .int .i64 p1, .int .i64 p2, .slice B3 n3 d3, .slice B4 n4 d4, .slice B5 n5 d5, .slice B6 n6 d6, .int .i64 0] 35)) h3 (R3.out.below HB2.out (Nat.le_refl _)) k3 b3 h4 (R4.out.below HB2.out (Nat.le_refl _)) k4 b4 h5 (R5.out.below HB2.out (Nat.le_refl _)) k5 b5 h6 (R6.out.below HB2.out (Nat.le_refl _)) k6 b6)
  rw [hq] at CQ
  obtain ⟨k0, k1, k2, k3, k4, k5, k6, k7⟩ := KB1.out.p8
  have kf := fun j => KB1.out.free j
  have kz : w.heap.size < w1.heap.size := by omega
  go_wp2_with fail
  clear k0 k1 k2 k3 k4 k5 k6 k7 kf kz
  refine CQ.out.mono ?_
  rintro e w3 ⟨rfl, hb⟩
  have KO3 := Lib.hid (show BoxAt w3 w1.heap.size 35 #[.int .i64 p0, .int .i64 p1, .int .i64 p2, .slice B3 n3 d3, .slice B4 n4 d4, .slice B5 n5 d5, .slice B6 n6 d6, .int .i64 0] from KO1.out.new hb)
  have KB3 := Lib.hid ((KB1.out.alloc_ _).new hb)
  have KR3 := Lib.hid ((KR1.out.alloc_ _).new hb)
  have HB3 := Lib.hid (below_trans HB2.out hb (Nat.le_refl _))
  have hs3 := hb.size
  (try simp [World.setCell] at hs3)
  have P3 := Lib.hid ((G3.out.alloc _).new hb)
  have P4 := Lib.hid ((G4.out.alloc _).new hb)
  have P5 := Lib.hid ((G5.out.alloc _).new hb)
  have P6 := Lib.hid ((G6.out.alloc _).new hb)
  clear hb CQ KO1 KB1 KR1 G3 G4 G5 G6
  have KOf := KO3
  have KRf := KR3
  have HBf := HB3
  have HSz := Lib.hid (show w1.heap.size ≤ w3.heap.size by omega)
  have G3 := P3
  have G4 := P4
  have G5 := P5
  have G6 := P6
  clear KO3 KR3 HB3 P3 P4 P5 P6 KB3
  have k0 := KOf.out.at_ (j := 0) rfl
  have q0 := KRf.out.at_ (j := 0) rfl
  have k1 := KOf.out.at_ (j := 1) rfl
  have q1 := KRf.out.at_ (j := 1) rfl
  have k2 := KOf.out.at_ (j := 2) rfl
  have q2 := KRf.out.at_ (j := 2) rfl
  have k3 := KOf.out.at_ (j := 3) rfl
  have q3 := KRf.out.at_ (j := 3) rfl
  have k4 := KOf.out.at_ (j := 4) rfl
  have q4 := KRf.out.at_ (j := 4) rfl
  have k5 := KOf.out.at_ (j := 5) rfl
  have q5 := KRf.out.at_ (j := 5) rfl
  have k6 := KOf.out.at_ (j := 6) rfl
  have q6 := KRf.out.at_ (j := 6) rfl
  have k7 := KOf.out.at_ (j := 7) rfl
  have q7 := KRf.out.at_ (j := 7) rfl
  have qf := fun j => KRf.out.free j
  have kf := fun j => KOf.out.free j
  have hol := KOf.out.lt
  have hrl := KRf.out.lt
  go_wp2_with fail
  have Z0 := KRf.out
  replace Z0 := (show BoxAt _ (w.heap.size + 1) 35 #[.int .i64 p0, .int .i64 0, .int .i64 0, .slice none 0 0, .slice none 0 0, .slice none 0 0, .slice none 0 0, .int .i64 0] from pk_put Z0 0 (.int .i64 p0))
  replace Z0 := (show BoxAt _ (w.heap.size + 1) 35 #[.int .i64 p0, .int .i64 p1, .int .i64 0, .slice none 0 0, .slice none 0 0, .slice none 0 0, .slice none 0 0, .int .i64 0] from pk_put Z0 1 (.int .i64 p1))
  replace Z0 := (show BoxAt _ (w.heap.size + 1) 35 #[.int .i64 p0, .int .i64 p1, .int .i64 p2, .slice none 0 0, .slice none 0 0, .slice none 0 0, .slice none 0 0, .int .i64 0] from pk_put Z0 2 (.int .i64 p2))
  replace Z0 := (show BoxAt _ (w.heap.size + 1) 35 #[.int .i64 p0, .int .i64 p1, .int .i64 p2, .slice B3 n3 d3, .slice none 0 0, .slice none 0 0, .slice none 0 0, .int .i64 0] from pk_put Z0 3 (.slice B3 n3 d3))
  replace Z0 := (show BoxAt _ (w.heap.size + 1) 35 #[.int .i64 p0, .int .i64 p1, .int .i64 p2, .slice B3 n3 d3, .slice B4 n4 d4, .slice none 0 0, .slice none 0 0, .int .i64 0] from pk_put Z0 4 (.slice B4 n4 d4))
  replace Z0 := (show BoxAt _ (w.heap.size + 1) 35 #[.int .i64 p0, .int .i64 p1, .int .i64 p2, .slice B3 n3 d3, .slice B4 n4 d4, .slice B5 n5 d5, .slice none 0 0, .int .i64 0] from pk_put Z0 5 (.slice B5 n5 d5))
  replace Z0 := (show BoxAt _ (w.heap.size + 1) 35 #[.int .i64 p0, .int .i64 p1, .int .i64 p2, .slice B3 n3 d3, .slice B4 n4 d4, .slice B5 n5 d5, .slice B6 n6 d6, .int .i64 0] from pk_put Z0 6 (.slice B6 n6 d6))
  replace Z0 := (show BoxAt _ (w.heap.size + 1) 35 #[.int .i64 p0, .int .i64 p1, .int .i64 p2, .slice B3 n3 d3, .slice B4 n4 d4, .slice B5 n5 d5, .slice B6 n6 d6, .int .i64 0] from pk_put Z0 7 (.int .i64 0))
  have KF := Z0
  obtain ⟨f0, f1, f2, f3, f4, f5, f6, f7⟩ := KF.p8
  rw [HE.out]
  exact bodyPost_ret (v := .agg #[.int .i64 p0, .int .i64 p1, .int .i64 p2, .slice B3 n3 d3, .slice B4 n4 d4, .slice B5 n5 d5, .slice B6 n6 d6, .int .i64 0]) (by simp [results, Tryz.results185, go_sem, f0, f1, f2, f3, f4, f5, f6, f7]) rfl
   ⟨B3, B4, B5, B6, d3, g3, i3, d4, g4, i4, d5, g5, i5, d6, g6, i6, rfl, aU8, aU9, aU10, aU11,
    Lib.hid (by have h := MS.out; have hz := HSz.out; unfold SepPackage at h ⊢; simp at h ⊢; omega), aU6⟩
 | true =>
  cases hv : mValid a0 with
  | false =>
   have HE := Lib.hid (show mSealPk a0 p0 p1 p2 l3 l4 l5 l6 = 0 by unfold mSealPk; rw [if_pos hq, if_neg (by rw [hv]; decide)])
   have HLen := Lib.hid (mPInts_len p0 p1 p2 l3 l4 l5 l6)
   have CI := Lib.hid (fun (W : World) (h : Below w.heap.size w W) => impl_PackageIntsC p0 p1 p2 l3 A3 n3 c3 0 w.heap.size l4 A4 n4 c4 0 w.heap.size l5 A5 n5 c5 0 w.heap.size l6 A6 n6 c6 0 w.heap.size p7 W h3 (R3.out.below h (Nat.le_refl _)) k3 b3 h4 (R4.out.below h (Nat.le_refl _)) k4 b4 h5 (R5.out.below h (Nat.le_refl _)) k5 b5 h6 (R6.out.below h (Nat.le_refl _)) k6 b6)
   have hxl : (mPInts p0 p1 p2 l3 l4 l5 l6).length ≤ 1099511627000 := by have h := HLen.out; have := rd_len TGrant.len R3.out (by decide); have := rd_len TFlow.len R4.out (by decide); have := rd_len TRule.len R5.out (by decide); have := rd_len TOp.len R6.out (by decide); omega
   have HXb := Lib.hid (mPInts_fits b3.out b4.out b5.out b6.out (p0 := p0) (p1 := p1) (p2 := p2) (by have := rd_len TGrant.len R3.out (by decide); omega) (by have := rd_len TFlow.len R4.out (by decide); omega) (by have := rd_len TRule.len R5.out (by decide); omega) (by have := rd_len TOp.len R6.out (by decide); omega) hq)
   generalize mPInts p0 p1 p2 l3 l4 l5 l6 = X at HE CI hxl HXb
   generalize hnx : X.length = nx at CI hxl
   clear hnx HLen
   go_enter Tryz.func185, Tryz.ntmps185
   go_wp2_with fail
   refine (impl_copyPackage p0 p1 p2 l3 A3 n3 c3 0 w.heap.size l4 A4 n4 c4 0 w.heap.size l5 A5 n5 c5 0 w.heap.size l6 A6 n6 c6 0 w.heap.size p7 _ h3 (R3.out.below aU1 (Nat.le_refl _)) h4 (R4.out.below aU1 (Nat.le_refl _)) h5 (R5.out.below aU1 (Nat.le_refl _)) h6 (R6.out.below aU1 (Nat.le_refl _))).mono ?_
   rintro e w1 ⟨B3, B4, B5, B6, d3, g3, i3, d4, g4, i4, d5, g5, i5, d6, g6, i6, rfl, F3, F4, F5, F6, MS, hb⟩
   have KB1 := Lib.hid (KB0.out.new hb)
   have KR1 := Lib.hid (KR0.out.new hb)
   replace MS : Hid (SepPackage (w.heap.size + 2) w1.heap.size g3 i3 g4 i4 g5 i5 g6 i6) := Lib.hid (by have h := MS.out; unfold SepPackage at h ⊢; simp at h; omega)
   have MB := Lib.hid (SepPackage_bd MS.out)
   have hs1 := hb.size
   (try simp at hs1)
   replace HB := Lib.hid (show Below w.heap.size w w1 from Below.trans aU1 (hb.mono aW))
   have G3 := Lib.hid F3
   have G4 := Lib.hid F4
   have G5 := Lib.hid F5
   have G6 := Lib.hid F6
   have KO1 := Lib.hid (box_new w1 35 #[.int .i64 p0, .int .i64 p1, .int .i64 p2, .slice B3 n3 d3, .slice B4 n4 d4, .slice B5 n5 d5, .slice B6 n6 d6, .int .i64 0])
   have hz1 : w.heap.size + 1 < w1.heap.size := by omega
   clear hb F3 F4 F5 F6 KB0 KR0
   have HB2 := Lib.hid (show Below w.heap.size w (w1.alloc (.cells #[.int .i64 p0, .int .i64 p1, .int .i64 p2, .slice B3 n3 d3, .slice B4 n4 d4, .slice B5 n5 d5, .slice B6 n6 d6, .int .i64 0] 35)) from aU1)
   have CQ := Lib.hid (impl_IsPackageC p0 p1 p2 l3 A3 n3 c3 0 w.heap.size l4 A4 n4 c4 0 w.heap.size l5 A5 n5 c5 0 w.heap.size l6 A6 n6 c6 0 w.heap.size p7 (w1.alloc (.cells #[.int .i64 p0, .int .i64 p1, .int .i64 p2, .slice B3 n3 d3, .slice B4 n4 d4, .slice B5 n5 d5, .slice B6 n6 d6, .int .i64 0] 35)) h3 (R3.out.below HB2.out (Nat.le_refl _)) k3 b3 h4 (R4.out.below HB2.out (Nat.le_refl _)) k4 b4 h5 (R5.out.below HB2.out (Nat.le_refl _)) k5 b5 h6 (R6.out.below HB2.out (Nat.le_refl _)) k6 b6)
   rw [hq] at CQ
   obtain ⟨k0, k1, k2, k3, k4, k5, k6, k7⟩ := KB1.out.p8
   have kf := fun j => KB1.out.free j
   have kz : w.heap.size < w1.heap.size := by omega
   go_wp2_with fail
   clear k0 k1 k2 k3 k4 k5 k6 k7 kf kz
   refine CQ.out.mono ?_
   rintro e w3 ⟨rfl, hb⟩
   have KO3 := Lib.hid (show BoxAt w3 w1.heap.size 35 #[.int .i64 p0, .int .i64 p1, .int .i64 p2, .slice B3 n3 d3, .slice B4 n4 d4, .slice B5 n5 d5, .slice B6 n6 d6, .int .i64 0] from KO1.out.new hb)
   have KB3 := Lib.hid ((KB1.out.alloc_ _).new hb)
   have KR3 := Lib.hid ((KR1.out.alloc_ _).new hb)
   have HB3 := Lib.hid (below_trans HB2.out hb (Nat.le_refl _))
   have hs3 := hb.size
   (try simp [World.setCell] at hs3)
   have P3 := Lib.hid ((G3.out.alloc _).new hb)
   have P4 := Lib.hid ((G4.out.alloc _).new hb)
   have P5 := Lib.hid ((G5.out.alloc _).new hb)
   have P6 := Lib.hid ((G6.out.alloc _).new hb)
   clear hb CQ KO1 KB1 KR1 G3 G4 G5 G6
   go_wp2_with fail
   have hg0 : w.heap.size ≤ w1.heap.size := by omega
   have hg1 : w1.heap.size ≠ w.heap.size := by omega
   have GO := KO3.out.drw
   refine wp_region_held_drew (S := fun w' => BoxAt w' w.heap.size 35 #[.int .i64 p0, .int .i64 p1, .int .i64 p2, .slice A3 n3 c3, .slice A4 n4 c4, .slice A5 n5 c5, .slice A6 n6 c6, .int .i64 p7] ∧ Chg w1.heap.size (w1.heap.size + 1) w3 w') (by kernel_rfl) ?_ (fun hHeld => ?_)
   ·
    exact ⟨KB3.out.drw, (Chg.refl _ _ _).drewN 1⟩
   generalize World.drew w3 = x0 at hHeld GO ⊢
   refine tz 0 11 hHeld ?_; try simp only [ptl]
   refine tl 2 13 hHeld rfl ?_ (by intro W hS; obtain ⟨c0_0, c0_1, c0_2, c0_3, c0_4, c0_5, c0_6, c0_7⟩ := (hS.1).p8; clear hS; go_simp; try with_reducible rfl); try simp only [ptl]
   refine rd1 (i := 1) (o := ⟨some 12, _, _, _, _, _⟩) rfl (fun K hK => ?_)
   go_simp
   refine Calls.mono (impl_sealer_no a0 _ (pow10_below HT.out (HB3.out.trans (hHeld.2.below (.inl hg0) HB3.out.size))) WF.out hv) ?_
   rintro e x1 ⟨rfl, hb1⟩
   replace GO := GO.new hb1
   refine hK.out _ _ ⟨hHeld.1.new hb1, Chg.trans hHeld.2 (chg_of_new hb1)⟩ (fun hHeld' => ?_)
   clear hK K hHeld hb1; have hHeld := hHeld'; clear hHeld'
   try simp only [ptl]
   refine rd1 (i := 3) (o := ⟨some 14, _, _, _, _, _⟩) rfl (fun K hK => ?_)
   go_simp
   refine Calls.mono (CI.out _ (HB3.out.trans (hHeld.2.below (.inl hg0) HB3.out.size))) ?_
   rintro e x2 ⟨AI, cI, rfl, GI, hb1⟩
   replace GO := GO.new hb1
   refine hK.out _ _ ⟨hHeld.1.new hb1, Chg.trans hHeld.2 (chg_of_new hb1)⟩ (fun hHeld' => ?_)
   clear hK K hHeld hb1; have hHeld := hHeld'; clear hHeld'
   try simp only [ptl]
   refine rd1 (i := 4) (o := ⟨some 15, _, _, _, _, _⟩) rfl (fun K hK => ?_)
   go_simp
   refine Calls.mono (impl_sealer1 AI nx cI _) ?_
   rintro e x3 ⟨rfl, hb1⟩
   replace GO := GO.new hb1
   replace GI := GI.new hb1
   refine hK.out _ _ ⟨hHeld.1.new hb1, Chg.trans hHeld.2 (chg_of_new hb1)⟩ (fun hHeld' => ?_)
   clear hK K hHeld hb1; have hHeld := hHeld'; clear hHeld'
   try simp only [ptl]
   refine tz 5 16 hHeld ?_; try simp only [ptl]
   refine rd1 (i := 6) (o := ⟨none, _, _, _, _, _⟩) rfl (fun K hK => ?_)
   have c7 := GO.at_ (j := 7) rfl
   have f7 := GO.free 7
   have hlo := GO.lt
   go_simp
   clear c7 f7
   have GO2 := pk_put GO 7 (.int .i64 0)
   clear GO
   refine hK.out _ _ ⟨pk_past hHeld.1 (by omega), hHeld.2.set_ (.inl ⟨Nat.le_refl _, Nat.lt_succ_self _⟩) _⟩ (fun hHeld' => ?_)
   clear hK K hHeld; have hHeld := hHeld'; clear hHeld'
   try simp only [ptl]
   generalize World.setCell x3 ⟨w1.heap.size, 7, none⟩ (.int .i64 0) = wf at hHeld GO2 ⊢
   refine wpAnyH_done (by kernel_rfl) ?_ _
   have KOf := Lib.hid (show BoxAt wf w1.heap.size 35 #[.int .i64 p0, .int .i64 p1, .int .i64 p2, .slice B3 n3 d3, .slice B4 n4 d4, .slice B5 n5 d5, .slice B6 n6 d6, .int .i64 0] from GO2)
   have KRf := Lib.hid (KR3.out.chg hHeld.2 (by omega))
   have HBf := Lib.hid (HB3.out.trans (hHeld.2.below (.inl hg0) HB3.out.size))
   have HSz := Lib.hid (show w1.heap.size ≤ wf.heap.size from Nat.le_trans (by omega) hHeld.2.size)
   have G3 := Lib.hid (P3.out.chg hHeld.2 (.inl (by have h := MB.out; omega)))
   have G4 := Lib.hid (P4.out.chg hHeld.2 (.inl (by have h := MB.out; omega)))
   have G5 := Lib.hid (P5.out.chg hHeld.2 (.inl (by have h := MB.out; omega)))
   have G6 := Lib.hid (P6.out.chg hHeld.2 (.inl (by have h := MB.out; omega)))
   clear GO2 hHeld KO3 KR3 HB3 P3 P4 P5 P6 KB3 CI
   have k0 := KOf.out.at_ (j := 0) rfl
   have q0 := KRf.out.at_ (j := 0) rfl
   have k1 := KOf.out.at_ (j := 1) rfl
   have q1 := KRf.out.at_ (j := 1) rfl
   have k2 := KOf.out.at_ (j := 2) rfl
   have q2 := KRf.out.at_ (j := 2) rfl
   have k3 := KOf.out.at_ (j := 3) rfl
   have q3 := KRf.out.at_ (j := 3) rfl
   have k4 := KOf.out.at_ (j := 4) rfl
   have q4 := KRf.out.at_ (j := 4) rfl
   have k5 := KOf.out.at_ (j := 5) rfl
   have q5 := KRf.out.at_ (j := 5) rfl
   have k6 := KOf.out.at_ (j := 6) rfl
   have q6 := KRf.out.at_ (j := 6) rfl
   have k7 := KOf.out.at_ (j := 7) rfl
   have q7 := KRf.out.at_ (j := 7) rfl
   have qf := fun j => KRf.out.free j
   have kf := fun j => KOf.out.free j
   have hol := KOf.out.lt
   have hrl := KRf.out.lt
   go_wp2_with fail
   have Z0 := KRf.out
   replace Z0 := (show BoxAt _ (w.heap.size + 1) 35 #[.int .i64 p0, .int .i64 0, .int .i64 0, .slice none 0 0, .slice none 0 0, .slice none 0 0, .slice none 0 0, .int .i64 0] from pk_put Z0 0 (.int .i64 p0))
   replace Z0 := (show BoxAt _ (w.heap.size + 1) 35 #[.int .i64 p0, .int .i64 p1, .int .i64 0, .slice none 0 0, .slice none 0 0, .slice none 0 0, .slice none 0 0, .int .i64 0] from pk_put Z0 1 (.int .i64 p1))
   replace Z0 := (show BoxAt _ (w.heap.size + 1) 35 #[.int .i64 p0, .int .i64 p1, .int .i64 p2, .slice none 0 0, .slice none 0 0, .slice none 0 0, .slice none 0 0, .int .i64 0] from pk_put Z0 2 (.int .i64 p2))
   replace Z0 := (show BoxAt _ (w.heap.size + 1) 35 #[.int .i64 p0, .int .i64 p1, .int .i64 p2, .slice B3 n3 d3, .slice none 0 0, .slice none 0 0, .slice none 0 0, .int .i64 0] from pk_put Z0 3 (.slice B3 n3 d3))
   replace Z0 := (show BoxAt _ (w.heap.size + 1) 35 #[.int .i64 p0, .int .i64 p1, .int .i64 p2, .slice B3 n3 d3, .slice B4 n4 d4, .slice none 0 0, .slice none 0 0, .int .i64 0] from pk_put Z0 4 (.slice B4 n4 d4))
   replace Z0 := (show BoxAt _ (w.heap.size + 1) 35 #[.int .i64 p0, .int .i64 p1, .int .i64 p2, .slice B3 n3 d3, .slice B4 n4 d4, .slice B5 n5 d5, .slice none 0 0, .int .i64 0] from pk_put Z0 5 (.slice B5 n5 d5))
   replace Z0 := (show BoxAt _ (w.heap.size + 1) 35 #[.int .i64 p0, .int .i64 p1, .int .i64 p2, .slice B3 n3 d3, .slice B4 n4 d4, .slice B5 n5 d5, .slice B6 n6 d6, .int .i64 0] from pk_put Z0 6 (.slice B6 n6 d6))
   replace Z0 := (show BoxAt _ (w.heap.size + 1) 35 #[.int .i64 p0, .int .i64 p1, .int .i64 p2, .slice B3 n3 d3, .slice B4 n4 d4, .slice B5 n5 d5, .slice B6 n6 d6, .int .i64 0] from pk_put Z0 7 (.int .i64 0))
   have KF := Z0
   obtain ⟨f0, f1, f2, f3, f4, f5, f6, f7⟩ := KF.p8
   rw [HE.out]
   exact bodyPost_ret (v := .agg #[.int .i64 p0, .int .i64 p1, .int .i64 p2, .slice B3 n3 d3, .slice B4 n4 d4, .slice B5 n5 d5, .slice B6 n6 d6, .int .i64 0]) (by simp [results, Tryz.results185, go_sem, f0, f1, f2, f3, f4, f5, f6, f7]) rfl
    ⟨B3, B4, B5, B6, d3, g3, i3, d4, g4, i4, d5, g5, i5, d6, g6, i6, rfl, aU8, aU9, aU10, aU11,
     Lib.hid (by have h := MS.out; have hz := HSz.out; unfold SepPackage at h ⊢; simp at h ⊢; omega), aU6⟩
  | true =>
   have HE := Lib.hid (show mSealPk a0 p0 p1 p2 l3 l4 l5 l6 = mKHash a0 (mPInts p0 p1 p2 l3 l4 l5 l6) by unfold mSealPk; rw [if_pos hq, if_pos hv])
   have HLen := Lib.hid (mPInts_len p0 p1 p2 l3 l4 l5 l6)
   have CI := Lib.hid (fun (W : World) (h : Below w.heap.size w W) => impl_PackageIntsC p0 p1 p2 l3 A3 n3 c3 0 w.heap.size l4 A4 n4 c4 0 w.heap.size l5 A5 n5 c5 0 w.heap.size l6 A6 n6 c6 0 w.heap.size p7 W h3 (R3.out.below h (Nat.le_refl _)) k3 b3 h4 (R4.out.below h (Nat.le_refl _)) k4 b4 h5 (R5.out.below h (Nat.le_refl _)) k5 b5 h6 (R6.out.below h (Nat.le_refl _)) k6 b6)
   have hxl : (mPInts p0 p1 p2 l3 l4 l5 l6).length ≤ 1099511627000 := by have h := HLen.out; have := rd_len TGrant.len R3.out (by decide); have := rd_len TFlow.len R4.out (by decide); have := rd_len TRule.len R5.out (by decide); have := rd_len TOp.len R6.out (by decide); omega
   have HXb := Lib.hid (mPInts_fits b3.out b4.out b5.out b6.out (p0 := p0) (p1 := p1) (p2 := p2) (by have := rd_len TGrant.len R3.out (by decide); omega) (by have := rd_len TFlow.len R4.out (by decide); omega) (by have := rd_len TRule.len R5.out (by decide); omega) (by have := rd_len TOp.len R6.out (by decide); omega) hq)
   generalize mPInts p0 p1 p2 l3 l4 l5 l6 = X at HE CI hxl HXb
   generalize hnx : X.length = nx at CI hxl
   clear hnx HLen
   go_enter Tryz.func185, Tryz.ntmps185
   go_wp2_with fail
   refine (impl_copyPackage p0 p1 p2 l3 A3 n3 c3 0 w.heap.size l4 A4 n4 c4 0 w.heap.size l5 A5 n5 c5 0 w.heap.size l6 A6 n6 c6 0 w.heap.size p7 _ h3 (R3.out.below aU1 (Nat.le_refl _)) h4 (R4.out.below aU1 (Nat.le_refl _)) h5 (R5.out.below aU1 (Nat.le_refl _)) h6 (R6.out.below aU1 (Nat.le_refl _))).mono ?_
   rintro e w1 ⟨B3, B4, B5, B6, d3, g3, i3, d4, g4, i4, d5, g5, i5, d6, g6, i6, rfl, F3, F4, F5, F6, MS, hb⟩
   have KB1 := Lib.hid (KB0.out.new hb)
   have KR1 := Lib.hid (KR0.out.new hb)
   replace MS : Hid (SepPackage (w.heap.size + 2) w1.heap.size g3 i3 g4 i4 g5 i5 g6 i6) := Lib.hid (by have h := MS.out; unfold SepPackage at h ⊢; simp at h; omega)
   have MB := Lib.hid (SepPackage_bd MS.out)
   have hs1 := hb.size
   (try simp at hs1)
   replace HB := Lib.hid (show Below w.heap.size w w1 from Below.trans aU1 (hb.mono aW))
   have G3 := Lib.hid F3
   have G4 := Lib.hid F4
   have G5 := Lib.hid F5
   have G6 := Lib.hid F6
   have KO1 := Lib.hid (box_new w1 35 #[.int .i64 p0, .int .i64 p1, .int .i64 p2, .slice B3 n3 d3, .slice B4 n4 d4, .slice B5 n5 d5, .slice B6 n6 d6, .int .i64 0])
   have hz1 : w.heap.size + 1 < w1.heap.size := by omega
   clear hb F3 F4 F5 F6 KB0 KR0
   have HB2 := Lib.hid (show Below w.heap.size w (w1.alloc (.cells #[.int .i64 p0, .int .i64 p1, .int .i64 p2, .slice B3 n3 d3, .slice B4 n4 d4, .slice B5 n5 d5, .slice B6 n6 d6, .int .i64 0] 35)) from aU1)
   have CQ := Lib.hid (impl_IsPackageC p0 p1 p2 l3 A3 n3 c3 0 w.heap.size l4 A4 n4 c4 0 w.heap.size l5 A5 n5 c5 0 w.heap.size l6 A6 n6 c6 0 w.heap.size p7 (w1.alloc (.cells #[.int .i64 p0, .int .i64 p1, .int .i64 p2, .slice B3 n3 d3, .slice B4 n4 d4, .slice B5 n5 d5, .slice B6 n6 d6, .int .i64 0] 35)) h3 (R3.out.below HB2.out (Nat.le_refl _)) k3 b3 h4 (R4.out.below HB2.out (Nat.le_refl _)) k4 b4 h5 (R5.out.below HB2.out (Nat.le_refl _)) k5 b5 h6 (R6.out.below HB2.out (Nat.le_refl _)) k6 b6)
   rw [hq] at CQ
   obtain ⟨k0, k1, k2, k3, k4, k5, k6, k7⟩ := KB1.out.p8
   have kf := fun j => KB1.out.free j
   have kz : w.heap.size < w1.heap.size := by omega
   go_wp2_with fail
   clear k0 k1 k2 k3 k4 k5 k6 k7 kf kz
   refine CQ.out.mono ?_
   rintro e w3 ⟨rfl, hb⟩
   have KO3 := Lib.hid (show BoxAt w3 w1.heap.size 35 #[.int .i64 p0, .int .i64 p1, .int .i64 p2, .slice B3 n3 d3, .slice B4 n4 d4, .slice B5 n5 d5, .slice B6 n6 d6, .int .i64 0] from KO1.out.new hb)
   have KB3 := Lib.hid ((KB1.out.alloc_ _).new hb)
   have KR3 := Lib.hid ((KR1.out.alloc_ _).new hb)
   have HB3 := Lib.hid (below_trans HB2.out hb (Nat.le_refl _))
   have hs3 := hb.size
   (try simp [World.setCell] at hs3)
   have P3 := Lib.hid ((G3.out.alloc _).new hb)
   have P4 := Lib.hid ((G4.out.alloc _).new hb)
   have P5 := Lib.hid ((G5.out.alloc _).new hb)
   have P6 := Lib.hid ((G6.out.alloc _).new hb)
   clear hb CQ KO1 KB1 KR1 G3 G4 G5 G6
   go_wp2_with fail
   have hg0 : w.heap.size ≤ w1.heap.size := by omega
   have hg1 : w1.heap.size ≠ w.heap.size := by omega
   have GO := KO3.out.drw
   refine wp_region_held_drew (S := fun w' => BoxAt w' w.heap.size 35 #[.int .i64 p0, .int .i64 p1, .int .i64 p2, .slice A3 n3 c3, .slice A4 n4 c4, .slice A5 n5 c5, .slice A6 n6 c6, .int .i64 p7] ∧ Chg w1.heap.size (w1.heap.size + 1) w3 w') (by kernel_rfl) ?_ (fun hHeld => ?_)
   ·
    exact ⟨KB3.out.drw, (Chg.refl _ _ _).drewN 1⟩
   generalize World.drew w3 = x0 at hHeld GO ⊢
   refine tz 0 11 hHeld ?_; try simp only [ptl]
   refine tl 2 13 hHeld rfl ?_ (by intro W hS; obtain ⟨c0_0, c0_1, c0_2, c0_3, c0_4, c0_5, c0_6, c0_7⟩ := (hS.1).p8; clear hS; go_simp; try with_reducible rfl); try simp only [ptl]
   refine rd1 (i := 1) (o := ⟨some 12, _, _, _, _, _⟩) rfl (fun K hK => ?_)
   go_simp
   refine Calls.mono (impl_sealer_yes a0 _ (pow10_below HT.out (HB3.out.trans (hHeld.2.below (.inl hg0) HB3.out.size))) WF.out hv) ?_
   rintro e x1 ⟨Bk, rfl, GK, hb1⟩
   replace GO := GO.new hb1
   refine hK.out _ _ ⟨hHeld.1.new hb1, Chg.trans hHeld.2 (chg_of_new hb1)⟩ (fun hHeld' => ?_)
   clear hK K hHeld hb1; have hHeld := hHeld'; clear hHeld'
   try simp only [ptl]
   refine rd1 (i := 3) (o := ⟨some 14, _, _, _, _, _⟩) rfl (fun K hK => ?_)
   go_simp
   refine Calls.mono (CI.out _ (HB3.out.trans (hHeld.2.below (.inl hg0) HB3.out.size))) ?_
   rintro e x2 ⟨AI, cI, rfl, GI, hb1⟩
   replace GO := GO.new hb1
   replace GK := GK.new hb1
   refine hK.out _ _ ⟨hHeld.1.new hb1, Chg.trans hHeld.2 (chg_of_new hb1)⟩ (fun hHeld' => ?_)
   clear hK K hHeld hb1; have hHeld := hHeld'; clear hHeld'
   try simp only [ptl]
   refine rd1 (i := 4) (o := ⟨some 15, _, _, _, _, _⟩) rfl (fun K hK => ?_)
   go_simp
   refine Calls.mono (impl_sealer2 a0 X AI nx cI _ _ Bk _ GK WF.out (by omega) GI.rd HXb) ?_
   rintro e x3 ⟨rfl, hb1⟩
   replace GO := GO.new hb1
   replace GK := GK.new hb1
   replace GI := GI.new hb1
   refine hK.out _ _ ⟨hHeld.1.new hb1, Chg.trans hHeld.2 (chg_of_new hb1)⟩ (fun hHeld' => ?_)
   clear hK K hHeld hb1; have hHeld := hHeld'; clear hHeld'
   try simp only [ptl]
   refine tz 5 16 hHeld ?_; try simp only [ptl]
   refine rd1 (i := 6) (o := ⟨none, _, _, _, _, _⟩) rfl (fun K hK => ?_)
   have c7 := GO.at_ (j := 7) rfl
   have f7 := GO.free 7
   have hlo := GO.lt
   go_simp
   clear c7 f7
   have GO2 := pk_put GO 7 (.int .i64 (mKHash a0 X))
   clear GO
   refine hK.out _ _ ⟨pk_past hHeld.1 (by omega), hHeld.2.set_ (.inl ⟨Nat.le_refl _, Nat.lt_succ_self _⟩) _⟩ (fun hHeld' => ?_)
   clear hK K hHeld; have hHeld := hHeld'; clear hHeld'
   try simp only [ptl]
   generalize World.setCell x3 ⟨w1.heap.size, 7, none⟩ (.int .i64 (mKHash a0 X)) = wf at hHeld GO2 ⊢
   refine wpAnyH_done (by kernel_rfl) ?_ _
   have KOf := Lib.hid (show BoxAt wf w1.heap.size 35 #[.int .i64 p0, .int .i64 p1, .int .i64 p2, .slice B3 n3 d3, .slice B4 n4 d4, .slice B5 n5 d5, .slice B6 n6 d6, .int .i64 (mKHash a0 X)] from GO2)
   have KRf := Lib.hid (KR3.out.chg hHeld.2 (by omega))
   have HBf := Lib.hid (HB3.out.trans (hHeld.2.below (.inl hg0) HB3.out.size))
   have HSz := Lib.hid (show w1.heap.size ≤ wf.heap.size from Nat.le_trans (by omega) hHeld.2.size)
   have G3 := Lib.hid (P3.out.chg hHeld.2 (.inl (by have h := MB.out; omega)))
   have G4 := Lib.hid (P4.out.chg hHeld.2 (.inl (by have h := MB.out; omega)))
   have G5 := Lib.hid (P5.out.chg hHeld.2 (.inl (by have h := MB.out; omega)))
   have G6 := Lib.hid (P6.out.chg hHeld.2 (.inl (by have h := MB.out; omega)))
   clear GO2 hHeld KO3 KR3 HB3 P3 P4 P5 P6 KB3 CI
   have k0 := KOf.out.at_ (j := 0) rfl
   have q0 := KRf.out.at_ (j := 0) rfl
   have k1 := KOf.out.at_ (j := 1) rfl
   have q1 := KRf.out.at_ (j := 1) rfl
   have k2 := KOf.out.at_ (j := 2) rfl
   have q2 := KRf.out.at_ (j := 2) rfl
   have k3 := KOf.out.at_ (j := 3) rfl
   have q3 := KRf.out.at_ (j := 3) rfl
   have k4 := KOf.out.at_ (j := 4) rfl
   have q4 := KRf.out.at_ (j := 4) rfl
   have k5 := KOf.out.at_ (j := 5) rfl
   have q5 := KRf.out.at_ (j := 5) rfl
   have k6 := KOf.out.at_ (j := 6) rfl
   have q6 := KRf.out.at_ (j := 6) rfl
   have k7 := KOf.out.at_ (j := 7) rfl
   have q7 := KRf.out.at_ (j := 7) rfl
   have qf := fun j => KRf.out.free j
   have kf := fun j => KOf.out.free j
   have hol := KOf.out.lt
   have hrl := KRf.out.lt
   go_wp2_with fail
   have Z0 := KRf.out
   replace Z0 := (show BoxAt _ (w.heap.size + 1) 35 #[.int .i64 p0, .int .i64 0, .int .i64 0, .slice none 0 0, .slice none 0 0, .slice none 0 0, .slice none 0 0, .int .i64 0] from pk_put Z0 0 (.int .i64 p0))
   replace Z0 := (show BoxAt _ (w.heap.size + 1) 35 #[.int .i64 p0, .int .i64 p1, .int .i64 0, .slice none 0 0, .slice none 0 0, .slice none 0 0, .slice none 0 0, .int .i64 0] from pk_put Z0 1 (.int .i64 p1))
   replace Z0 := (show BoxAt _ (w.heap.size + 1) 35 #[.int .i64 p0, .int .i64 p1, .int .i64 p2, .slice none 0 0, .slice none 0 0, .slice none 0 0, .slice none 0 0, .int .i64 0] from pk_put Z0 2 (.int .i64 p2))
   replace Z0 := (show BoxAt _ (w.heap.size + 1) 35 #[.int .i64 p0, .int .i64 p1, .int .i64 p2, .slice B3 n3 d3, .slice none 0 0, .slice none 0 0, .slice none 0 0, .int .i64 0] from pk_put Z0 3 (.slice B3 n3 d3))
   replace Z0 := (show BoxAt _ (w.heap.size + 1) 35 #[.int .i64 p0, .int .i64 p1, .int .i64 p2, .slice B3 n3 d3, .slice B4 n4 d4, .slice none 0 0, .slice none 0 0, .int .i64 0] from pk_put Z0 4 (.slice B4 n4 d4))
   replace Z0 := (show BoxAt _ (w.heap.size + 1) 35 #[.int .i64 p0, .int .i64 p1, .int .i64 p2, .slice B3 n3 d3, .slice B4 n4 d4, .slice B5 n5 d5, .slice none 0 0, .int .i64 0] from pk_put Z0 5 (.slice B5 n5 d5))
   replace Z0 := (show BoxAt _ (w.heap.size + 1) 35 #[.int .i64 p0, .int .i64 p1, .int .i64 p2, .slice B3 n3 d3, .slice B4 n4 d4, .slice B5 n5 d5, .slice B6 n6 d6, .int .i64 0] from pk_put Z0 6 (.slice B6 n6 d6))
   replace Z0 := (show BoxAt _ (w.heap.size + 1) 35 #[.int .i64 p0, .int .i64 p1, .int .i64 p2, .slice B3 n3 d3, .slice B4 n4 d4, .slice B5 n5 d5, .slice B6 n6 d6, .int .i64 (mKHash a0 X)] from pk_put Z0 7 (.int .i64 (mKHash a0 X)))
   have KF := Z0
   obtain ⟨f0, f1, f2, f3, f4, f5, f6, f7⟩ := KF.p8
   rw [HE.out]
   exact bodyPost_ret (v := .agg #[.int .i64 p0, .int .i64 p1, .int .i64 p2, .slice B3 n3 d3, .slice B4 n4 d4, .slice B5 n5 d5, .slice B6 n6 d6, .int .i64 (mKHash a0 X)]) (by simp [results, Tryz.results185, go_sem, f0, f1, f2, f3, f4, f5, f6, f7]) rfl
    ⟨B3, B4, B5, B6, d3, g3, i3, d4, g4, i4, d5, g5, i5, d6, g6, i6, rfl, aU8, aU9, aU10, aU11,
     Lib.hid (by have h := MS.out; have hz := HSz.out; unfold SepPackage at h ⊢; simp at h ⊢; omega), aU6⟩
set_option maxHeartbeats 16000000 in
theorem spec_SealPackage (a0 : Int) (p0 p1 p2 : Int) (l3 : List TGrant) (A3 : Option Addr) (n3 c3 lo3 hi3 : Nat) (l4 : List TFlow) (A4 : Option Addr) (n4 c4 lo4 hi4 : Nat) (l5 : List TRule) (A5 : Option Addr) (n5 c5 lo5 hi5 : Nat) (l6 : List TOp) (A6 : Option Addr) (n6 c6 lo6 hi6 : Nat) (p7 : Int) (w : World) (hT : Pow10 w) (wf0 : (Lit.int .i64 a0).wf = true) (h3 : n3 ≤ 1048576) (r3 : Rd w lo3 hi3 7 A3 n3 (cGrant l3)) (k3 : n3 ≤ c3) (b3 : Hid (cGrantOk l3)) (h4 : n4 ≤ 1048576) (r4 : Rd w lo4 hi4 3 A4 n4 (cFlow l4)) (k4 : n4 ≤ c4) (b4 : Hid (cFlowOk l4)) (h5 : n5 ≤ 1048576) (r5 : Rd w lo5 hi5 8 A5 n5 (cRule l5)) (k5 : n5 ≤ c5) (b5 : Hid (cRuleOk l5)) (h6 : n6 ≤ 1048576) (r6 : Rd w lo6 hi6 4 A6 n6 (cOp l6)) (k6 : n6 ≤ c6) (b6 : Hid (cOpOk l6)) :
  Calls Tryz.prog 121 #[.int .i64 a0, .agg #[.int .i64 p0, .int .i64 p1, .int .i64 p2, .slice A3 n3 c3, .slice A4 n4 c4, .slice A5 n5 c5, .slice A6 n6 c6, .int .i64 p7]] w (MakesPackage p0 p1 p2 l3.length l3 l4.length l4 l5.length l5 l6.length l6 (mSealPk a0 p0 p1 p2 l3 l4 l5 l6) w) := by
 have HL3 := rd_len TGrant.len r3 (by decide)
 have HL4 := rd_len TFlow.len r4 (by decide)
 have HL5 := rd_len TRule.len r5 (by decide)
 have HL6 := rd_len TOp.len r6 (by decide)
 rw [HL3, HL4, HL5, HL6]
 have HT := Lib.hid hT
 have R3 := Lib.hid (r3.old (by decide))
 have R4 := Lib.hid (r4.old (by decide))
 have R5 := Lib.hid (r5.old (by decide))
 have R6 := Lib.hid (r6.old (by decide))
 have WF := Lib.hid wf0
 have HB := Lib.hid (Below.refl w.heap.size w)
 have KB0 := Lib.hid ((box_new w 35 #[.int .i64 p0, .int .i64 p1, .int .i64 p2, .slice A3 n3 c3, .slice A4 n4 c4, .slice A5 n5 c5, .slice A6 n6 c6, .int .i64 p7]).alloc_ (.cells #[.int .i64 0, .int .i64 0, .int .i64 0, .slice none 0 0, .slice none 0 0, .slice none 0 0, .slice none 0 0, .int .i64 0] 35))
 have KR0 : Hid (BoxAt ((w.alloc (.cells #[.int .i64 p0, .int .i64 p1, .int .i64 p2, .slice A3 n3 c3, .slice A4 n4 c4, .slice A5 n5 c5, .slice A6 n6 c6, .int .i64 p7] 35)).alloc (.cells #[.int .i64 0, .int .i64 0, .int .i64 0, .slice none 0 0, .slice none 0 0, .slice none 0 0, .slice none 0 0, .int .i64 0] 35)) (w.heap.size + 1) 35 #[.int .i64 0, .int .i64 0, .int .i64 0, .slice none 0 0, .slice none 0 0, .slice none 0 0, .slice none 0 0, .int .i64 0]) := Lib.hid (by simpa using box_new (w.alloc (.cells #[.int .i64 p0, .int .i64 p1, .int .i64 p2, .slice A3 n3 c3, .slice A4 n4 c4, .slice A5 n5 c5, .slice A6 n6 c6, .int .i64 p7] 35)) 35 #[.int .i64 0, .int .i64 0, .int .i64 0, .slice none 0 0, .slice none 0 0, .slice none 0 0, .slice none 0 0, .int .i64 0])
 clear r3 r4 r5 r6 hT wf0 HL3 HL4 HL5 HL6
 cases hv : mValid a0 with
 | false =>
  have HE := Lib.hid (show mSealPk a0 p0 p1 p2 l3 l4 l5 l6 = 0 by unfold mSealPk; split; rw [if_neg (by rw [hv]; decide)]; rfl)
  go_enter Tryz.func121, Tryz.ntmps121
  go_wp2_with fail
  refine (spec_l26Copy p0 p1 p2 l3 A3 n3 c3 0 w.heap.size l4 A4 n4 c4 0 w.heap.size l5 A5 n5 c5 0 w.heap.size l6 A6 n6 c6 0 w.heap.size p7 _ h3 (R3.out.below aU1 (Nat.le_refl _)) h4 (R4.out.below aU1 (Nat.le_refl _)) h5 (R5.out.below aU1 (Nat.le_refl _)) h6 (R6.out.below aU1 (Nat.le_refl _))).mono ?_
  rintro e w1 ⟨B3, B4, B5, B6, d3, g3, i3, d4, g4, i4, d5, g5, i5, d6, g6, i6, rfl, F3, F4, F5, F6, MS, hb⟩
  have KB1 := Lib.hid (KB0.out.new hb)
  have KR1 := Lib.hid (KR0.out.new hb)
  replace MS : Hid (SepPackage (w.heap.size + 2) w1.heap.size g3 i3 g4 i4 g5 i5 g6 i6) := Lib.hid (by have h := MS.out; unfold SepPackage at h ⊢; simp at h; omega)
  have MB := Lib.hid (SepPackage_bd MS.out)
  have hs1 := hb.size
  (try simp at hs1)
  replace HB := Lib.hid (show Below w.heap.size w w1 from Below.trans aU1 (hb.mono aW))
  have G3 := Lib.hid F3
  have G4 := Lib.hid F4
  have G5 := Lib.hid F5
  have G6 := Lib.hid F6
  have KO1 := Lib.hid (box_new w1 35 #[.int .i64 p0, .int .i64 p1, .int .i64 p2, .slice B3 n3 d3, .slice B4 n4 d4, .slice B5 n5 d5, .slice B6 n6 d6, .int .i64 0])
  have hz1 : w.heap.size + 1 < w1.heap.size := by omega
  clear hb F3 F4 F5 F6 KB0 KR0
  have HB2 := Lib.hid (show Below w.heap.size w (w1.alloc (.cells #[.int .i64 p0, .int .i64 p1, .int .i64 p2, .slice B3 n3 d3, .slice B4 n4 d4, .slice B5 n5 d5, .slice B6 n6 d6, .int .i64 0] 35)) from aU1)
  have CQ := Lib.hid (spec_IsValidKey a0 (w1.alloc (.cells #[.int .i64 p0, .int .i64 p1, .int .i64 p2, .slice B3 n3 d3, .slice B4 n4 d4, .slice B5 n5 d5, .slice B6 n6 d6, .int .i64 0] 35)) (pow10_below HT.out HB2.out) WF.out)
  rw [hv] at CQ
  obtain ⟨k0, k1, k2, k3, k4, k5, k6, k7⟩ := KB1.out.p8
  have kf := fun j => KB1.out.free j
  have kz : w.heap.size < w1.heap.size := by omega
  go_wp2_with fail
  clear k0 k1 k2 k3 k4 k5 k6 k7 kf kz
  refine CQ.out.mono ?_
  rintro e w3 ⟨rfl, hb⟩
  have KO3 := Lib.hid (show BoxAt w3 w1.heap.size 35 #[.int .i64 p0, .int .i64 p1, .int .i64 p2, .slice B3 n3 d3, .slice B4 n4 d4, .slice B5 n5 d5, .slice B6 n6 d6, .int .i64 0] from KO1.out.new hb)
  have KB3 := Lib.hid ((KB1.out.alloc_ _).new hb)
  have KR3 := Lib.hid ((KR1.out.alloc_ _).new hb)
  have HB3 := Lib.hid (below_trans HB2.out hb (Nat.le_refl _))
  have hs3 := hb.size
  (try simp [World.setCell] at hs3)
  have P3 := Lib.hid ((G3.out.alloc _).new hb)
  have P4 := Lib.hid ((G4.out.alloc _).new hb)
  have P5 := Lib.hid ((G5.out.alloc _).new hb)
  have P6 := Lib.hid ((G6.out.alloc _).new hb)
  clear hb CQ KO1 KB1 KR1 G3 G4 G5 G6
  have KOf := KO3
  have KRf := KR3
  have HBf := HB3
  have HSz := Lib.hid (show w1.heap.size ≤ w3.heap.size by omega)
  have G3 := P3
  have G4 := P4
  have G5 := P5
  have G6 := P6
  clear KO3 KR3 HB3 P3 P4 P5 P6 KB3
  have k0 := KOf.out.at_ (j := 0) rfl
  have q0 := KRf.out.at_ (j := 0) rfl
  have k1 := KOf.out.at_ (j := 1) rfl
  have q1 := KRf.out.at_ (j := 1) rfl
  have k2 := KOf.out.at_ (j := 2) rfl
  have q2 := KRf.out.at_ (j := 2) rfl
  have k3 := KOf.out.at_ (j := 3) rfl
  have q3 := KRf.out.at_ (j := 3) rfl
  have k4 := KOf.out.at_ (j := 4) rfl
  have q4 := KRf.out.at_ (j := 4) rfl
  have k5 := KOf.out.at_ (j := 5) rfl
  have q5 := KRf.out.at_ (j := 5) rfl
  have k6 := KOf.out.at_ (j := 6) rfl
  have q6 := KRf.out.at_ (j := 6) rfl
  have k7 := KOf.out.at_ (j := 7) rfl
  have q7 := KRf.out.at_ (j := 7) rfl
  have qf := fun j => KRf.out.free j
  have kf := fun j => KOf.out.free j
  have hol := KOf.out.lt
  have hrl := KRf.out.lt
  go_wp2_with fail
  have Z0 := KRf.out
  replace Z0 := (show BoxAt _ (w.heap.size + 1) 35 #[.int .i64 p0, .int .i64 0, .int .i64 0, .slice none 0 0, .slice none 0 0, .slice none 0 0, .slice none 0 0, .int .i64 0] from pk_put Z0 0 (.int .i64 p0))
  replace Z0 := (show BoxAt _ (w.heap.size + 1) 35 #[.int .i64 p0, .int .i64 p1, .int .i64 0, .slice none 0 0, .slice none 0 0, .slice none 0 0, .slice none 0 0, .int .i64 0] from pk_put Z0 1 (.int .i64 p1))
  replace Z0 := (show BoxAt _ (w.heap.size + 1) 35 #[.int .i64 p0, .int .i64 p1, .int .i64 p2, .slice none 0 0, .slice none 0 0, .slice none 0 0, .slice none 0 0, .int .i64 0] from pk_put Z0 2 (.int .i64 p2))
  replace Z0 := (show BoxAt _ (w.heap.size + 1) 35 #[.int .i64 p0, .int .i64 p1, .int .i64 p2, .slice B3 n3 d3, .slice none 0 0, .slice none 0 0, .slice none 0 0, .int .i64 0] from pk_put Z0 3 (.slice B3 n3 d3))
  replace Z0 := (show BoxAt _ (w.heap.size + 1) 35 #[.int .i64 p0, .int .i64 p1, .int .i64 p2, .slice B3 n3 d3, .slice B4 n4 d4, .slice none 0 0, .slice none 0 0, .int .i64 0] from pk_put Z0 4 (.slice B4 n4 d4))
  replace Z0 := (show BoxAt _ (w.heap.size + 1) 35 #[.int .i64 p0, .int .i64 p1, .int .i64 p2, .slice B3 n3 d3, .slice B4 n4 d4, .slice B5 n5 d5, .slice none 0 0, .int .i64 0] from pk_put Z0 5 (.slice B5 n5 d5))
  replace Z0 := (show BoxAt _ (w.heap.size + 1) 35 #[.int .i64 p0, .int .i64 p1, .int .i64 p2, .slice B3 n3 d3, .slice B4 n4 d4, .slice B5 n5 d5, .slice B6 n6 d6, .int .i64 0] from pk_put Z0 6 (.slice B6 n6 d6))
  replace Z0 := (show BoxAt _ (w.heap.size + 1) 35 #[.int .i64 p0, .int .i64 p1, .int .i64 p2, .slice B3 n3 d3, .slice B4 n4 d4, .slice B5 n5 d5, .slice B6 n6 d6, .int .i64 0] from pk_put Z0 7 (.int .i64 0))
  have KF := Z0
  obtain ⟨f0, f1, f2, f3, f4, f5, f6, f7⟩ := KF.p8
  rw [HE.out]
  exact bodyPost_ret (v := .agg #[.int .i64 p0, .int .i64 p1, .int .i64 p2, .slice B3 n3 d3, .slice B4 n4 d4, .slice B5 n5 d5, .slice B6 n6 d6, .int .i64 0]) (by simp [results, Tryz.results121, go_sem, f0, f1, f2, f3, f4, f5, f6, f7]) rfl
   ⟨B3, B4, B5, B6, d3, g3, i3, d4, g4, i4, d5, g5, i5, d6, g6, i6, rfl, aU8, aU9, aU10, aU11,
    Lib.hid (by have h := MS.out; have hz := HSz.out; unfold SepPackage at h ⊢; simp at h ⊢; omega), aU6⟩
 | true =>
  cases hq : mIsPack p0 p1 p2 l3 l4 l5 l6 with
  | false =>
   have HE := Lib.hid (show mSealPk a0 p0 p1 p2 l3 l4 l5 l6 = 0 by unfold mSealPk; rw [if_neg (by rw [hq]; decide)])
   go_enter Tryz.func121, Tryz.ntmps121
   go_wp2_with fail
   refine (spec_l26Copy p0 p1 p2 l3 A3 n3 c3 0 w.heap.size l4 A4 n4 c4 0 w.heap.size l5 A5 n5 c5 0 w.heap.size l6 A6 n6 c6 0 w.heap.size p7 _ h3 (R3.out.below aU1 (Nat.le_refl _)) h4 (R4.out.below aU1 (Nat.le_refl _)) h5 (R5.out.below aU1 (Nat.le_refl _)) h6 (R6.out.below aU1 (Nat.le_refl _))).mono ?_
   rintro e w1 ⟨B3, B4, B5, B6, d3, g3, i3, d4, g4, i4, d5, g5, i5, d6, g6, i6, rfl, F3, F4, F5, F6, MS, hb⟩
   have KB1 := Lib.hid (KB0.out.new hb)
   have KR1 := Lib.hid (KR0.out.new hb)
   replace MS : Hid (SepPackage (w.heap.size + 2) w1.heap.size g3 i3 g4 i4 g5 i5 g6 i6) := Lib.hid (by have h := MS.out; unfold SepPackage at h ⊢; simp at h; omega)
   have MB := Lib.hid (SepPackage_bd MS.out)
   have hs1 := hb.size
   (try simp at hs1)
   replace HB := Lib.hid (show Below w.heap.size w w1 from Below.trans aU1 (hb.mono aW))
   have G3 := Lib.hid F3
   have G4 := Lib.hid F4
   have G5 := Lib.hid F5
   have G6 := Lib.hid F6
   have KO1 := Lib.hid (box_new w1 35 #[.int .i64 p0, .int .i64 p1, .int .i64 p2, .slice B3 n3 d3, .slice B4 n4 d4, .slice B5 n5 d5, .slice B6 n6 d6, .int .i64 0])
   have hz1 : w.heap.size + 1 < w1.heap.size := by omega
   clear hb F3 F4 F5 F6 KB0 KR0
   have HB2 := Lib.hid (show Below w.heap.size w (w1.alloc (.cells #[.int .i64 p0, .int .i64 p1, .int .i64 p2, .slice B3 n3 d3, .slice B4 n4 d4, .slice B5 n5 d5, .slice B6 n6 d6, .int .i64 0] 35)) from aU1)
   have CQ := Lib.hid (spec_IsValidKey a0 (w1.alloc (.cells #[.int .i64 p0, .int .i64 p1, .int .i64 p2, .slice B3 n3 d3, .slice B4 n4 d4, .slice B5 n5 d5, .slice B6 n6 d6, .int .i64 0] 35)) (pow10_below HT.out HB2.out) WF.out)
   rw [hv] at CQ
   obtain ⟨k0, k1, k2, k3, k4, k5, k6, k7⟩ := KB1.out.p8
   have kf := fun j => KB1.out.free j
   have kz : w.heap.size < w1.heap.size := by omega
   go_wp2_with fail
   clear k0 k1 k2 k3 k4 k5 k6 k7 kf kz
   refine CQ.out.mono ?_
   rintro e w3 ⟨rfl, hb⟩
   have KO3 := Lib.hid (show BoxAt w3 w1.heap.size 35 #[.int .i64 p0, .int .i64 p1, .int .i64 p2, .slice B3 n3 d3, .slice B4 n4 d4, .slice B5 n5 d5, .slice B6 n6 d6, .int .i64 0] from KO1.out.new hb)
   have KB3 := Lib.hid ((KB1.out.alloc_ _).new hb)
   have KR3 := Lib.hid ((KR1.out.alloc_ _).new hb)
   have HB3 := Lib.hid (below_trans HB2.out hb (Nat.le_refl _))
   have hs3 := hb.size
   (try simp [World.setCell] at hs3)
   have P3 := Lib.hid ((G3.out.alloc _).new hb)
   have P4 := Lib.hid ((G4.out.alloc _).new hb)
   have P5 := Lib.hid ((G5.out.alloc _).new hb)
   have P6 := Lib.hid ((G6.out.alloc _).new hb)
   clear hb CQ KO1 KB1 KR1 G3 G4 G5 G6
   have CQ := Lib.hid (spec_IsPackage p0 p1 p2 l3 A3 n3 c3 0 w.heap.size l4 A4 n4 c4 0 w.heap.size l5 A5 n5 c5 0 w.heap.size l6 A6 n6 c6 0 w.heap.size p7 w3 h3 (R3.out.below HB3.out (Nat.le_refl _)) k3 b3 h4 (R4.out.below HB3.out (Nat.le_refl _)) k4 b4 h5 (R5.out.below HB3.out (Nat.le_refl _)) k5 b5 h6 (R6.out.below HB3.out (Nat.le_refl _)) k6 b6)
   rw [hq] at CQ
   obtain ⟨k0, k1, k2, k3, k4, k5, k6, k7⟩ := KB3.out.p8
   have kf := fun j => KB3.out.free j
   go_wp2_with fail
   clear k0 k1 k2 k3 k4 k5 k6 k7 kf
   refine CQ.out.mono ?_
   rintro e w4 ⟨rfl, hb⟩
   replace KO3 := Lib.hid (KO3.out.new hb)
   replace KB3 := Lib.hid (KB3.out.new hb)
   replace KR3 := Lib.hid (KR3.out.new hb)
   replace HB3 := Lib.hid (below_trans HB3.out hb (Nat.le_refl _))
   replace P3 := Lib.hid (P3.out.new hb)
   replace P4 := Lib.hid (P4.out.new hb)
   replace P5 := Lib.hid (P5.out.new hb)
   replace P6 := Lib.hid (P6.out.new hb)
   have hs_w4 := hb.size
   clear hb
   clear CQ
   have KOf := KO3
   have KRf := KR3
   have HBf := HB3
   have HSz := Lib.hid (show w1.heap.size ≤ w4.heap.size by omega)
   have G3 := P3
   have G4 := P4
   have G5 := P5
   have G6 := P6
   clear KO3 KR3 HB3 P3 P4 P5 P6 KB3
   have k0 := KOf.out.at_ (j := 0) rfl
   have q0 := KRf.out.at_ (j := 0) rfl
   have k1 := KOf.out.at_ (j := 1) rfl
   have q1 := KRf.out.at_ (j := 1) rfl
   have k2 := KOf.out.at_ (j := 2) rfl
   have q2 := KRf.out.at_ (j := 2) rfl
   have k3 := KOf.out.at_ (j := 3) rfl
   have q3 := KRf.out.at_ (j := 3) rfl
   have k4 := KOf.out.at_ (j := 4) rfl
   have q4 := KRf.out.at_ (j := 4) rfl
   have k5 := KOf.out.at_ (j := 5) rfl
   have q5 := KRf.out.at_ (j := 5) rfl
   have k6 := KOf.out.at_ (j := 6) rfl
   have q6 := KRf.out.at_ (j := 6) rfl
   have k7 := KOf.out.at_ (j := 7) rfl
   have q7 := KRf.out.at_ (j := 7) rfl
   have qf := fun j => KRf.out.free j
   have kf := fun j => KOf.out.free j
   have hol := KOf.out.lt
   have hrl := KRf.out.lt
   go_wp2_with fail
   have Z0 := KRf.out
   replace Z0 := (show BoxAt _ (w.heap.size + 1) 35 #[.int .i64 p0, .int .i64 0, .int .i64 0, .slice none 0 0, .slice none 0 0, .slice none 0 0, .slice none 0 0, .int .i64 0] from pk_put Z0 0 (.int .i64 p0))
   replace Z0 := (show BoxAt _ (w.heap.size + 1) 35 #[.int .i64 p0, .int .i64 p1, .int .i64 0, .slice none 0 0, .slice none 0 0, .slice none 0 0, .slice none 0 0, .int .i64 0] from pk_put Z0 1 (.int .i64 p1))
   replace Z0 := (show BoxAt _ (w.heap.size + 1) 35 #[.int .i64 p0, .int .i64 p1, .int .i64 p2, .slice none 0 0, .slice none 0 0, .slice none 0 0, .slice none 0 0, .int .i64 0] from pk_put Z0 2 (.int .i64 p2))
   replace Z0 := (show BoxAt _ (w.heap.size + 1) 35 #[.int .i64 p0, .int .i64 p1, .int .i64 p2, .slice B3 n3 d3, .slice none 0 0, .slice none 0 0, .slice none 0 0, .int .i64 0] from pk_put Z0 3 (.slice B3 n3 d3))
   replace Z0 := (show BoxAt _ (w.heap.size + 1) 35 #[.int .i64 p0, .int .i64 p1, .int .i64 p2, .slice B3 n3 d3, .slice B4 n4 d4, .slice none 0 0, .slice none 0 0, .int .i64 0] from pk_put Z0 4 (.slice B4 n4 d4))
   replace Z0 := (show BoxAt _ (w.heap.size + 1) 35 #[.int .i64 p0, .int .i64 p1, .int .i64 p2, .slice B3 n3 d3, .slice B4 n4 d4, .slice B5 n5 d5, .slice none 0 0, .int .i64 0] from pk_put Z0 5 (.slice B5 n5 d5))
   replace Z0 := (show BoxAt _ (w.heap.size + 1) 35 #[.int .i64 p0, .int .i64 p1, .int .i64 p2, .slice B3 n3 d3, .slice B4 n4 d4, .slice B5 n5 d5, .slice B6 n6 d6, .int .i64 0] from pk_put Z0 6 (.slice B6 n6 d6))
   replace Z0 := (show BoxAt _ (w.heap.size + 1) 35 #[.int .i64 p0, .int .i64 p1, .int .i64 p2, .slice B3 n3 d3, .slice B4 n4 d4, .slice B5 n5 d5, .slice B6 n6 d6, .int .i64 0] from pk_put Z0 7 (.int .i64 0))
   have KF := Z0
   obtain ⟨f0, f1, f2, f3, f4, f5, f6, f7⟩ := KF.p8
   rw [HE.out]
   exact bodyPost_ret (v := .agg #[.int .i64 p0, .int .i64 p1, .int .i64 p2, .slice B3 n3 d3, .slice B4 n4 d4, .slice B5 n5 d5, .slice B6 n6 d6, .int .i64 0]) (by simp [results, Tryz.results121, go_sem, f0, f1, f2, f3, f4, f5, f6, f7]) rfl
    ⟨B3, B4, B5, B6, d3, g3, i3, d4, g4, i4, d5, g5, i5, d6, g6, i6, rfl, aU8, aU9, aU10, aU11,
     Lib.hid (by have h := MS.out; have hz := HSz.out; unfold SepPackage at h ⊢; simp at h ⊢; omega), aU6⟩
  | true =>
   have HE := Lib.hid (show mSealPk a0 p0 p1 p2 l3 l4 l5 l6 = mKHash a0 (mPInts p0 p1 p2 l3 l4 l5 l6) by unfold mSealPk; rw [if_pos hq, if_pos hv])
   have HLen := Lib.hid (mPInts_len p0 p1 p2 l3 l4 l5 l6)
   have CI := Lib.hid (fun (W : World) (h : Below w.heap.size w W) => spec_PackageInts p0 p1 p2 l3 A3 n3 c3 0 w.heap.size l4 A4 n4 c4 0 w.heap.size l5 A5 n5 c5 0 w.heap.size l6 A6 n6 c6 0 w.heap.size p7 W h3 (R3.out.below h (Nat.le_refl _)) k3 b3 h4 (R4.out.below h (Nat.le_refl _)) k4 b4 h5 (R5.out.below h (Nat.le_refl _)) k5 b5 h6 (R6.out.below h (Nat.le_refl _)) k6 b6)
   have hxl : (mPInts p0 p1 p2 l3 l4 l5 l6).length ≤ 1099511627000 := by have h := HLen.out; have := rd_len TGrant.len R3.out (by decide); have := rd_len TFlow.len R4.out (by decide); have := rd_len TRule.len R5.out (by decide); have := rd_len TOp.len R6.out (by decide); omega
   have HXb := Lib.hid (mPInts_fits b3.out b4.out b5.out b6.out (p0 := p0) (p1 := p1) (p2 := p2) (by have := rd_len TGrant.len R3.out (by decide); omega) (by have := rd_len TFlow.len R4.out (by decide); omega) (by have := rd_len TRule.len R5.out (by decide); omega) (by have := rd_len TOp.len R6.out (by decide); omega) hq)
   generalize mPInts p0 p1 p2 l3 l4 l5 l6 = X at HE CI hxl HXb
   generalize hnx : X.length = nx at CI hxl
   clear hnx HLen
   go_enter Tryz.func121, Tryz.ntmps121
   go_wp2_with fail
   refine (spec_l26Copy p0 p1 p2 l3 A3 n3 c3 0 w.heap.size l4 A4 n4 c4 0 w.heap.size l5 A5 n5 c5 0 w.heap.size l6 A6 n6 c6 0 w.heap.size p7 _ h3 (R3.out.below aU1 (Nat.le_refl _)) h4 (R4.out.below aU1 (Nat.le_refl _)) h5 (R5.out.below aU1 (Nat.le_refl _)) h6 (R6.out.below aU1 (Nat.le_refl _))).mono ?_
   rintro e w1 ⟨B3, B4, B5, B6, d3, g3, i3, d4, g4, i4, d5, g5, i5, d6, g6, i6, rfl, F3, F4, F5, F6, MS, hb⟩
   have KB1 := Lib.hid (KB0.out.new hb)
   have KR1 := Lib.hid (KR0.out.new hb)
   replace MS : Hid (SepPackage (w.heap.size + 2) w1.heap.size g3 i3 g4 i4 g5 i5 g6 i6) := Lib.hid (by have h := MS.out; unfold SepPackage at h ⊢; simp at h; omega)
   have MB := Lib.hid (SepPackage_bd MS.out)
   have hs1 := hb.size
   (try simp at hs1)
   replace HB := Lib.hid (show Below w.heap.size w w1 from Below.trans aU1 (hb.mono aW))
   have G3 := Lib.hid F3
   have G4 := Lib.hid F4
   have G5 := Lib.hid F5
   have G6 := Lib.hid F6
   have KO1 := Lib.hid (box_new w1 35 #[.int .i64 p0, .int .i64 p1, .int .i64 p2, .slice B3 n3 d3, .slice B4 n4 d4, .slice B5 n5 d5, .slice B6 n6 d6, .int .i64 0])
   have hz1 : w.heap.size + 1 < w1.heap.size := by omega
   clear hb F3 F4 F5 F6 KB0 KR0
   have HB2 := Lib.hid (show Below w.heap.size w (w1.alloc (.cells #[.int .i64 p0, .int .i64 p1, .int .i64 p2, .slice B3 n3 d3, .slice B4 n4 d4, .slice B5 n5 d5, .slice B6 n6 d6, .int .i64 0] 35)) from aU1)
   have CQ := Lib.hid (spec_IsValidKey a0 (w1.alloc (.cells #[.int .i64 p0, .int .i64 p1, .int .i64 p2, .slice B3 n3 d3, .slice B4 n4 d4, .slice B5 n5 d5, .slice B6 n6 d6, .int .i64 0] 35)) (pow10_below HT.out HB2.out) WF.out)
   rw [hv] at CQ
   obtain ⟨k0, k1, k2, k3, k4, k5, k6, k7⟩ := KB1.out.p8
   have kf := fun j => KB1.out.free j
   have kz : w.heap.size < w1.heap.size := by omega
   go_wp2_with fail
   clear k0 k1 k2 k3 k4 k5 k6 k7 kf kz
   refine CQ.out.mono ?_
   rintro e w3 ⟨rfl, hb⟩
   have KO3 := Lib.hid (show BoxAt w3 w1.heap.size 35 #[.int .i64 p0, .int .i64 p1, .int .i64 p2, .slice B3 n3 d3, .slice B4 n4 d4, .slice B5 n5 d5, .slice B6 n6 d6, .int .i64 0] from KO1.out.new hb)
   have KB3 := Lib.hid ((KB1.out.alloc_ _).new hb)
   have KR3 := Lib.hid ((KR1.out.alloc_ _).new hb)
   have HB3 := Lib.hid (below_trans HB2.out hb (Nat.le_refl _))
   have hs3 := hb.size
   (try simp [World.setCell] at hs3)
   have P3 := Lib.hid ((G3.out.alloc _).new hb)
   have P4 := Lib.hid ((G4.out.alloc _).new hb)
   have P5 := Lib.hid ((G5.out.alloc _).new hb)
   have P6 := Lib.hid ((G6.out.alloc _).new hb)
   clear hb CQ KO1 KB1 KR1 G3 G4 G5 G6
   have CQ := Lib.hid (spec_IsPackage p0 p1 p2 l3 A3 n3 c3 0 w.heap.size l4 A4 n4 c4 0 w.heap.size l5 A5 n5 c5 0 w.heap.size l6 A6 n6 c6 0 w.heap.size p7 w3 h3 (R3.out.below HB3.out (Nat.le_refl _)) k3 b3 h4 (R4.out.below HB3.out (Nat.le_refl _)) k4 b4 h5 (R5.out.below HB3.out (Nat.le_refl _)) k5 b5 h6 (R6.out.below HB3.out (Nat.le_refl _)) k6 b6)
   rw [hq] at CQ
   obtain ⟨k0, k1, k2, k3, k4, k5, k6, k7⟩ := KB3.out.p8
   have kf := fun j => KB3.out.free j
   go_wp2_with fail
   clear k0 k1 k2 k3 k4 k5 k6 k7 kf
   refine CQ.out.mono ?_
   rintro e w4 ⟨rfl, hb⟩
   replace KO3 := Lib.hid (KO3.out.new hb)
   replace KB3 := Lib.hid (KB3.out.new hb)
   replace KR3 := Lib.hid (KR3.out.new hb)
   replace HB3 := Lib.hid (below_trans HB3.out hb (Nat.le_refl _))
   replace P3 := Lib.hid (P3.out.new hb)
   replace P4 := Lib.hid (P4.out.new hb)
   replace P5 := Lib.hid (P5.out.new hb)
   replace P6 := Lib.hid (P6.out.new hb)
   have hs_w4 := hb.size
   clear hb
   clear CQ
   have CQ := Lib.hid (CI.out w4 HB3.out)
   obtain ⟨k0, k1, k2, k3, k4, k5, k6, k7⟩ := KB3.out.p8
   have kf := fun j => KB3.out.free j
   go_wp2_with fail
   clear k0 k1 k2 k3 k4 k5 k6 k7 kf
   refine CQ.out.mono ?_
   rintro e w5 ⟨AI, cI, rfl, GI, hb⟩
   replace KO3 := Lib.hid (KO3.out.new hb)
   replace KB3 := Lib.hid (KB3.out.new hb)
   replace KR3 := Lib.hid (KR3.out.new hb)
   replace HB3 := Lib.hid (below_trans HB3.out hb (Nat.le_refl _))
   replace P3 := Lib.hid (P3.out.new hb)
   replace P4 := Lib.hid (P4.out.new hb)
   replace P5 := Lib.hid (P5.out.new hb)
   replace P6 := Lib.hid (P6.out.new hb)
   have hs_w5 := hb.size
   clear hb
   clear CQ
   have CQ := Lib.hid (spec_KeyedHash' a0 X AI nx cI _ _ w5 WF.out hxl GI.rd HXb)
   go_wp2_with fail
   refine CQ.out.mono ?_
   rintro e w6 ⟨rfl, hb⟩
   replace KO3 := Lib.hid (KO3.out.new hb)
   replace KB3 := Lib.hid (KB3.out.new hb)
   replace KR3 := Lib.hid (KR3.out.new hb)
   replace HB3 := Lib.hid (below_trans HB3.out hb (Nat.le_refl _))
   replace P3 := Lib.hid (P3.out.new hb)
   replace P4 := Lib.hid (P4.out.new hb)
   replace P5 := Lib.hid (P5.out.new hb)
   replace P6 := Lib.hid (P6.out.new hb)
   have hs_w6 := hb.size
   clear hb
   clear CQ
   have KOf := KO3
   have KRf := KR3
   have HBf := HB3
   have HSz := Lib.hid (show w1.heap.size ≤ w6.heap.size by omega)
   have G3 := P3
   have G4 := P4
   have G5 := P5
   have G6 := P6
   clear KO3 KR3 HB3 P3 P4 P5 P6 KB3
   have k0 := KOf.out.at_ (j := 0) rfl
   have q0 := KRf.out.at_ (j := 0) rfl
   have k1 := KOf.out.at_ (j := 1) rfl
   have q1 := KRf.out.at_ (j := 1) rfl
   have k2 := KOf.out.at_ (j := 2) rfl
   have q2 := KRf.out.at_ (j := 2) rfl
   have k3 := KOf.out.at_ (j := 3) rfl
   have q3 := KRf.out.at_ (j := 3) rfl
   have k4 := KOf.out.at_ (j := 4) rfl
   have q4 := KRf.out.at_ (j := 4) rfl
   have k5 := KOf.out.at_ (j := 5) rfl
   have q5 := KRf.out.at_ (j := 5) rfl
   have k6 := KOf.out.at_ (j := 6) rfl
   have q6 := KRf.out.at_ (j := 6) rfl
   have k7 := KOf.out.at_ (j := 7) rfl
   have q7 := KRf.out.at_ (j := 7) rfl
   have qf := fun j => KRf.out.free j
   have kf := fun j => KOf.out.free j
   have hol := KOf.out.lt
   have hrl := KRf.out.lt
   go_wp2_with fail
   have Z0 := pk_past (p := ⟨w1.heap.size, 7, none⟩) (v := .int .i64 (mKHash a0 X)) KRf.out (by simp; omega)
   replace Z0 := (show BoxAt _ (w.heap.size + 1) 35 #[.int .i64 p0, .int .i64 0, .int .i64 0, .slice none 0 0, .slice none 0 0, .slice none 0 0, .slice none 0 0, .int .i64 0] from pk_put Z0 0 (.int .i64 p0))
   replace Z0 := (show BoxAt _ (w.heap.size + 1) 35 #[.int .i64 p0, .int .i64 p1, .int .i64 0, .slice none 0 0, .slice none 0 0, .slice none 0 0, .slice none 0 0, .int .i64 0] from pk_put Z0 1 (.int .i64 p1))
   replace Z0 := (show BoxAt _ (w.heap.size + 1) 35 #[.int .i64 p0, .int .i64 p1, .int .i64 p2, .slice none 0 0, .slice none 0 0, .slice none 0 0, .slice none 0 0, .int .i64 0] from pk_put Z0 2 (.int .i64 p2))
   replace Z0 := (show BoxAt _ (w.heap.size + 1) 35 #[.int .i64 p0, .int .i64 p1, .int .i64 p2, .slice B3 n3 d3, .slice none 0 0, .slice none 0 0, .slice none 0 0, .int .i64 0] from pk_put Z0 3 (.slice B3 n3 d3))
   replace Z0 := (show BoxAt _ (w.heap.size + 1) 35 #[.int .i64 p0, .int .i64 p1, .int .i64 p2, .slice B3 n3 d3, .slice B4 n4 d4, .slice none 0 0, .slice none 0 0, .int .i64 0] from pk_put Z0 4 (.slice B4 n4 d4))
   replace Z0 := (show BoxAt _ (w.heap.size + 1) 35 #[.int .i64 p0, .int .i64 p1, .int .i64 p2, .slice B3 n3 d3, .slice B4 n4 d4, .slice B5 n5 d5, .slice none 0 0, .int .i64 0] from pk_put Z0 5 (.slice B5 n5 d5))
   replace Z0 := (show BoxAt _ (w.heap.size + 1) 35 #[.int .i64 p0, .int .i64 p1, .int .i64 p2, .slice B3 n3 d3, .slice B4 n4 d4, .slice B5 n5 d5, .slice B6 n6 d6, .int .i64 0] from pk_put Z0 6 (.slice B6 n6 d6))
   replace Z0 := (show BoxAt _ (w.heap.size + 1) 35 #[.int .i64 p0, .int .i64 p1, .int .i64 p2, .slice B3 n3 d3, .slice B4 n4 d4, .slice B5 n5 d5, .slice B6 n6 d6, .int .i64 (mKHash a0 X)] from pk_put Z0 7 (.int .i64 (mKHash a0 X)))
   have KF := Z0
   obtain ⟨f0, f1, f2, f3, f4, f5, f6, f7⟩ := KF.p8
   rw [HE.out]
   exact bodyPost_ret (v := .agg #[.int .i64 p0, .int .i64 p1, .int .i64 p2, .slice B3 n3 d3, .slice B4 n4 d4, .slice B5 n5 d5, .slice B6 n6 d6, .int .i64 (mKHash a0 X)]) (by simp [results, Tryz.results121, go_sem, f0, f1, f2, f3, f4, f5, f6, f7]) rfl
    ⟨B3, B4, B5, B6, d3, g3, i3, d4, g4, i4, d5, g5, i5, d6, g6, i6, rfl, aU8, aU9, aU10, aU11,
     Lib.hid (by have h := MS.out; have hz := HSz.out; unfold SepPackage at h ⊢; simp at h ⊢; omega), aU6⟩
end Go.Proofs.YtkedacmpmancbaaGreatDoor
namespace Go.Proofs.YtkedacmpmancbaaGreatDoor
open Go Go.ChangeShapes Go.WideShapes Go.ChangeAt Go.RowKit Go.Lib
set_option linter.unusedVariables false
set_option linter.unusedSimpArgs false
set_option maxRecDepth 100000
def mIsSealed (k p0 p1 p2 : Int) (l3 : List TGrant) (l4 : List TFlow) (l5 : List TRule) (l6 : List TOp) (p7 : Int) : Bool := mIsPack p0 p1 p2 l3 l4 l5 l6 && mValid k && (p7 == mSealPk k p0 p1 p2 l3 l4 l5 l6)
theorem pk_field7 (p0 p1 p2 : Int) (B3 B4 B5 B6 : Option Addr) (n3 n4 n5 n6 d3 d4 d5 d6 : Nat) (s : Int) (w : World) : (Instr.field 35 (.agg #[.int .i64 p0, .int .i64 p1, .int .i64 p2, .slice B3 n3 d3, .slice B4 n4 d4, .slice B5 n5 d5, .slice B6 n6 d6, .int .i64 s]) 7).run Tryz.prog w = .ok (.int .i64 s) w := by kernel_rfl
set_option maxHeartbeats 16000000 in
theorem impl_IsSealedC (a0 : Int) (p0 p1 p2 : Int) (l3 : List TGrant) (A3 : Option Addr) (n3 c3 lo3 hi3 : Nat) (l4 : List TFlow) (A4 : Option Addr) (n4 c4 lo4 hi4 : Nat) (l5 : List TRule) (A5 : Option Addr) (n5 c5 lo5 hi5 : Nat) (l6 : List TOp) (A6 : Option Addr) (n6 c6 lo6 hi6 : Nat) (p7 : Int) (w : World) (hT : Pow10 w) (wf0 : (Lit.int .i64 a0).wf = true) (h3 : n3 ≤ 1048576) (r3 : Rd w lo3 hi3 7 A3 n3 (cGrant l3)) (k3 : n3 ≤ c3) (b3 : Hid (cGrantOk l3)) (h4 : n4 ≤ 1048576) (r4 : Rd w lo4 hi4 3 A4 n4 (cFlow l4)) (k4 : n4 ≤ c4) (b4 : Hid (cFlowOk l4)) (h5 : n5 ≤ 1048576) (r5 : Rd w lo5 hi5 8 A5 n5 (cRule l5)) (k5 : n5 ≤ c5) (b5 : Hid (cRuleOk l5)) (h6 : n6 ≤ 1048576) (r6 : Rd w lo6 hi6 4 A6 n6 (cOp l6)) (k6 : n6 ≤ c6) (b6 : Hid (cOpOk l6)) :
  Calls Tryz.prog 143 #[.int .i64 a0, .agg #[.int .i64 p0, .int .i64 p1, .int .i64 p2, .slice A3 n3 c3, .slice A4 n4 c4, .slice A5 n5 c5, .slice A6 n6 c6, .int .i64 p7]] w (Says (.bool (mIsSealed a0 p0 p1 p2 l3 l4 l5 l6 p7)) w) := by
 have R3 := Lib.hid (r3.old (by decide))
 have R4 := Lib.hid (r4.old (by decide))
 have R5 := Lib.hid (r5.old (by decide))
 have R6 := Lib.hid (r6.old (by decide))
 have CQ := Lib.hid (fun (W : World) (h : Below w.heap.size w W) => impl_IsPackageC p0 p1 p2 l3 A3 n3 c3 0 w.heap.size l4 A4 n4 c4 0 w.heap.size l5 A5 n5 c5 0 w.heap.size l6 A6 n6 c6 0 w.heap.size p7 W h3 (R3.out.below h (Nat.le_refl _)) k3 b3 h4 (R4.out.below h (Nat.le_refl _)) k4 b4 h5 (R5.out.below h (Nat.le_refl _)) k5 b5 h6 (R6.out.below h (Nat.le_refl _)) k6 b6)
 have CV := Lib.hid (fun (W : World) (h : Below w.heap.size w W) => impl_IsValidKey a0 W (pow10_below hT h) wf0)
 have CS := Lib.hid (fun (W : World) (h : Below w.heap.size w W) => impl_SealPackageC a0 p0 p1 p2 l3 A3 n3 c3 0 w.heap.size l4 A4 n4 c4 0 w.heap.size l5 A5 n5 c5 0 w.heap.size l6 A6 n6 c6 0 w.heap.size p7 W (pow10_below hT h) wf0 h3 (R3.out.below h (Nat.le_refl _)) k3 b3 h4 (R4.out.below h (Nat.le_refl _)) k4 b4 h5 (R5.out.below h (Nat.le_refl _)) k5 b5 h6 (R6.out.below h (Nat.le_refl _)) k6 b6)
 unfold mIsSealed
 generalize mIsPack p0 p1 p2 l3 l4 l5 l6 = bq at CQ ⊢
 generalize mValid a0 = bv at CV ⊢
 generalize mSealPk a0 p0 p1 p2 l3 l4 l5 l6 = sl at CS ⊢
 clear r3 r4 r5 r6 R3 R4 R5 R6 hT wf0
 have KB := Lib.hid (box_new w 35 #[.int .i64 p0, .int .i64 p1, .int .i64 p2, .slice A3 n3 c3, .slice A4 n4 c4, .slice A5 n5 c5, .slice A6 n6 c6, .int .i64 p7])
 have HBw := Lib.hid ((Below.refl w.heap.size w).alloc (Nat.le_refl _) (.cells #[.int .i64 p0, .int .i64 p1, .int .i64 p2, .slice A3 n3 c3, .slice A4 n4 c4, .slice A5 n5 c5, .slice A6 n6 c6, .int .i64 p7] 35))
 have fs := fun (B3 B4 B5 B6 : Option Addr) (d3 d4 d5 d6 n3 n4 n5 n6 : Nat) (W : World) => pk_field7 p0 p1 p2 B3 B4 B5 B6 n3 n4 n5 n6 d3 d4 d5 d6 sl W
 go_enter Tryz.func143, Tryz.ntmps143
 go_wp2_with fail
 refine wp_region_held_drew (S := fun w' => BoxAt w' w.heap.size 35 #[.int .i64 p0, .int .i64 p1, .int .i64 p2, .slice A3 n3 c3, .slice A4 n4 c4, .slice A5 n5 c5, .slice A6 n6 c6, .int .i64 p7] ∧ Below w.heap.size w w') (by kernel_rfl) ?_ (fun hHeld => ?_)
 ·
  exact ⟨KB.out.drw, HBw.out.drew⟩
 refine tl 0 5 hHeld rfl ?_ (by intro W hS; obtain ⟨c0_0, c0_1, c0_2, c0_3, c0_4, c0_5, c0_6, c0_7⟩ := (hS.1).p8; clear hS; go_simp; try with_reducible rfl); try simp only [ptl]
 refine rd1 (i := 1) (o := ⟨some 6, _, _, _, _, _⟩) rfl (fun K hK => ?_)
 go_simp
 refine Calls.mono (CQ.out _ hHeld.2) ?_
 rintro e x1 ⟨rfl, hb1⟩
 refine hK.out _ _ ⟨hHeld.1.new hb1, below_trans hHeld.2 hb1 (Nat.le_refl _)⟩ (fun hHeld' => ?_)
 clear hK K hHeld hb1; have hHeld := hHeld'; clear hHeld'
 try simp only [ptl]
 cases bq
 ·
  refine tz 2 7 hHeld ?_; try simp only [ptl]
  refine tu (i := 3) (oi := ⟨some 8, _, _, _, _, _⟩) rfl hHeld ?_; try simp only [ptl]
  refine tu (i := 4) (oi := ⟨some 9, _, _, _, _, _⟩) rfl hHeld ?_; try simp only [ptl]
  refine tz 5 10 hHeld ?_; try simp only [ptl]
  refine tz 6 11 hHeld ?_; try simp only [ptl]
  refine tu (i := 7) (oi := ⟨some 12, _, _, _, _, _⟩) rfl hHeld ?_; try simp only [ptl]
  refine tu (i := 8) (oi := ⟨some 13, _, _, _, _, _⟩) rfl hHeld ?_; try simp only [ptl]
  refine tu (i := 9) (oi := ⟨some 14, _, _, _, _, _⟩) rfl hHeld ?_; try simp only [ptl]
  refine tu (i := 10) (oi := ⟨some 15, _, _, _, _, _⟩) rfl hHeld ?_; try simp only [ptl]
  refine tu (i := 11) (oi := ⟨some 16, _, _, _, _, _⟩) rfl hHeld ?_; try simp only [ptl]
  refine tu (i := 12) (oi := ⟨some 17, _, _, _, _, _⟩) rfl hHeld ?_; try simp only [ptl]
  refine tu (i := 13) (oi := ⟨some 18, _, _, _, _, _⟩) rfl hHeld ?_; try simp only [ptl]
  refine tz 14 19 hHeld ?_; try simp only [ptl]
  refine tz 15 4 hHeld ?_; try simp only [ptl]
  refine wpAnyH_done (by kernel_rfl) ?_ _
  go_wp2_with fail
  go_ret
  exact ⟨rfl, hHeld.2⟩
 ·
  refine tz 2 7 hHeld ?_; try simp only [ptl]
  refine tz 3 8 hHeld ?_; try simp only [ptl]
  refine rd1 (i := 4) (o := ⟨some 9, _, _, _, _, _⟩) rfl (fun K hK => ?_)
  go_simp
  refine Calls.mono (CV.out _ hHeld.2) ?_
  rintro e x2 ⟨rfl, hb1⟩
  refine hK.out _ _ ⟨hHeld.1.new hb1, below_trans hHeld.2 hb1 (Nat.le_refl _)⟩ (fun hHeld' => ?_)
  clear hK K hHeld hb1; have hHeld := hHeld'; clear hHeld'
  try simp only [ptl]
  cases bv
  ·
   refine tz 5 10 hHeld ?_; try simp only [ptl]
   refine tz 6 11 hHeld ?_; try simp only [ptl]
   refine tu (i := 7) (oi := ⟨some 12, _, _, _, _, _⟩) rfl hHeld ?_; try simp only [ptl]
   refine tu (i := 8) (oi := ⟨some 13, _, _, _, _, _⟩) rfl hHeld ?_; try simp only [ptl]
   refine tu (i := 9) (oi := ⟨some 14, _, _, _, _, _⟩) rfl hHeld ?_; try simp only [ptl]
   refine tu (i := 10) (oi := ⟨some 15, _, _, _, _, _⟩) rfl hHeld ?_; try simp only [ptl]
   refine tu (i := 11) (oi := ⟨some 16, _, _, _, _, _⟩) rfl hHeld ?_; try simp only [ptl]
   refine tu (i := 12) (oi := ⟨some 17, _, _, _, _, _⟩) rfl hHeld ?_; try simp only [ptl]
   refine tu (i := 13) (oi := ⟨some 18, _, _, _, _, _⟩) rfl hHeld ?_; try simp only [ptl]
   refine tz 14 19 hHeld ?_; try simp only [ptl]
   refine tz 15 4 hHeld ?_; try simp only [ptl]
   refine wpAnyH_done (by kernel_rfl) ?_ _
   go_wp2_with fail
   go_ret
   exact ⟨rfl, hHeld.2⟩
  ·
   refine tz 5 10 hHeld ?_; try simp only [ptl]
   refine tz 6 11 hHeld ?_; try simp only [ptl]
   refine tz 7 12 hHeld ?_; try simp only [ptl]
   refine tl 8 13 hHeld rfl ?_ (by intro W hS; obtain ⟨c0_0, c0_1, c0_2, c0_3, c0_4, c0_5, c0_6, c0_7⟩ := (hS.1).p8; clear hS; go_simp; try with_reducible rfl); try simp only [ptl]
   refine tz 9 14 hHeld ?_; try simp only [ptl]
   refine tl 10 15 hHeld rfl ?_ (by intro W hS; obtain ⟨c0_0, c0_1, c0_2, c0_3, c0_4, c0_5, c0_6, c0_7⟩ := (hS.1).p8; clear hS; go_simp; try with_reducible rfl); try simp only [ptl]
   refine rd1 (i := 11) (o := ⟨some 16, _, _, _, _, _⟩) rfl (fun K hK => ?_)
   go_simp
   refine Calls.mono (CS.out _ hHeld.2) ?_
   rintro e x3 ⟨B3, B4, B5, B6, d3, g3, i3, d4, g4, i4, d5, g5, i5, d6, g6, i6, rfl, F3, F4, F5, F6, MS, hb1⟩
   refine hK.out _ _ ⟨hHeld.1.new hb1, below_trans hHeld.2 hb1 (Nat.le_refl _)⟩ (fun hHeld' => ?_)
   clear hK K hHeld hb1; have hHeld := hHeld'; clear hHeld'
   try simp only [ptl]
   refine tz 12 17 hHeld ?_; try simp only [ptl]
   refine tz 13 18 hHeld ?_; try simp only [ptl]
   refine tz 14 19 hHeld ?_; try simp only [ptl]
   refine tz 15 4 hHeld ?_; try simp only [ptl]
   refine wpAnyH_done (by kernel_rfl) ?_ _
   go_wp2_with fail
   go_ret
   exact ⟨rfl, hHeld.2⟩
set_option maxHeartbeats 16000000 in
theorem spec_IsSealed (a0 : Int) (p0 p1 p2 : Int) (l3 : List TGrant) (A3 : Option Addr) (n3 c3 lo3 hi3 : Nat) (l4 : List TFlow) (A4 : Option Addr) (n4 c4 lo4 hi4 : Nat) (l5 : List TRule) (A5 : Option Addr) (n5 c5 lo5 hi5 : Nat) (l6 : List TOp) (A6 : Option Addr) (n6 c6 lo6 hi6 : Nat) (p7 : Int) (w : World) (hT : Pow10 w) (wf0 : (Lit.int .i64 a0).wf = true) (h3 : n3 ≤ 1048576) (r3 : Rd w lo3 hi3 7 A3 n3 (cGrant l3)) (k3 : n3 ≤ c3) (b3 : Hid (cGrantOk l3)) (h4 : n4 ≤ 1048576) (r4 : Rd w lo4 hi4 3 A4 n4 (cFlow l4)) (k4 : n4 ≤ c4) (b4 : Hid (cFlowOk l4)) (h5 : n5 ≤ 1048576) (r5 : Rd w lo5 hi5 8 A5 n5 (cRule l5)) (k5 : n5 ≤ c5) (b5 : Hid (cRuleOk l5)) (h6 : n6 ≤ 1048576) (r6 : Rd w lo6 hi6 4 A6 n6 (cOp l6)) (k6 : n6 ≤ c6) (b6 : Hid (cOpOk l6)) :
  Calls Tryz.prog 74 #[.int .i64 a0, .agg #[.int .i64 p0, .int .i64 p1, .int .i64 p2, .slice A3 n3 c3, .slice A4 n4 c4, .slice A5 n5 c5, .slice A6 n6 c6, .int .i64 p7]] w (Says (.bool (mIsSealed a0 p0 p1 p2 l3 l4 l5 l6 p7)) w) := by
 have R3 := Lib.hid (r3.old (by decide))
 have R4 := Lib.hid (r4.old (by decide))
 have R5 := Lib.hid (r5.old (by decide))
 have R6 := Lib.hid (r6.old (by decide))
 have CQ := Lib.hid (fun (W : World) (h : Below w.heap.size w W) => spec_IsPackage p0 p1 p2 l3 A3 n3 c3 0 w.heap.size l4 A4 n4 c4 0 w.heap.size l5 A5 n5 c5 0 w.heap.size l6 A6 n6 c6 0 w.heap.size p7 W h3 (R3.out.below h (Nat.le_refl _)) k3 b3 h4 (R4.out.below h (Nat.le_refl _)) k4 b4 h5 (R5.out.below h (Nat.le_refl _)) k5 b5 h6 (R6.out.below h (Nat.le_refl _)) k6 b6)
 have CV := Lib.hid (fun (W : World) (h : Below w.heap.size w W) => spec_IsValidKey a0 W (pow10_below hT h) wf0)
 have CS := Lib.hid (fun (W : World) (h : Below w.heap.size w W) => spec_SealPackage a0 p0 p1 p2 l3 A3 n3 c3 0 w.heap.size l4 A4 n4 c4 0 w.heap.size l5 A5 n5 c5 0 w.heap.size l6 A6 n6 c6 0 w.heap.size p7 W (pow10_below hT h) wf0 h3 (R3.out.below h (Nat.le_refl _)) k3 b3 h4 (R4.out.below h (Nat.le_refl _)) k4 b4 h5 (R5.out.below h (Nat.le_refl _)) k5 b5 h6 (R6.out.below h (Nat.le_refl _)) k6 b6)
 unfold mIsSealed
 generalize mIsPack p0 p1 p2 l3 l4 l5 l6 = bq at CQ ⊢
 generalize mValid a0 = bv at CV ⊢
 generalize mSealPk a0 p0 p1 p2 l3 l4 l5 l6 = sl at CS ⊢
 clear r3 r4 r5 r6 R3 R4 R5 R6 hT wf0
 have KB := Lib.hid (box_new w 35 #[.int .i64 p0, .int .i64 p1, .int .i64 p2, .slice A3 n3 c3, .slice A4 n4 c4, .slice A5 n5 c5, .slice A6 n6 c6, .int .i64 p7])
 have HBw := Lib.hid ((Below.refl w.heap.size w).alloc (Nat.le_refl _) (.cells #[.int .i64 p0, .int .i64 p1, .int .i64 p2, .slice A3 n3 c3, .slice A4 n4 c4, .slice A5 n5 c5, .slice A6 n6 c6, .int .i64 p7] 35))
 have fs := fun (B3 B4 B5 B6 : Option Addr) (d3 d4 d5 d6 n3 n4 n5 n6 : Nat) (W : World) => pk_field7 p0 p1 p2 B3 B4 B5 B6 n3 n4 n5 n6 d3 d4 d5 d6 sl W
 go_enter Tryz.func74, Tryz.ntmps74
 go_wp2_with fail
 refine wp_region_held_drew (S := fun w' => BoxAt w' w.heap.size 35 #[.int .i64 p0, .int .i64 p1, .int .i64 p2, .slice A3 n3 c3, .slice A4 n4 c4, .slice A5 n5 c5, .slice A6 n6 c6, .int .i64 p7] ∧ Below w.heap.size w w') (by kernel_rfl) ?_ (fun hHeld => ?_)
 ·
  exact ⟨KB.out.drw, HBw.out.drew⟩
 refine tl 0 5 hHeld rfl ?_ (by intro W hS; obtain ⟨c0_0, c0_1, c0_2, c0_3, c0_4, c0_5, c0_6, c0_7⟩ := (hS.1).p8; clear hS; go_simp; try with_reducible rfl); try simp only [ptl]
 refine rd1 (i := 1) (o := ⟨some 6, _, _, _, _, _⟩) rfl (fun K hK => ?_)
 go_simp
 refine Calls.mono (CQ.out _ hHeld.2) ?_
 rintro e x1 ⟨rfl, hb1⟩
 refine hK.out _ _ ⟨hHeld.1.new hb1, below_trans hHeld.2 hb1 (Nat.le_refl _)⟩ (fun hHeld' => ?_)
 clear hK K hHeld hb1; have hHeld := hHeld'; clear hHeld'
 try simp only [ptl]
 cases bq
 ·
  refine tz 2 7 hHeld ?_; try simp only [ptl]
  refine tu (i := 3) (oi := ⟨some 8, _, _, _, _, _⟩) rfl hHeld ?_; try simp only [ptl]
  refine tu (i := 4) (oi := ⟨some 9, _, _, _, _, _⟩) rfl hHeld ?_; try simp only [ptl]
  refine tz 5 10 hHeld ?_; try simp only [ptl]
  refine tz 6 11 hHeld ?_; try simp only [ptl]
  refine tu (i := 7) (oi := ⟨some 12, _, _, _, _, _⟩) rfl hHeld ?_; try simp only [ptl]
  refine tu (i := 8) (oi := ⟨some 13, _, _, _, _, _⟩) rfl hHeld ?_; try simp only [ptl]
  refine tu (i := 11) (oi := ⟨some 16, _, _, _, _, _⟩) rfl hHeld ?_; try simp only [ptl]
  refine tu (i := 12) (oi := ⟨some 17, _, _, _, _, _⟩) rfl hHeld ?_; try simp only [ptl]
  refine tu (i := 9) (oi := ⟨some 14, _, _, _, _, _⟩) rfl hHeld ?_; try simp only [ptl]
  refine tu (i := 10) (oi := ⟨some 15, _, _, _, _, _⟩) rfl hHeld ?_; try simp only [ptl]
  refine tu (i := 13) (oi := ⟨some 18, _, _, _, _, _⟩) rfl hHeld ?_; try simp only [ptl]
  refine tz 14 19 hHeld ?_; try simp only [ptl]
  refine tz 15 4 hHeld ?_; try simp only [ptl]
  refine wpAnyH_done (by kernel_rfl) ?_ _
  go_wp2_with fail
  go_ret
  exact ⟨by first | rfl | exact congrArg (fun b => Ending.returned (Value.bool b)) (show (sl == p7) = (p7 == sl) from by rw [Bool.eq_iff_iff, beq_iff_eq, beq_iff_eq]; exact eq_comm), hHeld.2⟩
 ·
  refine tz 2 7 hHeld ?_; try simp only [ptl]
  refine tz 3 8 hHeld ?_; try simp only [ptl]
  refine rd1 (i := 4) (o := ⟨some 9, _, _, _, _, _⟩) rfl (fun K hK => ?_)
  go_simp
  refine Calls.mono (CV.out _ hHeld.2) ?_
  rintro e x2 ⟨rfl, hb1⟩
  refine hK.out _ _ ⟨hHeld.1.new hb1, below_trans hHeld.2 hb1 (Nat.le_refl _)⟩ (fun hHeld' => ?_)
  clear hK K hHeld hb1; have hHeld := hHeld'; clear hHeld'
  try simp only [ptl]
  cases bv
  ·
   refine tz 5 10 hHeld ?_; try simp only [ptl]
   refine tz 6 11 hHeld ?_; try simp only [ptl]
   refine tu (i := 7) (oi := ⟨some 12, _, _, _, _, _⟩) rfl hHeld ?_; try simp only [ptl]
   refine tu (i := 8) (oi := ⟨some 13, _, _, _, _, _⟩) rfl hHeld ?_; try simp only [ptl]
   refine tu (i := 11) (oi := ⟨some 16, _, _, _, _, _⟩) rfl hHeld ?_; try simp only [ptl]
   refine tu (i := 12) (oi := ⟨some 17, _, _, _, _, _⟩) rfl hHeld ?_; try simp only [ptl]
   refine tu (i := 9) (oi := ⟨some 14, _, _, _, _, _⟩) rfl hHeld ?_; try simp only [ptl]
   refine tu (i := 10) (oi := ⟨some 15, _, _, _, _, _⟩) rfl hHeld ?_; try simp only [ptl]
   refine tu (i := 13) (oi := ⟨some 18, _, _, _, _, _⟩) rfl hHeld ?_; try simp only [ptl]
   refine tz 14 19 hHeld ?_; try simp only [ptl]
   refine tz 15 4 hHeld ?_; try simp only [ptl]
   refine wpAnyH_done (by kernel_rfl) ?_ _
   go_wp2_with fail
   go_ret
   exact ⟨by first | rfl | exact congrArg (fun b => Ending.returned (Value.bool b)) (show (sl == p7) = (p7 == sl) from by rw [Bool.eq_iff_iff, beq_iff_eq, beq_iff_eq]; exact eq_comm), hHeld.2⟩
  ·
   refine tz 5 10 hHeld ?_; try simp only [ptl]
   refine tz 6 11 hHeld ?_; try simp only [ptl]
   refine tz 7 12 hHeld ?_; try simp only [ptl]
   refine tl 8 13 hHeld rfl ?_ (by intro W hS; obtain ⟨c0_0, c0_1, c0_2, c0_3, c0_4, c0_5, c0_6, c0_7⟩ := (hS.1).p8; clear hS; go_simp; try with_reducible rfl); try simp only [ptl]
   refine tz 11 16 hHeld ?_; try simp only [ptl]
   refine tl 12 17 hHeld rfl ?_ (by intro W hS; obtain ⟨c0_0, c0_1, c0_2, c0_3, c0_4, c0_5, c0_6, c0_7⟩ := (hS.1).p8; clear hS; go_simp; try with_reducible rfl); try simp only [ptl]
   refine rd1 (i := 9) (o := ⟨some 14, _, _, _, _, _⟩) rfl (fun K hK => ?_)
   go_simp
   refine Calls.mono (CS.out _ hHeld.2) ?_
   rintro e x3 ⟨B3, B4, B5, B6, d3, g3, i3, d4, g4, i4, d5, g5, i5, d6, g6, i6, rfl, F3, F4, F5, F6, MS, hb1⟩
   refine hK.out _ _ ⟨hHeld.1.new hb1, below_trans hHeld.2 hb1 (Nat.le_refl _)⟩ (fun hHeld' => ?_)
   clear hK K hHeld hb1; have hHeld := hHeld'; clear hHeld'
   try simp only [ptl]
   refine tz 10 15 hHeld ?_; try simp only [ptl]
   refine tz 13 18 hHeld ?_; try simp only [ptl]
   refine tz 14 19 hHeld ?_; try simp only [ptl]
   refine tz 15 4 hHeld ?_; try simp only [ptl]
   refine wpAnyH_done (by kernel_rfl) ?_ _
   go_wp2_with fail
   go_ret
   exact ⟨by first | rfl | exact congrArg (fun b => Ending.returned (Value.bool b)) (show (sl == p7) = (p7 == sl) from by rw [Bool.eq_iff_iff, beq_iff_eq, beq_iff_eq]; exact eq_comm), hHeld.2⟩
end Go.Proofs.YtkedacmpmancbaaGreatDoor
