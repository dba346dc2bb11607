/- MayEdit of the program. -/
import Derived.Test.YtomoigbhikihfaaSgE
import Derived.Deep.RegionHeld3
import Derived.Deep.LoopGhost
namespace Go.Proofs.Ytomoigbhikihfaa
open Go Go.ChangeShapes Go.WideShapes Go.ChangeAt Go.RowKit Go.Lib
set_option linter.unusedVariables false
set_option linter.unusedSimpArgs false
set_option maxRecDepth 100000
set_option maxHeartbeats 8000000 in
theorem impl_MayEditC (l0 : List TNode) (A0 : Option Addr) (n0 c0 lo0 hi0 : Nat) (l1 : List Int) (A1 : Option Addr) (n1 c1 lo1 hi1 : Nat) (e : TEdit) (w : World) (h0 : n0 ≤ 1048576) (r0 : Rd w lo0 hi0 5 A0 n0 (cNode l0)) (p0 : n0 ≤ c0) (b0 : Hid (cNodeOk l0)) (h1 : n1 ≤ 1048576) (r1 : Rd w lo1 hi1 1 A1 n1 (i64s l1)) (p1 : n1 ≤ c1) (b1 : Hid (I64s l1)) (f2 : Hid (TEdit.fit e)) :
    Calls Try.prog 28 #[.slice A0 n0 c0, .slice A1 n1 c1, .agg #[.int .i64 e.f0, .int .i64 e.f1, .int .i64 e.f2, .int .i64 e.f3, .int .i64 e.f4, .int .i64 e.f5]] w (Says (.bool (mMay l0 l1 e)) w) := by
  have HR := Lib.hid r0
  have HR1 := Lib.hid r1
  have CE := Lib.hid (fun W => impl_IsEdit_any e W)
  have KE0 := Lib.hid (box_new w 40 #[.int .i64 e.f0, .int .i64 e.f1, .int .i64 e.f2, .int .i64 e.f3, .int .i64 e.f4, .int .i64 e.f5])
  have HB0 := Lib.hid ((Below.refl w.heap.size w).alloc (Nat.le_refl _) (.cells #[.int .i64 e.f0, .int .i64 e.f1, .int .i64 e.f2, .int .i64 e.f3, .int .i64 e.f4, .int .i64 e.f5] 40))
  have HV : Hid (mMay l0 l1 e = (mIsEdit e && okNode l0 l1 e && okPar l0 l1 e && okDrop l0 l1 e)) := Lib.hid rfl
  have CN := Lib.hid (fun (B M kk : Nat) W lo hi r hP hM => sees_node l0 A0 n0 c0 lo hi l1 e B M kk W h0 r b0 hP hM f2)
  have CP := Lib.hid (fun (B M kk : Nat) W lo hi r hP hM => sees_parent l0 A0 n0 c0 lo hi l1 e B M kk W h0 r b0 hP hM f2)
  have CD := Lib.hid (fun (B M kk : Nat) W lo hi r hP hM => sees_all l0 A0 n0 c0 lo hi l1 e B M kk W h0 r b0 hP hM f2 p0)
  generalize mMay l0 l1 e = R at HV ⊢
  generalize okNode l0 l1 e = qn at HV CN
  generalize okPar l0 l1 e = qp at HV CP
  generalize okDrop l0 l1 e = qd at HV CD
  generalize mIsEdit e = qe at HV CE
  clear r0 r1
  go_enter Try.func28, Try.ntmps28
  go_wp2_with fail
  refine (CE.out _).mono ?_
  rintro e1 w1 ⟨rfl, hb1⟩
  have HB1 := Lib.hid (below_trans HB0.out hb1 (by simp))
  have KE1 := Lib.hid (KE0.out.new hb1)
  have HRa := Lib.hid ((HR.out.alloc (.cells #[.int .i64 e.f0, .int .i64 e.f1, .int .i64 e.f2, .int .i64 e.f3, .int .i64 e.f4, .int .i64 e.f5] 40)).new hb1)
  have HRb := Lib.hid ((HR1.out.alloc (.cells #[.int .i64 e.f0, .int .i64 e.f1, .int .i64 e.f2, .int .i64 e.f3, .int .i64 e.f4, .int .i64 e.f5] 40)).new hb1)
  have hw1 : w.heap.size < w1.heap.size := KE1.out.lt
  have k5 := KE1.out.at_ (j := 5) (u := .int .i64 e.f5) rfl
  clear hb1 KE0 HB0
  cases qe with
  | false =>
    have HVf := Lib.hid (show R = false from HV.out)
    go_wp2_with fail
    go_ret
    exact ⟨by rw [HVf.out]; rfl, HB1.out⟩
  | true =>
    go_wp2_with fail
    refine (look_any l0 A0 n0 c0 lo0 hi0 l1 A1 n1 c1 lo1 hi1 e.f5 _ h0 HRa.out b0 h1 HRb.out).mono ?_
    rintro e2 w2 ⟨B, M, kk, rfl, hP, hM, hB, hMl, hb2⟩
    have HB2 := Lib.hid (below_trans HB1.out hb2 (Nat.le_refl _))
    have KE2 := Lib.hid (KE1.out.new hb2)
    have HRc := Lib.hid (HRa.out.new hb2)
    have HP2 := Lib.hid hP
    have HM2 := Lib.hid hM
    have hw2 : w.heap.size < w2.heap.size := KE2.out.lt
    clear hP hM hb2 hB hMl HRa HRb KE1 k5 HR HR1
    have KSv : Hid (BoxAt ((w2.alloc (.cells #[.slice A0 n0 c0, .map (some B), .map (some M)] 62)).alloc (.cells #[.func (.func 49) #[] #[], .func (.func 50) #[] #[], .func (.func 51) #[] #[]] 67)) w2.heap.size 62 #[.slice A0 n0 c0, .map (some B), .map (some M)]) := Lib.hid ((box_new _ _ _).alloc_ _)
    have KFv : Hid (BoxAt ((w2.alloc (.cells #[.slice A0 n0 c0, .map (some B), .map (some M)] 62)).alloc (.cells #[.func (.func 49) #[] #[], .func (.func 50) #[] #[], .func (.func 51) #[] #[]] 67)) (w2.heap.size + 1) 67 #[.func (.func 49) #[] #[], .func (.func 50) #[] #[], .func (.func 51) #[] #[]]) := Lib.hid (by simpa using box_new (w2.alloc (.cells #[.slice A0 n0 c0, .map (some B), .map (some M)] 62)) 67 #[.func (.func 49) #[] #[], .func (.func 50) #[] #[], .func (.func 51) #[] #[]])
    have KEv := Lib.hid ((KE2.out.alloc_ (.cells #[.slice A0 n0 c0, .map (some B), .map (some M)] 62)).alloc_ (.cells #[.func (.func 49) #[] #[], .func (.func 50) #[] #[], .func (.func 51) #[] #[]] 67))
    have HPv := Lib.hid ((HP2.out.alloc_ (.cells #[.slice A0 n0 c0, .map (some B), .map (some M)] 62)).alloc_ (.cells #[.func (.func 49) #[] #[], .func (.func 50) #[] #[], .func (.func 51) #[] #[]] 67))
    have HMv := Lib.hid ((HM2.out.alloc_ (.cells #[.slice A0 n0 c0, .map (some B), .map (some M)] 62)).alloc_ (.cells #[.func (.func 49) #[] #[], .func (.func 50) #[] #[], .func (.func 51) #[] #[]] 67))
    have HRv := Lib.hid ((HRc.out.alloc (.cells #[.slice A0 n0 c0, .map (some B), .map (some M)] 62)).alloc (.cells #[.func (.func 49) #[] #[], .func (.func 50) #[] #[], .func (.func 51) #[] #[]] 67))
    have HBv := Lib.hid ((HB2.out.alloc HB2.out.size (.cells #[.slice A0 n0 c0, .map (some B), .map (some M)] 62)).alloc (by have := HB2.out.size; simp; omega) (.cells #[.func (.func 49) #[] #[], .func (.func 50) #[] #[], .func (.func 51) #[] #[]] 67))
    have HSv : Hid (((w2.alloc (.cells #[.slice A0 n0 c0, .map (some B), .map (some M)] 62)).alloc (.cells #[.func (.func 49) #[] #[], .func (.func 50) #[] #[], .func (.func 51) #[] #[]] 67)).heap.size = w2.heap.size + 2) := Lib.hid (by simp)
    go_wp2_with fail
    generalize hV : (w2.alloc (.cells #[.slice A0 n0 c0, .map (some B), .map (some M)] 62)).alloc (.cells #[.func (.func 49) #[] #[], .func (.func 50) #[] #[], .func (.func 51) #[] #[]] 67) = V at KSv KFv KEv HPv HMv HRv HBv HSv ⊢
    clear hV
    go_loopw [22] (fun v wr => ∃ k : Nat, v = .int .i64 k ∧ k ≤ 3 ∧ (0 < k → qn = true) ∧ (1 < k → qp = true) ∧ (2 < k → qd = true) ∧ Hid (Below V.heap.size V wr)) (fun v _ => 3 - (intOf v).toNat)
    case atStart => exact ⟨0, rfl, by omega, fun h => absurd h (by omega), fun h => absurd h (by omega), fun h => absurd h (by omega), Lib.hid (Below.refl _ _)⟩
    case round =>
      obtain ⟨k, rfl, hk, hq1, hq2, hq3, HB⟩ := hrel
      have HRw := Lib.hid (HRv.out.new HB.out)
      have HPw := Lib.hid (HPv.out.new HB.out)
      have HMw := Lib.hid (HMv.out.new HB.out)
      have KSw := Lib.hid (KSv.out.new HB.out)
      have KFw := Lib.hid (KFv.out.new HB.out)
      have KEw := Lib.hid (KEv.out.new HB.out)
      have HBw := Lib.hid (HBv.out.trans (HB.out.mono (by have := HSv.out; omega)))
      have s0 := KSw.out.at_ (j := 0) (u := .slice A0 n0 c0) rfl
      have s1 := KSw.out.at_ (j := 1) (u := .map (some B)) rfl
      have s2 := KSw.out.at_ (j := 2) (u := .map (some M)) rfl
      have k0 := KEw.out.at_ (j := 0) (u := .int .i64 e.f0) rfl
      have k1 := KEw.out.at_ (j := 1) (u := .int .i64 e.f1) rfl
      have k2 := KEw.out.at_ (j := 2) (u := .int .i64 e.f2) rfl
      have k3 := KEw.out.at_ (j := 3) (u := .int .i64 e.f3) rfl
      have k4 := KEw.out.at_ (j := 4) (u := .int .i64 e.f4) rfl
      have k5 := KEw.out.at_ (j := 5) (u := .int .i64 e.f5) rfl
      have hs1 := KSw.out.lt
      have hs2 := KEw.out.lt
      have hk3 : k = 0 ∨ k = 1 ∨ k = 2 ∨ k = 3 := by omega
      rcases hk3 with rfl | rfl | rfl | rfl
      · have kf := KFw.out.at_ (j := 0) (u := .func (.func 49) #[] #[]) rfl
        clear hq1 hq2 hq3
        have HC := Lib.hid (CN.out B M kk wr _ _ HRw.out HPw.out HMw.out)
        cases qn with
        | true =>
          go_wp2_with (go_at_call 49; refine HC.out.mono ?_; rintro e3 w3 ⟨rfl, hb3⟩; have HB3 := Lib.hid (below_trans HB.out hb3 (Nat.le_refl _)); clear hb3)
          go_roundw
          case rel => exact ⟨1, by go_num, by omega, fun _ => by first | trivial | rfl, fun h => absurd h (by omega), fun h => absurd h (by omega), HB3⟩
          case measure => simp [intOf]
        | false =>
          have HE := Lib.hid (show R = false by rw [HV.out]; first | rfl | simp)
          go_wp2_with (go_at_call 49; refine HC.out.mono ?_; rintro e3 w3 ⟨rfl, hb3⟩; have HB3 := Lib.hid (below_trans HBw.out hb3 (Nat.le_refl _)); clear hb3)
          go_ret
          exact ⟨by rw [HE.out]; rfl, HB3.out⟩
      · have kf := KFw.out.at_ (j := 1) (u := .func (.func 50) #[] #[]) rfl
        have h1 := hq1 (by omega)
        clear hq1 hq2 hq3
        have HC := Lib.hid (CP.out B M kk wr _ _ HRw.out HPw.out HMw.out)
        cases qp with
        | true =>
          go_wp2_with (go_at_call 50; refine HC.out.mono ?_; rintro e3 w3 ⟨rfl, hb3⟩; have HB3 := Lib.hid (below_trans HB.out hb3 (Nat.le_refl _)); clear hb3)
          go_roundw
          case rel => exact ⟨2, by go_num, by omega, fun _ => h1, fun _ => by first | trivial | rfl, fun h => absurd h (by omega), HB3⟩
          case measure => simp [intOf]
        | false =>
          have HE := Lib.hid (show R = false by rw [HV.out]; first | rfl | simp)
          go_wp2_with (go_at_call 50; refine HC.out.mono ?_; rintro e3 w3 ⟨rfl, hb3⟩; have HB3 := Lib.hid (below_trans HBw.out hb3 (Nat.le_refl _)); clear hb3)
          go_ret
          exact ⟨by rw [HE.out]; rfl, HB3.out⟩
      · have kf := KFw.out.at_ (j := 2) (u := .func (.func 51) #[] #[]) rfl
        have h1 := hq1 (by omega)
        have h2 := hq2 (by omega)
        clear hq1 hq2 hq3
        have HC := Lib.hid (CD.out B M kk wr _ _ HRw.out HPw.out HMw.out)
        cases qd with
        | true =>
          go_wp2_with (go_at_call 51; refine HC.out.mono ?_; rintro e3 w3 ⟨rfl, hb3⟩; have HB3 := Lib.hid (below_trans HB.out hb3 (Nat.le_refl _)); clear hb3)
          go_roundw
          case rel => exact ⟨3, by go_num, by omega, fun _ => h1, fun _ => h2, fun _ => by first | trivial | rfl, HB3⟩
          case measure => simp [intOf]
        | false =>
          have HE := Lib.hid (show R = false by rw [HV.out]; first | rfl | simp)
          go_wp2_with (go_at_call 51; refine HC.out.mono ?_; rintro e3 w3 ⟨rfl, hb3⟩; have HB3 := Lib.hid (below_trans HBw.out hb3 (Nat.le_refl _)); clear hb3)
          go_ret
          exact ⟨by rw [HE.out]; rfl, HB3.out⟩
      · have h1 := hq1 (by omega)
        have h2 := hq2 (by omega)
        have h3 := hq3 (by omega)
        have HE := Lib.hid (show R = true by rw [HV.out, h1, h2, h3]; rfl)
        clear hq1 hq2 hq3 h1 h2 h3
        go_wp2_with fail
        go_ret
        exact ⟨by rw [HE.out]; rfl, HBw.out⟩
end Go.Proofs.Ytomoigbhikihfaa
