/- MayFlow of the model. No condition. -/
import Derived.Test.YtcankpiidjhhpaaCgM
import Derived.Test.YtcankpiidjhhpaaOwn2
import Derived.Test.YtcankpiidjhhpaaFlowsWithin
import Derived.Test.YtcankpiidjhhpaaReg
import Derived.Deep.Cut
import Derived.Deep.LoopGhost
import Derived.Deep.RegionHeld3
namespace Go.Proofs.Ytcankpiidjhhpaa
open Go Go.ChangeShapes Go.WideShapes Go.ChangeAt Go.RowKit Go.Lib
set_option linter.unusedVariables false
set_option linter.unusedSimpArgs false
set_option maxRecDepth 100000
def mayOne (l : List TFlow) (e t o : Int) : Bool := o == t || (mIsFlow ⟨e, o, t⟩ && l.any fun f => decide ((⟨e, o, t⟩ : TFlow) = f))
theorem may_take {α : Type} {p : α → Bool} {l : List α} {k : Nat} {x : α} (h : (l.take k).all p = true) (hz : l[k]? = some x) (hq : p x = true) : (l.take (k + 1)).all p = true := by
  rw [List.take_add_one, hz, List.all_append, h]; simpa using hq
theorem may_not {α : Type} {p : α → Bool} {l : List α} {k : Nat} {x : α} (hz : l[k]? = some x) (hq : p x = false) : l.all p = false := by
  rw [Bool.eq_false_iff]; intro h
  rw [List.all_eq_true] at h
  rw [h x (List.mem_of_getElem? hz)] at hq; cases hq
set_option maxHeartbeats 16000000 in
theorem spec_MayFlow (l : List TFlow) (A : Option Addr) (n c lo hi : Nat) (e x t : Int) (w : World) (hn : n ≤ 1048576) (hr : Rd w lo hi 3 A n (cFlow l)) (H : Hid (cFlowOk l)) :
    Calls Try.prog 10 #[.slice A n c, .int .i64 e, .int .i64 x, .int .i64 t] w (Says (.bool (mMayF l e x t)) w) := by
  have HRW := Lib.hid hr
  have CL := Lib.hid (fun W => spec_IsLabel x W)
  have CI := Lib.hid (fun W => spec_in t 1 9 W)
  have hO := mOwn_len x
  have HR : Hid (mMayF l e x t = (mIsLabel x && inR t 1 9 && (mOwn x).all (mayOne l e t))) := Lib.hid rfl
  have CO := Lib.hid (specOwn x w)
  generalize mMayF l e x t = R at HR ⊢
  generalize mOwn x = O at HR CO hO
  generalize mIsLabel x = q0 at HR CL
  generalize inR t 1 9 = q1 at HR CI
  clear hr
  go_enter Try.func10, Try.ntmps10
  go_wp2_with fail
  refine Calls.mono CO.out ?_
  rintro e1 w1 ⟨Ao, co, rfl, hF, hb1⟩
  have HO := Lib.hid hF.rd
  have HB := Lib.hid hb1
  clear hF hb1 CO
  obtain ⟨lo2, hi2, HO⟩ : ∃ lo hi, Hid (Rd w1 lo hi 1 Ao O.length (i64s O)) := ⟨_, _, HO⟩
  go_wp2_with fail
  go_loopg [10] O.length (fun gg i wr => ∃ k : Nat, k ≤ O.length ∧ O.length - k ≤ gg ∧ i = .int .i64 k ∧ Hid (((O.take k).all (mayOne l e t)) = true) ∧ Hid (Rd wr lo2 hi2 1 Ao O.length (i64s O)) ∧ Hid (Below w.heap.size w wr))
  case atStart => exact ⟨0, Nat.zero_le _, by omega, rfl, Lib.hid rfl, HO, HB⟩
  case round =>
    clear HO HB
    obtain ⟨k, hk, hg, rfl, HA, HO, HB⟩ := hrel
    have hszr : w.heap.size ≤ wr.heap.size := HB.out.size
    by_cases hlt : k < O.length
    · have hlti : (k : Int) < (O.length : Int) := by omega
      obtain ⟨b1, off, o, rfl, _, _, hz, hc⟩ := rd_int HO.out hlt
      have HZ := Lib.hid hz
      clear hz
      obtain ⟨x3, hx⟩ : ∃ X, X = World.setRow (wr.alloc (.cells #[.int .i64 0, .int .i64 0, .int .i64 0] 87)) wr.heap.size #[.int .i64 e, .int .i64 o, .int .i64 t] := ⟨_, rfl⟩
      have HX3 := Lib.hid hx
      have OLD := Lib.hid (box_new wr 87 #[.int .i64 0, .int .i64 0, .int .i64 0])
      have KF := Lib.hid (show BoxAt x3 wr.heap.size 87 #[.int .i64 e, .int .i64 o, .int .i64 t] by rw [hx]; exact box_row OLD.out)
      replace HO := Lib.hid (show Rd x3 lo2 hi2 1 (some ⟨b1, off, none⟩) O.length (i64s O) by rw [hx]; exact HO.out.keep fun k _ _ hk => (setRow_other _ _ k _ (by omega)).trans (Below.heap_alloc _ _ k hk))
      replace HB := Lib.hid (show Below w.heap.size w x3 by rw [hx]; exact below_setRow (HB.out.alloc (by omega) _) (by omega) _)
      clear hx
      obtain ⟨b2, off2, o2, hE, _, _, hz2, hc2⟩ := rd_int HO.out hlt
      cases hE
      obtain rfl : o = o2 := by rw [HZ.out] at hz2; exact Option.some.inj hz2
      clear hz2
      have k0 := KF.out.at_ (j := 0) rfl
      have k1 := KF.out.at_ (j := 1) rfl
      have k2 := KF.out.at_ (j := 2) rfl
      have lKF := KF.out.lt
      have CF := Lib.hid (fun W => spec_IsFlow ⟨e, o, t⟩ W)
      have CH := Lib.hid (fun W (hb : Below w.heap.size w W) => spec_has ⟨e, o, t⟩ l A n c lo hi W (by omega) (HRW.out.new hb))
      obtain ⟨p, hp⟩ : ∃ p, mayOne l e t o = p := ⟨_, rfl⟩
      have HP := Lib.hid hp
      unfold mayOne at hp
      generalize mIsFlow ⟨e, o, t⟩ = qf at hp CF
      generalize (l.any fun f => decide ((⟨e, o, t⟩ : TFlow) = f)) = qh at hp CH
      have ARM := Lib.hid True.intro
      obtain ⟨qe, hqe⟩ : ∃ q, (o == t) = q := ⟨_, rfl⟩
      have hqn : (o != t) = !qe := by rw [← hqe]; rfl
      rw [hqe] at hp
      clear hqe
      cases qe with
      | true =>
        simp only [Bool.not_true] at hqn
        obtain rfl : p = true := by rw [← hp]; rfl
        clear hp CF CH
        go_wp2_with (refine wpList_store_row rfl 87 _ _ rfl wr.heap.size #[.int .i64 e, .int .i64 o, .int .i64 t] rfl rfl 87 _ OLD.out (by kernel_rfl) (by kernel_rfl) (by kernel_rfl) ?_; rw [← HX3.out]; clear HX3 OLD)
        clear hc hc2 k0 k1 k2 hqn
        go_roundg (O.length - (k + 1))
        case measure => omega
        case rel => exact ⟨k + 1, by omega, by omega, by go_num, Lib.hid (may_take HA.out HZ.out HP.out), HO, HB⟩
      | false =>
        simp only [Bool.not_false] at hqn
        go_wp2_with (refine wpList_store_row rfl 87 _ _ rfl wr.heap.size #[.int .i64 e, .int .i64 o, .int .i64 t] rfl rfl 87 _ OLD.out (by kernel_rfl) (by kernel_rfl) (by kernel_rfl) ?_; rw [← HX3.out]; clear HX3 OLD)
        refine Calls.mono (CF.out _) ?_
        rintro e4 w4 ⟨rfl, hb4⟩
        clear hc hc2 k0 k1 k2 CF
        replace KF := Lib.hid (KF.out.new hb4)
        replace HO := Lib.hid (HO.out.new hb4)
        replace HB := Lib.hid (below_trans HB.out hb4 (Nat.le_refl _))
        clear hb4
        have k0 := KF.out.at_ (j := 0) rfl
        have k1 := KF.out.at_ (j := 1) rfl
        have k2 := KF.out.at_ (j := 2) rfl
        cases qf with
        | false =>
          have HN := Lib.hid (may_not HZ.out (show mayOne l e t o = false by rw [HP.out, ← hp]; rfl))
          clear hp CH
          go_wp2_with fail
          go_ret
          exact ⟨by rw [HR.out, HN.out, Bool.and_false]; rfl, HB.out⟩
        | true =>
          go_wp2_with fail
          refine Calls.mono (CH.out _ HB.out) ?_
          rintro e5 w5 ⟨rfl, hb5⟩
          clear k0 k1 k2 CH
          replace HO := Lib.hid (HO.out.new hb5)
          replace HB := Lib.hid (below_trans HB.out hb5 (Nat.le_refl _))
          clear hb5
          cases qh with
          | false =>
            have HN := Lib.hid (may_not HZ.out (show mayOne l e t o = false by rw [HP.out, ← hp]; rfl))
            clear hp
            go_wp2_with fail
            go_ret
            exact ⟨by rw [HR.out, HN.out, Bool.and_false]; rfl, HB.out⟩
          | true =>
            obtain rfl : p = true := by rw [← hp]; rfl
            clear hp
            go_wp2_with fail
            go_roundg (O.length - (k + 1))
            case measure => omega
            case rel => exact ⟨k + 1, by omega, by omega, by go_num, Lib.hid (may_take HA.out HZ.out HP.out), HO, HB⟩
    · obtain rfl : k = O.length := by omega
      have hfin : ¬ ((O.length : Int) < (O.length : Int)) := by omega
      have HE := Lib.hid (show R = (q0 && q1) by rw [HR.out, show (O.all (mayOne l e t)) = true by have := HA.out; rwa [List.take_length] at this, Bool.and_true])
      go_wp2_with fail
      refine Calls.mono (CL.out _) ?_
      rintro e6 w6 ⟨rfl, hb6⟩
      replace HB := Lib.hid (below_trans HB.out hb6 (Nat.le_refl _))
      clear hb6
      cases q0 with
      | false =>
        go_wp2_with fail
        go_ret
        exact ⟨by rw [HE.out]; rfl, HB.out⟩
      | true =>
        go_wp2_with fail
        refine Calls.mono (CI.out _) ?_
        rintro e7 w7 ⟨rfl, rfl⟩
        go_wp2_with fail
        go_ret
        exact ⟨by rw [HE.out, Bool.true_and]; rfl, HB.out⟩
end Go.Proofs.Ytcankpiidjhhpaa
