/- The law FnFlows answers true for every argument, and leaves each argument as it was. No condition. -/
import Derived.Test.YtcankpiidjhhpaaFrame
import Derived.Test.YtcankpiidjhhpaaFacts
import Derived.Test.YtcankpiidjhhpaaFoM
import Derived.Deep.DeepCutAuto
namespace Go.Proofs.Ytcankpiidjhhpaa.fnFlows
open Go Go.ChangeShapes Go.WideShapes Go.ChangeAt Go.RowKit Go.Lib
open Go.ChangeMaps (open_string)
set_option linter.unusedVariables false
set_option linter.unusedSimpArgs false
set_option maxRecDepth 100000
set_option maxHeartbeats 32000000 in

theorem walk (A0 : Option Addr) (n0 c0 : Nat) (w0 : n0 ≤ maxLen) (w : World) (m0 : BytesAt w w.heap.size A0 n0) :
    Calls Try.prog 3 #[.slice A0 n0 c0] w fun e w' => e = .returned (.bool true) ∧ Below w.heap.size w w' := by
  have hn0 : n0 ≤ 9223372036854775807 := w0
  by_cases h : n0 ≤ 1048576
  · skip
    have g : decide ((1048576 : Int) < n0) = false := by simp; omega
    have M0 := Lib.hid m0
    clear m0
    go_enter Try.func3, Try.ntmps3
    go_wp2_with fail
    refine (big_any n0 c0 A0 _ w0).mono ?_
    rintro e w1 ⟨rfl, rfl⟩
    rw [g]
    have HB := Lib.hid (Below.refl w.heap.size w)
    go_wp2_with fail
    refine Calls.mono (drawMF_any n0 c0 A0 _ (by omega) (bytes_below M0.out HB.out)) ?_
    rintro e w2 ⟨A1, c1, l, x, b, t, rfl, hl, hu, hx0, hx1, hb0, hb1, ht0, ht1, hcl, hr, hb⟩
    replace HB := Lib.hid (below_trans HB.out hb (Nat.le_refl _))
    clear hb
    have hsz1 : w.heap.size ≤ w2.heap.size := HB.out.size
    have HU := Lib.hid (show cFlowOk l from hu)
    obtain ⟨hi1, hh1⟩ : ∃ z, z = w2.heap.size := ⟨_, rfl⟩
    have HR := Lib.hid (show Rd w2 w.heap.size hi1 3 A1 l.length (cFlow l) by rw [hh1]; exact hr)
    have hh1' : hi1 ≤ w2.heap.size := by omega
    obtain ⟨m, EM⟩ : ∃ v, mMayF l x b t = v := ⟨_, rfl⟩
    have gmm : (m != m) = false := by simp
    have WB := Lib.hid (show (Lit.int .i64 b).wf = true from WalkArith.wf_i64 (by constructor <;> omega))
    have WX := Lib.hid (show (Lit.int .i64 x).wf = true from WalkArith.wf_i64 (by constructor <;> omega))
    obtain ⟨ql, EL⟩ : ∃ v, mIsLabel b = v := ⟨_, rfl⟩
    obtain ⟨qt, ET⟩ : ∃ v, inR t 1 9 = v := ⟨_, rfl⟩
    have HPAR := Lib.hid (may_parts l x b t)
    rw [EL, ET, EM] at HPAR
    clear hh1 hu hr
    go_wp2_with fail
    refine Calls.mono (fmay_eq l A1 l.length c1 _ _ x b t m EM _ (by omega) HR.out HU) ?_
    rintro e w3 ⟨rfl, hb⟩
    replace HR := Lib.hid (HR.out.new hb)
    replace HB := Lib.hid (below_trans HB.out hb (Nat.le_refl _))
    clear hb
    go_wp2_with fail
    refine Calls.mono (fmays_eq l A1 l.length c1 _ _ x b t m EM _ (by omega) HR.out HU) ?_
    rintro e w4 ⟨rfl, hb⟩
    replace HR := Lib.hid (HR.out.new hb)
    replace HB := Lib.hid (below_trans HB.out hb (Nat.le_refl _))
    clear hb
    go_wp2_with fail
    refine Calls.mono (flab_eq b ql EL _) ?_
    rintro e w5 ⟨rfl, hb⟩
    replace HR := Lib.hid (HR.out.new hb)
    replace HB := Lib.hid (below_trans HB.out hb (Nat.le_refl _))
    clear hb
    obtain ⟨ini, hini⟩ : ∃ v, v = (ql && qt) := ⟨_, rfl⟩
    have HINI := Lib.hid hini
    clear hini
    cases ql with
    | false =>
      go_wp2_with fail
      refine Calls.mono (implOwn b _) ?_
      rintro e w6 ⟨A2, c2, rfl, hF, hb⟩
      replace HR := Lib.hid (HR.out.new hb)
      replace HB := Lib.hid (below_trans HB.out hb (Nat.le_refl _))
      clear hb
      have HO := Lib.hid hF.rd
      clear hF
      have hol := mOwn_len b
      have hbd := Lib.hid (fun (o : Int) (h : o ∈ mOwn b) => own_bd h)
      have HSELF := Lib.hid (fun (o : Int) (h1 : mIsLabel b = true) (h2 : mOwn b = [o]) => may_self (e := x) h1 h2)
      generalize mOwn b = O at HO hol hbd HPAR HSELF ⊢
      obtain ⟨lo2, hi2, HS⟩ : ∃ lo hi, Hid (Rd w6 lo hi 1 A2 O.length (i64s O)) := ⟨_, _, HO⟩
      clear HO
      go_wp2_with fail
      go_loopg [8, 10] O.length (fun gg u i wr => ∃ k : Nat, k ≤ O.length ∧ O.length - k ≤ gg ∧ u = .bool (false && mParts l x t (O.take k)) ∧ i = .int .i64 k ∧ Hid (Rd wr w.heap.size hi1 3 A1 l.length (cFlow l)) ∧ Hid (Rd wr lo2 hi2 1 A2 O.length (i64s O)) ∧ Hid (Below w.heap.size w wr))
      case atStart => exact ⟨0, Nat.zero_le _, by omega, by simp [mParts], rfl, HR, HS, HB⟩
      case round =>
        clear HR HS HB
        obtain ⟨k, hk, hg, hu8, rfl, HR, HS, HB⟩ := hrel
        have hszr : w.heap.size ≤ wr.heap.size := HB.out.size
        by_cases hlt : k < O.length
        · skip
          have hlti : (k : Int) < (O.length : Int) := by omega
          obtain ⟨b1, off, o, rfl, _, _, hz, hc⟩ := rd_int HS.out hlt
          have ho := hbd.out o (List.mem_of_getElem? hz)
          obtain ⟨p, EP⟩ : ∃ v, mMayF l x ((2 ^ o.toNat : Nat) : Int) t = v := ⟨_, rfl⟩
          have HT := Lib.hid (parts_take (l := l) (e := x) (t := t) hz)
          rw [EP] at HT
          obtain ⟨q, hq⟩ : ∃ q, (false && mParts l x t (O.take k)) = q := ⟨_, rfl⟩
          have HN := Lib.hid (show (false && mParts l x t (O.take (k + 1))) = (q && p) by rw [HT.out, ← hq, Bool.and_assoc])
          rw [hq] at hu8
          subst hu8
          clear hz hq
          cases q with
          | false =>
            go_wp2_with fail
            clear hc
            go_roundg (O.length - (k + 1))
            case measure => omega
            case rel => exact ⟨k + 1, by omega, by omega, by rw [HN.out]; rfl, by go_num, HR, HS, HB⟩
          | true =>
            go_wp2_with fail
            clear hc
            replace HR := Lib.hid (HR.out.alloc (.cells #[.int .i64 o] 3))
            replace HS := Lib.hid (HS.out.alloc (.cells #[.int .i64 o] 3))
            replace HB := Lib.hid (HB.out.alloc (by have := HB.out.size; omega) (.cells #[.int .i64 o] 3))
            refine Calls.mono (flo_one o ho.1 ho.2 wr) ?_
            rintro e w7 ⟨rfl, hb⟩
            replace HR := Lib.hid (HR.out.new hb)
            replace HS := Lib.hid (HS.out.new hb)
            replace HB := Lib.hid (below_trans HB.out hb (Nat.le_refl _))
            clear hb
            go_wp2_with fail
            refine Calls.mono (fmay_eq l A1 l.length c1 _ _ x ((2 ^ o.toNat : Nat) : Int) t p EP _ (by omega) HR.out HU) ?_
            rintro e w8 ⟨rfl, hb⟩
            replace HR := Lib.hid (HR.out.new hb)
            replace HS := Lib.hid (HS.out.new hb)
            replace HB := Lib.hid (below_trans HB.out hb (Nat.le_refl _))
            clear hb
            go_wp2_with fail
            go_roundg (O.length - (k + 1))
            case measure => omega
            case rel => exact ⟨k + 1, by omega, by omega, by rw [HN.out] <;> rfl, by go_num, HR, HS, HB⟩
        · obtain rfl : k = O.length := by omega
          subst hu8
          have hfin : ¬ ((O.length : Int) < (O.length : Int)) := by omega
          rw [List.take_length]
          have HALL := Lib.hid (show (false && mParts l x t O) = m by have := HPAR.out; simpa using this)
          rw [HALL.out]
          have ETG := targ_mem l x b t
          rw [EM] at ETG
          have htl := mTarg_len l x b
          go_wp2_with fail
          refine Calls.mono (impl_TargetsOf l A1 l.length c1 _ _ x b _ (by omega) HR.out HU) ?_
          rintro e w7 ⟨A4, c4, rfl, hF, hb⟩
          replace HR := Lib.hid (HR.out.new hb)
          replace HS := Lib.hid (HS.out.new hb)
          replace HB := Lib.hid (below_trans HB.out hb (Nat.le_refl _))
          clear hb
          have HTG := Lib.hid hF.rd
          clear hF
          generalize mTarg l x b = TG at HTG ETG htl ⊢
          go_wp2_with fail
          refine Calls.mono (fcon_eq TG A4 TG.length c4 _ _ t m ETG _ (by omega) HTG.out) ?_
          rintro e w8 ⟨rfl, hb⟩
          replace HR := Lib.hid (HR.out.new hb)
          replace HS := Lib.hid (HS.out.new hb)
          replace HB := Lib.hid (below_trans HB.out hb (Nat.le_refl _))
          clear hb
          clear HTG ETG htl
          go_wp2_with fail
          refine Calls.mono (impl_FlowsOf l A1 l.length c1 _ _ x _ (by omega) HR.out HU WX.out) ?_
          rintro e w9 ⟨A5, c5, rfl, hF, hb⟩
          replace HR := Lib.hid (HR.out.new hb)
          replace HS := Lib.hid (HS.out.new hb)
          replace HB := Lib.hid (below_trans HB.out hb (Nat.le_refl _))
          clear hb
          have HFO := Lib.hid hF.rd
          clear hF
          have EFO := (may_of l x b t).trans EM
          have hfl := List.length_filter_le (fun f : TFlow => f.f0 == x) l
          have HUF := ffilter_ok (fun f : TFlow => f.f0 == x) HU
          generalize (l.filter fun f => f.f0 == x) = fo at HFO EFO hfl HUF ⊢
          go_wp2_with fail
          refine Calls.mono (fmay_eq fo A5 fo.length c5 _ _ x b t m EFO _ (by omega) HFO.out HUF) ?_
          rintro e w10 ⟨rfl, hb⟩
          replace HR := Lib.hid (HR.out.new hb)
          replace HS := Lib.hid (HS.out.new hb)
          replace HB := Lib.hid (below_trans HB.out hb (Nat.le_refl _))
          clear hb
          clear HFO EFO hfl HUF
          clear HR
          go_wp2_with fail
          refine Calls.mono (drawFW_any n0 c0 A0 _ (by omega) (bytes_below M0.out HB.out)) ?_
          rintro e w11 ⟨A6, c6, X, A7, c7, Y, rfl, hX, huX, hY, huY, hcX, hcY, hrX, hrY, hb⟩
          replace HS := Lib.hid (HS.out.new hb)
          replace HB := Lib.hid (below_trans HB.out hb (Nat.le_refl _))
          clear hb
          have HUX := Lib.hid (show cFlowOk X from huX)
          have HUY := Lib.hid (show cFlowOk Y from huY)
          obtain ⟨loX, hiX, HX⟩ : ∃ lo hi, Hid (Rd w11 lo hi 3 A6 X.length (cFlow X)) := ⟨_, _, Lib.hid hrX⟩
          obtain ⟨loY, hiY, HY⟩ : ∃ lo hi, Hid (Rd w11 lo hi 3 A7 Y.length (cFlow Y)) := ⟨_, _, Lib.hid hrY⟩
          clear huX huY hrX hrY
          obtain ⟨v, EV⟩ : ∃ v, X.all (pFW Y) = v := ⟨_, rfl⟩
          obtain ⟨ma, EA⟩ : ∃ v, mMayF X x b t = v := ⟨_, rfl⟩
          obtain ⟨mb, EBB⟩ : ∃ v, mMayF Y x b t = v := ⟨_, rfl⟩
          have HIN := Lib.hid (fun (h1 : v = true) (h2 : ma = true) => (EBB.symm.trans (may_in (EV.trans h1) x b t (EA.trans h2)) : mb = true))
          go_upto_region 18 with fail
          try simp only [Act.put]
          go_cut [109] (fun s109 wx => s109 = .bool false ∧ Hid (Rd wx lo2 hi2 1 A2 O.length (i64s O)) ∧ Hid (Below w.heap.size w wx))
          case first =>
            go_wp2_with fail
            refine Calls.mono (fwit_eq X A6 X.length c6 _ _ Y A7 Y.length c7 _ _ v EV _ (by omega) HX.out hcX HUX (by omega) HY.out hcY HUY) ?_
            rintro e w12 ⟨rfl, hb⟩
            replace HS := Lib.hid (HS.out.new hb)
            replace HX := Lib.hid (HX.out.new hb)
            replace HY := Lib.hid (HY.out.new hb)
            replace HB := Lib.hid (below_trans HB.out hb (Nat.le_refl _))
            clear hb
            cases v with
            | false =>
              go_wp2_with fail
              go_meet
              case rel => exact ⟨by first | rfl | simp, HS, HB⟩
            | true =>
              go_wp2_with fail
              refine Calls.mono (fmay_eq X A6 X.length c6 _ _ x b t ma EA _ (by omega) HX.out HUX) ?_
              rintro e w13 ⟨rfl, hb⟩
              replace HS := Lib.hid (HS.out.new hb)
              replace HX := Lib.hid (HX.out.new hb)
              replace HY := Lib.hid (HY.out.new hb)
              replace HB := Lib.hid (below_trans HB.out hb (Nat.le_refl _))
              clear hb
              cases ma with
              | false =>
                go_wp2_with fail
                go_meet
                case rel => exact ⟨by first | rfl | simp, HS, HB⟩
              | true =>
                have hmb := HIN.out (by first | trivial | rfl) (by first | trivial | rfl)
                subst hmb
                go_wp2_with fail
                refine Calls.mono (fmay_eq Y A7 Y.length c7 _ _ x b t true EBB _ (by omega) HY.out HUY) ?_
                rintro e w14 ⟨rfl, hb⟩
                replace HS := Lib.hid (HS.out.new hb)
                replace HX := Lib.hid (HX.out.new hb)
                replace HY := Lib.hid (HY.out.new hb)
                replace HB := Lib.hid (below_trans HB.out hb (Nat.le_refl _))
                clear hb
                go_wp2_with fail
                go_meet
                case rel => exact ⟨by first | rfl | simp, HS, HB⟩
          case rest =>
            clear HS HB HX HY HIN EA EBB EV
            obtain ⟨rfl, HS, HB⟩ := hcut
            have hszc : w.heap.size ≤ wc.heap.size := HB.out.size
            go_wp2_with fail
            refine Calls.mono (flab_eq b false EL _) ?_
            rintro e w13 ⟨rfl, hb⟩
            replace HS := Lib.hid (HS.out.new hb)
            replace HB := Lib.hid (below_trans HB.out hb (Nat.le_refl _))
            clear hb
            go_wp2_with fail
            go_ret
            exact ⟨rfl, HB.out⟩
    | true =>
      cases qt with
      | false =>
        have hT : ¬ (1 ≤ t ∧ t ≤ 9) := fun h => by rw [inR_true.2 h] at ET; cases ET
        by_cases ht : 1 ≤ t
        · skip
          have tb1 : decide (t ≥ 1) = true := decide_eq_true ht
          have tb2 : decide (1 ≤ t) = true := decide_eq_true ht
          have tb3 : decide (t ≤ 9) = false := decide_eq_false (by omega)
          go_wp2_with fail
          refine Calls.mono (implOwn b _) ?_
          rintro e w6 ⟨A2, c2, rfl, hF, hb⟩
          replace HR := Lib.hid (HR.out.new hb)
          replace HB := Lib.hid (below_trans HB.out hb (Nat.le_refl _))
          clear hb
          have HO := Lib.hid hF.rd
          clear hF
          have hol := mOwn_len b
          have hbd := Lib.hid (fun (o : Int) (h : o ∈ mOwn b) => own_bd h)
          have HSELF := Lib.hid (fun (o : Int) (h1 : mIsLabel b = true) (h2 : mOwn b = [o]) => may_self (e := x) h1 h2)
          generalize mOwn b = O at HO hol hbd HPAR HSELF ⊢
          obtain ⟨lo2, hi2, HS⟩ : ∃ lo hi, Hid (Rd w6 lo hi 1 A2 O.length (i64s O)) := ⟨_, _, HO⟩
          clear HO
          go_wp2_with fail
          go_loopg [8, 10] O.length (fun gg u i wr => ∃ k : Nat, k ≤ O.length ∧ O.length - k ≤ gg ∧ u = .bool (false && mParts l x t (O.take k)) ∧ i = .int .i64 k ∧ Hid (Rd wr w.heap.size hi1 3 A1 l.length (cFlow l)) ∧ Hid (Rd wr lo2 hi2 1 A2 O.length (i64s O)) ∧ Hid (Below w.heap.size w wr))
          case atStart => exact ⟨0, Nat.zero_le _, by omega, by simp [mParts], rfl, HR, HS, HB⟩
          case round =>
            clear HR HS HB
            obtain ⟨k, hk, hg, hu8, rfl, HR, HS, HB⟩ := hrel
            have hszr : w.heap.size ≤ wr.heap.size := HB.out.size
            by_cases hlt : k < O.length
            · skip
              have hlti : (k : Int) < (O.length : Int) := by omega
              obtain ⟨b1, off, o, rfl, _, _, hz, hc⟩ := rd_int HS.out hlt
              have ho := hbd.out o (List.mem_of_getElem? hz)
              obtain ⟨p, EP⟩ : ∃ v, mMayF l x ((2 ^ o.toNat : Nat) : Int) t = v := ⟨_, rfl⟩
              have HT := Lib.hid (parts_take (l := l) (e := x) (t := t) hz)
              rw [EP] at HT
              obtain ⟨q, hq⟩ : ∃ q, (false && mParts l x t (O.take k)) = q := ⟨_, rfl⟩
              have HN := Lib.hid (show (false && mParts l x t (O.take (k + 1))) = (q && p) by rw [HT.out, ← hq, Bool.and_assoc])
              rw [hq] at hu8
              subst hu8
              clear hz hq
              cases q with
              | false =>
                go_wp2_with fail
                clear hc
                go_roundg (O.length - (k + 1))
                case measure => omega
                case rel => exact ⟨k + 1, by omega, by omega, by rw [HN.out]; rfl, by go_num, HR, HS, HB⟩
              | true =>
                go_wp2_with fail
                clear hc
                replace HR := Lib.hid (HR.out.alloc (.cells #[.int .i64 o] 3))
                replace HS := Lib.hid (HS.out.alloc (.cells #[.int .i64 o] 3))
                replace HB := Lib.hid (HB.out.alloc (by have := HB.out.size; omega) (.cells #[.int .i64 o] 3))
                refine Calls.mono (flo_one o ho.1 ho.2 wr) ?_
                rintro e w7 ⟨rfl, hb⟩
                replace HR := Lib.hid (HR.out.new hb)
                replace HS := Lib.hid (HS.out.new hb)
                replace HB := Lib.hid (below_trans HB.out hb (Nat.le_refl _))
                clear hb
                go_wp2_with fail
                refine Calls.mono (fmay_eq l A1 l.length c1 _ _ x ((2 ^ o.toNat : Nat) : Int) t p EP _ (by omega) HR.out HU) ?_
                rintro e w8 ⟨rfl, hb⟩
                replace HR := Lib.hid (HR.out.new hb)
                replace HS := Lib.hid (HS.out.new hb)
                replace HB := Lib.hid (below_trans HB.out hb (Nat.le_refl _))
                clear hb
                go_wp2_with fail
                go_roundg (O.length - (k + 1))
                case measure => omega
                case rel => exact ⟨k + 1, by omega, by omega, by rw [HN.out] <;> rfl, by go_num, HR, HS, HB⟩
            · obtain rfl : k = O.length := by omega
              subst hu8
              have hfin : ¬ ((O.length : Int) < (O.length : Int)) := by omega
              rw [List.take_length]
              have HALL := Lib.hid (show (false && mParts l x t O) = m by have := HPAR.out; simpa using this)
              rw [HALL.out]
              have ETG := targ_mem l x b t
              rw [EM] at ETG
              have htl := mTarg_len l x b
              go_wp2_with fail
              refine Calls.mono (impl_TargetsOf l A1 l.length c1 _ _ x b _ (by omega) HR.out HU) ?_
              rintro e w7 ⟨A4, c4, rfl, hF, hb⟩
              replace HR := Lib.hid (HR.out.new hb)
              replace HS := Lib.hid (HS.out.new hb)
              replace HB := Lib.hid (below_trans HB.out hb (Nat.le_refl _))
              clear hb
              have HTG := Lib.hid hF.rd
              clear hF
              generalize mTarg l x b = TG at HTG ETG htl ⊢
              go_wp2_with fail
              refine Calls.mono (fcon_eq TG A4 TG.length c4 _ _ t m ETG _ (by omega) HTG.out) ?_
              rintro e w8 ⟨rfl, hb⟩
              replace HR := Lib.hid (HR.out.new hb)
              replace HS := Lib.hid (HS.out.new hb)
              replace HB := Lib.hid (below_trans HB.out hb (Nat.le_refl _))
              clear hb
              clear HTG ETG htl
              go_wp2_with fail
              refine Calls.mono (impl_FlowsOf l A1 l.length c1 _ _ x _ (by omega) HR.out HU WX.out) ?_
              rintro e w9 ⟨A5, c5, rfl, hF, hb⟩
              replace HR := Lib.hid (HR.out.new hb)
              replace HS := Lib.hid (HS.out.new hb)
              replace HB := Lib.hid (below_trans HB.out hb (Nat.le_refl _))
              clear hb
              have HFO := Lib.hid hF.rd
              clear hF
              have EFO := (may_of l x b t).trans EM
              have hfl := List.length_filter_le (fun f : TFlow => f.f0 == x) l
              have HUF := ffilter_ok (fun f : TFlow => f.f0 == x) HU
              generalize (l.filter fun f => f.f0 == x) = fo at HFO EFO hfl HUF ⊢
              go_wp2_with fail
              refine Calls.mono (fmay_eq fo A5 fo.length c5 _ _ x b t m EFO _ (by omega) HFO.out HUF) ?_
              rintro e w10 ⟨rfl, hb⟩
              replace HR := Lib.hid (HR.out.new hb)
              replace HS := Lib.hid (HS.out.new hb)
              replace HB := Lib.hid (below_trans HB.out hb (Nat.le_refl _))
              clear hb
              clear HFO EFO hfl HUF
              clear HR
              go_wp2_with fail
              refine Calls.mono (drawFW_any n0 c0 A0 _ (by omega) (bytes_below M0.out HB.out)) ?_
              rintro e w11 ⟨A6, c6, X, A7, c7, Y, rfl, hX, huX, hY, huY, hcX, hcY, hrX, hrY, hb⟩
              replace HS := Lib.hid (HS.out.new hb)
              replace HB := Lib.hid (below_trans HB.out hb (Nat.le_refl _))
              clear hb
              have HUX := Lib.hid (show cFlowOk X from huX)
              have HUY := Lib.hid (show cFlowOk Y from huY)
              obtain ⟨loX, hiX, HX⟩ : ∃ lo hi, Hid (Rd w11 lo hi 3 A6 X.length (cFlow X)) := ⟨_, _, Lib.hid hrX⟩
              obtain ⟨loY, hiY, HY⟩ : ∃ lo hi, Hid (Rd w11 lo hi 3 A7 Y.length (cFlow Y)) := ⟨_, _, Lib.hid hrY⟩
              clear huX huY hrX hrY
              obtain ⟨v, EV⟩ : ∃ v, X.all (pFW Y) = v := ⟨_, rfl⟩
              obtain ⟨ma, EA⟩ : ∃ v, mMayF X x b t = v := ⟨_, rfl⟩
              obtain ⟨mb, EBB⟩ : ∃ v, mMayF Y x b t = v := ⟨_, rfl⟩
              have HIN := Lib.hid (fun (h1 : v = true) (h2 : ma = true) => (EBB.symm.trans (may_in (EV.trans h1) x b t (EA.trans h2)) : mb = true))
              go_upto_region 18 with fail
              try simp only [Act.put]
              go_cut [109] (fun s109 wx => s109 = .bool false ∧ Hid (Rd wx lo2 hi2 1 A2 O.length (i64s O)) ∧ Hid (Below w.heap.size w wx))
              case first =>
                go_wp2_with fail
                refine Calls.mono (fwit_eq X A6 X.length c6 _ _ Y A7 Y.length c7 _ _ v EV _ (by omega) HX.out hcX HUX (by omega) HY.out hcY HUY) ?_
                rintro e w12 ⟨rfl, hb⟩
                replace HS := Lib.hid (HS.out.new hb)
                replace HX := Lib.hid (HX.out.new hb)
                replace HY := Lib.hid (HY.out.new hb)
                replace HB := Lib.hid (below_trans HB.out hb (Nat.le_refl _))
                clear hb
                cases v with
                | false =>
                  go_wp2_with fail
                  go_meet
                  case rel => exact ⟨by first | rfl | simp, HS, HB⟩
                | true =>
                  go_wp2_with fail
                  refine Calls.mono (fmay_eq X A6 X.length c6 _ _ x b t ma EA _ (by omega) HX.out HUX) ?_
                  rintro e w13 ⟨rfl, hb⟩
                  replace HS := Lib.hid (HS.out.new hb)
                  replace HX := Lib.hid (HX.out.new hb)
                  replace HY := Lib.hid (HY.out.new hb)
                  replace HB := Lib.hid (below_trans HB.out hb (Nat.le_refl _))
                  clear hb
                  cases ma with
                  | false =>
                    go_wp2_with fail
                    go_meet
                    case rel => exact ⟨by first | rfl | simp, HS, HB⟩
                  | true =>
                    have hmb := HIN.out (by first | trivial | rfl) (by first | trivial | rfl)
                    subst hmb
                    go_wp2_with fail
                    refine Calls.mono (fmay_eq Y A7 Y.length c7 _ _ x b t true EBB _ (by omega) HY.out HUY) ?_
                    rintro e w14 ⟨rfl, hb⟩
                    replace HS := Lib.hid (HS.out.new hb)
                    replace HX := Lib.hid (HX.out.new hb)
                    replace HY := Lib.hid (HY.out.new hb)
                    replace HB := Lib.hid (below_trans HB.out hb (Nat.le_refl _))
                    clear hb
                    go_wp2_with fail
                    go_meet
                    case rel => exact ⟨by first | rfl | simp, HS, HB⟩
              case rest =>
                clear HS HB HX HY HIN EA EBB EV
                obtain ⟨rfl, HS, HB⟩ := hcut
                have hszc : w.heap.size ≤ wc.heap.size := HB.out.size
                go_wp2_with fail
                refine Calls.mono (flab_eq b true EL _) ?_
                rintro e w13 ⟨rfl, hb⟩
                replace HS := Lib.hid (HS.out.new hb)
                replace HB := Lib.hid (below_trans HB.out hb (Nat.le_refl _))
                clear hb
                by_cases h2 : 1 < O.length
                · skip
                  have g1 : decide ((O.length : Int) > 1) = true := decide_eq_true (by omega)
                  have g2 : decide ((1 : Int) < (O.length : Int)) = true := decide_eq_true (by omega)
                  go_wp2_with fail
                  go_ret
                  exact ⟨rfl, HB.out⟩
                · skip
                  have g1 : decide ((O.length : Int) > 1) = false := decide_eq_false (by omega)
                  have g2 : decide ((1 : Int) < (O.length : Int)) = false := decide_eq_false (by omega)
                  by_cases h0 : O.length = 0
                  · skip
                    have g3 : ((O.length : Int) == 0) = true := by rw [beq_iff_eq]; omega
                    go_wp2_with fail
                    go_ret
                    exact ⟨rfl, HB.out⟩
                  · skip
                    have g3 : ((O.length : Int) == 0) = false := by rw [beq_eq_false_iff_ne]; omega
                    have hlen : O.length = 1 := by omega
                    obtain ⟨o, hO⟩ : ∃ o, O = [o] := List.length_eq_one_iff.1 hlen
                    have hp0 : 0 < O.length := by omega
                    have hpi : (0 : Int) < (O.length : Int) := by omega
                    obtain ⟨b1, off, o2, rfl, _, _, hz, hc⟩ := rd_int HS.out hp0
                    obtain rfl : o = o2 := by rw [hO] at hz; simpa using hz
                    have EN := HSELF.out o EL hO
                    simp only [Nat.add_zero] at hc
                    clear hz hO hlen h0 h2
                    go_wp2_with fail
                    refine Calls.mono (fmay_nil x b o true EN _) ?_
                    rintro e w14 ⟨rfl, hb⟩
                    replace HS := Lib.hid (HS.out.new hb)
                    replace HB := Lib.hid (below_trans HB.out hb (Nat.le_refl _))
                    clear hb
                    go_wp2_with fail
                    go_ret
                    exact ⟨rfl, HB.out⟩
        · skip
          have tb1 : decide (t ≥ 1) = false := decide_eq_false (by omega)
          have tb2 : decide (1 ≤ t) = false := decide_eq_false ht
          go_wp2_with fail
          refine Calls.mono (implOwn b _) ?_
          rintro e w6 ⟨A2, c2, rfl, hF, hb⟩
          replace HR := Lib.hid (HR.out.new hb)
          replace HB := Lib.hid (below_trans HB.out hb (Nat.le_refl _))
          clear hb
          have HO := Lib.hid hF.rd
          clear hF
          have hol := mOwn_len b
          have hbd := Lib.hid (fun (o : Int) (h : o ∈ mOwn b) => own_bd h)
          have HSELF := Lib.hid (fun (o : Int) (h1 : mIsLabel b = true) (h2 : mOwn b = [o]) => may_self (e := x) h1 h2)
          generalize mOwn b = O at HO hol hbd HPAR HSELF ⊢
          obtain ⟨lo2, hi2, HS⟩ : ∃ lo hi, Hid (Rd w6 lo hi 1 A2 O.length (i64s O)) := ⟨_, _, HO⟩
          clear HO
          go_wp2_with fail
          go_loopg [8, 10] O.length (fun gg u i wr => ∃ k : Nat, k ≤ O.length ∧ O.length - k ≤ gg ∧ u = .bool (false && mParts l x t (O.take k)) ∧ i = .int .i64 k ∧ Hid (Rd wr w.heap.size hi1 3 A1 l.length (cFlow l)) ∧ Hid (Rd wr lo2 hi2 1 A2 O.length (i64s O)) ∧ Hid (Below w.heap.size w wr))
          case atStart => exact ⟨0, Nat.zero_le _, by omega, by simp [mParts], rfl, HR, HS, HB⟩
          case round =>
            clear HR HS HB
            obtain ⟨k, hk, hg, hu8, rfl, HR, HS, HB⟩ := hrel
            have hszr : w.heap.size ≤ wr.heap.size := HB.out.size
            by_cases hlt : k < O.length
            · skip
              have hlti : (k : Int) < (O.length : Int) := by omega
              obtain ⟨b1, off, o, rfl, _, _, hz, hc⟩ := rd_int HS.out hlt
              have ho := hbd.out o (List.mem_of_getElem? hz)
              obtain ⟨p, EP⟩ : ∃ v, mMayF l x ((2 ^ o.toNat : Nat) : Int) t = v := ⟨_, rfl⟩
              have HT := Lib.hid (parts_take (l := l) (e := x) (t := t) hz)
              rw [EP] at HT
              obtain ⟨q, hq⟩ : ∃ q, (false && mParts l x t (O.take k)) = q := ⟨_, rfl⟩
              have HN := Lib.hid (show (false && mParts l x t (O.take (k + 1))) = (q && p) by rw [HT.out, ← hq, Bool.and_assoc])
              rw [hq] at hu8
              subst hu8
              clear hz hq
              cases q with
              | false =>
                go_wp2_with fail
                clear hc
                go_roundg (O.length - (k + 1))
                case measure => omega
                case rel => exact ⟨k + 1, by omega, by omega, by rw [HN.out]; rfl, by go_num, HR, HS, HB⟩
              | true =>
                go_wp2_with fail
                clear hc
                replace HR := Lib.hid (HR.out.alloc (.cells #[.int .i64 o] 3))
                replace HS := Lib.hid (HS.out.alloc (.cells #[.int .i64 o] 3))
                replace HB := Lib.hid (HB.out.alloc (by have := HB.out.size; omega) (.cells #[.int .i64 o] 3))
                refine Calls.mono (flo_one o ho.1 ho.2 wr) ?_
                rintro e w7 ⟨rfl, hb⟩
                replace HR := Lib.hid (HR.out.new hb)
                replace HS := Lib.hid (HS.out.new hb)
                replace HB := Lib.hid (below_trans HB.out hb (Nat.le_refl _))
                clear hb
                go_wp2_with fail
                refine Calls.mono (fmay_eq l A1 l.length c1 _ _ x ((2 ^ o.toNat : Nat) : Int) t p EP _ (by omega) HR.out HU) ?_
                rintro e w8 ⟨rfl, hb⟩
                replace HR := Lib.hid (HR.out.new hb)
                replace HS := Lib.hid (HS.out.new hb)
                replace HB := Lib.hid (below_trans HB.out hb (Nat.le_refl _))
                clear hb
                go_wp2_with fail
                go_roundg (O.length - (k + 1))
                case measure => omega
                case rel => exact ⟨k + 1, by omega, by omega, by rw [HN.out] <;> rfl, by go_num, HR, HS, HB⟩
            · obtain rfl : k = O.length := by omega
              subst hu8
              have hfin : ¬ ((O.length : Int) < (O.length : Int)) := by omega
              rw [List.take_length]
              have HALL := Lib.hid (show (false && mParts l x t O) = m by have := HPAR.out; simpa using this)
              rw [HALL.out]
              have ETG := targ_mem l x b t
              rw [EM] at ETG
              have htl := mTarg_len l x b
              go_wp2_with fail
              refine Calls.mono (impl_TargetsOf l A1 l.length c1 _ _ x b _ (by omega) HR.out HU) ?_
              rintro e w7 ⟨A4, c4, rfl, hF, hb⟩
              replace HR := Lib.hid (HR.out.new hb)
              replace HS := Lib.hid (HS.out.new hb)
              replace HB := Lib.hid (below_trans HB.out hb (Nat.le_refl _))
              clear hb
              have HTG := Lib.hid hF.rd
              clear hF
              generalize mTarg l x b = TG at HTG ETG htl ⊢
              go_wp2_with fail
              refine Calls.mono (fcon_eq TG A4 TG.length c4 _ _ t m ETG _ (by omega) HTG.out) ?_
              rintro e w8 ⟨rfl, hb⟩
              replace HR := Lib.hid (HR.out.new hb)
              replace HS := Lib.hid (HS.out.new hb)
              replace HB := Lib.hid (below_trans HB.out hb (Nat.le_refl _))
              clear hb
              clear HTG ETG htl
              go_wp2_with fail
              refine Calls.mono (impl_FlowsOf l A1 l.length c1 _ _ x _ (by omega) HR.out HU WX.out) ?_
              rintro e w9 ⟨A5, c5, rfl, hF, hb⟩
              replace HR := Lib.hid (HR.out.new hb)
              replace HS := Lib.hid (HS.out.new hb)
              replace HB := Lib.hid (below_trans HB.out hb (Nat.le_refl _))
              clear hb
              have HFO := Lib.hid hF.rd
              clear hF
              have EFO := (may_of l x b t).trans EM
              have hfl := List.length_filter_le (fun f : TFlow => f.f0 == x) l
              have HUF := ffilter_ok (fun f : TFlow => f.f0 == x) HU
              generalize (l.filter fun f => f.f0 == x) = fo at HFO EFO hfl HUF ⊢
              go_wp2_with fail
              refine Calls.mono (fmay_eq fo A5 fo.length c5 _ _ x b t m EFO _ (by omega) HFO.out HUF) ?_
              rintro e w10 ⟨rfl, hb⟩
              replace HR := Lib.hid (HR.out.new hb)
              replace HS := Lib.hid (HS.out.new hb)
              replace HB := Lib.hid (below_trans HB.out hb (Nat.le_refl _))
              clear hb
              clear HFO EFO hfl HUF
              clear HR
              go_wp2_with fail
              refine Calls.mono (drawFW_any n0 c0 A0 _ (by omega) (bytes_below M0.out HB.out)) ?_
              rintro e w11 ⟨A6, c6, X, A7, c7, Y, rfl, hX, huX, hY, huY, hcX, hcY, hrX, hrY, hb⟩
              replace HS := Lib.hid (HS.out.new hb)
              replace HB := Lib.hid (below_trans HB.out hb (Nat.le_refl _))
              clear hb
              have HUX := Lib.hid (show cFlowOk X from huX)
              have HUY := Lib.hid (show cFlowOk Y from huY)
              obtain ⟨loX, hiX, HX⟩ : ∃ lo hi, Hid (Rd w11 lo hi 3 A6 X.length (cFlow X)) := ⟨_, _, Lib.hid hrX⟩
              obtain ⟨loY, hiY, HY⟩ : ∃ lo hi, Hid (Rd w11 lo hi 3 A7 Y.length (cFlow Y)) := ⟨_, _, Lib.hid hrY⟩
              clear huX huY hrX hrY
              obtain ⟨v, EV⟩ : ∃ v, X.all (pFW Y) = v := ⟨_, rfl⟩
              obtain ⟨ma, EA⟩ : ∃ v, mMayF X x b t = v := ⟨_, rfl⟩
              obtain ⟨mb, EBB⟩ : ∃ v, mMayF Y x b t = v := ⟨_, rfl⟩
              have HIN := Lib.hid (fun (h1 : v = true) (h2 : ma = true) => (EBB.symm.trans (may_in (EV.trans h1) x b t (EA.trans h2)) : mb = true))
              go_upto_region 18 with fail
              try simp only [Act.put]
              go_cut [109] (fun s109 wx => s109 = .bool false ∧ Hid (Rd wx lo2 hi2 1 A2 O.length (i64s O)) ∧ Hid (Below w.heap.size w wx))
              case first =>
                go_wp2_with fail
                refine Calls.mono (fwit_eq X A6 X.length c6 _ _ Y A7 Y.length c7 _ _ v EV _ (by omega) HX.out hcX HUX (by omega) HY.out hcY HUY) ?_
                rintro e w12 ⟨rfl, hb⟩
                replace HS := Lib.hid (HS.out.new hb)
                replace HX := Lib.hid (HX.out.new hb)
                replace HY := Lib.hid (HY.out.new hb)
                replace HB := Lib.hid (below_trans HB.out hb (Nat.le_refl _))
                clear hb
                cases v with
                | false =>
                  go_wp2_with fail
                  go_meet
                  case rel => exact ⟨by first | rfl | simp, HS, HB⟩
                | true =>
                  go_wp2_with fail
                  refine Calls.mono (fmay_eq X A6 X.length c6 _ _ x b t ma EA _ (by omega) HX.out HUX) ?_
                  rintro e w13 ⟨rfl, hb⟩
                  replace HS := Lib.hid (HS.out.new hb)
                  replace HX := Lib.hid (HX.out.new hb)
                  replace HY := Lib.hid (HY.out.new hb)
                  replace HB := Lib.hid (below_trans HB.out hb (Nat.le_refl _))
                  clear hb
                  cases ma with
                  | false =>
                    go_wp2_with fail
                    go_meet
                    case rel => exact ⟨by first | rfl | simp, HS, HB⟩
                  | true =>
                    have hmb := HIN.out (by first | trivial | rfl) (by first | trivial | rfl)
                    subst hmb
                    go_wp2_with fail
                    refine Calls.mono (fmay_eq Y A7 Y.length c7 _ _ x b t true EBB _ (by omega) HY.out HUY) ?_
                    rintro e w14 ⟨rfl, hb⟩
                    replace HS := Lib.hid (HS.out.new hb)
                    replace HX := Lib.hid (HX.out.new hb)
                    replace HY := Lib.hid (HY.out.new hb)
                    replace HB := Lib.hid (below_trans HB.out hb (Nat.le_refl _))
                    clear hb
                    go_wp2_with fail
                    go_meet
                    case rel => exact ⟨by first | rfl | simp, HS, HB⟩
              case rest =>
                clear HS HB HX HY HIN EA EBB EV
                obtain ⟨rfl, HS, HB⟩ := hcut
                have hszc : w.heap.size ≤ wc.heap.size := HB.out.size
                go_wp2_with fail
                refine Calls.mono (flab_eq b true EL _) ?_
                rintro e w13 ⟨rfl, hb⟩
                replace HS := Lib.hid (HS.out.new hb)
                replace HB := Lib.hid (below_trans HB.out hb (Nat.le_refl _))
                clear hb
                by_cases h2 : 1 < O.length
                · skip
                  have g1 : decide ((O.length : Int) > 1) = true := decide_eq_true (by omega)
                  have g2 : decide ((1 : Int) < (O.length : Int)) = true := decide_eq_true (by omega)
                  go_wp2_with fail
                  go_ret
                  exact ⟨rfl, HB.out⟩
                · skip
                  have g1 : decide ((O.length : Int) > 1) = false := decide_eq_false (by omega)
                  have g2 : decide ((1 : Int) < (O.length : Int)) = false := decide_eq_false (by omega)
                  by_cases h0 : O.length = 0
                  · skip
                    have g3 : ((O.length : Int) == 0) = true := by rw [beq_iff_eq]; omega
                    go_wp2_with fail
                    go_ret
                    exact ⟨rfl, HB.out⟩
                  · skip
                    have g3 : ((O.length : Int) == 0) = false := by rw [beq_eq_false_iff_ne]; omega
                    have hlen : O.length = 1 := by omega
                    obtain ⟨o, hO⟩ : ∃ o, O = [o] := List.length_eq_one_iff.1 hlen
                    have hp0 : 0 < O.length := by omega
                    have hpi : (0 : Int) < (O.length : Int) := by omega
                    obtain ⟨b1, off, o2, rfl, _, _, hz, hc⟩ := rd_int HS.out hp0
                    obtain rfl : o = o2 := by rw [hO] at hz; simpa using hz
                    have EN := HSELF.out o EL hO
                    simp only [Nat.add_zero] at hc
                    clear hz hO hlen h0 h2
                    go_wp2_with fail
                    refine Calls.mono (fmay_nil x b o true EN _) ?_
                    rintro e w14 ⟨rfl, hb⟩
                    replace HS := Lib.hid (HS.out.new hb)
                    replace HB := Lib.hid (below_trans HB.out hb (Nat.le_refl _))
                    clear hb
                    go_wp2_with fail
                    go_ret
                    exact ⟨rfl, HB.out⟩
      | true =>
        have hT := inR_true.1 ET
        have tb1 : decide (t ≥ 1) = true := decide_eq_true (by omega)
        have tb2 : decide (1 ≤ t) = true := decide_eq_true (by omega)
        have tb3 : decide (t ≤ 9) = true := decide_eq_true (by omega)
        go_wp2_with fail
        refine Calls.mono (implOwn b _) ?_
        rintro e w6 ⟨A2, c2, rfl, hF, hb⟩
        replace HR := Lib.hid (HR.out.new hb)
        replace HB := Lib.hid (below_trans HB.out hb (Nat.le_refl _))
        clear hb
        have HO := Lib.hid hF.rd
        clear hF
        have hol := mOwn_len b
        have hbd := Lib.hid (fun (o : Int) (h : o ∈ mOwn b) => own_bd h)
        have HSELF := Lib.hid (fun (o : Int) (h1 : mIsLabel b = true) (h2 : mOwn b = [o]) => may_self (e := x) h1 h2)
        generalize mOwn b = O at HO hol hbd HPAR HSELF ⊢
        obtain ⟨lo2, hi2, HS⟩ : ∃ lo hi, Hid (Rd w6 lo hi 1 A2 O.length (i64s O)) := ⟨_, _, HO⟩
        clear HO
        go_wp2_with fail
        go_loopg [8, 10] O.length (fun gg u i wr => ∃ k : Nat, k ≤ O.length ∧ O.length - k ≤ gg ∧ u = .bool (true && mParts l x t (O.take k)) ∧ i = .int .i64 k ∧ Hid (Rd wr w.heap.size hi1 3 A1 l.length (cFlow l)) ∧ Hid (Rd wr lo2 hi2 1 A2 O.length (i64s O)) ∧ Hid (Below w.heap.size w wr))
        case atStart => exact ⟨0, Nat.zero_le _, by omega, by simp [mParts], rfl, HR, HS, HB⟩
        case round =>
          clear HR HS HB
          obtain ⟨k, hk, hg, hu8, rfl, HR, HS, HB⟩ := hrel
          have hszr : w.heap.size ≤ wr.heap.size := HB.out.size
          by_cases hlt : k < O.length
          · skip
            have hlti : (k : Int) < (O.length : Int) := by omega
            obtain ⟨b1, off, o, rfl, _, _, hz, hc⟩ := rd_int HS.out hlt
            have ho := hbd.out o (List.mem_of_getElem? hz)
            obtain ⟨p, EP⟩ : ∃ v, mMayF l x ((2 ^ o.toNat : Nat) : Int) t = v := ⟨_, rfl⟩
            have HT := Lib.hid (parts_take (l := l) (e := x) (t := t) hz)
            rw [EP] at HT
            obtain ⟨q, hq⟩ : ∃ q, (true && mParts l x t (O.take k)) = q := ⟨_, rfl⟩
            have HN := Lib.hid (show (true && mParts l x t (O.take (k + 1))) = (q && p) by rw [HT.out, ← hq, Bool.and_assoc])
            rw [hq] at hu8
            subst hu8
            clear hz hq
            cases q with
            | false =>
              go_wp2_with fail
              clear hc
              go_roundg (O.length - (k + 1))
              case measure => omega
              case rel => exact ⟨k + 1, by omega, by omega, by rw [HN.out]; rfl, by go_num, HR, HS, HB⟩
            | true =>
              go_wp2_with fail
              clear hc
              replace HR := Lib.hid (HR.out.alloc (.cells #[.int .i64 o] 3))
              replace HS := Lib.hid (HS.out.alloc (.cells #[.int .i64 o] 3))
              replace HB := Lib.hid (HB.out.alloc (by have := HB.out.size; omega) (.cells #[.int .i64 o] 3))
              refine Calls.mono (flo_one o ho.1 ho.2 wr) ?_
              rintro e w7 ⟨rfl, hb⟩
              replace HR := Lib.hid (HR.out.new hb)
              replace HS := Lib.hid (HS.out.new hb)
              replace HB := Lib.hid (below_trans HB.out hb (Nat.le_refl _))
              clear hb
              go_wp2_with fail
              refine Calls.mono (fmay_eq l A1 l.length c1 _ _ x ((2 ^ o.toNat : Nat) : Int) t p EP _ (by omega) HR.out HU) ?_
              rintro e w8 ⟨rfl, hb⟩
              replace HR := Lib.hid (HR.out.new hb)
              replace HS := Lib.hid (HS.out.new hb)
              replace HB := Lib.hid (below_trans HB.out hb (Nat.le_refl _))
              clear hb
              go_wp2_with fail
              go_roundg (O.length - (k + 1))
              case measure => omega
              case rel => exact ⟨k + 1, by omega, by omega, by rw [HN.out] <;> rfl, by go_num, HR, HS, HB⟩
          · obtain rfl : k = O.length := by omega
            subst hu8
            have hfin : ¬ ((O.length : Int) < (O.length : Int)) := by omega
            rw [List.take_length]
            have HALL := Lib.hid (show (true && mParts l x t O) = m by have := HPAR.out; simpa using this)
            rw [HALL.out]
            have ETG := targ_mem l x b t
            rw [EM] at ETG
            have htl := mTarg_len l x b
            go_wp2_with fail
            refine Calls.mono (impl_TargetsOf l A1 l.length c1 _ _ x b _ (by omega) HR.out HU) ?_
            rintro e w7 ⟨A4, c4, rfl, hF, hb⟩
            replace HR := Lib.hid (HR.out.new hb)
            replace HS := Lib.hid (HS.out.new hb)
            replace HB := Lib.hid (below_trans HB.out hb (Nat.le_refl _))
            clear hb
            have HTG := Lib.hid hF.rd
            clear hF
            generalize mTarg l x b = TG at HTG ETG htl ⊢
            go_wp2_with fail
            refine Calls.mono (fcon_eq TG A4 TG.length c4 _ _ t m ETG _ (by omega) HTG.out) ?_
            rintro e w8 ⟨rfl, hb⟩
            replace HR := Lib.hid (HR.out.new hb)
            replace HS := Lib.hid (HS.out.new hb)
            replace HB := Lib.hid (below_trans HB.out hb (Nat.le_refl _))
            clear hb
            clear HTG ETG htl
            go_wp2_with fail
            refine Calls.mono (impl_FlowsOf l A1 l.length c1 _ _ x _ (by omega) HR.out HU WX.out) ?_
            rintro e w9 ⟨A5, c5, rfl, hF, hb⟩
            replace HR := Lib.hid (HR.out.new hb)
            replace HS := Lib.hid (HS.out.new hb)
            replace HB := Lib.hid (below_trans HB.out hb (Nat.le_refl _))
            clear hb
            have HFO := Lib.hid hF.rd
            clear hF
            have EFO := (may_of l x b t).trans EM
            have hfl := List.length_filter_le (fun f : TFlow => f.f0 == x) l
            have HUF := ffilter_ok (fun f : TFlow => f.f0 == x) HU
            generalize (l.filter fun f => f.f0 == x) = fo at HFO EFO hfl HUF ⊢
            go_wp2_with fail
            refine Calls.mono (fmay_eq fo A5 fo.length c5 _ _ x b t m EFO _ (by omega) HFO.out HUF) ?_
            rintro e w10 ⟨rfl, hb⟩
            replace HR := Lib.hid (HR.out.new hb)
            replace HS := Lib.hid (HS.out.new hb)
            replace HB := Lib.hid (below_trans HB.out hb (Nat.le_refl _))
            clear hb
            clear HFO EFO hfl HUF
            clear HR
            go_wp2_with fail
            refine Calls.mono (drawFW_any n0 c0 A0 _ (by omega) (bytes_below M0.out HB.out)) ?_
            rintro e w11 ⟨A6, c6, X, A7, c7, Y, rfl, hX, huX, hY, huY, hcX, hcY, hrX, hrY, hb⟩
            replace HS := Lib.hid (HS.out.new hb)
            replace HB := Lib.hid (below_trans HB.out hb (Nat.le_refl _))
            clear hb
            have HUX := Lib.hid (show cFlowOk X from huX)
            have HUY := Lib.hid (show cFlowOk Y from huY)
            obtain ⟨loX, hiX, HX⟩ : ∃ lo hi, Hid (Rd w11 lo hi 3 A6 X.length (cFlow X)) := ⟨_, _, Lib.hid hrX⟩
            obtain ⟨loY, hiY, HY⟩ : ∃ lo hi, Hid (Rd w11 lo hi 3 A7 Y.length (cFlow Y)) := ⟨_, _, Lib.hid hrY⟩
            clear huX huY hrX hrY
            obtain ⟨v, EV⟩ : ∃ v, X.all (pFW Y) = v := ⟨_, rfl⟩
            obtain ⟨ma, EA⟩ : ∃ v, mMayF X x b t = v := ⟨_, rfl⟩
            obtain ⟨mb, EBB⟩ : ∃ v, mMayF Y x b t = v := ⟨_, rfl⟩
            have HIN := Lib.hid (fun (h1 : v = true) (h2 : ma = true) => (EBB.symm.trans (may_in (EV.trans h1) x b t (EA.trans h2)) : mb = true))
            go_upto_region 18 with fail
            try simp only [Act.put]
            go_cut [109] (fun s109 wx => s109 = .bool false ∧ Hid (Rd wx lo2 hi2 1 A2 O.length (i64s O)) ∧ Hid (Below w.heap.size w wx))
            case first =>
              go_wp2_with fail
              refine Calls.mono (fwit_eq X A6 X.length c6 _ _ Y A7 Y.length c7 _ _ v EV _ (by omega) HX.out hcX HUX (by omega) HY.out hcY HUY) ?_
              rintro e w12 ⟨rfl, hb⟩
              replace HS := Lib.hid (HS.out.new hb)
              replace HX := Lib.hid (HX.out.new hb)
              replace HY := Lib.hid (HY.out.new hb)
              replace HB := Lib.hid (below_trans HB.out hb (Nat.le_refl _))
              clear hb
              cases v with
              | false =>
                go_wp2_with fail
                go_meet
                case rel => exact ⟨by first | rfl | simp, HS, HB⟩
              | true =>
                go_wp2_with fail
                refine Calls.mono (fmay_eq X A6 X.length c6 _ _ x b t ma EA _ (by omega) HX.out HUX) ?_
                rintro e w13 ⟨rfl, hb⟩
                replace HS := Lib.hid (HS.out.new hb)
                replace HX := Lib.hid (HX.out.new hb)
                replace HY := Lib.hid (HY.out.new hb)
                replace HB := Lib.hid (below_trans HB.out hb (Nat.le_refl _))
                clear hb
                cases ma with
                | false =>
                  go_wp2_with fail
                  go_meet
                  case rel => exact ⟨by first | rfl | simp, HS, HB⟩
                | true =>
                  have hmb := HIN.out (by first | trivial | rfl) (by first | trivial | rfl)
                  subst hmb
                  go_wp2_with fail
                  refine Calls.mono (fmay_eq Y A7 Y.length c7 _ _ x b t true EBB _ (by omega) HY.out HUY) ?_
                  rintro e w14 ⟨rfl, hb⟩
                  replace HS := Lib.hid (HS.out.new hb)
                  replace HX := Lib.hid (HX.out.new hb)
                  replace HY := Lib.hid (HY.out.new hb)
                  replace HB := Lib.hid (below_trans HB.out hb (Nat.le_refl _))
                  clear hb
                  go_wp2_with fail
                  go_meet
                  case rel => exact ⟨by first | rfl | simp, HS, HB⟩
            case rest =>
              clear HS HB HX HY HIN EA EBB EV
              obtain ⟨rfl, HS, HB⟩ := hcut
              have hszc : w.heap.size ≤ wc.heap.size := HB.out.size
              go_wp2_with fail
              refine Calls.mono (flab_eq b true EL _) ?_
              rintro e w13 ⟨rfl, hb⟩
              replace HS := Lib.hid (HS.out.new hb)
              replace HB := Lib.hid (below_trans HB.out hb (Nat.le_refl _))
              clear hb
              by_cases h2 : 1 < O.length
              · skip
                have g1 : decide ((O.length : Int) > 1) = true := decide_eq_true (by omega)
                have g2 : decide ((1 : Int) < (O.length : Int)) = true := decide_eq_true (by omega)
                go_wp2_with fail
                go_ret
                exact ⟨rfl, HB.out⟩
              · skip
                have g1 : decide ((O.length : Int) > 1) = false := decide_eq_false (by omega)
                have g2 : decide ((1 : Int) < (O.length : Int)) = false := decide_eq_false (by omega)
                by_cases h0 : O.length = 0
                · skip
                  have g3 : ((O.length : Int) == 0) = true := by rw [beq_iff_eq]; omega
                  go_wp2_with fail
                  go_ret
                  exact ⟨rfl, HB.out⟩
                · skip
                  have g3 : ((O.length : Int) == 0) = false := by rw [beq_eq_false_iff_ne]; omega
                  have hlen : O.length = 1 := by omega
                  obtain ⟨o, hO⟩ : ∃ o, O = [o] := List.length_eq_one_iff.1 hlen
                  have hp0 : 0 < O.length := by omega
                  have hpi : (0 : Int) < (O.length : Int) := by omega
                  obtain ⟨b1, off, o2, rfl, _, _, hz, hc⟩ := rd_int HS.out hp0
                  obtain rfl : o = o2 := by rw [hO] at hz; simpa using hz
                  have EN := HSELF.out o EL hO
                  simp only [Nat.add_zero] at hc
                  clear hz hO hlen h0 h2
                  go_wp2_with fail
                  refine Calls.mono (fmay_nil x b o true EN _) ?_
                  rintro e w14 ⟨rfl, hb⟩
                  replace HS := Lib.hid (HS.out.new hb)
                  replace HB := Lib.hid (below_trans HB.out hb (Nat.le_refl _))
                  clear hb
                  go_wp2_with fail
                  go_ret
                  exact ⟨rfl, HB.out⟩
  · have g : decide ((1048576 : Int) < n0) = true := by simp; omega
    go_enter Try.func3, Try.ntmps3
    go_wp2_with fail
    refine (big_any n0 c0 A0 _ w0).mono ?_
    rintro e w1 ⟨rfl, rfl⟩
    rw [g]
    go_wp2_with fail
    go_ret
    exact ⟨rfl, Below.refl _ _⟩

set_option maxRecDepth 100000 in
theorem lifted (os : Os) (started : os.Started) (H : Type) (enc : TypeId × Value → H) :
    ReturnsInHanded {} Try.checked os 3 .any (Rows.fnFlowsSpec.pre6 enc Try.prog Try.f3 Rows.fnFlowsRow.domain false) (Rows.fnFlowsSpec.post enc Try.prog Try.f3 false true false false) := by
  refine law_lifted Try.func3 (by kernel_rfl) rfl rfl (by kernel_rfl) os started
    (ChangeSpec.witness6 (enc := enc) (C := Try.checked) false ⟨#[], #[.slice none 0 0], []⟩ 8 (by kernel_rfl) (by kernel_rfl) (by kernel_rfl) (by kernel_rfl)) ?_
  intro W base args ds p hval hA hlt
  rw [Try.params3] at hA hval
  obtain ⟨v0, vs0, d0, ds0, p0, q0, hargs, rfl, rfl, h0, r0⟩ := trodAll_cons hA
  obtain ⟨rfl, rfl, rfl⟩ := trodAll_nil r0
  obtain rfl : args = #[v0] := by cases args; simp_all
  obtain ⟨A0, n0, c0, rfl, w0, m0⟩ := open_bytes (hval 0 22 v0 rfl rfl) h0 (fun x hx => hlt x (by simp [hx]))
  exact ⟨⟨rfl, rfl, rfl⟩, walk A0 n0 c0 w0 W m0⟩

set_option maxRecDepth 100000 in
set_option maxHeartbeats 8000000 in
theorem closed : joinedFacts Try.pinned.checked.prog 3 Try.f3 Rows.fnFlowsSpec Rows.fnFlowsRow = true :=
  (and_i (and_i (and_i (and_i (and_i (and_i (and_i (and_i (and_i (and_i (and_i (and_i (and_i (and_i (and_i (and_i (and_i (and_i (and_i (and_i (and_i (and_i (and_i (and_i (and_i (and_i (and_i (and_i (and_i (and_i (and_i (by as_aux_lemma => kernel_rfl) seatLaid) sf_maps) (by as_aux_lemma => kernel_rfl)) (by as_aux_lemma => kernel_rfl)) (by as_aux_lemma => kernel_rfl)) (by as_aux_lemma => kernel_rfl)) (by as_aux_lemma => kernel_rfl)) (by as_aux_lemma => kernel_rfl)) (by as_aux_lemma => kernel_rfl)) (by as_aux_lemma => kernel_rfl)) (by as_aux_lemma => kernel_rfl)) (by as_aux_lemma => kernel_rfl)) (by as_aux_lemma => kernel_rfl)) (by as_aux_lemma => kernel_rfl)) (by as_aux_lemma => kernel_rfl)) (by as_aux_lemma => kernel_rfl)) (by as_aux_lemma => kernel_rfl)) (by as_aux_lemma => kernel_rfl)) (by as_aux_lemma => kernel_rfl)) (by as_aux_lemma => kernel_rfl)) (by as_aux_lemma => kernel_rfl)) sf_plain) (by as_aux_lemma => kernel_rfl)) sf_heard) sf_enter) sf_lifts) sf_make) (by as_aux_lemma => kernel_rfl)) (by as_aux_lemma => kernel_rfl)) (by as_aux_lemma => kernel_rfl)) (by as_aux_lemma => kernel_rfl))

theorem over : Rows.fnFlowsRow.holds Try.pinned (OpenSpec.ofChange Rows.fnFlowsSpec) :=
  OpenClaim.holds_of_wide 3 Try.f3 rfl rfl rfl rfl rfl rfl rfl ⟨rfl, rfl, rfl, rfl, rfl⟩ rfl rfl rfl rfl rfl (by kernel_rfl) Try.func3 closed
    (of_decide_eq_true (by kernel_rfl)) (by unfold Func.isWrapper; first | (rw [if_pos (by decide +kernel)]; kernel_rfl) | (rw [if_neg (by decide +kernel)]; exact ⟨rfl, rfl⟩))
    (fun os started H enc _ => lifted os started H enc)

theorem proved : Rows.FnFlowsSaid := over
#print axioms proved
end Go.Proofs.Ytcankpiidjhhpaa.fnFlows
