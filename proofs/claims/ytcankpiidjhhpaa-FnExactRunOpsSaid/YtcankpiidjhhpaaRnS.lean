/- RunOps of the model. No condition of its own. -/
import Derived.Test.YtcankpiidjhhpaaRgn
import Derived.Test.YtcankpiidjhhpaaRnI
import Derived.Test.YtcankpiidjhhpaaMcSe
import Derived.Test.YtcankpiidjhhpaaCgS
import Derived.Deep.RegionHeld3
import Derived.Deep.LoopGhost
import Derived.Deep.DeepCutAuto
namespace Go.Proofs.Ytcankpiidjhhpaa
open Go Go.ChangeShapes Go.WideShapes Go.ChangeAt Go.RowKit Go.Lib
set_option linter.unusedVariables false
set_option linter.unusedSimpArgs false
set_option maxRecDepth 100000
theorem sent_step {x : TOp} {v b : List Int} (ho : mOp x = true) (hb : b.length = 6 ∧ ∀ z ∈ b, mIsLabel z = true) : mIsLabel (mSs x v b).f2 = true ∧ mSd x v b = if (x.f0 == 5) = true then [mSs x v b] else [] := by
 unfold mSs mSd
 by_cases h5 : x.f0 = 5
 ·
  rw [if_pos h5, if_pos h5, if_pos (by simp [h5])]
  exact ⟨gI_in (P := fun z => mIsLabel z = true) hb (mOp_12 ho (.inr h5)).1, rfl⟩
 ·
  rw [if_neg h5, if_neg h5, if_neg (by simp [h5])]
  exact ⟨by decide, rfl⟩
theorem own_chgN {w w' : World} {base lo hi size n : Nat} {e : TypeId} {v : Value} {xs : List Value} (h : w.ownsRow base e size v n xs) (hc : Chg lo hi w w') (hb : hi ≤ base) : w'.ownsRow base e size v n xs := by
 refine ⟨h.1, ?_⟩
 rcases h.2 with hn | ⟨g, cap, cur, hv, hg, hh, rest⟩
 ·
  exact .inl hn
 ·
  exact .inr ⟨g, cap, cur, hv, hg, by rw [hc.block g (Array.getElem?_eq_some_iff.1 hh).1 (by omega)]; exact hh, rest⟩
set_option maxHeartbeats 16000000 in
theorem spec_RunOps (l : List TOp) (A : Option Addr) (n c lo hi : Nat) (l1 : List Int) (A1 : Option Addr) (n1 c1 lo1 hi1 : Nat) (l2 : List TFlow) (A2 : Option Addr) (n2 c2 lo2 hi2 : Nat) (ext : Int) (w : World) (hn : n ≤ 1048576) (hr : Rd w lo hi 4 A n (cOp l)) (hcap : n ≤ c) (H : Hid (cOpOk l)) (hn1 : n1 ≤ 1048576) (hr1 : Rd w lo1 hi1 1 A1 n1 (i64s l1)) (hcap1 : n1 ≤ c1) (H1 : Hid (I64s l1)) (hn2 : n2 ≤ 1048576) (hr2 : Rd w lo2 hi2 3 A2 n2 (cFlow l2)) (hcap2 : n2 ≤ c2) (H2 : Hid (cFlowOk l2)) (we : (Lit.int .i64 ext).wf = true) :
    Calls Try.prog 28 #[.slice A n c, .slice A1 n1 c1, .slice A2 n2 c2, .int .i64 ext] w (Makes 47 3 (mRunO l l1 l2 ext).length (cSent (mRunO l l1 l2 ext)) w) := by
  have HL := Lib.hid (rd_len TOp.len hr (by decide))
  have HR := Lib.hid hr
  have HR1 := Lib.hid (hr1.old (by decide))
  have CA := Lib.hid (fun W (hb : Below w.heap.size w W) => spec_AreOps l A n c lo hi W hn (HR.out.new hb) hcap H)
  have CM := Lib.hid (fun (x t : Int) W (hb : Below w.heap.size w W) => spec_MayFlow l2 A2 n2 c2 lo2 hi2 ext x t W hn2 (hr2.new hb) H2)
  obtain ⟨Q, HQ⟩ : ∃ Q, Hid (mRunO l l1 l2 ext = Q) := ⟨_, Lib.hid rfl⟩
  rw [HQ.out]
  clear hr hr1 hr2
  go_enter Try.func28, Try.ntmps28
  go_wp2_with fail
  refine (spec_zeros _).mono ?_
  rintro e w2 ⟨gv, cv, rfl, hgv, hv, hb⟩
  have HV2 := Lib.hid hv
  have HB2 := Lib.hid (below_trans ((Below.refl w.heap.size w).alloc (Nat.le_refl _) (.cells #[] 47)) hb (by simp))
  have hvl := hv.lt
  have hgv2 : w.heap.size + 1 ≤ gv := by simpa using hgv
  clear hv hb hgv
  go_wp2_with fail
  refine (spec_zeros _).mono ?_
  rintro e w3 ⟨gb, cb, rfl, hgb, hv, hb⟩
  have HV3 := Lib.hid (HV2.out.new hb)
  have HG3 := Lib.hid hv
  have HB3 := Lib.hid (below_trans HB2.out hb (Nat.le_refl _))
  have hgg : gv < gb := by omega
  have hwv : w.heap.size ≤ gv := by omega
  clear hv hb HB2 HV2
  have HO3 := Lib.hid (show OwnZ w3 (gb + 1) 47 3 (.slice (some ⟨w.heap.size, 0, none⟩) 0 0) (mRnF l2 ext (mMc l1 (l.take 0)).s).length (cSent (mRnF l2 ext (mMc l1 (l.take 0)).s)) from .inr ⟨rfl, rfl, _, rfl⟩)
  go_wp2_with fail
  cases hA : mAreOps l with
  | false =>
    have hQ : Q = [] := by rw [← HQ.out]; unfold mRunO; rw [hA]; rfl
    subst hQ
    rw [hA] at CA
    have hn0 : 0 < n := by
      rcases Nat.eq_zero_or_pos n with h0 | h0
      · have : l = [] := List.eq_nil_of_length_eq_zero (by rw [HL.out]; exact h0)
        subst this
        cases hA
      · exact h0
    clear hA HO3
    go_loopg [9, 12] 0 (fun gg v i wr => v = .slice (some ⟨w.heap.size, 0, none⟩) 0 0 ∧ i = .int .i64 0 ∧ Hid (Below w.heap.size w wr))
    case atStart => exact ⟨rfl, rfl, HB3⟩
    case round =>
      obtain ⟨rfl, rfl, HB⟩ := hrel
      have hd : decide ((0 : Int) < (n : Int)) = true := by simp; omega
      go_wp2_with fail
      refine (CA.out _ HB.out).mono ?_
      rintro e w4 ⟨rfl, hb4⟩
      have HB4 := Lib.hid (below_trans HB.out hb4 (Nat.le_refl _))
      clear hb4
      go_wp2_with fail
      go_ret
      exact ⟨_, _, rfl, ⟨by simp, fun h => absurd h (by simp)⟩, HB4.out⟩
  | true =>
    have HO := Lib.hid (show l.all mOp = true by simp only [mAreOps, Bool.and_eq_true] at hA; exact hA.2)
    have HQm := Lib.hid (show mRnF l2 ext (mMc l1 l).s = Q by rw [← HQ.out]; unfold mRunO; rw [hA]; rfl)
    have HQ16 := Lib.hid (mRunO_len l l1 l2 ext)
    rw [hA] at CA
    clear hA
    go_loopg [9, 12] n (fun gg v i wr => ∃ (k : Nat) (O : List TSent), k ≤ n ∧ n - k ≤ gg ∧ i = .int .i64 k ∧ Hid (IRow wr gv cv (mMc l1 (l.take k)).v) ∧ Hid (IRow wr gb cb (mMc l1 (l.take k)).b) ∧ Hid (mRnF l2 ext (mMc l1 (l.take k)).s = O) ∧ Hid (OwnZ wr (gb + 1) 47 3 v O.length (cSent O)) ∧ Hid (Below w.heap.size w wr))
    case atStart => exact ⟨0, _, Nat.zero_le _, by omega, rfl, HV3, HG3, Lib.hid rfl, HO3, HB3⟩
    case round =>
      obtain ⟨k0, O0, hk0, hg0, rfl, HV, HG, HM, HOz, HB⟩ := hrel
      by_cases hlt : k0 < n
      · obtain ⟨b, off, x, rfl, hlo, hhi2, hz, hc⟩ := rd_elem TOp.len (HR.out.new HB.out) HL.out hlt
        have hop : mOp x = true := List.all_eq_true.1 HO.out x (List.mem_of_getElem? hz)
        have HY := Lib.hid (mMc_take (vals := l1) hz)
        have HXok := mMc_ok (vals := l1) HO.out k0
        have HXs := mRnF_len l2 ext (mMc l1 (l.take k0)).s
        have HXt := mcs_len l1 (l.take k0)
        rw [List.length_take] at HXt
        rw [HM.out] at HXs
        have HO0 := Lib.hid (show O0.length ≤ 10000000 by omega)
        clear HXs HXt
        obtain ⟨Y, HT0⟩ : ∃ Y, Hid (mMc l1 (l.take (k0 + 1)) = Y) := ⟨_, Lib.hid rfl⟩
        replace HY := Lib.hid (HT0.out.symm.trans HY.out)
        generalize mMc l1 (l.take k0) = X at HV HG HY HXok HM
        have z0 : wr.cell? ⟨b, off + k0 * 4, none⟩ = some (.int .i64 x.f0) := hc 0 _ rfl
        have z1 : wr.cell? ⟨b, off + k0 * 4 + 1, none⟩ = some (.int .i64 x.f1) := hc 1 _ rfl
        have z2 : wr.cell? ⟨b, off + k0 * 4 + 2, none⟩ = some (.int .i64 x.f2) := hc 2 _ rfl
        have z3 : wr.cell? ⟨b, off + k0 * 4 + 3, none⟩ = some (.int .i64 x.f3) := hc 3 _ rfl
        have CS := Lib.hid (fun W (hb : Below w.heap.size w W) (h1 : IRow W gv cv X.v) (h2 : IRow W gb cb X.b) => spec_step x l1 A1 n1 c1 0 w.heap.size gv cv gb cb X.v X.b W hn1 (HR1.out.new hb) hwv hop HXok.1 HXok.2 h1 h2 hgg)
        obtain ⟨hsl, hsd⟩ := sent_step (v := X.v) hop HXok.2
        have HYs := Lib.hid (show mRnF l2 ext Y.s = if (x.f0 == 5) = true then (if mayS l2 ext (mSs x X.v X.b) = true then O0 ++ [mSs x X.v X.b] else O0) else O0 by
          rw [HY.out]
          show mRnF l2 ext (X.s ++ mSd x X.v X.b) = _
          rw [hsd]
          by_cases h5 : (x.f0 == 5) = true
          · rw [if_pos h5, if_pos h5, mRnF_snoc, HM.out]
          · rw [if_neg h5, if_neg h5, List.append_nil, HM.out])
        generalize mSs x X.v X.b = s at CS hsl HYs
        obtain ⟨ok, hok⟩ : ∃ ok, Hid ((x.f0 == 5) = ok) := ⟨_, Lib.hid rfl⟩
        rw [hok.out] at CS HYs
        have hgl := HV.out.lt
        have hgl2 := HG.out.lt
        have hsw := HB.out.size
        clear hz hc hlo hhi2 hop HXok hsd hok hsl
        go_wp2_with fail
        refine (CA.out _ HB.out).mono ?_
        rintro e wz ⟨rfl, hbz⟩
        have HVz := Lib.hid (HV.out.new hbz)
        have HGz := Lib.hid (HG.out.new hbz)
        have HOzz := Lib.hid (show OwnZ wz (gb + 1) 47 3 u9 O0.length (cSent O0) from HOz.out.imp (fun h => own_newer h hbz) id)
        have HBz := Lib.hid (below_trans HB.out hbz (Nat.le_refl _))
        have d0 := cell_nw hbz z0
        have d1 := cell_nw hbz z1
        have d2 := cell_nw hbz z2
        have d3 := cell_nw hbz z3
        have hsz := hbz.size
        clear hbz z0 z1 z2 z3 HV HG HOz HB
        go_wp2_with fail
        refine (CS.out _ HBz.out HVz.out HGz.out).mono ?_
        rintro e w4 ⟨rfl, hv, hg4, hc4⟩
        have HV4 := Lib.hid hv
        have HG4 := Lib.hid hg4
        have HB4 := Lib.hid (HBz.out.trans (hc4.below (.inl hwv) (by omega)))
        have HO4 := Lib.hid (show OwnZ w4 (gb + 1) 47 3 u9 O0.length (cSent O0) from HOzz.out.imp (fun h => own_chgN h hc4 (Nat.le_refl _)) id)
        have hs4 := hc4.size
        have HBA := Lib.hid ((Below.refl w4.heap.size w4).alloc (Nat.le_refl _) (.cells #[.int .i64 s.f0, .int .i64 s.f1, .int .i64 s.f2] 47))
        have KS := Lib.hid (box_new w4 47 #[.int .i64 s.f0, .int .i64 s.f1, .int .i64 s.f2])
        clear hv hg4 hc4 CS HVz HGz HBz HOzz d0 d1 d2 d3
        have hs4b : gb < w4.heap.size := HG4.out.lt
        have HVa := Lib.hid (HV4.out.new HBA.out)
        have HGa := Lib.hid (HG4.out.new HBA.out)
        have HOa := Lib.hid (show OwnZ (w4.alloc (.cells #[.int .i64 s.f0, .int .i64 s.f1, .int .i64 s.f2] 47)) (gb + 1) 47 3 u9 O0.length (cSent O0) from HO4.out.imp (fun h => own_newer h HBA.out) id)
        have HBa := Lib.hid (below_trans HB4.out HBA.out (by omega))
        clear HV4 HG4 HO4 HB4 HBA
        cases ok with
        | false =>
          have HE := Lib.hid (show mRnF l2 ext Y.s = O0 from HYs.out)
          go_wp2_with fail
          go_roundg (n - (k0 + 1))
          case measure => omega
          case rel => exact ⟨k0 + 1, O0, by omega, by omega, by go_num, by rw [HT0.out, HY.out]; exact HVa, by rw [HT0.out, HY.out]; exact HGa, by rw [HT0.out]; exact HE, HOa, HBa⟩
        | true =>
          have HYt := Lib.hid (show mRnF l2 ext Y.s = if mayS l2 ext s = true then O0 ++ [s] else O0 from HYs.out)
          clear HYs
          obtain ⟨r, hr⟩ : ∃ r, mMayF l2 ext s.f2 s.f0 = r := ⟨_, rfl⟩
          have HMR : Hid (mayS l2 ext s = r) := Lib.hid hr
          have CM2 := Lib.hid (fun W (hb : Below w.heap.size w W) => hr ▸ CM.out s.f2 s.f0 W hb : ∀ W, Below w.heap.size w W → Calls Try.prog 10 #[.slice A2 n2 c2, .int .i64 ext, .int .i64 s.f2, .int .i64 s.f0] W (Says (.bool r) W))
          clear hr
          go_wp2_with fail
          refine (CM2.out _ HBa.out).mono ?_
          rintro e w5 ⟨rfl, hb5⟩
          have HV5 := Lib.hid (HVa.out.new hb5)
          have HG5 := Lib.hid (HGa.out.new hb5)
          have HO5 := Lib.hid (show OwnZ w5 (gb + 1) 47 3 u9 O0.length (cSent O0) from HOa.out.imp (fun h => own_newer h hb5) id)
          have HB5 := Lib.hid (below_trans HBa.out hb5 (Nat.le_refl _))
          have KS5 := Lib.hid (KS.out.new hb5)
          have hs5 := hb5.size
          have hs6 : w4.heap.size < w5.heap.size := KS5.out.lt
          clear hb5 HVa HGa HOa HBa KS CM2
          cases r with
          | false =>
            have HE := Lib.hid (show mRnF l2 ext Y.s = O0 by rw [HYt.out, if_neg (by rw [HMR.out]; decide)])
            go_wp2_with fail
            go_roundg (n - (k0 + 1))
            case measure => omega
            case rel => exact ⟨k0 + 1, O0, by omega, by omega, by go_num, by rw [HT0.out, HY.out]; exact HV5, by rw [HT0.out, HY.out]; exact HG5, by rw [HT0.out]; exact HE, HO5, HB5⟩
          | true =>
            have HE := Lib.hid (show mRnF l2 ext Y.s = O0 ++ [s] by rw [HYt.out, if_pos HMR.out])
            have k0_ := KS5.out.at_ (j := 0) (u := .int .i64 s.f0) rfl
            have k1_ := KS5.out.at_ (j := 1) (u := .int .i64 s.f1) rfl
            have k2_ := KS5.out.at_ (j := 2) (u := .int .i64 s.f2) rfl
            have hgl5 := HV5.out.lt
            have hgl6 := HG5.out.lt
            go_wp2_with (at_builtin; refine wp_appz_litT rfl _ _ _ rfl (gb + 1) 47 (.agg #[.int .i64 0, .int .i64 0, .int .i64 0]) 3 24 Try.underlying41 info_sent rfl (by decide) _ _ _ rfl HO5.out #[.int .i64 s.f0, .int .i64 s.f1, .int .i64 s.f2] 1 1 _ rfl (by simp) rfl (one_sent _ _ _) (by have := HO0.out; unfold maxLen; omega) (by have := HO0.out; omega) (by omega) ?_; intro v1 w6 ho1 hb1 hct; have HO6 := Lib.hid (show OwnZ w6 (gb + 1) 47 3 v1 (O0 ++ [s]).length (cSent (O0 ++ [s])) by have := ho1; simpa [cSent, TSent.cells] using this); have HB6 := Lib.hid hb1; clear ho1 hb1 hct k0_ k1_ k2_)
            go_roundg (n - (k0 + 1))
            case measure => omega
            case rel => exact ⟨k0 + 1, O0 ++ [s], by omega, by omega, by go_num, by rw [HT0.out, HY.out]; exact Lib.hid (HV5.out.keep (HB6.out.block gv (by omega))), by rw [HT0.out, HY.out]; exact Lib.hid (HG5.out.keep (HB6.out.block gb (by omega))), by rw [HT0.out]; exact HE, HO6, Lib.hid (HB5.out.trans (HB6.out.mono (by omega)))⟩
      · obtain rfl : k0 = n := by omega
        have hfin : decide ((k0 : Int) < (k0 : Int)) = false := by simp
        have hfin2 : ¬ ((k0 : Int) < (k0 : Int)) := by omega
        have hOQ : O0 = Q := by rw [← HM.out, ← HQm.out, ← HL.out, List.take_length]
        subst hOQ
        obtain ⟨A3, c3, rfl, hF⟩ := fr_of_ownz HOz.out
        have HF := Lib.hid (hF.mono (show w.heap.size ≤ gb + 1 by omega) (Nat.le_refl _))
        clear hF
        go_wp2_with fail
        go_ret
        exact ⟨_, _, rfl, HF.out, HB.out⟩
end Go.Proofs.Ytcankpiidjhhpaa
