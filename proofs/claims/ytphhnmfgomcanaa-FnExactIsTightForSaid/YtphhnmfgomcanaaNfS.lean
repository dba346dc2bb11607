/- NeedsFlows of the model. No condition of its own. -/
import Derived.Test.YtphhnmfgomcanaaNfI
import Derived.Test.YtphhnmfgomcanaaMcSe
import Derived.Deep.RegionHeld3
import Derived.Deep.LoopGhost
import Derived.Deep.DeepCutAuto
namespace Go.Proofs.Ytphhnmfgomcanaa
open Go Go.ChangeShapes Go.WideShapes Go.ChangeAt Go.RowKit Go.Lib
set_option linter.unusedVariables false
set_option linter.unusedSimpArgs false
set_option maxRecDepth 100000

theorem sent_step {x : TOp} {v b : List Int} (ho : mOp x = true) (hb : b.length = 6 ∧ ∀ z ∈ b, mIsLabel z = true) : mIsLabel (mSs x v b).f2 = true ∧ mSd x v b = if (x.f0 == 5) = true then [mSs x v b] else [] := by
  unfold mSs mSd
  by_cases h5 : x.f0 = 5
  · rw [if_pos h5, if_pos h5, if_pos (by simp [h5])]
    exact ⟨gI_in (P := fun z => mIsLabel z = true) hb (mOp_12 ho (.inr h5)).1, rfl⟩
  · rw [if_neg h5, if_neg h5, if_neg (by simp [h5])]
    exact ⟨by decide, rfl⟩
theorem own_chgN {w w' : World} {base lo hi size n : Nat} {e : TypeId} {v : Value} {xs : List Value} (h : w.ownsRow base e size v n xs) (hc : Chg lo hi w w') (hb : hi ≤ base) : w'.ownsRow base e size v n xs := by
  refine ⟨h.1, ?_⟩
  rcases h.2 with hn | ⟨g, cap, cur, hv, hg, hh, rest⟩
  · exact .inl hn
  · exact .inr ⟨g, cap, cur, hv, hg, by rw [hc.block g (Array.getElem?_eq_some_iff.1 hh).1 (by omega)]; exact hh, rest⟩
theorem addS_eq (ext : Int) (out : List TFlow) (s : TSent) : addS ext out s = (mOwn s.f2).foldl (addF ext s.f0) out := rfl
theorem irow_T {w w' : World} {g c q base : Nat} {E : TypeId} {l : List Int} (h : IRow w g c l) (hc : ChgT q base E w w') (hq : g ≠ q) (hg : g < base) : IRow w' g c l := h.keep (hc.block g h.lt hq (.inl hg))
theorem rd_of_holdv {w : World} {base n : Nat} {v : Value} {xs : List Value} (h : OwnZ w base 69 3 v n xs) : ∃ A c, v = .slice A n c ∧ Rd w base w.heap.size 3 A n xs := by
  obtain ⟨A', c', e, hF⟩ := fr_of_ownz h
  exact ⟨A', c', e, hF.rd⟩
set_option maxHeartbeats 16000000 in
theorem spec_NeedsFlows (l : List TOp) (A : Option Addr) (n c lo hi : Nat) (ext : Int) (w : World) (hn : n ≤ 1048576) (hr : Rd w lo hi 4 A n (cOp l)) (hcap : n ≤ c) (H : Hid (cOpOk l)) (we : (Lit.int .i64 ext).wf = true) :
    Calls Try.prog 16 #[.slice A n c, .int .i64 ext] w (Makes 69 3 (mNeed l ext).length (cFlow (mNeed l ext)) w) := by
  have HL := Lib.hid (rd_len TOp.len hr (by decide))
  have HR := Lib.hid hr
  have CA := Lib.hid (fun W (hb : Below w.heap.size w W) => spec_AreOps l A n c lo hi W hn (HR.out.new hb) hcap H)
  obtain ⟨Q, HQ⟩ : ∃ Q, Hid (mNeed l ext = Q) := ⟨_, Lib.hid rfl⟩
  rw [HQ.out]
  clear hr
  go_enter Try.func16, Try.ntmps16
  go_wp2_with fail
  refine (spec_zeros _).mono ?_
  rintro e w2 ⟨gv, cv, rfl, hgv, hv, hb⟩
  have HV2 := Lib.hid hv
  have HB2 := Lib.hid (below_trans ((Below.refl w.heap.size w).alloc (Nat.le_refl _) (.cells #[] 69)) hb (by simp))
  have hvl := hv.lt
  have hgv2 : w.heap.size + 1 ≤ gv := by simpa using hgv
  clear hv hb hgv
  go_wp2_with fail
  refine (spec_zeros _).mono ?_
  rintro e w3 ⟨gb, cb, rfl, hgb, hv, hb⟩
  have HV3 := Lib.hid (HV2.out.new hb)
  have HG3 := Lib.hid hv
  have HB3 := Lib.hid (below_trans HB2.out hb (Nat.le_refl _))
  have hgg : gv < gb := by omega
  have hwv : w.heap.size ≤ gv := by omega
  clear hv hb HB2 HV2
  have HO3 := Lib.hid (show OwnZ w3 (gb + 1) 69 3 (.slice (some ⟨w.heap.size, 0, none⟩) 0 0) (mNd ext (mMc [] (l.take 0)).s).length (cFlow (mNd ext (mMc [] (l.take 0)).s)) from .inr ⟨rfl, rfl, _, rfl⟩)
  go_wp2_with fail
  cases hA : mAreOps l with
  | false =>
    have hQ : Q = [] := by rw [← HQ.out]; unfold mNeed; rw [hA]; rfl
    subst hQ
    rw [hA] at CA
    have hn0 : 0 < n := by
      rcases Nat.eq_zero_or_pos n with h0 | h0
      · have : l = [] := List.eq_nil_of_length_eq_zero (by rw [HL.out]; exact h0)
        subst this
        cases hA
      · exact h0
    clear hA HO3
    go_loopg [5, 8] 0 (fun gg v i wr => v = .slice (some ⟨w.heap.size, 0, none⟩) 0 0 ∧ i = .int .i64 0 ∧ Hid (Below w.heap.size w wr))
    case atStart => exact ⟨rfl, rfl, HB3⟩
    case round =>
      obtain ⟨rfl, rfl, HB⟩ := hrel
      have hd : decide ((0 : Int) < (n : Int)) = true := by simp; omega
      go_wp2_with fail
      refine (CA.out _ HB.out).mono ?_
      rintro e w4 ⟨rfl, hb4⟩
      have HB4 := Lib.hid (below_trans HB.out hb4 (Nat.le_refl _))
      clear hb4
      go_wp2_with fail
      go_ret
      exact ⟨_, _, rfl, ⟨by simp, fun h => absurd h (by simp)⟩, HB4.out⟩
  | true =>
    have HO := Lib.hid (show l.all mOp = true by simp only [mAreOps, Bool.and_eq_true] at hA; exact hA.2)
    have HQm := Lib.hid (show mNd ext (mMc [] l).s = Q by rw [← HQ.out]; unfold mNeed; rw [hA]; rfl)
    have HQ144 := Lib.hid (mNeed_len l ext)
    rw [hA] at CA
    clear hA
    go_loopg [5, 8] n (fun gg v i wr => ∃ (k : Nat) (O : List TFlow), k ≤ n ∧ n - k ≤ gg ∧ i = .int .i64 k ∧ Hid (IRow wr gv cv (mMc [] (l.take k)).v) ∧ Hid (IRow wr gb cb (mMc [] (l.take k)).b) ∧ Hid (mNd ext (mMc [] (l.take k)).s = O) ∧ Hid (OwnZ wr (gb + 1) 69 3 v O.length (cFlow O)) ∧ Hid (Below w.heap.size w wr))
    case atStart => exact ⟨0, _, Nat.zero_le _, by omega, rfl, HV3, HG3, Lib.hid rfl, HO3, HB3⟩
    case round =>
      obtain ⟨k0, O0, hk0, hg0, rfl, HV, HG, HM, HOz, HB⟩ := hrel
      by_cases hlt : k0 < n
      · obtain ⟨b, off, x, rfl, hlo, hhi2, hz, hc⟩ := rd_elem TOp.len (HR.out.new HB.out) HL.out hlt
        have hop : mOp x = true := List.all_eq_true.1 HO.out x (List.mem_of_getElem? hz)
        have HY := Lib.hid (mMc_take (vals := []) hz)
        have HXok := mMc_ok (vals := []) HO.out k0
        have HXs := mNd_len ext (mMc [] (l.take k0)).s
        have HXt := mSent_le (vals := []) (l.take k0)
        rw [List.length_take] at HXt
        rw [HM.out] at HXs
        have HO0 := Lib.hid (show O0.length ≤ 10000000 by omega)
        clear HXs HXt
        obtain ⟨Y, HT0⟩ : ∃ Y, Hid (mMc [] (l.take (k0 + 1)) = Y) := ⟨_, Lib.hid rfl⟩
        replace HY := Lib.hid (HT0.out.symm.trans HY.out)
        generalize mMc [] (l.take k0) = X at HV HG HY HXok HM
        have c0 : wr.cell? ⟨b, off + k0 * 4, none⟩ = some (.int .i64 x.f0) := hc 0 _ rfl
        have c1 : wr.cell? ⟨b, off + k0 * 4 + 1, none⟩ = some (.int .i64 x.f1) := hc 1 _ rfl
        have c2 : wr.cell? ⟨b, off + k0 * 4 + 2, none⟩ = some (.int .i64 x.f2) := hc 2 _ rfl
        have c3 : wr.cell? ⟨b, off + k0 * 4 + 3, none⟩ = some (.int .i64 x.f3) := hc 3 _ rfl
        have CS := Lib.hid (fun W (AV : Option Addr) (cV : Nat) (h1 : IRow W gv cv X.v) (h2 : IRow W gb cb X.b) => spec_step x [] AV 0 cV 0 0 gv cv gb cb X.v X.b W (by decide) (by simpa [i64s] using (Rd.empty (w := W) (lo := 0) (hi := 0) (size := 1) (A := AV))) (Nat.zero_le _) hop HXok.1 HXok.2 h1 h2 hgg)
        obtain ⟨hsl, hsd⟩ := sent_step (v := X.v) hop HXok.2
        have HYs := Lib.hid (show mNd ext Y.s = if (x.f0 == 5) = true then addS ext O0 (mSs x X.v X.b) else O0 by
          rw [HY.out]
          show mNd ext (X.s ++ mSd x X.v X.b) = _
          rw [hsd]
          split
          · rw [mNd_snoc, HM.out]
          · rw [List.append_nil, HM.out])
        generalize mSs x X.v X.b = s at CS hsl HYs
        obtain ⟨ok, hok⟩ : ∃ ok, Hid ((x.f0 == 5) = ok) := ⟨_, Lib.hid rfl⟩
        rw [hok.out] at CS HYs
        have hgl := HV.out.lt
        have hgl2 := HG.out.lt
        have hsw := HB.out.size
        clear hz hc hlo hhi2 hop HXok hsd hok
        go_wp2_with fail
        refine (CA.out _ HB.out).mono ?_
        rintro e wz ⟨rfl, hbz⟩
        have HVz := Lib.hid (HV.out.new hbz)
        have HGz := Lib.hid (HG.out.new hbz)
        have HOzz := Lib.hid (show OwnZ wz (gb + 1) 69 3 u5 O0.length (cFlow O0) from HOz.out.imp (fun h => own_newer h hbz) id)
        have HBz := Lib.hid (below_trans HB.out hbz (Nat.le_refl _))
        have d0 := cell_nw hbz c0
        have d1 := cell_nw hbz c1
        have d2 := cell_nw hbz c2
        have d3 := cell_nw hbz c3
        have hsz := hbz.size
        clear hbz c0 c1 c2 c3 HV HG HOz HB
        go_wp2_with fail
        refine (CS.out _ _ _ (HVz.out.alloc _) (HGz.out.alloc _)).mono ?_
        rintro e w4 ⟨rfl, hv, hg4, hc4⟩
        have HV4 := Lib.hid hv
        have HG4 := Lib.hid hg4
        have HB4 := Lib.hid ((HBz.out.alloc (by omega) _).trans (hc4.below (.inl hwv) (by simp; omega)))
        have HO4 := Lib.hid (show OwnZ w4 (gb + 1) 69 3 u5 O0.length (cFlow O0) from (HOzz.out.alloc (.cells #[] 3)).imp (fun h => own_chgN h hc4 (Nat.le_refl _)) id)
        have hs4 := hc4.size
        have KS := Lib.hid (box_new w4 53 #[.int .i64 s.f0, .int .i64 s.f1, .int .i64 s.f2])
        have CO := Lib.hid (fun W => spec_OwnersIn s.f2 W (lab_wf hsl))
        have HJ := Lib.hid (mOwn_len s.f2)
        have HAS := Lib.hid (show addS ext O0 s = (mOwn s.f2).foldl (addF ext s.f0) O0 from rfl)
        rw [HAS.out] at HYs
        replace HYs := Lib.hid HYs
        generalize mOwn s.f2 = J at CO HJ HYs
        clear hv hg4 hc4 CS HVz HGz HBz HOzz d0 d1 d2 d3 HAS
        have hs5 : (w4.alloc (.cells #[.int .i64 s.f0, .int .i64 s.f1, .int .i64 s.f2] 53)).heap.size = w4.heap.size + 1 := by simp
        have hs4b : gb < w4.heap.size := HG4.out.lt
        go_wp2_with fail
        refine (CO.out _).mono ?_
        rintro e wa ⟨AJ, cJ, rfl, hFJ, hba⟩
        have HBa := Lib.hid (below_trans ((Below.refl w4.heap.size w4).alloc (Nat.le_refl _) (.cells #[.int .i64 s.f0, .int .i64 s.f1, .int .i64 s.f2] 53)) hba (by simp))
        have HFJ := Lib.hid (hFJ.mono (show w4.heap.size ≤ _ by simp) (Nat.le_refl _))
        have HVa := Lib.hid (HV4.out.new HBa.out)
        have HGa := Lib.hid (HG4.out.new HBa.out)
        have HOa := Lib.hid (show OwnZ wa (gb + 1) 69 3 u5 O0.length (cFlow O0) from HO4.out.imp (fun h => own_newer h HBa.out) id)
        have HBwa := Lib.hid (below_trans HB4.out HBa.out (by omega))
        have KSa := Lib.hid (KS.out.new hba)
        have hsa := HBa.out.size
        have hgsl := KSa.out.lt
        clear hFJ hba KS HV4 HG4 HO4 HB4
        have HC0 := Lib.hid (chgT_new (q := wa.heap.size) (base := gb + 1) (E := 69) (Below.refl wa.heap.size wa))
        cases ok with
        | false =>
          have HE := Lib.hid (show mNd ext Y.s = O0 from HYs.out)
          go_wp2_with fail
          go_loopg [5, 12] 0 (fun gg v2 i wr2 => v2 = u5 ∧ i = .int .i64 0 ∧ wr2 = wa)
          case atStart => exact ⟨rfl, rfl, rfl⟩
          case round =>
            obtain ⟨rfl, rfl, rfl⟩ := hrel
            go_wp2_with fail
            all_goals (
              go_roundg (n - (k0 + 1))
              case measure => omega
              case rel => exact ⟨k0 + 1, O0, by omega, by omega, by go_num, by rw [HT0.out, HY.out]; exact HVa, by rw [HT0.out, HY.out]; exact HGa, by rw [HT0.out]; exact HE, HOa, HBwa⟩)
        | true =>
          have HYt := Lib.hid (show mNd ext Y.s = J.foldl (addF ext s.f0) O0 from HYs.out)
          clear HYs
          go_wp2_with fail
          go_loopg [5, 12] J.length (fun gg v2 i wr2 => ∃ (k : Nat) (O : List TFlow), k ≤ J.length ∧ J.length - k ≤ gg ∧ i = .int .i64 k ∧ Hid ((J.take k).foldl (addF ext s.f0) O0 = O) ∧ Hid (OwnZ wr2 (gb + 1) 69 3 v2 O.length (cFlow O)) ∧ Hid (ChgT wa.heap.size (gb + 1) 69 wa wr2))
          case atStart => exact ⟨0, O0, Nat.zero_le _, by omega, rfl, Lib.hid rfl, HOa, HC0⟩
          case round =>
            obtain ⟨k, O, hk, hg, rfl, HT2o, HO2, HC⟩ := hrel
            rename World => wr2
            have hJ9 : J.length ≤ 9 := HJ.out
            have hsr := HC.out.size
            by_cases hlt2 : k < J.length
            · obtain ⟨bj, offj, xk, hAj, hloj, hhij, hzj, hcj⟩ := rd_int (fr_T HFJ.out HC.out (by decide) (.inr (Nat.le_refl _))).rd hlt2
              subst hAj
              have HT := Lib.hid (fold_take (f := addF ext s.f0) hzj O0)
              have HLo := Lib.hid (show O.length ≤ 10000009 by have h1 := addF_folds ext s.f0 (J.take k) O0; rw [List.length_take] at h1; rw [← HT2o.out]; have := HO0.out; omega)
              obtain ⟨O2, HT2⟩ : ∃ O2, Hid ((J.take (k + 1)).foldl (addF ext s.f0) O0 = O2) := ⟨_, Lib.hid rfl⟩
              replace HT := Lib.hid (HT2.out.symm.trans HT.out)
              rw [HT2o.out] at HT
              replace HT := Lib.hid HT.out
              have cx : wr2.cell? ⟨bj, offj + k, none⟩ = some (.int .i64 xk) := hcj
              have KS := Lib.hid (HC.out.box KSa.out (by omega) (by decide))
              obtain ⟨Ao, co, hvv, hR0⟩ := rd_of_holdv HO2.out
              subst hvv
              have HR0 := Lib.hid hR0
              have hki2 : (k : Int) < (J.length : Int) := by omega
              clear hR0 hzj hcj hloj hhij
              have hd2 : decide ((k : Int) < (J.length : Int)) = true := by simp; omega
              by_cases hne : xk = s.f0
              · have gn : (xk != s.f0) = false := by simp [hne]
                clear hne
                go_wp2_with fail
                refine wp_region_held_drew (S := fun w' => BoxAt w' w4.heap.size 53 #[.int .i64 s.f0, .int .i64 s.f1, .int .i64 s.f2] ∧ Below wr2.heap.size wr2 w') (by kernel_rfl) ?_ (fun hHeld => ?_)
                · exact ⟨KS.out.drw, (Below.refl _ _).drew⟩
                generalize (World.drew _) = x0 at hHeld ⊢
                refine wpAnyH_take (i := 0) (oi := ⟨some 50, _, _, _, _, _⟩) (v := ?_) rfl (by kernel_rfl) (by kernel_rfl) (by kernel_rfl) (fun _ _ _ h => h) (Or.inl ⟨by kernel_rfl, ?_⟩) hHeld ?_
                rotate_left
                focus (intro W hS; have c0_0 := (hS.1).at_ (j := 0) rfl; have c0_1 := (hS.1).at_ (j := 1) rfl; have c0_2 := (hS.1).at_ (j := 2) rfl; have cx' := cell_nw hS.2 cx; clear hS; first | (go_simp; done) | (go_simp; with_reducible rfl))
                try simp only [Act.put, List.setIfInBounds_toArray, List.set_cons_zero, List.set_cons_succ]
                refine wpAnyH_take (i := 1) (oi := ⟨some 51, _, _, _, _, _⟩) (v := ?_) rfl (by kernel_rfl) (by kernel_rfl) (by kernel_rfl) (fun _ _ _ h => h) (Or.inl ⟨by kernel_rfl, ?_⟩) hHeld ?_
                rotate_left
                focus (intro W hS; have c0_0 := (hS.1).at_ (j := 0) rfl; have c0_1 := (hS.1).at_ (j := 1) rfl; have c0_2 := (hS.1).at_ (j := 2) rfl; have cx' := cell_nw hS.2 cx; clear hS; first | (go_simp; done) | (go_simp; with_reducible rfl))
                try simp only [Act.put, List.setIfInBounds_toArray, List.set_cons_zero, List.set_cons_succ]
                refine wpAnyH_take (i := 2) (oi := ⟨some 52, _, _, _, _, _⟩) (v := ?_) rfl (by kernel_rfl) (by kernel_rfl) (by kernel_rfl) (fun _ _ _ h => h) (Or.inl ⟨by kernel_rfl, ?_⟩) hHeld ?_
                rotate_left
                focus (intro W hS; have c0_0 := (hS.1).at_ (j := 0) rfl; have c0_1 := (hS.1).at_ (j := 1) rfl; have c0_2 := (hS.1).at_ (j := 2) rfl; have cx' := cell_nw hS.2 cx; clear hS; first | (go_simp; done) | (go_simp; with_reducible rfl))
                try simp only [Act.put, List.setIfInBounds_toArray, List.set_cons_zero, List.set_cons_succ]
                refine wpAnyH_take (i := 3) (oi := ⟨some 53, _, _, _, _, _⟩) (v := ?_) rfl (by kernel_rfl) (by kernel_rfl) (by kernel_rfl) (fun _ _ _ h => h) (Or.inl ⟨by kernel_rfl, ?_⟩) hHeld ?_
                rotate_left
                focus (intro W hS; have c0_0 := (hS.1).at_ (j := 0) rfl; have c0_1 := (hS.1).at_ (j := 1) rfl; have c0_2 := (hS.1).at_ (j := 2) rfl; have cx' := cell_nw hS.2 cx; clear hS; first | (go_simp; done) | (go_simp; with_reducible rfl))
                try simp only [Act.put, List.setIfInBounds_toArray, List.set_cons_zero, List.set_cons_succ]
                refine wpAnyH_take (i := 4) (oi := ⟨some 54, _, _, _, _, _⟩) (v := ?_) rfl (by kernel_rfl) (by kernel_rfl) (by kernel_rfl) (fun _ _ _ h => h) (Or.inl ⟨by kernel_rfl, ?_⟩) hHeld ?_
                rotate_left
                focus (intro W hS; have c0_0 := (hS.1).at_ (j := 0) rfl; have c0_1 := (hS.1).at_ (j := 1) rfl; have c0_2 := (hS.1).at_ (j := 2) rfl; have cx' := cell_nw hS.2 cx; clear hS; first | (go_simp; done) | (go_simp; with_reducible rfl))
                try simp only [Act.put, List.setIfInBounds_toArray, List.set_cons_zero, List.set_cons_succ]
                refine wpAnyH_take (i := 5) (oi := ⟨some 55, _, _, _, _, _⟩) (v := ?_) rfl (by kernel_rfl) (by kernel_rfl) (by kernel_rfl) (fun _ _ _ h => h) (Or.inl ⟨by kernel_rfl, ?_⟩) hHeld ?_
                rotate_left
                focus (intro W hS; have c0_0 := (hS.1).at_ (j := 0) rfl; have c0_1 := (hS.1).at_ (j := 1) rfl; have c0_2 := (hS.1).at_ (j := 2) rfl; have cx' := cell_nw hS.2 cx; clear hS; first | (go_simp; done) | (go_simp; with_reducible rfl))
                try simp only [Act.put, List.setIfInBounds_toArray, List.set_cons_zero, List.set_cons_succ]
                refine wpAnyH_take (i := 6) (oi := ⟨some 56, _, _, _, _, _⟩) (v := ?_) rfl (by kernel_rfl) (by kernel_rfl) (by kernel_rfl) (fun _ _ _ h => h) (Or.inl ⟨by kernel_rfl, ?_⟩) hHeld ?_
                rotate_left
                focus (intro W hS; have c0_0 := (hS.1).at_ (j := 0) rfl; have c0_1 := (hS.1).at_ (j := 1) rfl; have c0_2 := (hS.1).at_ (j := 2) rfl; have cx' := cell_nw hS.2 cx; clear hS; first | (go_simp; done) | (go_simp; with_reducible rfl))
                try simp only [Act.put, List.setIfInBounds_toArray, List.set_cons_zero, List.set_cons_succ]
                refine wpAnyH_take (i := 7) (oi := ⟨some 57, _, _, _, _, _⟩) (v := ?_) rfl (by kernel_rfl) (by kernel_rfl) (by kernel_rfl) (fun _ _ _ h => h) (Or.inl ⟨by kernel_rfl, ?_⟩) hHeld ?_
                rotate_left
                focus (intro W hS; have c0_0 := (hS.1).at_ (j := 0) rfl; have c0_1 := (hS.1).at_ (j := 1) rfl; have c0_2 := (hS.1).at_ (j := 2) rfl; have cx' := cell_nw hS.2 cx; clear hS; first | (go_simp; done) | (go_simp; with_reducible rfl))
                try simp only [Act.put, List.setIfInBounds_toArray, List.set_cons_zero, List.set_cons_succ]
                refine wpAnyH_ready (rs := [8]) (by kernel_rfl) (by simp) ?_
                refine AllReadyH.cons (o := ⟨some 13, _, _, _, _, _⟩) rfl (fun K hK => ?_) AllReadyH.nil
                go_simp
                have Gf := box_new (x0) 69 #[.int .i64 0, .int .i64 0, .int .i64 0]
                have hb1 := (Below.refl (x0).heap.size (x0)).alloc (Nat.le_refl _) (.cells #[.int .i64 0, .int .i64 0, .int .i64 0] 69)
                have Lf : wr2.heap.size ≤ (x0).heap.size := by have := (hHeld.1).lt; have := (hHeld.2).size; omega
                have M0f : w4.heap.size < (x0).heap.size := (hHeld.1).lt
                generalize (x0).alloc (.cells #[.int .i64 0, .int .i64 0, .int .i64 0] 69) = x1 at hb1 Gf  ⊢
                generalize hg : (x0).heap.size = gf at Gf Lf M0f ⊢
                clear hg
                refine hK.out _ _ ⟨hHeld.1.new hb1, below_trans hHeld.2 hb1 (Nat.le_refl _)⟩ (fun hHeld' => ?_)
                clear hK K hHeld hb1
                have hHeld := hHeld'
                clear hHeld'
                try simp only [Act.put, List.setIfInBounds_toArray, List.set_cons_zero, List.set_cons_succ]
                refine wpAnyH_ready (rs := [9]) (by kernel_rfl) (by simp) ?_
                refine AllReadyH.cons (o := ⟨none, _, _, _, _, _⟩) rfl (fun K hK => ?_) AllReadyH.nil
                rw [if_pos (by rfl)]
                refine wp_store_row 69 _ _ rfl gf #[.int .i64 ext, .int .i64 xk, .int .i64 s.f0] rfl rfl 69 _ Gf (by kernel_rfl) (by kernel_rfl) (by kernel_rfl) ?_
                replace Gf := box_row (cs := #[.int .i64 ext, .int .i64 xk, .int .i64 s.f0]) Gf
                have hc1 := chg_row x1 gf #[.int .i64 ext, .int .i64 xk, .int .i64 s.f0]
                have hHeld2 : BoxAt (World.setRow x1 gf #[.int .i64 ext, .int .i64 xk, .int .i64 s.f0]) w4.heap.size 53 #[.int .i64 s.f0, .int .i64 s.f1, .int .i64 s.f2] ∧ Below wr2.heap.size wr2 (World.setRow x1 gf #[.int .i64 ext, .int .i64 xk, .int .i64 s.f0]) := ⟨hHeld.1.chg hc1 (by omega), below_setRow hHeld.2 (by omega) _⟩
                clear hc1
                generalize World.setRow x1 gf #[.int .i64 ext, .int .i64 xk, .int .i64 s.f0] = x2 at hHeld2 Gf ⊢
                refine hK.out _ _ hHeld2 (fun hHeld' => ?_)
                clear hHeld2
                clear hK K hHeld
                have hHeld := hHeld'
                clear hHeld'
                try simp only [Act.put, List.setIfInBounds_toArray, List.set_cons_zero, List.set_cons_succ]
                refine wpAnyH_done (by kernel_rfl) ?_ _
                have KSf := Lib.hid hHeld.1
                have KFf := Lib.hid Gf
                have hbf := hHeld.2
                have HOf := Lib.hid (show OwnZ _ (gb + 1) 69 3 (.slice Ao O.length co) O.length (cFlow O) from HO2.out.imp (fun h => own_newer h hbf) id)
                have HCf := Lib.hid (chgT_trans HC.out hbf)
                have cxf := cell_nw hbf cx
                have hsf := hbf.size
                have HRf := Lib.hid (HR0.out.new hbf)
                have hgfl := Gf.lt
                clear hHeld Gf hbf cx KS HO2 HC
                rename World => wf
                go_wp2_with fail
                refine wp_region_held_drew (S := fun w' => BoxAt w' w4.heap.size 53 #[.int .i64 s.f0, .int .i64 s.f1, .int .i64 s.f2] ∧ BoxAt w' gf 69 #[.int .i64 ext, .int .i64 xk, .int .i64 s.f0] ∧ Below wf.heap.size wf w') (by kernel_rfl) ?_ (fun hHeld => ?_)
                · exact ⟨KSf.out.drw, KFf.out.drw, (Below.refl _ _).drew⟩
                generalize (World.drew _) = x0 at hHeld ⊢
                refine wpAnyH_take (i := 0) (oi := ⟨some 58, _, _, _, _, _⟩) (v := ?_) rfl (by kernel_rfl) (by kernel_rfl) (by kernel_rfl) (fun _ _ _ h => h) (Or.inl ⟨by kernel_rfl, ?_⟩) hHeld ?_
                rotate_left
                focus (intro W hS; have c0_0 := (hS.1).at_ (j := 0) rfl; have c0_1 := (hS.1).at_ (j := 1) rfl; have c0_2 := (hS.1).at_ (j := 2) rfl; have c1_0 := (hS.2.1).at_ (j := 0) rfl; have c1_1 := (hS.2.1).at_ (j := 1) rfl; have c1_2 := (hS.2.1).at_ (j := 2) rfl; have cx' := cell_nw hS.2.2 cxf; clear hS; first | (go_simp; done) | (go_simp; with_reducible rfl))
                try simp only [Act.put, List.setIfInBounds_toArray, List.set_cons_zero, List.set_cons_succ]
                refine wpAnyH_take (i := 1) (oi := ⟨some 59, _, _, _, _, _⟩) (v := ?_) rfl (by kernel_rfl) (by kernel_rfl) (by kernel_rfl) (fun _ _ _ h => h) (Or.inl ⟨by kernel_rfl, ?_⟩) hHeld ?_
                rotate_left
                focus (intro W hS; have c0_0 := (hS.1).at_ (j := 0) rfl; have c0_1 := (hS.1).at_ (j := 1) rfl; have c0_2 := (hS.1).at_ (j := 2) rfl; have c1_0 := (hS.2.1).at_ (j := 0) rfl; have c1_1 := (hS.2.1).at_ (j := 1) rfl; have c1_2 := (hS.2.1).at_ (j := 2) rfl; have cx' := cell_nw hS.2.2 cxf; clear hS; first | (go_simp; done) | (go_simp; with_reducible rfl))
                try simp only [Act.put, List.setIfInBounds_toArray, List.set_cons_zero, List.set_cons_succ]
                refine wpAnyH_take (i := 2) (oi := ⟨some 60, _, _, _, _, _⟩) (v := ?_) rfl (by kernel_rfl) (by kernel_rfl) (by kernel_rfl) (fun _ _ _ h => h) (Or.inl ⟨by kernel_rfl, ?_⟩) hHeld ?_
                rotate_left
                focus (intro W hS; have c0_0 := (hS.1).at_ (j := 0) rfl; have c0_1 := (hS.1).at_ (j := 1) rfl; have c0_2 := (hS.1).at_ (j := 2) rfl; have c1_0 := (hS.2.1).at_ (j := 0) rfl; have c1_1 := (hS.2.1).at_ (j := 1) rfl; have c1_2 := (hS.2.1).at_ (j := 2) rfl; have cx' := cell_nw hS.2.2 cxf; clear hS; first | (go_simp; done) | (go_simp; with_reducible rfl))
                try simp only [Act.put, List.setIfInBounds_toArray, List.set_cons_zero, List.set_cons_succ]
                refine wpAnyH_take (i := 3) (oi := ⟨some 61, _, _, _, _, _⟩) (v := ?_) rfl (by kernel_rfl) (by kernel_rfl) (by kernel_rfl) (fun _ _ _ h => h) (Or.inl ⟨by kernel_rfl, ?_⟩) hHeld ?_
                rotate_left
                focus (intro W hS; have c0_0 := (hS.1).at_ (j := 0) rfl; have c0_1 := (hS.1).at_ (j := 1) rfl; have c0_2 := (hS.1).at_ (j := 2) rfl; have c1_0 := (hS.2.1).at_ (j := 0) rfl; have c1_1 := (hS.2.1).at_ (j := 1) rfl; have c1_2 := (hS.2.1).at_ (j := 2) rfl; have cx' := cell_nw hS.2.2 cxf; clear hS; first | (go_simp; done) | (go_simp; with_reducible rfl))
                try simp only [Act.put, List.setIfInBounds_toArray, List.set_cons_zero, List.set_cons_succ]
                refine wpAnyH_take (i := 4) (oi := ⟨some 62, _, _, _, _, _⟩) (v := ?_) rfl (by kernel_rfl) (by kernel_rfl) (by kernel_rfl) (fun _ _ _ h => h) (Or.inl ⟨by kernel_rfl, ?_⟩) hHeld ?_
                rotate_left
                focus (intro W hS; have c0_0 := (hS.1).at_ (j := 0) rfl; have c0_1 := (hS.1).at_ (j := 1) rfl; have c0_2 := (hS.1).at_ (j := 2) rfl; have c1_0 := (hS.2.1).at_ (j := 0) rfl; have c1_1 := (hS.2.1).at_ (j := 1) rfl; have c1_2 := (hS.2.1).at_ (j := 2) rfl; have cx' := cell_nw hS.2.2 cxf; clear hS; first | (go_simp; done) | (go_simp; with_reducible rfl))
                try simp only [Act.put, List.setIfInBounds_toArray, List.set_cons_zero, List.set_cons_succ]
                refine wpAnyH_take (i := 5) (oi := ⟨some 63, _, _, _, _, _⟩) (v := ?_) rfl (by kernel_rfl) (by kernel_rfl) (by kernel_rfl) (fun _ _ _ h => h) (Or.inl ⟨by kernel_rfl, ?_⟩) hHeld ?_
                rotate_left
                focus (intro W hS; have c0_0 := (hS.1).at_ (j := 0) rfl; have c0_1 := (hS.1).at_ (j := 1) rfl; have c0_2 := (hS.1).at_ (j := 2) rfl; have c1_0 := (hS.2.1).at_ (j := 0) rfl; have c1_1 := (hS.2.1).at_ (j := 1) rfl; have c1_2 := (hS.2.1).at_ (j := 2) rfl; have cx' := cell_nw hS.2.2 cxf; clear hS; first | (go_simp; done) | (go_simp; with_reducible rfl))
                try simp only [Act.put, List.setIfInBounds_toArray, List.set_cons_zero, List.set_cons_succ]
                refine wpAnyH_take (i := 6) (oi := ⟨some 64, _, _, _, _, _⟩) (v := ?_) rfl (by kernel_rfl) (by kernel_rfl) (by kernel_rfl) (fun _ _ _ h => h) (Or.inl ⟨by kernel_rfl, ?_⟩) hHeld ?_
                rotate_left
                focus (intro W hS; have c0_0 := (hS.1).at_ (j := 0) rfl; have c0_1 := (hS.1).at_ (j := 1) rfl; have c0_2 := (hS.1).at_ (j := 2) rfl; have c1_0 := (hS.2.1).at_ (j := 0) rfl; have c1_1 := (hS.2.1).at_ (j := 1) rfl; have c1_2 := (hS.2.1).at_ (j := 2) rfl; have cx' := cell_nw hS.2.2 cxf; clear hS; first | (go_simp; done) | (go_simp; with_reducible rfl))
                try simp only [Act.put, List.setIfInBounds_toArray, List.set_cons_zero, List.set_cons_succ]
                refine wpAnyH_take (i := 7) (oi := ⟨some 65, _, _, _, _, _⟩) (v := ?_) rfl (by kernel_rfl) (by kernel_rfl) (by kernel_rfl) (fun _ _ _ h => h) (Or.inl ⟨by kernel_rfl, ?_⟩) hHeld ?_
                rotate_left
                focus (intro W hS; have c0_0 := (hS.1).at_ (j := 0) rfl; have c0_1 := (hS.1).at_ (j := 1) rfl; have c0_2 := (hS.1).at_ (j := 2) rfl; have c1_0 := (hS.2.1).at_ (j := 0) rfl; have c1_1 := (hS.2.1).at_ (j := 1) rfl; have c1_2 := (hS.2.1).at_ (j := 2) rfl; have cx' := cell_nw hS.2.2 cxf; clear hS; first | (go_simp; done) | (go_simp; with_reducible rfl))
                try simp only [Act.put, List.setIfInBounds_toArray, List.set_cons_zero, List.set_cons_succ]
                refine wpAnyH_take (i := 8) (oi := ⟨some 66, _, _, _, _, _⟩) (v := undef) rfl (by kernel_rfl) (by kernel_rfl) (by kernel_rfl) (fun _ _ _ h => h) (Or.inr ⟨by kernel_rfl, rfl⟩) hHeld ?_
                try simp only [Act.put, List.setIfInBounds_toArray, List.set_cons_zero, List.set_cons_succ]
                refine wpAnyH_take (i := 9) (oi := ⟨some 67, _, _, _, _, _⟩) (v := undef) rfl (by kernel_rfl) (by kernel_rfl) (by kernel_rfl) (fun _ _ _ h => h) (Or.inr ⟨by kernel_rfl, rfl⟩) hHeld ?_
                try simp only [Act.put, List.setIfInBounds_toArray, List.set_cons_zero, List.set_cons_succ]
                refine wpAnyH_take (i := 10) (oi := ⟨some 68, _, _, _, _, _⟩) (v := undef) rfl (by kernel_rfl) (by kernel_rfl) (by kernel_rfl) (fun _ _ _ h => h) (Or.inr ⟨by kernel_rfl, rfl⟩) hHeld ?_
                try simp only [Act.put, List.setIfInBounds_toArray, List.set_cons_zero, List.set_cons_succ]
                refine wpAnyH_take (i := 11) (oi := ⟨some 69, _, _, _, _, _⟩) (v := undef) rfl (by kernel_rfl) (by kernel_rfl) (by kernel_rfl) (fun _ _ _ h => h) (Or.inr ⟨by kernel_rfl, rfl⟩) hHeld ?_
                try simp only [Act.put, List.setIfInBounds_toArray, List.set_cons_zero, List.set_cons_succ]
                refine wpAnyH_take (i := 12) (oi := ⟨some 70, _, _, _, _, _⟩) (v := ?_) rfl (by kernel_rfl) (by kernel_rfl) (by kernel_rfl) (fun _ _ _ h => h) (Or.inl ⟨by kernel_rfl, ?_⟩) hHeld ?_
                rotate_left
                focus (intro W hS; have c0_0 := (hS.1).at_ (j := 0) rfl; have c0_1 := (hS.1).at_ (j := 1) rfl; have c0_2 := (hS.1).at_ (j := 2) rfl; have c1_0 := (hS.2.1).at_ (j := 0) rfl; have c1_1 := (hS.2.1).at_ (j := 1) rfl; have c1_2 := (hS.2.1).at_ (j := 2) rfl; have cx' := cell_nw hS.2.2 cxf; clear hS; first | (go_simp; done) | (go_simp; with_reducible rfl))
                try simp only [Act.put, List.setIfInBounds_toArray, List.set_cons_zero, List.set_cons_succ]
                refine wpAnyH_done (by kernel_rfl) ?_ _
                have hbz := hHeld.2.2
                have HOz := Lib.hid (show OwnZ _ (gb + 1) 69 3 (.slice Ao O.length co) O.length (cFlow O) from HOf.out.imp (fun h => own_newer h hbz) id)
                have HCz := Lib.hid (chgT_trans HCf.out hbz)
                have hsz := hbz.size
                have HE := Lib.hid (show O2 = O by rw [HT.out, addF_no gn])
                clear hHeld hbz cxf
                go_wp2_with fail
                go_roundg (J.length - (k + 1))
                case measure => omega
                case rel => exact ⟨k + 1, O, by omega, by omega, by go_num, Lib.hid (by rw [HT2.out]; exact HE.out), HOz, HCz⟩
              · have gn : (xk != s.f0) = true := by simp [hne]
                clear hne
                go_wp2_with fail
                refine wp_region_held_drew (S := fun w' => BoxAt w' w4.heap.size 53 #[.int .i64 s.f0, .int .i64 s.f1, .int .i64 s.f2] ∧ Below wr2.heap.size wr2 w') (by kernel_rfl) ?_ (fun hHeld => ?_)
                · exact ⟨KS.out.drw, (Below.refl _ _).drew⟩
                generalize (World.drew _) = x0 at hHeld ⊢
                refine wpAnyH_take (i := 0) (oi := ⟨some 50, _, _, _, _, _⟩) (v := ?_) rfl (by kernel_rfl) (by kernel_rfl) (by kernel_rfl) (fun _ _ _ h => h) (Or.inl ⟨by kernel_rfl, ?_⟩) hHeld ?_
                rotate_left
                focus (intro W hS; have c0_0 := (hS.1).at_ (j := 0) rfl; have c0_1 := (hS.1).at_ (j := 1) rfl; have c0_2 := (hS.1).at_ (j := 2) rfl; have cx' := cell_nw hS.2 cx; clear hS; first | (go_simp; done) | (go_simp; with_reducible rfl))
                try simp only [Act.put, List.setIfInBounds_toArray, List.set_cons_zero, List.set_cons_succ]
                refine wpAnyH_take (i := 1) (oi := ⟨some 51, _, _, _, _, _⟩) (v := ?_) rfl (by kernel_rfl) (by kernel_rfl) (by kernel_rfl) (fun _ _ _ h => h) (Or.inl ⟨by kernel_rfl, ?_⟩) hHeld ?_
                rotate_left
                focus (intro W hS; have c0_0 := (hS.1).at_ (j := 0) rfl; have c0_1 := (hS.1).at_ (j := 1) rfl; have c0_2 := (hS.1).at_ (j := 2) rfl; have cx' := cell_nw hS.2 cx; clear hS; first | (go_simp; done) | (go_simp; with_reducible rfl))
                try simp only [Act.put, List.setIfInBounds_toArray, List.set_cons_zero, List.set_cons_succ]
                refine wpAnyH_take (i := 2) (oi := ⟨some 52, _, _, _, _, _⟩) (v := ?_) rfl (by kernel_rfl) (by kernel_rfl) (by kernel_rfl) (fun _ _ _ h => h) (Or.inl ⟨by kernel_rfl, ?_⟩) hHeld ?_
                rotate_left
                focus (intro W hS; have c0_0 := (hS.1).at_ (j := 0) rfl; have c0_1 := (hS.1).at_ (j := 1) rfl; have c0_2 := (hS.1).at_ (j := 2) rfl; have cx' := cell_nw hS.2 cx; clear hS; first | (go_simp; done) | (go_simp; with_reducible rfl))
                try simp only [Act.put, List.setIfInBounds_toArray, List.set_cons_zero, List.set_cons_succ]
                refine wpAnyH_take (i := 3) (oi := ⟨some 53, _, _, _, _, _⟩) (v := ?_) rfl (by kernel_rfl) (by kernel_rfl) (by kernel_rfl) (fun _ _ _ h => h) (Or.inl ⟨by kernel_rfl, ?_⟩) hHeld ?_
                rotate_left
                focus (intro W hS; have c0_0 := (hS.1).at_ (j := 0) rfl; have c0_1 := (hS.1).at_ (j := 1) rfl; have c0_2 := (hS.1).at_ (j := 2) rfl; have cx' := cell_nw hS.2 cx; clear hS; first | (go_simp; done) | (go_simp; with_reducible rfl))
                try simp only [Act.put, List.setIfInBounds_toArray, List.set_cons_zero, List.set_cons_succ]
                refine wpAnyH_take (i := 4) (oi := ⟨some 54, _, _, _, _, _⟩) (v := ?_) rfl (by kernel_rfl) (by kernel_rfl) (by kernel_rfl) (fun _ _ _ h => h) (Or.inl ⟨by kernel_rfl, ?_⟩) hHeld ?_
                rotate_left
                focus (intro W hS; have c0_0 := (hS.1).at_ (j := 0) rfl; have c0_1 := (hS.1).at_ (j := 1) rfl; have c0_2 := (hS.1).at_ (j := 2) rfl; have cx' := cell_nw hS.2 cx; clear hS; first | (go_simp; done) | (go_simp; with_reducible rfl))
                try simp only [Act.put, List.setIfInBounds_toArray, List.set_cons_zero, List.set_cons_succ]
                refine wpAnyH_take (i := 5) (oi := ⟨some 55, _, _, _, _, _⟩) (v := ?_) rfl (by kernel_rfl) (by kernel_rfl) (by kernel_rfl) (fun _ _ _ h => h) (Or.inl ⟨by kernel_rfl, ?_⟩) hHeld ?_
                rotate_left
                focus (intro W hS; have c0_0 := (hS.1).at_ (j := 0) rfl; have c0_1 := (hS.1).at_ (j := 1) rfl; have c0_2 := (hS.1).at_ (j := 2) rfl; have cx' := cell_nw hS.2 cx; clear hS; first | (go_simp; done) | (go_simp; with_reducible rfl))
                try simp only [Act.put, List.setIfInBounds_toArray, List.set_cons_zero, List.set_cons_succ]
                refine wpAnyH_take (i := 6) (oi := ⟨some 56, _, _, _, _, _⟩) (v := ?_) rfl (by kernel_rfl) (by kernel_rfl) (by kernel_rfl) (fun _ _ _ h => h) (Or.inl ⟨by kernel_rfl, ?_⟩) hHeld ?_
                rotate_left
                focus (intro W hS; have c0_0 := (hS.1).at_ (j := 0) rfl; have c0_1 := (hS.1).at_ (j := 1) rfl; have c0_2 := (hS.1).at_ (j := 2) rfl; have cx' := cell_nw hS.2 cx; clear hS; first | (go_simp; done) | (go_simp; with_reducible rfl))
                try simp only [Act.put, List.setIfInBounds_toArray, List.set_cons_zero, List.set_cons_succ]
                refine wpAnyH_take (i := 7) (oi := ⟨some 57, _, _, _, _, _⟩) (v := ?_) rfl (by kernel_rfl) (by kernel_rfl) (by kernel_rfl) (fun _ _ _ h => h) (Or.inl ⟨by kernel_rfl, ?_⟩) hHeld ?_
                rotate_left
                focus (intro W hS; have c0_0 := (hS.1).at_ (j := 0) rfl; have c0_1 := (hS.1).at_ (j := 1) rfl; have c0_2 := (hS.1).at_ (j := 2) rfl; have cx' := cell_nw hS.2 cx; clear hS; first | (go_simp; done) | (go_simp; with_reducible rfl))
                try simp only [Act.put, List.setIfInBounds_toArray, List.set_cons_zero, List.set_cons_succ]
                refine wpAnyH_ready (rs := [8]) (by kernel_rfl) (by simp) ?_
                refine AllReadyH.cons (o := ⟨some 13, _, _, _, _, _⟩) rfl (fun K hK => ?_) AllReadyH.nil
                go_simp
                have Gf := box_new (x0) 69 #[.int .i64 0, .int .i64 0, .int .i64 0]
                have hb1 := (Below.refl (x0).heap.size (x0)).alloc (Nat.le_refl _) (.cells #[.int .i64 0, .int .i64 0, .int .i64 0] 69)
                have Lf : wr2.heap.size ≤ (x0).heap.size := by have := (hHeld.1).lt; have := (hHeld.2).size; omega
                have M0f : w4.heap.size < (x0).heap.size := (hHeld.1).lt
                generalize (x0).alloc (.cells #[.int .i64 0, .int .i64 0, .int .i64 0] 69) = x1 at hb1 Gf  ⊢
                generalize hg : (x0).heap.size = gf at Gf Lf M0f ⊢
                clear hg
                refine hK.out _ _ ⟨hHeld.1.new hb1, below_trans hHeld.2 hb1 (Nat.le_refl _)⟩ (fun hHeld' => ?_)
                clear hK K hHeld hb1
                have hHeld := hHeld'
                clear hHeld'
                try simp only [Act.put, List.setIfInBounds_toArray, List.set_cons_zero, List.set_cons_succ]
                refine wpAnyH_ready (rs := [9]) (by kernel_rfl) (by simp) ?_
                refine AllReadyH.cons (o := ⟨none, _, _, _, _, _⟩) rfl (fun K hK => ?_) AllReadyH.nil
                rw [if_pos (by rfl)]
                refine wp_store_row 69 _ _ rfl gf #[.int .i64 ext, .int .i64 xk, .int .i64 s.f0] rfl rfl 69 _ Gf (by kernel_rfl) (by kernel_rfl) (by kernel_rfl) ?_
                replace Gf := box_row (cs := #[.int .i64 ext, .int .i64 xk, .int .i64 s.f0]) Gf
                have hc1 := chg_row x1 gf #[.int .i64 ext, .int .i64 xk, .int .i64 s.f0]
                have hHeld2 : BoxAt (World.setRow x1 gf #[.int .i64 ext, .int .i64 xk, .int .i64 s.f0]) w4.heap.size 53 #[.int .i64 s.f0, .int .i64 s.f1, .int .i64 s.f2] ∧ Below wr2.heap.size wr2 (World.setRow x1 gf #[.int .i64 ext, .int .i64 xk, .int .i64 s.f0]) := ⟨hHeld.1.chg hc1 (by omega), below_setRow hHeld.2 (by omega) _⟩
                clear hc1
                generalize World.setRow x1 gf #[.int .i64 ext, .int .i64 xk, .int .i64 s.f0] = x2 at hHeld2 Gf ⊢
                refine hK.out _ _ hHeld2 (fun hHeld' => ?_)
                clear hHeld2
                clear hK K hHeld
                have hHeld := hHeld'
                clear hHeld'
                try simp only [Act.put, List.setIfInBounds_toArray, List.set_cons_zero, List.set_cons_succ]
                refine wpAnyH_done (by kernel_rfl) ?_ _
                have KSf := Lib.hid hHeld.1
                have KFf := Lib.hid Gf
                have hbf := hHeld.2
                have HOf := Lib.hid (show OwnZ _ (gb + 1) 69 3 (.slice Ao O.length co) O.length (cFlow O) from HO2.out.imp (fun h => own_newer h hbf) id)
                have HCf := Lib.hid (chgT_trans HC.out hbf)
                have cxf := cell_nw hbf cx
                have hsf := hbf.size
                have HRf := Lib.hid (HR0.out.new hbf)
                have hgfl := Gf.lt
                clear hHeld Gf hbf cx KS HO2 HC
                rename World => wf
                have CH := Lib.hid (fun (W : World) (hW : Below wf.heap.size wf W) => spec_has ⟨ext, xk, s.f0⟩ O Ao O.length co (gb + 1) wr2.heap.size W (by have := HLo.out; omega) (HRf.out.new hW))
                obtain ⟨hs, HHs⟩ : ∃ hs, Hid ((O.any fun y => decide ((⟨ext, xk, s.f0⟩ : TFlow) = y)) = hs) := ⟨_, Lib.hid rfl⟩
                rw [HHs.out] at CH
                go_wp2_with fail
                refine wp_region_held_drew (S := fun w' => BoxAt w' w4.heap.size 53 #[.int .i64 s.f0, .int .i64 s.f1, .int .i64 s.f2] ∧ BoxAt w' gf 69 #[.int .i64 ext, .int .i64 xk, .int .i64 s.f0] ∧ Below wf.heap.size wf w') (by kernel_rfl) ?_ (fun hHeld => ?_)
                · exact ⟨KSf.out.drw, KFf.out.drw, (Below.refl _ _).drew⟩
                generalize (World.drew _) = x0 at hHeld ⊢
                refine wpAnyH_take (i := 0) (oi := ⟨some 58, _, _, _, _, _⟩) (v := ?_) rfl (by kernel_rfl) (by kernel_rfl) (by kernel_rfl) (fun _ _ _ h => h) (Or.inl ⟨by kernel_rfl, ?_⟩) hHeld ?_
                rotate_left
                focus (intro W hS; have c0_0 := (hS.1).at_ (j := 0) rfl; have c0_1 := (hS.1).at_ (j := 1) rfl; have c0_2 := (hS.1).at_ (j := 2) rfl; have c1_0 := (hS.2.1).at_ (j := 0) rfl; have c1_1 := (hS.2.1).at_ (j := 1) rfl; have c1_2 := (hS.2.1).at_ (j := 2) rfl; have cx' := cell_nw hS.2.2 cxf; clear hS; first | (go_simp; done) | (go_simp; with_reducible rfl))
                try simp only [Act.put, List.setIfInBounds_toArray, List.set_cons_zero, List.set_cons_succ]
                refine wpAnyH_take (i := 1) (oi := ⟨some 59, _, _, _, _, _⟩) (v := ?_) rfl (by kernel_rfl) (by kernel_rfl) (by kernel_rfl) (fun _ _ _ h => h) (Or.inl ⟨by kernel_rfl, ?_⟩) hHeld ?_
                rotate_left
                focus (intro W hS; have c0_0 := (hS.1).at_ (j := 0) rfl; have c0_1 := (hS.1).at_ (j := 1) rfl; have c0_2 := (hS.1).at_ (j := 2) rfl; have c1_0 := (hS.2.1).at_ (j := 0) rfl; have c1_1 := (hS.2.1).at_ (j := 1) rfl; have c1_2 := (hS.2.1).at_ (j := 2) rfl; have cx' := cell_nw hS.2.2 cxf; clear hS; first | (go_simp; done) | (go_simp; with_reducible rfl))
                try simp only [Act.put, List.setIfInBounds_toArray, List.set_cons_zero, List.set_cons_succ]
                refine wpAnyH_take (i := 2) (oi := ⟨some 60, _, _, _, _, _⟩) (v := ?_) rfl (by kernel_rfl) (by kernel_rfl) (by kernel_rfl) (fun _ _ _ h => h) (Or.inl ⟨by kernel_rfl, ?_⟩) hHeld ?_
                rotate_left
                focus (intro W hS; have c0_0 := (hS.1).at_ (j := 0) rfl; have c0_1 := (hS.1).at_ (j := 1) rfl; have c0_2 := (hS.1).at_ (j := 2) rfl; have c1_0 := (hS.2.1).at_ (j := 0) rfl; have c1_1 := (hS.2.1).at_ (j := 1) rfl; have c1_2 := (hS.2.1).at_ (j := 2) rfl; have cx' := cell_nw hS.2.2 cxf; clear hS; first | (go_simp; done) | (go_simp; with_reducible rfl))
                try simp only [Act.put, List.setIfInBounds_toArray, List.set_cons_zero, List.set_cons_succ]
                refine wpAnyH_take (i := 3) (oi := ⟨some 61, _, _, _, _, _⟩) (v := ?_) rfl (by kernel_rfl) (by kernel_rfl) (by kernel_rfl) (fun _ _ _ h => h) (Or.inl ⟨by kernel_rfl, ?_⟩) hHeld ?_
                rotate_left
                focus (intro W hS; have c0_0 := (hS.1).at_ (j := 0) rfl; have c0_1 := (hS.1).at_ (j := 1) rfl; have c0_2 := (hS.1).at_ (j := 2) rfl; have c1_0 := (hS.2.1).at_ (j := 0) rfl; have c1_1 := (hS.2.1).at_ (j := 1) rfl; have c1_2 := (hS.2.1).at_ (j := 2) rfl; have cx' := cell_nw hS.2.2 cxf; clear hS; first | (go_simp; done) | (go_simp; with_reducible rfl))
                try simp only [Act.put, List.setIfInBounds_toArray, List.set_cons_zero, List.set_cons_succ]
                refine wpAnyH_take (i := 4) (oi := ⟨some 62, _, _, _, _, _⟩) (v := ?_) rfl (by kernel_rfl) (by kernel_rfl) (by kernel_rfl) (fun _ _ _ h => h) (Or.inl ⟨by kernel_rfl, ?_⟩) hHeld ?_
                rotate_left
                focus (intro W hS; have c0_0 := (hS.1).at_ (j := 0) rfl; have c0_1 := (hS.1).at_ (j := 1) rfl; have c0_2 := (hS.1).at_ (j := 2) rfl; have c1_0 := (hS.2.1).at_ (j := 0) rfl; have c1_1 := (hS.2.1).at_ (j := 1) rfl; have c1_2 := (hS.2.1).at_ (j := 2) rfl; have cx' := cell_nw hS.2.2 cxf; clear hS; first | (go_simp; done) | (go_simp; with_reducible rfl))
                try simp only [Act.put, List.setIfInBounds_toArray, List.set_cons_zero, List.set_cons_succ]
                refine wpAnyH_take (i := 5) (oi := ⟨some 63, _, _, _, _, _⟩) (v := ?_) rfl (by kernel_rfl) (by kernel_rfl) (by kernel_rfl) (fun _ _ _ h => h) (Or.inl ⟨by kernel_rfl, ?_⟩) hHeld ?_
                rotate_left
                focus (intro W hS; have c0_0 := (hS.1).at_ (j := 0) rfl; have c0_1 := (hS.1).at_ (j := 1) rfl; have c0_2 := (hS.1).at_ (j := 2) rfl; have c1_0 := (hS.2.1).at_ (j := 0) rfl; have c1_1 := (hS.2.1).at_ (j := 1) rfl; have c1_2 := (hS.2.1).at_ (j := 2) rfl; have cx' := cell_nw hS.2.2 cxf; clear hS; first | (go_simp; done) | (go_simp; with_reducible rfl))
                try simp only [Act.put, List.setIfInBounds_toArray, List.set_cons_zero, List.set_cons_succ]
                refine wpAnyH_take (i := 6) (oi := ⟨some 64, _, _, _, _, _⟩) (v := ?_) rfl (by kernel_rfl) (by kernel_rfl) (by kernel_rfl) (fun _ _ _ h => h) (Or.inl ⟨by kernel_rfl, ?_⟩) hHeld ?_
                rotate_left
                focus (intro W hS; have c0_0 := (hS.1).at_ (j := 0) rfl; have c0_1 := (hS.1).at_ (j := 1) rfl; have c0_2 := (hS.1).at_ (j := 2) rfl; have c1_0 := (hS.2.1).at_ (j := 0) rfl; have c1_1 := (hS.2.1).at_ (j := 1) rfl; have c1_2 := (hS.2.1).at_ (j := 2) rfl; have cx' := cell_nw hS.2.2 cxf; clear hS; first | (go_simp; done) | (go_simp; with_reducible rfl))
                try simp only [Act.put, List.setIfInBounds_toArray, List.set_cons_zero, List.set_cons_succ]
                refine wpAnyH_take (i := 7) (oi := ⟨some 65, _, _, _, _, _⟩) (v := ?_) rfl (by kernel_rfl) (by kernel_rfl) (by kernel_rfl) (fun _ _ _ h => h) (Or.inl ⟨by kernel_rfl, ?_⟩) hHeld ?_
                rotate_left
                focus (intro W hS; have c0_0 := (hS.1).at_ (j := 0) rfl; have c0_1 := (hS.1).at_ (j := 1) rfl; have c0_2 := (hS.1).at_ (j := 2) rfl; have c1_0 := (hS.2.1).at_ (j := 0) rfl; have c1_1 := (hS.2.1).at_ (j := 1) rfl; have c1_2 := (hS.2.1).at_ (j := 2) rfl; have cx' := cell_nw hS.2.2 cxf; clear hS; first | (go_simp; done) | (go_simp; with_reducible rfl))
                try simp only [Act.put, List.setIfInBounds_toArray, List.set_cons_zero, List.set_cons_succ]
                refine wpAnyH_take (i := 8) (oi := ⟨some 66, _, _, _, _, _⟩) (v := ?_) rfl (by kernel_rfl) (by kernel_rfl) (by kernel_rfl) (fun _ _ _ h => h) (Or.inl ⟨by kernel_rfl, ?_⟩) hHeld ?_
                rotate_left
                focus (intro W hS; have c0_0 := (hS.1).at_ (j := 0) rfl; have c0_1 := (hS.1).at_ (j := 1) rfl; have c0_2 := (hS.1).at_ (j := 2) rfl; have c1_0 := (hS.2.1).at_ (j := 0) rfl; have c1_1 := (hS.2.1).at_ (j := 1) rfl; have c1_2 := (hS.2.1).at_ (j := 2) rfl; have cx' := cell_nw hS.2.2 cxf; clear hS; first | (go_simp; done) | (go_simp; with_reducible rfl))
                try simp only [Act.put, List.setIfInBounds_toArray, List.set_cons_zero, List.set_cons_succ]
                refine wpAnyH_take (i := 9) (oi := ⟨some 67, _, _, _, _, _⟩) (v := ?_) rfl (by kernel_rfl) (by kernel_rfl) (by kernel_rfl) (fun _ _ _ h => h) (Or.inl ⟨by kernel_rfl, ?_⟩) hHeld ?_
                rotate_left
                focus (intro W hS; have c0_0 := (hS.1).at_ (j := 0) rfl; have c0_1 := (hS.1).at_ (j := 1) rfl; have c0_2 := (hS.1).at_ (j := 2) rfl; have c1_0 := (hS.2.1).at_ (j := 0) rfl; have c1_1 := (hS.2.1).at_ (j := 1) rfl; have c1_2 := (hS.2.1).at_ (j := 2) rfl; have cx' := cell_nw hS.2.2 cxf; clear hS; first | (go_simp; done) | (go_simp; with_reducible rfl))
                try simp only [Act.put, List.setIfInBounds_toArray, List.set_cons_zero, List.set_cons_succ]
                refine wpAnyH_ready (rs := [10]) (by kernel_rfl) (by simp) ?_
                refine AllReadyH.cons (o := ⟨some 68, _, _, _, _, _⟩) rfl (fun K hK => ?_) AllReadyH.nil
                go_simp
                refine Calls.mono (CH.out _ hHeld.2.2) ?_
                rintro e x1 ⟨rfl, hb1⟩
                refine hK.out _ _ ⟨hHeld.1.new hb1, hHeld.2.1.new hb1, below_trans hHeld.2.2 hb1 (Nat.le_refl _)⟩ (fun hHeld' => ?_)
                clear hK K hHeld hb1
                have hHeld := hHeld'
                clear hHeld'
                try simp only [Act.put, List.setIfInBounds_toArray, List.set_cons_zero, List.set_cons_succ]
                cases hs
                · skip
                  refine wpAnyH_take (i := 11) (oi := ⟨some 69, _, _, _, _, _⟩) (v := ?_) rfl (by kernel_rfl) (by kernel_rfl) (by kernel_rfl) (fun _ _ _ h => h) (Or.inl ⟨by kernel_rfl, ?_⟩) hHeld ?_
                  rotate_left
                  focus (intro W hS; have c0_0 := (hS.1).at_ (j := 0) rfl; have c0_1 := (hS.1).at_ (j := 1) rfl; have c0_2 := (hS.1).at_ (j := 2) rfl; have c1_0 := (hS.2.1).at_ (j := 0) rfl; have c1_1 := (hS.2.1).at_ (j := 1) rfl; have c1_2 := (hS.2.1).at_ (j := 2) rfl; have cx' := cell_nw hS.2.2 cxf; clear hS; first | (go_simp; done) | (go_simp; with_reducible rfl))
                  try simp only [Act.put, List.setIfInBounds_toArray, List.set_cons_zero, List.set_cons_succ]
                  refine wpAnyH_take (i := 12) (oi := ⟨some 70, _, _, _, _, _⟩) (v := ?_) rfl (by kernel_rfl) (by kernel_rfl) (by kernel_rfl) (fun _ _ _ h => h) (Or.inl ⟨by kernel_rfl, ?_⟩) hHeld ?_
                  rotate_left
                  focus (intro W hS; have c0_0 := (hS.1).at_ (j := 0) rfl; have c0_1 := (hS.1).at_ (j := 1) rfl; have c0_2 := (hS.1).at_ (j := 2) rfl; have c1_0 := (hS.2.1).at_ (j := 0) rfl; have c1_1 := (hS.2.1).at_ (j := 1) rfl; have c1_2 := (hS.2.1).at_ (j := 2) rfl; have cx' := cell_nw hS.2.2 cxf; clear hS; first | (go_simp; done) | (go_simp; with_reducible rfl))
                  try simp only [Act.put, List.setIfInBounds_toArray, List.set_cons_zero, List.set_cons_succ]
                  refine wpAnyH_done (by kernel_rfl) ?_ _
                  have hbz := hHeld.2.2
                  have HOz := Lib.hid (show OwnZ _ (gb + 1) 69 3 (.slice Ao O.length co) O.length (cFlow O) from HOf.out.imp (fun h => own_newer h hbz) id)
                  have HCz := Lib.hid (chgT_trans HCf.out hbz)
                  have hsz := hbz.size
                  have HE := Lib.hid (show O2 = O ++ [⟨ext, xk, s.f0⟩] by rw [HT.out, addF_new gn HHs.out])
                  have f0 := hHeld.2.1.at_ (j := 0) (u := .int .i64 ext) rfl
                  have f1 := hHeld.2.1.at_ (j := 1) (u := .int .i64 xk) rfl
                  have f2 := hHeld.2.1.at_ (j := 2) (u := .int .i64 s.f0) rfl
                  clear hHeld hbz cxf
                  go_wp2_with (at_builtin; refine wp_appz_litT rfl _ _ _ rfl (gb + 1) 69 (.agg #[.int .i64 0, .int .i64 0, .int .i64 0]) 3 24 Try.underlying33 info_flow rfl (by decide) _ _ _ rfl HOz.out #[.int .i64 ext, .int .i64 xk, .int .i64 s.f0] 1 1 _ rfl (by simp) rfl (one_flow _ _ _) (by have := HLo.out; unfold maxLen; omega) (by have := HLo.out; omega) (by omega) ?_; intro v1 w3 ho1 hb1 hct; have HO3 := Lib.hid (show OwnZ w3 (gb + 1) 69 3 v1 (O ++ [(⟨ext, xk, s.f0⟩ : TFlow)]).length (cFlow (O ++ [⟨ext, xk, s.f0⟩])) from (by rw [cFlow_snoc]; simpa [TFlow.cells] using ho1)); have HC3 := Lib.hid (hct wa.heap.size); clear ho1 hb1 hct f0 f1 f2)
                  go_wp2_with fail
                  go_roundg (J.length - (k + 1))
                  case measure => omega
                  case rel => exact ⟨k + 1, O ++ [⟨ext, xk, s.f0⟩], by omega, by omega, by go_num, Lib.hid (by rw [HT2.out]; exact HE.out), HO3, Lib.hid (HCz.out.trans HC3.out)⟩
                · skip
                  refine wpAnyH_take (i := 11) (oi := ⟨some 69, _, _, _, _, _⟩) (v := ?_) rfl (by kernel_rfl) (by kernel_rfl) (by kernel_rfl) (fun _ _ _ h => h) (Or.inl ⟨by kernel_rfl, ?_⟩) hHeld ?_
                  rotate_left
                  focus (intro W hS; have c0_0 := (hS.1).at_ (j := 0) rfl; have c0_1 := (hS.1).at_ (j := 1) rfl; have c0_2 := (hS.1).at_ (j := 2) rfl; have c1_0 := (hS.2.1).at_ (j := 0) rfl; have c1_1 := (hS.2.1).at_ (j := 1) rfl; have c1_2 := (hS.2.1).at_ (j := 2) rfl; have cx' := cell_nw hS.2.2 cxf; clear hS; first | (go_simp; done) | (go_simp; with_reducible rfl))
                  try simp only [Act.put, List.setIfInBounds_toArray, List.set_cons_zero, List.set_cons_succ]
                  refine wpAnyH_take (i := 12) (oi := ⟨some 70, _, _, _, _, _⟩) (v := ?_) rfl (by kernel_rfl) (by kernel_rfl) (by kernel_rfl) (fun _ _ _ h => h) (Or.inl ⟨by kernel_rfl, ?_⟩) hHeld ?_
                  rotate_left
                  focus (intro W hS; have c0_0 := (hS.1).at_ (j := 0) rfl; have c0_1 := (hS.1).at_ (j := 1) rfl; have c0_2 := (hS.1).at_ (j := 2) rfl; have c1_0 := (hS.2.1).at_ (j := 0) rfl; have c1_1 := (hS.2.1).at_ (j := 1) rfl; have c1_2 := (hS.2.1).at_ (j := 2) rfl; have cx' := cell_nw hS.2.2 cxf; clear hS; first | (go_simp; done) | (go_simp; with_reducible rfl))
                  try simp only [Act.put, List.setIfInBounds_toArray, List.set_cons_zero, List.set_cons_succ]
                  refine wpAnyH_done (by kernel_rfl) ?_ _
                  have hbz := hHeld.2.2
                  have HOz := Lib.hid (show OwnZ _ (gb + 1) 69 3 (.slice Ao O.length co) O.length (cFlow O) from HOf.out.imp (fun h => own_newer h hbz) id)
                  have HCz := Lib.hid (chgT_trans HCf.out hbz)
                  have hsz := hbz.size
                  have HE := Lib.hid (show O2 = O by rw [HT.out, addF_has HHs.out])
                  clear hHeld hbz cxf
                  go_wp2_with fail
                  go_roundg (J.length - (k + 1))
                  case measure => omega
                  case rel => exact ⟨k + 1, O, by omega, by omega, by go_num, Lib.hid (by rw [HT2.out]; exact HE.out), HOz, HCz⟩
            · obtain rfl : k = J.length := by omega
              rw [List.take_of_length_le (Nat.le_refl _)] at HT2o
              have HEo := Lib.hid (show mNd ext Y.s = O by rw [HYt.out, HT2o.out])
              have HVr := Lib.hid (irow_T HVa.out HC.out (by omega) (by omega))
              have HGr := Lib.hid (irow_T HGa.out HC.out (by omega) (by omega))
              have HBr := Lib.hid (HBwa.out.trans (HC.out.below (by omega) (by omega) (by omega)))
              go_wp2_with fail
              go_roundg (n - (k0 + 1))
              case measure => omega
              case rel => exact ⟨k0 + 1, O, by omega, by omega, by go_num, by rw [HT0.out, HY.out]; exact HVr, by rw [HT0.out, HY.out]; exact HGr, by rw [HT0.out]; exact HEo, HO2, HBr⟩
      · obtain rfl : k0 = n := by omega
        have hh : l.take k0 = l := List.take_of_length_le (by rw [HL.out]; omega)
        rw [hh] at HM
        have HQo := Lib.hid (HQm.out.symm.trans HM.out)
        obtain ⟨A2, c2, rfl, hF⟩ := fr_of_ownz HOz.out
        have hgl2 := HG.out.lt
        have HF := Lib.hid (hF.mono (show w.heap.size ≤ gb + 1 by omega) (Nat.le_refl _))
        clear hh HV HG HM HOz hF
        have hd : decide ((k0 : Int) < (k0 : Int)) = false := by simp
        go_wp2_with fail
        go_ret
        exact ⟨_, _, by rw [HQo.out]; rfl, by rw [HQo.out]; exact HF.out, HB.out⟩
end Go.Proofs.Ytphhnmfgomcanaa
