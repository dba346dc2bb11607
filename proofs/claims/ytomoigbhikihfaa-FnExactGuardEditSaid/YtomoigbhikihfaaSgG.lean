/- MayEdit of the model. -/
import Derived.Test.YtomoigbhikihfaaSgE
import Derived.Test.YtomoigbhikihfaaSgH
import Derived.Deep.RegionHeld3
import Derived.Deep.LoopGhost
namespace Go.Proofs.Ytomoigbhikihfaa
open Go Go.ChangeShapes Go.WideShapes Go.ChangeAt Go.RowKit Go.Lib
set_option linter.unusedVariables false
set_option linter.unusedSimpArgs false
set_option maxRecDepth 100000
set_option maxHeartbeats 16000000 in
theorem spec_MayEdit (l0 : List TNode) (A0 : Option Addr) (n0 c0 lo0 hi0 : Nat) (l1 : List Int) (A1 : Option Addr) (n1 c1 lo1 hi1 : Nat) (e : TEdit) (w : World) (h0 : n0 ≤ 1048576) (r0 : Rd w lo0 hi0 5 A0 n0 (cNode l0)) (p0 : n0 ≤ c0) (b0 : Hid (cNodeOk l0)) (h1 : n1 ≤ 1048576) (r1 : Rd w lo1 hi1 1 A1 n1 (i64s l1)) (p1 : n1 ≤ c1) (b1 : Hid (I64s l1)) (f2 : Hid (TEdit.fit e)) :
    Calls Try.prog 26 #[.slice A0 n0 c0, .slice A1 n1 c1, .agg #[.int .i64 e.f0, .int .i64 e.f1, .int .i64 e.f2, .int .i64 e.f3, .int .i64 e.f4, .int .i64 e.f5]] w (Says (.bool (mMay l0 l1 e)) w) := by
  have HR := Lib.hid r0
  have HS := Lib.hid r1
  have HL := Lib.hid (rd_len TNode.len r0 (by decide))
  have CE := Lib.hid (fun W => spec_IsEdit e W f2)
  have W1 := Lib.hid (show (Lit.int .i64 e.f1).wf = true from WalkArith.wf_i64 f2.out.2.1)
  have W2 := Lib.hid (show (Lit.int .i64 e.f2).wf = true from WalkArith.wf_i64 f2.out.2.2.1)
  have W5 := Lib.hid (show (Lit.int .i64 e.f5).wf = true from WalkArith.wf_i64 f2.out.2.2.2.2.2)
  have KE0 := Lib.hid (box_new w 40 #[.int .i64 e.f0, .int .i64 e.f1, .int .i64 e.f2, .int .i64 e.f3, .int .i64 e.f4, .int .i64 e.f5])
  have HB0 := Lib.hid ((Below.refl w.heap.size w).alloc (Nat.le_refl _) (.cells #[.int .i64 e.f0, .int .i64 e.f1, .int .i64 e.f2, .int .i64 e.f3, .int .i64 e.f4, .int .i64 e.f5] 40))
  have HR0 := Lib.hid (HR.out.alloc (.cells #[.int .i64 e.f0, .int .i64 e.f1, .int .i64 e.f2, .int .i64 e.f3, .int .i64 e.f4, .int .i64 e.f5] 40))
  have HS0 := Lib.hid (HS.out.alloc (.cells #[.int .i64 e.f0, .int .i64 e.f1, .int .i64 e.f2, .int .i64 e.f3, .int .i64 e.f4, .int .i64 e.f5] 40))
  have HV : Hid (mMay l0 l1 e = (mIsEdit e && okNode l0 l1 e && okPar l0 l1 e && okDrop l0 l1 e)) := Lib.hid rfl
  have HVN : Hid (okNode l0 l1 e = (mLook l0 l1 e.f5 e.f1 || !(idx l0 e.f1).isSome)) := Lib.hid rfl
  have HVP : Hid (okPar l0 l1 e = (mLook l0 l1 e.f5 e.f2 || ((e.f0 != 1) && (e.f0 != 4)))) := Lib.hid rfl
  have HVD : Hid (okDrop l0 l1 e = ((e.f0 != 2) || l0.all (okOne l0 l1 e))) := Lib.hid rfl
  generalize mMay l0 l1 e = R at HV ⊢
  generalize okNode l0 l1 e = qn at HV HVN
  generalize okPar l0 l1 e = qp at HV HVP
  generalize okDrop l0 l1 e = qd at HV HVD
  generalize mIsEdit e = qe at HV CE
  clear r0 r1 HR HS
  have hqi : decide (0 ≤ mNodeOf l0 e.f1) = (idx l0 e.f1).isSome := by
    cases hi : (idx l0 e.f1).isSome with
    | true => have := mNodeOf_pos hi; simpa using this
    | false => have := mNodeOf_neg hi; simpa using this
  have HQI := Lib.hid hqi
  clear hqi
  cases qe with
  | false =>
    have HE := Lib.hid (show R = false by rw [HV.out]; rfl)
    go_enter Try.func26, Try.ntmps26
    go_wp2_with fail
    refine (CE.out _).mono ?_
    rintro e1 w1 ⟨rfl, hb1⟩
    have HB1 := Lib.hid (below_trans HB0.out hb1 (Nat.le_refl _))
    have KE1 := Lib.hid (KE0.out.new hb1)
    have HR1 := Lib.hid (HR0.out.new hb1)
    have HS1 := Lib.hid (HS0.out.new hb1)
    clear hb1
    have k0 := KE1.out.at_ (j := 0) (u := .int .i64 e.f0) rfl
    have k1 := KE1.out.at_ (j := 1) (u := .int .i64 e.f1) rfl
    have k2 := KE1.out.at_ (j := 2) (u := .int .i64 e.f2) rfl
    have k3 := KE1.out.at_ (j := 3) (u := .int .i64 e.f3) rfl
    have k4 := KE1.out.at_ (j := 4) (u := .int .i64 e.f4) rfl
    have k5 := KE1.out.at_ (j := 5) (u := .int .i64 e.f5) rfl
    have hl1 := KE1.out.lt
    go_wp2_with fail
    go_ret
    exact ⟨by rw [HE.out]; rfl, HB1.out⟩
  | true =>
    cases hi : (idx l0 e.f1).isSome with
    | true =>
      have HI := Lib.hid hi
      have HQN := Lib.hid (show qn = mLook l0 l1 e.f5 e.f1 by rw [HVN.out, hi]; simp)
      have gn : decide (0 ≤ mNodeOf l0 e.f1) = true := HQI.out.trans hi
      have HNP := Lib.hid gn
      clear hi gn
      cases hn : mLook l0 l1 e.f5 e.f1 with
      | false =>
        have HN := Lib.hid hn
        have HE := Lib.hid (show R = false by rw [HV.out, HQN.out, hn]; rfl)
        clear hn
        go_enter Try.func26, Try.ntmps26
        go_wp2_with fail
        refine (CE.out _).mono ?_
        rintro e1 w1 ⟨rfl, hb1⟩
        have HB1 := Lib.hid (below_trans HB0.out hb1 (Nat.le_refl _))
        have KE1 := Lib.hid (KE0.out.new hb1)
        have HR1 := Lib.hid (HR0.out.new hb1)
        have HS1 := Lib.hid (HS0.out.new hb1)
        clear hb1
        have k0 := KE1.out.at_ (j := 0) (u := .int .i64 e.f0) rfl
        have k1 := KE1.out.at_ (j := 1) (u := .int .i64 e.f1) rfl
        have k2 := KE1.out.at_ (j := 2) (u := .int .i64 e.f2) rfl
        have k3 := KE1.out.at_ (j := 3) (u := .int .i64 e.f3) rfl
        have k4 := KE1.out.at_ (j := 4) (u := .int .i64 e.f4) rfl
        have k5 := KE1.out.at_ (j := 5) (u := .int .i64 e.f5) rfl
        have hl1 := KE1.out.lt
        go_wp2_with fail
        refine (spec_NodeOf' l0 A0 n0 c0 lo0 hi0 e.f1 _ (by omega) HR1.out).mono ?_
        rintro e8 w8 ⟨rfl, rfl⟩
        generalize mNodeOf l0 e.f1 = y at HNP ⊢
        have hyp := HNP.out
        go_wp2_with fail
        refine (spec_SeesNode' false l0 A0 n0 c0 lo0 hi0 l1 A1 n1 c1 lo1 hi1 e.f5 e.f1 _ h0 HR1.out p0 b0 h1 HS1.out p1 b1 W5.out W1.out HN).mono ?_
        rintro e2 w2 ⟨rfl, hb2⟩
        have HB2 := Lib.hid (below_trans HB1.out hb2 (Nat.le_refl _))
        have KE2 := Lib.hid (KE1.out.new hb2)
        have HR2 := Lib.hid (HR1.out.new hb2)
        have HS2 := Lib.hid (HS1.out.new hb2)
        clear hb2
        go_wp2_with fail
        go_ret
        exact ⟨by rw [HE.out]; rfl, HB2.out⟩
      | true =>
        have HN := Lib.hid hn
        replace HV := Lib.hid (show R = (qp && qd) by rw [HV.out, HQN.out, hn]; rfl)
        clear hn
        go_enter Try.func26, Try.ntmps26
        go_wp2_with fail
        refine (CE.out _).mono ?_
        rintro e1 w1 ⟨rfl, hb1⟩
        have HB1 := Lib.hid (below_trans HB0.out hb1 (Nat.le_refl _))
        have KE1 := Lib.hid (KE0.out.new hb1)
        have HR1 := Lib.hid (HR0.out.new hb1)
        have HS1 := Lib.hid (HS0.out.new hb1)
        clear hb1
        have k0 := KE1.out.at_ (j := 0) (u := .int .i64 e.f0) rfl
        have k1 := KE1.out.at_ (j := 1) (u := .int .i64 e.f1) rfl
        have k2 := KE1.out.at_ (j := 2) (u := .int .i64 e.f2) rfl
        have k3 := KE1.out.at_ (j := 3) (u := .int .i64 e.f3) rfl
        have k4 := KE1.out.at_ (j := 4) (u := .int .i64 e.f4) rfl
        have k5 := KE1.out.at_ (j := 5) (u := .int .i64 e.f5) rfl
        have hl1 := KE1.out.lt
        go_wp2_with fail
        refine (spec_NodeOf' l0 A0 n0 c0 lo0 hi0 e.f1 _ (by omega) HR1.out).mono ?_
        rintro e8 w8 ⟨rfl, rfl⟩
        generalize mNodeOf l0 e.f1 = y at HNP ⊢
        have hyp := HNP.out
        go_wp2_with fail
        refine (spec_SeesNode' true l0 A0 n0 c0 lo0 hi0 l1 A1 n1 c1 lo1 hi1 e.f5 e.f1 _ h0 HR1.out p0 b0 h1 HS1.out p1 b1 W5.out W1.out HN).mono ?_
        rintro e2 w2 ⟨rfl, hb2⟩
        have HB2 := Lib.hid (below_trans HB1.out hb2 (Nat.le_refl _))
        have KE2 := Lib.hid (KE1.out.new hb2)
        have HR2 := Lib.hid (HR1.out.new hb2)
        have HS2 := Lib.hid (HS1.out.new hb2)
        clear hb2
        clear k0 k1 k2 k3 k4 k5
        have k0 := KE2.out.at_ (j := 0) (u := .int .i64 e.f0) rfl
        have k1 := KE2.out.at_ (j := 1) (u := .int .i64 e.f1) rfl
        have k2 := KE2.out.at_ (j := 2) (u := .int .i64 e.f2) rfl
        have k3 := KE2.out.at_ (j := 3) (u := .int .i64 e.f3) rfl
        have k4 := KE2.out.at_ (j := 4) (u := .int .i64 e.f4) rfl
        have k5 := KE2.out.at_ (j := 5) (u := .int .i64 e.f5) rfl
        have hl2 := KE2.out.lt
        by_cases g1 : (e.f0 == 1) = true
        · have g1' : (e.f0 != 1) = false := by simpa using g1
          have hne : (e.f0 != 2) = true := by have : e.f0 = 1 := by simpa using g1
                                              rw [this]; rfl
          cases hp : mLook l0 l1 e.f5 e.f2 with
          | false =>
            have HP := Lib.hid hp
            have HE := Lib.hid (show R = false by rw [HV.out, HVP.out, hp]; simp [g1'])
            clear hp
            go_wp2_with fail
            refine (spec_SeesNode' false l0 A0 n0 c0 lo0 hi0 l1 A1 n1 c1 lo1 hi1 e.f5 e.f2 _ h0 HR2.out p0 b0 h1 HS2.out p1 b1 W5.out W2.out HP).mono ?_
            rintro e3 w3 ⟨rfl, hb3⟩
            have HB3 := Lib.hid (below_trans HB2.out hb3 (Nat.le_refl _))
            have KE3 := Lib.hid (KE2.out.new hb3)
            have HR3 := Lib.hid (HR2.out.new hb3)
            have HS3 := Lib.hid (HS2.out.new hb3)
            clear hb3
            go_wp2_with fail
            go_ret
            exact ⟨by rw [HE.out]; rfl, HB3.out⟩
          | true =>
            have HP := Lib.hid hp
            have HE := Lib.hid (show R = true by rw [HV.out, HVP.out, HVD.out, hp, hne]; simp)
            clear hp
            go_wp2_with fail
            refine (spec_SeesNode' true l0 A0 n0 c0 lo0 hi0 l1 A1 n1 c1 lo1 hi1 e.f5 e.f2 _ h0 HR2.out p0 b0 h1 HS2.out p1 b1 W5.out W2.out HP).mono ?_
            rintro e3 w3 ⟨rfl, hb3⟩
            have HB3 := Lib.hid (below_trans HB2.out hb3 (Nat.le_refl _))
            have KE3 := Lib.hid (KE2.out.new hb3)
            have HR3 := Lib.hid (HR2.out.new hb3)
            have HS3 := Lib.hid (HS2.out.new hb3)
            clear hb3
            have m0 := KE3.out.at_ (j := 0) (u := .int .i64 e.f0) rfl
            go_wp2_with fail
            go_loopw [7] (fun v wr => v = .int .i64 0 ∧ wr = w3) (fun _ _ => 0)
            case atStart => exact ⟨rfl, rfl⟩
            case round =>
              obtain ⟨rfl, rfl⟩ := hrel
              by_cases h0n : 0 < n0
              · skip
                go_wp2_with fail
                go_ret
                exact ⟨by rw [HE.out]; rfl, HB3.out⟩
              · skip
                go_wp2_with fail
                go_ret
                exact ⟨by rw [HE.out]; rfl, HB3.out⟩
        · have g1 : (e.f0 == 1) = false := by simpa using g1
          have g1' : (e.f0 != 1) = true := by simpa using g1
          by_cases g4 : (e.f0 == 4) = true
          · have g4' : (e.f0 != 4) = false := by simpa using g4
            have hne : (e.f0 != 2) = true := by have : e.f0 = 4 := by simpa using g4
                                                rw [this]; rfl
            cases hp : mLook l0 l1 e.f5 e.f2 with
            | false =>
              have HP := Lib.hid hp
              have HE := Lib.hid (show R = false by rw [HV.out, HVP.out, hp]; simp [g4'])
              clear hp
              go_wp2_with fail
              refine (spec_SeesNode' false l0 A0 n0 c0 lo0 hi0 l1 A1 n1 c1 lo1 hi1 e.f5 e.f2 _ h0 HR2.out p0 b0 h1 HS2.out p1 b1 W5.out W2.out HP).mono ?_
              rintro e3 w3 ⟨rfl, hb3⟩
              have HB3 := Lib.hid (below_trans HB2.out hb3 (Nat.le_refl _))
              have KE3 := Lib.hid (KE2.out.new hb3)
              have HR3 := Lib.hid (HR2.out.new hb3)
              have HS3 := Lib.hid (HS2.out.new hb3)
              clear hb3
              go_wp2_with fail
              go_ret
              exact ⟨by rw [HE.out]; rfl, HB3.out⟩
            | true =>
              have HP := Lib.hid hp
              have HE := Lib.hid (show R = true by rw [HV.out, HVP.out, HVD.out, hp, hne]; simp)
              clear hp
              go_wp2_with fail
              refine (spec_SeesNode' true l0 A0 n0 c0 lo0 hi0 l1 A1 n1 c1 lo1 hi1 e.f5 e.f2 _ h0 HR2.out p0 b0 h1 HS2.out p1 b1 W5.out W2.out HP).mono ?_
              rintro e3 w3 ⟨rfl, hb3⟩
              have HB3 := Lib.hid (below_trans HB2.out hb3 (Nat.le_refl _))
              have KE3 := Lib.hid (KE2.out.new hb3)
              have HR3 := Lib.hid (HR2.out.new hb3)
              have HS3 := Lib.hid (HS2.out.new hb3)
              clear hb3
              have m0 := KE3.out.at_ (j := 0) (u := .int .i64 e.f0) rfl
              go_wp2_with fail
              go_loopw [7] (fun v wr => v = .int .i64 0 ∧ wr = w3) (fun _ _ => 0)
              case atStart => exact ⟨rfl, rfl⟩
              case round =>
                obtain ⟨rfl, rfl⟩ := hrel
                by_cases h0n : 0 < n0
                · skip
                  go_wp2_with fail
                  go_ret
                  exact ⟨by rw [HE.out]; rfl, HB3.out⟩
                · skip
                  go_wp2_with fail
                  go_ret
                  exact ⟨by rw [HE.out]; rfl, HB3.out⟩
          · have g4 : (e.f0 == 4) = false := by simpa using g4
            have g4' : (e.f0 != 4) = true := by simpa using g4
            have HQP := Lib.hid (show qp = true by rw [HVP.out, g1', g4']; simp)
            replace HV := Lib.hid (show R = qd by rw [HV.out, HQP.out]; simp)
            by_cases h2 : (e.f0 == 2) = true
            · skip
              have h2' : (e.f0 != 2) = false := by simpa using h2
              replace HVD := Lib.hid (show qd = l0.all (okOne l0 l1 e) by rw [HVD.out, h2']; simp)
              generalize hQ : okOne l0 l1 e = Q at HVD
              have HQ := Lib.hid (show ∀ x, Q x = (mLook l0 l1 e.f5 x.f0 || !mUnder l0 x.f0 e.f1) by intro x; rw [← hQ]; rfl)
              clear hQ
              go_wp2_with fail
              go_loopw [7] (fun v wr => ∃ k : Nat, v = .int .i64 k ∧ k ≤ n0 ∧ Hid ((l0.take k).all Q = true) ∧ Hid (Below w2.heap.size w2 wr)) (fun v _ => n0 - (intOf v).toNat)
              case atStart => exact ⟨0, rfl, Nat.zero_le _, Lib.hid (by simp), Lib.hid (Below.refl _ _)⟩
              case round =>
                obtain ⟨k, rfl, hk, HF, HB⟩ := hrel
                have HRw := Lib.hid (HR2.out.new HB.out)
                have HSw := Lib.hid (HS2.out.new HB.out)
                have KEw := Lib.hid (KE2.out.new HB.out)
                have HBw := Lib.hid (below_trans HB2.out HB.out (Nat.le_refl _))
                have k0 := KEw.out.at_ (j := 0) (u := .int .i64 e.f0) rfl
                have hl2 := KEw.out.lt
                by_cases hlt : k < n0
                · obtain ⟨b, off, x, rfl, _, _, hz, hc⟩ := rd_elem TNode.len HRw.out HL.out hlt
                  have c0' : wr.cell? ⟨b, off + k * 5, none⟩ = _ := hc 0 _ rfl
                  have HZ := Lib.hid hz
                  have WX := Lib.hid (node_wf b0.out hz).1
                  have HQx := Lib.hid (HQ.out x)
                  have CU := Lib.hid (fun W (hW : Below wr.heap.size wr W) => spec_IsUnder l0 (some ⟨b, off, none⟩) n0 c0 lo0 hi0 x.f0 e.f1 W h0 (HRw.out.new hW) p0 b0 WX.out W1.out)
                  have CS := Lib.hid (fun W (hW : Below wr.heap.size wr W) => spec_SeesNode l0 (some ⟨b, off, none⟩) n0 c0 lo0 hi0 l1 A1 n1 c1 lo1 hi1 e.f5 x.f0 W h0 (HRw.out.new hW) p0 b0 h1 (HSw.out.new hW) p1 b1 W5.out WX.out)
                  generalize mUnder l0 x.f0 e.f1 = u at CU HQx
                  generalize mLook l0 l1 e.f5 x.f0 = q at CS HQx
                  clear hz hc
                  go_wp2_with fail
                  refine wp_region_held_drew (S := fun w' => BoxAt w' w.heap.size 40 #[.int .i64 e.f0, .int .i64 e.f1, .int .i64 e.f2, .int .i64 e.f3, .int .i64 e.f4, .int .i64 e.f5] ∧ Below wr.heap.size wr w') (by kernel_rfl) ?_ (fun hHeld => ?_)
                  · exact ⟨KEw.out.drw, (Below.refl _ _).drew⟩
                  refine wpAnyH_take (i := 0) (oi := ⟨some 57, _, _, _, _, _⟩) (v := ?_) rfl (by kernel_rfl) (by kernel_rfl) (by kernel_rfl) (fun _ _ _ h => h) (Or.inl ⟨by kernel_rfl, ?_⟩) hHeld ?_
                  rotate_left
                  focus (intro W hS; have c0_0 := (hS.1).at_ (j := 0) rfl; have c0_1 := (hS.1).at_ (j := 1) rfl; have c0_2 := (hS.1).at_ (j := 2) rfl; have c0_3 := (hS.1).at_ (j := 3) rfl; have c0_4 := (hS.1).at_ (j := 4) rfl; have c0_5 := (hS.1).at_ (j := 5) rfl; have c0' := cell_nw hS.2 c0'; clear hS; first | (go_simp; done) | (go_simp; with_reducible rfl))
                  try simp only [Act.put, List.setIfInBounds_toArray, List.set_cons_zero, List.set_cons_succ]
                  refine wpAnyH_take (i := 1) (oi := ⟨some 58, _, _, _, _, _⟩) (v := ?_) rfl (by kernel_rfl) (by kernel_rfl) (by kernel_rfl) (fun _ _ _ h => h) (Or.inl ⟨by kernel_rfl, ?_⟩) hHeld ?_
                  rotate_left
                  focus (intro W hS; have c0_0 := (hS.1).at_ (j := 0) rfl; have c0_1 := (hS.1).at_ (j := 1) rfl; have c0_2 := (hS.1).at_ (j := 2) rfl; have c0_3 := (hS.1).at_ (j := 3) rfl; have c0_4 := (hS.1).at_ (j := 4) rfl; have c0_5 := (hS.1).at_ (j := 5) rfl; have c0' := cell_nw hS.2 c0'; clear hS; first | (go_simp; done) | (go_simp; with_reducible rfl))
                  try simp only [Act.put, List.setIfInBounds_toArray, List.set_cons_zero, List.set_cons_succ]
                  refine wpAnyH_take (i := 2) (oi := ⟨some 59, _, _, _, _, _⟩) (v := ?_) rfl (by kernel_rfl) (by kernel_rfl) (by kernel_rfl) (fun _ _ _ h => h) (Or.inl ⟨by kernel_rfl, ?_⟩) hHeld ?_
                  rotate_left
                  focus (intro W hS; have c0_0 := (hS.1).at_ (j := 0) rfl; have c0_1 := (hS.1).at_ (j := 1) rfl; have c0_2 := (hS.1).at_ (j := 2) rfl; have c0_3 := (hS.1).at_ (j := 3) rfl; have c0_4 := (hS.1).at_ (j := 4) rfl; have c0_5 := (hS.1).at_ (j := 5) rfl; have c0' := cell_nw hS.2 c0'; clear hS; first | (go_simp; done) | (go_simp; with_reducible rfl))
                  try simp only [Act.put, List.setIfInBounds_toArray, List.set_cons_zero, List.set_cons_succ]
                  refine wpAnyH_take (i := 3) (oi := ⟨some 60, _, _, _, _, _⟩) (v := ?_) rfl (by kernel_rfl) (by kernel_rfl) (by kernel_rfl) (fun _ _ _ h => h) (Or.inl ⟨by kernel_rfl, ?_⟩) hHeld ?_
                  rotate_left
                  focus (intro W hS; have c0_0 := (hS.1).at_ (j := 0) rfl; have c0_1 := (hS.1).at_ (j := 1) rfl; have c0_2 := (hS.1).at_ (j := 2) rfl; have c0_3 := (hS.1).at_ (j := 3) rfl; have c0_4 := (hS.1).at_ (j := 4) rfl; have c0_5 := (hS.1).at_ (j := 5) rfl; have c0' := cell_nw hS.2 c0'; clear hS; first | (go_simp; done) | (go_simp; with_reducible rfl))
                  try simp only [Act.put, List.setIfInBounds_toArray, List.set_cons_zero, List.set_cons_succ]
                  refine wpAnyH_take (i := 4) (oi := ⟨some 61, _, _, _, _, _⟩) (v := ?_) rfl (by kernel_rfl) (by kernel_rfl) (by kernel_rfl) (fun _ _ _ h => h) (Or.inl ⟨by kernel_rfl, ?_⟩) hHeld ?_
                  rotate_left
                  focus (intro W hS; have c0_0 := (hS.1).at_ (j := 0) rfl; have c0_1 := (hS.1).at_ (j := 1) rfl; have c0_2 := (hS.1).at_ (j := 2) rfl; have c0_3 := (hS.1).at_ (j := 3) rfl; have c0_4 := (hS.1).at_ (j := 4) rfl; have c0_5 := (hS.1).at_ (j := 5) rfl; have c0' := cell_nw hS.2 c0'; clear hS; first | (go_simp; done) | (go_simp; with_reducible rfl))
                  try simp only [Act.put, List.setIfInBounds_toArray, List.set_cons_zero, List.set_cons_succ]
                  refine wpAnyH_take (i := 5) (oi := ⟨some 62, _, _, _, _, _⟩) (v := ?_) rfl (by kernel_rfl) (by kernel_rfl) (by kernel_rfl) (fun _ _ _ h => h) (Or.inl ⟨by kernel_rfl, ?_⟩) hHeld ?_
                  rotate_left
                  focus (intro W hS; have c0_0 := (hS.1).at_ (j := 0) rfl; have c0_1 := (hS.1).at_ (j := 1) rfl; have c0_2 := (hS.1).at_ (j := 2) rfl; have c0_3 := (hS.1).at_ (j := 3) rfl; have c0_4 := (hS.1).at_ (j := 4) rfl; have c0_5 := (hS.1).at_ (j := 5) rfl; have c0' := cell_nw hS.2 c0'; clear hS; first | (go_simp; done) | (go_simp; with_reducible rfl))
                  try simp only [Act.put, List.setIfInBounds_toArray, List.set_cons_zero, List.set_cons_succ]
                  refine wpAnyH_take (i := 6) (oi := ⟨some 63, _, _, _, _, _⟩) (v := ?_) rfl (by kernel_rfl) (by kernel_rfl) (by kernel_rfl) (fun _ _ _ h => h) (Or.inl ⟨by kernel_rfl, ?_⟩) hHeld ?_
                  rotate_left
                  focus (intro W hS; have c0_0 := (hS.1).at_ (j := 0) rfl; have c0_1 := (hS.1).at_ (j := 1) rfl; have c0_2 := (hS.1).at_ (j := 2) rfl; have c0_3 := (hS.1).at_ (j := 3) rfl; have c0_4 := (hS.1).at_ (j := 4) rfl; have c0_5 := (hS.1).at_ (j := 5) rfl; have c0' := cell_nw hS.2 c0'; clear hS; first | (go_simp; done) | (go_simp; with_reducible rfl))
                  try simp only [Act.put, List.setIfInBounds_toArray, List.set_cons_zero, List.set_cons_succ]
                  refine wpAnyH_take (i := 7) (oi := ⟨some 64, _, _, _, _, _⟩) (v := ?_) rfl (by kernel_rfl) (by kernel_rfl) (by kernel_rfl) (fun _ _ _ h => h) (Or.inl ⟨by kernel_rfl, ?_⟩) hHeld ?_
                  rotate_left
                  focus (intro W hS; have c0_0 := (hS.1).at_ (j := 0) rfl; have c0_1 := (hS.1).at_ (j := 1) rfl; have c0_2 := (hS.1).at_ (j := 2) rfl; have c0_3 := (hS.1).at_ (j := 3) rfl; have c0_4 := (hS.1).at_ (j := 4) rfl; have c0_5 := (hS.1).at_ (j := 5) rfl; have c0' := cell_nw hS.2 c0'; clear hS; first | (go_simp; done) | (go_simp; with_reducible rfl))
                  try simp only [Act.put, List.setIfInBounds_toArray, List.set_cons_zero, List.set_cons_succ]
                  refine wpAnyH_ready (rs := [8]) (by kernel_rfl) (by simp) ?_
                  refine AllReadyH.cons (o := ⟨some 65, _, _, _, _, _⟩) rfl (fun K hK => ?_) AllReadyH.nil
                  go_simp
                  refine Calls.mono (CU.out _ hHeld.2) ?_
                  rintro e x1 ⟨rfl, hb1⟩
                  refine hK.out _ _ ⟨hHeld.1.new hb1, below_trans hHeld.2 hb1 (Nat.le_refl _)⟩ (fun hHeld' => ?_)
                  clear hK K hHeld hb1
                  have hHeld := hHeld'
                  clear hHeld'
                  try simp only [Act.put, List.setIfInBounds_toArray, List.set_cons_zero, List.set_cons_succ]
                  cases u
                  · skip
                    refine wpAnyH_take (i := 9) (oi := ⟨some 66, _, _, _, _, _⟩) (v := ?_) rfl (by kernel_rfl) (by kernel_rfl) (by kernel_rfl) (fun _ _ _ h => h) (Or.inl ⟨by kernel_rfl, ?_⟩) hHeld ?_
                    rotate_left
                    focus (intro W hS; have c0_0 := (hS.1).at_ (j := 0) rfl; have c0_1 := (hS.1).at_ (j := 1) rfl; have c0_2 := (hS.1).at_ (j := 2) rfl; have c0_3 := (hS.1).at_ (j := 3) rfl; have c0_4 := (hS.1).at_ (j := 4) rfl; have c0_5 := (hS.1).at_ (j := 5) rfl; have c0' := cell_nw hS.2 c0'; clear hS; first | (go_simp; done) | (go_simp; with_reducible rfl))
                    try simp only [Act.put, List.setIfInBounds_toArray, List.set_cons_zero, List.set_cons_succ]
                    refine wpAnyH_take (i := 10) (oi := ⟨some 67, _, _, _, _, _⟩) (v := undef) rfl (by kernel_rfl) (by kernel_rfl) (by kernel_rfl) (fun _ _ _ h => h) (Or.inr ⟨by kernel_rfl, rfl⟩) hHeld ?_
                    try simp only [Act.put, List.setIfInBounds_toArray, List.set_cons_zero, List.set_cons_succ]
                    refine wpAnyH_take (i := 11) (oi := ⟨some 68, _, _, _, _, _⟩) (v := undef) rfl (by kernel_rfl) (by kernel_rfl) (by kernel_rfl) (fun _ _ _ h => h) (Or.inr ⟨by kernel_rfl, rfl⟩) hHeld ?_
                    try simp only [Act.put, List.setIfInBounds_toArray, List.set_cons_zero, List.set_cons_succ]
                    refine wpAnyH_take (i := 12) (oi := ⟨some 69, _, _, _, _, _⟩) (v := undef) rfl (by kernel_rfl) (by kernel_rfl) (by kernel_rfl) (fun _ _ _ h => h) (Or.inr ⟨by kernel_rfl, rfl⟩) hHeld ?_
                    try simp only [Act.put, List.setIfInBounds_toArray, List.set_cons_zero, List.set_cons_succ]
                    refine wpAnyH_take (i := 13) (oi := ⟨some 70, _, _, _, _, _⟩) (v := undef) rfl (by kernel_rfl) (by kernel_rfl) (by kernel_rfl) (fun _ _ _ h => h) (Or.inr ⟨by kernel_rfl, rfl⟩) hHeld ?_
                    try simp only [Act.put, List.setIfInBounds_toArray, List.set_cons_zero, List.set_cons_succ]
                    refine wpAnyH_take (i := 14) (oi := ⟨some 71, _, _, _, _, _⟩) (v := undef) rfl (by kernel_rfl) (by kernel_rfl) (by kernel_rfl) (fun _ _ _ h => h) (Or.inr ⟨by kernel_rfl, rfl⟩) hHeld ?_
                    try simp only [Act.put, List.setIfInBounds_toArray, List.set_cons_zero, List.set_cons_succ]
                    refine wpAnyH_take (i := 15) (oi := ⟨some 72, _, _, _, _, _⟩) (v := undef) rfl (by kernel_rfl) (by kernel_rfl) (by kernel_rfl) (fun _ _ _ h => h) (Or.inr ⟨by kernel_rfl, rfl⟩) hHeld ?_
                    try simp only [Act.put, List.setIfInBounds_toArray, List.set_cons_zero, List.set_cons_succ]
                    refine wpAnyH_take (i := 16) (oi := ⟨some 73, _, _, _, _, _⟩) (v := undef) rfl (by kernel_rfl) (by kernel_rfl) (by kernel_rfl) (fun _ _ _ h => h) (Or.inr ⟨by kernel_rfl, rfl⟩) hHeld ?_
                    try simp only [Act.put, List.setIfInBounds_toArray, List.set_cons_zero, List.set_cons_succ]
                    refine wpAnyH_take (i := 17) (oi := ⟨some 74, _, _, _, _, _⟩) (v := undef) rfl (by kernel_rfl) (by kernel_rfl) (by kernel_rfl) (fun _ _ _ h => h) (Or.inr ⟨by kernel_rfl, rfl⟩) hHeld ?_
                    try simp only [Act.put, List.setIfInBounds_toArray, List.set_cons_zero, List.set_cons_succ]
                    refine wpAnyH_take (i := 18) (oi := ⟨some 75, _, _, _, _, _⟩) (v := undef) rfl (by kernel_rfl) (by kernel_rfl) (by kernel_rfl) (fun _ _ _ h => h) (Or.inr ⟨by kernel_rfl, rfl⟩) hHeld ?_
                    try simp only [Act.put, List.setIfInBounds_toArray, List.set_cons_zero, List.set_cons_succ]
                    refine wpAnyH_take (i := 19) (oi := ⟨some 76, _, _, _, _, _⟩) (v := undef) rfl (by kernel_rfl) (by kernel_rfl) (by kernel_rfl) (fun _ _ _ h => h) (Or.inr ⟨by kernel_rfl, rfl⟩) hHeld ?_
                    try simp only [Act.put, List.setIfInBounds_toArray, List.set_cons_zero, List.set_cons_succ]
                    refine wpAnyH_take (i := 20) (oi := ⟨some 77, _, _, _, _, _⟩) (v := undef) rfl (by kernel_rfl) (by kernel_rfl) (by kernel_rfl) (fun _ _ _ h => h) (Or.inr ⟨by kernel_rfl, rfl⟩) hHeld ?_
                    try simp only [Act.put, List.setIfInBounds_toArray, List.set_cons_zero, List.set_cons_succ]
                    refine wpAnyH_take (i := 21) (oi := ⟨some 78, _, _, _, _, _⟩) (v := ?_) rfl (by kernel_rfl) (by kernel_rfl) (by kernel_rfl) (fun _ _ _ h => h) (Or.inl ⟨by kernel_rfl, ?_⟩) hHeld ?_
                    rotate_left
                    focus (intro W hS; have c0_0 := (hS.1).at_ (j := 0) rfl; have c0_1 := (hS.1).at_ (j := 1) rfl; have c0_2 := (hS.1).at_ (j := 2) rfl; have c0_3 := (hS.1).at_ (j := 3) rfl; have c0_4 := (hS.1).at_ (j := 4) rfl; have c0_5 := (hS.1).at_ (j := 5) rfl; have c0' := cell_nw hS.2 c0'; clear hS; first | (go_simp; done) | (go_simp; with_reducible rfl))
                    try simp only [Act.put, List.setIfInBounds_toArray, List.set_cons_zero, List.set_cons_succ]
                    refine wpAnyH_done (by kernel_rfl) ?_ _
                    have HBx := Lib.hid hHeld.2
                    have KEx := Lib.hid hHeld.1
                    clear hHeld
                    have HF2 := Lib.hid (alls_step HF.out HZ.out (by rw [HQx.out]; simp))
                    go_wp2_with fail
                    go_roundw
                    case rel => exact ⟨k + 1, by go_num, by omega, HF2, Lib.hid (below_trans HB.out HBx.out (Nat.le_refl _))⟩
                    case measure => simp [intOf]; omega
                  · skip
                    refine wpAnyH_take (i := 9) (oi := ⟨some 66, _, _, _, _, _⟩) (v := ?_) rfl (by kernel_rfl) (by kernel_rfl) (by kernel_rfl) (fun _ _ _ h => h) (Or.inl ⟨by kernel_rfl, ?_⟩) hHeld ?_
                    rotate_left
                    focus (intro W hS; have c0_0 := (hS.1).at_ (j := 0) rfl; have c0_1 := (hS.1).at_ (j := 1) rfl; have c0_2 := (hS.1).at_ (j := 2) rfl; have c0_3 := (hS.1).at_ (j := 3) rfl; have c0_4 := (hS.1).at_ (j := 4) rfl; have c0_5 := (hS.1).at_ (j := 5) rfl; have c0' := cell_nw hS.2 c0'; clear hS; first | (go_simp; done) | (go_simp; with_reducible rfl))
                    try simp only [Act.put, List.setIfInBounds_toArray, List.set_cons_zero, List.set_cons_succ]
                    refine wpAnyH_take (i := 10) (oi := ⟨some 67, _, _, _, _, _⟩) (v := ?_) rfl (by kernel_rfl) (by kernel_rfl) (by kernel_rfl) (fun _ _ _ h => h) (Or.inl ⟨by kernel_rfl, ?_⟩) hHeld ?_
                    rotate_left
                    focus (intro W hS; have c0_0 := (hS.1).at_ (j := 0) rfl; have c0_1 := (hS.1).at_ (j := 1) rfl; have c0_2 := (hS.1).at_ (j := 2) rfl; have c0_3 := (hS.1).at_ (j := 3) rfl; have c0_4 := (hS.1).at_ (j := 4) rfl; have c0_5 := (hS.1).at_ (j := 5) rfl; have c0' := cell_nw hS.2 c0'; clear hS; first | (go_simp; done) | (go_simp; with_reducible rfl))
                    try simp only [Act.put, List.setIfInBounds_toArray, List.set_cons_zero, List.set_cons_succ]
                    refine wpAnyH_take (i := 11) (oi := ⟨some 68, _, _, _, _, _⟩) (v := ?_) rfl (by kernel_rfl) (by kernel_rfl) (by kernel_rfl) (fun _ _ _ h => h) (Or.inl ⟨by kernel_rfl, ?_⟩) hHeld ?_
                    rotate_left
                    focus (intro W hS; have c0_0 := (hS.1).at_ (j := 0) rfl; have c0_1 := (hS.1).at_ (j := 1) rfl; have c0_2 := (hS.1).at_ (j := 2) rfl; have c0_3 := (hS.1).at_ (j := 3) rfl; have c0_4 := (hS.1).at_ (j := 4) rfl; have c0_5 := (hS.1).at_ (j := 5) rfl; have c0' := cell_nw hS.2 c0'; clear hS; first | (go_simp; done) | (go_simp; with_reducible rfl))
                    try simp only [Act.put, List.setIfInBounds_toArray, List.set_cons_zero, List.set_cons_succ]
                    refine wpAnyH_take (i := 12) (oi := ⟨some 69, _, _, _, _, _⟩) (v := ?_) rfl (by kernel_rfl) (by kernel_rfl) (by kernel_rfl) (fun _ _ _ h => h) (Or.inl ⟨by kernel_rfl, ?_⟩) hHeld ?_
                    rotate_left
                    focus (intro W hS; have c0_0 := (hS.1).at_ (j := 0) rfl; have c0_1 := (hS.1).at_ (j := 1) rfl; have c0_2 := (hS.1).at_ (j := 2) rfl; have c0_3 := (hS.1).at_ (j := 3) rfl; have c0_4 := (hS.1).at_ (j := 4) rfl; have c0_5 := (hS.1).at_ (j := 5) rfl; have c0' := cell_nw hS.2 c0'; clear hS; first | (go_simp; done) | (go_simp; with_reducible rfl))
                    try simp only [Act.put, List.setIfInBounds_toArray, List.set_cons_zero, List.set_cons_succ]
                    refine wpAnyH_take (i := 13) (oi := ⟨some 70, _, _, _, _, _⟩) (v := ?_) rfl (by kernel_rfl) (by kernel_rfl) (by kernel_rfl) (fun _ _ _ h => h) (Or.inl ⟨by kernel_rfl, ?_⟩) hHeld ?_
                    rotate_left
                    focus (intro W hS; have c0_0 := (hS.1).at_ (j := 0) rfl; have c0_1 := (hS.1).at_ (j := 1) rfl; have c0_2 := (hS.1).at_ (j := 2) rfl; have c0_3 := (hS.1).at_ (j := 3) rfl; have c0_4 := (hS.1).at_ (j := 4) rfl; have c0_5 := (hS.1).at_ (j := 5) rfl; have c0' := cell_nw hS.2 c0'; clear hS; first | (go_simp; done) | (go_simp; with_reducible rfl))
                    try simp only [Act.put, List.setIfInBounds_toArray, List.set_cons_zero, List.set_cons_succ]
                    refine wpAnyH_take (i := 14) (oi := ⟨some 71, _, _, _, _, _⟩) (v := ?_) rfl (by kernel_rfl) (by kernel_rfl) (by kernel_rfl) (fun _ _ _ h => h) (Or.inl ⟨by kernel_rfl, ?_⟩) hHeld ?_
                    rotate_left
                    focus (intro W hS; have c0_0 := (hS.1).at_ (j := 0) rfl; have c0_1 := (hS.1).at_ (j := 1) rfl; have c0_2 := (hS.1).at_ (j := 2) rfl; have c0_3 := (hS.1).at_ (j := 3) rfl; have c0_4 := (hS.1).at_ (j := 4) rfl; have c0_5 := (hS.1).at_ (j := 5) rfl; have c0' := cell_nw hS.2 c0'; clear hS; first | (go_simp; done) | (go_simp; with_reducible rfl))
                    try simp only [Act.put, List.setIfInBounds_toArray, List.set_cons_zero, List.set_cons_succ]
                    refine wpAnyH_take (i := 15) (oi := ⟨some 72, _, _, _, _, _⟩) (v := ?_) rfl (by kernel_rfl) (by kernel_rfl) (by kernel_rfl) (fun _ _ _ h => h) (Or.inl ⟨by kernel_rfl, ?_⟩) hHeld ?_
                    rotate_left
                    focus (intro W hS; have c0_0 := (hS.1).at_ (j := 0) rfl; have c0_1 := (hS.1).at_ (j := 1) rfl; have c0_2 := (hS.1).at_ (j := 2) rfl; have c0_3 := (hS.1).at_ (j := 3) rfl; have c0_4 := (hS.1).at_ (j := 4) rfl; have c0_5 := (hS.1).at_ (j := 5) rfl; have c0' := cell_nw hS.2 c0'; clear hS; first | (go_simp; done) | (go_simp; with_reducible rfl))
                    try simp only [Act.put, List.setIfInBounds_toArray, List.set_cons_zero, List.set_cons_succ]
                    refine wpAnyH_take (i := 16) (oi := ⟨some 73, _, _, _, _, _⟩) (v := ?_) rfl (by kernel_rfl) (by kernel_rfl) (by kernel_rfl) (fun _ _ _ h => h) (Or.inl ⟨by kernel_rfl, ?_⟩) hHeld ?_
                    rotate_left
                    focus (intro W hS; have c0_0 := (hS.1).at_ (j := 0) rfl; have c0_1 := (hS.1).at_ (j := 1) rfl; have c0_2 := (hS.1).at_ (j := 2) rfl; have c0_3 := (hS.1).at_ (j := 3) rfl; have c0_4 := (hS.1).at_ (j := 4) rfl; have c0_5 := (hS.1).at_ (j := 5) rfl; have c0' := cell_nw hS.2 c0'; clear hS; first | (go_simp; done) | (go_simp; with_reducible rfl))
                    try simp only [Act.put, List.setIfInBounds_toArray, List.set_cons_zero, List.set_cons_succ]
                    refine wpAnyH_take (i := 17) (oi := ⟨some 74, _, _, _, _, _⟩) (v := ?_) rfl (by kernel_rfl) (by kernel_rfl) (by kernel_rfl) (fun _ _ _ h => h) (Or.inl ⟨by kernel_rfl, ?_⟩) hHeld ?_
                    rotate_left
                    focus (intro W hS; have c0_0 := (hS.1).at_ (j := 0) rfl; have c0_1 := (hS.1).at_ (j := 1) rfl; have c0_2 := (hS.1).at_ (j := 2) rfl; have c0_3 := (hS.1).at_ (j := 3) rfl; have c0_4 := (hS.1).at_ (j := 4) rfl; have c0_5 := (hS.1).at_ (j := 5) rfl; have c0' := cell_nw hS.2 c0'; clear hS; first | (go_simp; done) | (go_simp; with_reducible rfl))
                    try simp only [Act.put, List.setIfInBounds_toArray, List.set_cons_zero, List.set_cons_succ]
                    refine wpAnyH_take (i := 18) (oi := ⟨some 75, _, _, _, _, _⟩) (v := ?_) rfl (by kernel_rfl) (by kernel_rfl) (by kernel_rfl) (fun _ _ _ h => h) (Or.inl ⟨by kernel_rfl, ?_⟩) hHeld ?_
                    rotate_left
                    focus (intro W hS; have c0_0 := (hS.1).at_ (j := 0) rfl; have c0_1 := (hS.1).at_ (j := 1) rfl; have c0_2 := (hS.1).at_ (j := 2) rfl; have c0_3 := (hS.1).at_ (j := 3) rfl; have c0_4 := (hS.1).at_ (j := 4) rfl; have c0_5 := (hS.1).at_ (j := 5) rfl; have c0' := cell_nw hS.2 c0'; clear hS; first | (go_simp; done) | (go_simp; with_reducible rfl))
                    try simp only [Act.put, List.setIfInBounds_toArray, List.set_cons_zero, List.set_cons_succ]
                    refine wpAnyH_ready (rs := [19]) (by kernel_rfl) (by simp) ?_
                    refine AllReadyH.cons (o := ⟨some 76, _, _, _, _, _⟩) rfl (fun K hK => ?_) AllReadyH.nil
                    go_simp
                    refine Calls.mono (CS.out _ hHeld.2) ?_
                    rintro e x2 ⟨rfl, hb1⟩
                    refine hK.out _ _ ⟨hHeld.1.new hb1, below_trans hHeld.2 hb1 (Nat.le_refl _)⟩ (fun hHeld' => ?_)
                    clear hK K hHeld hb1
                    have hHeld := hHeld'
                    clear hHeld'
                    try simp only [Act.put, List.setIfInBounds_toArray, List.set_cons_zero, List.set_cons_succ]
                    cases q
                    · skip
                      refine wpAnyH_take (i := 20) (oi := ⟨some 77, _, _, _, _, _⟩) (v := ?_) rfl (by kernel_rfl) (by kernel_rfl) (by kernel_rfl) (fun _ _ _ h => h) (Or.inl ⟨by kernel_rfl, ?_⟩) hHeld ?_
                      rotate_left
                      focus (intro W hS; have c0_0 := (hS.1).at_ (j := 0) rfl; have c0_1 := (hS.1).at_ (j := 1) rfl; have c0_2 := (hS.1).at_ (j := 2) rfl; have c0_3 := (hS.1).at_ (j := 3) rfl; have c0_4 := (hS.1).at_ (j := 4) rfl; have c0_5 := (hS.1).at_ (j := 5) rfl; have c0' := cell_nw hS.2 c0'; clear hS; first | (go_simp; done) | (go_simp; with_reducible rfl))
                      try simp only [Act.put, List.setIfInBounds_toArray, List.set_cons_zero, List.set_cons_succ]
                      refine wpAnyH_take (i := 21) (oi := ⟨some 78, _, _, _, _, _⟩) (v := ?_) rfl (by kernel_rfl) (by kernel_rfl) (by kernel_rfl) (fun _ _ _ h => h) (Or.inl ⟨by kernel_rfl, ?_⟩) hHeld ?_
                      rotate_left
                      focus (intro W hS; have c0_0 := (hS.1).at_ (j := 0) rfl; have c0_1 := (hS.1).at_ (j := 1) rfl; have c0_2 := (hS.1).at_ (j := 2) rfl; have c0_3 := (hS.1).at_ (j := 3) rfl; have c0_4 := (hS.1).at_ (j := 4) rfl; have c0_5 := (hS.1).at_ (j := 5) rfl; have c0' := cell_nw hS.2 c0'; clear hS; first | (go_simp; done) | (go_simp; with_reducible rfl))
                      try simp only [Act.put, List.setIfInBounds_toArray, List.set_cons_zero, List.set_cons_succ]
                      refine wpAnyH_done (by kernel_rfl) ?_ _
                      have HBx := Lib.hid hHeld.2
                      have KEx := Lib.hid hHeld.1
                      clear hHeld
                      have HE := Lib.hid (show R = false by rw [HV.out, HVD.out, alls_no HZ.out (HQx.out.trans rfl)])
                      go_wp2_with fail
                      go_ret
                      exact ⟨by rw [HE.out]; rfl, below_trans HBw.out HBx.out (Nat.le_refl _)⟩
                    · skip
                      refine wpAnyH_take (i := 20) (oi := ⟨some 77, _, _, _, _, _⟩) (v := ?_) rfl (by kernel_rfl) (by kernel_rfl) (by kernel_rfl) (fun _ _ _ h => h) (Or.inl ⟨by kernel_rfl, ?_⟩) hHeld ?_
                      rotate_left
                      focus (intro W hS; have c0_0 := (hS.1).at_ (j := 0) rfl; have c0_1 := (hS.1).at_ (j := 1) rfl; have c0_2 := (hS.1).at_ (j := 2) rfl; have c0_3 := (hS.1).at_ (j := 3) rfl; have c0_4 := (hS.1).at_ (j := 4) rfl; have c0_5 := (hS.1).at_ (j := 5) rfl; have c0' := cell_nw hS.2 c0'; clear hS; first | (go_simp; done) | (go_simp; with_reducible rfl))
                      try simp only [Act.put, List.setIfInBounds_toArray, List.set_cons_zero, List.set_cons_succ]
                      refine wpAnyH_take (i := 21) (oi := ⟨some 78, _, _, _, _, _⟩) (v := ?_) rfl (by kernel_rfl) (by kernel_rfl) (by kernel_rfl) (fun _ _ _ h => h) (Or.inl ⟨by kernel_rfl, ?_⟩) hHeld ?_
                      rotate_left
                      focus (intro W hS; have c0_0 := (hS.1).at_ (j := 0) rfl; have c0_1 := (hS.1).at_ (j := 1) rfl; have c0_2 := (hS.1).at_ (j := 2) rfl; have c0_3 := (hS.1).at_ (j := 3) rfl; have c0_4 := (hS.1).at_ (j := 4) rfl; have c0_5 := (hS.1).at_ (j := 5) rfl; have c0' := cell_nw hS.2 c0'; clear hS; first | (go_simp; done) | (go_simp; with_reducible rfl))
                      try simp only [Act.put, List.setIfInBounds_toArray, List.set_cons_zero, List.set_cons_succ]
                      refine wpAnyH_done (by kernel_rfl) ?_ _
                      have HBx := Lib.hid hHeld.2
                      have KEx := Lib.hid hHeld.1
                      clear hHeld
                      have HF2 := Lib.hid (alls_step HF.out HZ.out (by rw [HQx.out]; simp))
                      go_wp2_with fail
                      go_roundw
                      case rel => exact ⟨k + 1, by go_num, by omega, HF2, Lib.hid (below_trans HB.out HBx.out (Nat.le_refl _))⟩
                      case measure => simp [intOf]; omega
                · obtain rfl : k = n0 := by omega
                  have HE := Lib.hid (show R = true by rw [HV.out, HVD.out]; have h := HF.out; rw [List.take_of_length_le (by rw [HL.out]; exact Nat.le_refl _)] at h; exact h)
                  go_wp2_with fail
                  go_ret
                  exact ⟨by rw [HE.out]; rfl, HBw.out⟩
            · skip
              have h2 : (e.f0 == 2) = false := by simpa using h2
              have h2' : (e.f0 != 2) = true := by simpa using h2
              have HE := Lib.hid (show R = true by rw [HV.out, HVD.out, h2']; simp)
              go_wp2_with fail
              go_loopw [7] (fun v wr => v = .int .i64 0 ∧ wr = w2) (fun _ _ => 0)
              case atStart => exact ⟨rfl, rfl⟩
              case round =>
                obtain ⟨rfl, rfl⟩ := hrel
                by_cases h0n : 0 < n0
                · skip
                  go_wp2_with fail
                  go_ret
                  exact ⟨by rw [HE.out]; rfl, HB2.out⟩
                · skip
                  go_wp2_with fail
                  go_ret
                  exact ⟨by rw [HE.out]; rfl, HB2.out⟩
    | false =>
      have HQN := Lib.hid (show qn = true by rw [HVN.out, hi]; simp)
      have gn : decide (0 ≤ mNodeOf l0 e.f1) = false := HQI.out.trans hi
      have HNP := Lib.hid gn
      clear hi gn
      replace HV := Lib.hid (show R = (qp && qd) by rw [HV.out, HQN.out]; rfl)
      go_enter Try.func26, Try.ntmps26
      go_wp2_with fail
      refine (CE.out _).mono ?_
      rintro e1 w1 ⟨rfl, hb1⟩
      have HB1 := Lib.hid (below_trans HB0.out hb1 (Nat.le_refl _))
      have KE1 := Lib.hid (KE0.out.new hb1)
      have HR1 := Lib.hid (HR0.out.new hb1)
      have HS1 := Lib.hid (HS0.out.new hb1)
      clear hb1
      have k0 := KE1.out.at_ (j := 0) (u := .int .i64 e.f0) rfl
      have k1 := KE1.out.at_ (j := 1) (u := .int .i64 e.f1) rfl
      have k2 := KE1.out.at_ (j := 2) (u := .int .i64 e.f2) rfl
      have k3 := KE1.out.at_ (j := 3) (u := .int .i64 e.f3) rfl
      have k4 := KE1.out.at_ (j := 4) (u := .int .i64 e.f4) rfl
      have k5 := KE1.out.at_ (j := 5) (u := .int .i64 e.f5) rfl
      have hl1 := KE1.out.lt
      go_wp2_with fail
      refine (spec_NodeOf' l0 A0 n0 c0 lo0 hi0 e.f1 _ (by omega) HR1.out).mono ?_
      rintro e8 w8 ⟨rfl, rfl⟩
      generalize mNodeOf l0 e.f1 = y at HNP ⊢
      have hyp := HNP.out
      by_cases g1 : (e.f0 == 1) = true
      · have g1' : (e.f0 != 1) = false := by simpa using g1
        have hne : (e.f0 != 2) = true := by have : e.f0 = 1 := by simpa using g1
                                            rw [this]; rfl
        cases hp : mLook l0 l1 e.f5 e.f2 with
        | false =>
          have HP := Lib.hid hp
          have HE := Lib.hid (show R = false by rw [HV.out, HVP.out, hp]; simp [g1'])
          clear hp
          go_wp2_with fail
          refine (spec_SeesNode' false l0 A0 n0 c0 lo0 hi0 l1 A1 n1 c1 lo1 hi1 e.f5 e.f2 _ h0 HR1.out p0 b0 h1 HS1.out p1 b1 W5.out W2.out HP).mono ?_
          rintro e2 w2 ⟨rfl, hb2⟩
          have HB2 := Lib.hid (below_trans HB1.out hb2 (Nat.le_refl _))
          have KE2 := Lib.hid (KE1.out.new hb2)
          have HR2 := Lib.hid (HR1.out.new hb2)
          have HS2 := Lib.hid (HS1.out.new hb2)
          clear hb2
          go_wp2_with fail
          go_ret
          exact ⟨by rw [HE.out]; rfl, HB2.out⟩
        | true =>
          have HP := Lib.hid hp
          have HE := Lib.hid (show R = true by rw [HV.out, HVP.out, HVD.out, hp, hne]; simp)
          clear hp
          go_wp2_with fail
          refine (spec_SeesNode' true l0 A0 n0 c0 lo0 hi0 l1 A1 n1 c1 lo1 hi1 e.f5 e.f2 _ h0 HR1.out p0 b0 h1 HS1.out p1 b1 W5.out W2.out HP).mono ?_
          rintro e2 w2 ⟨rfl, hb2⟩
          have HB2 := Lib.hid (below_trans HB1.out hb2 (Nat.le_refl _))
          have KE2 := Lib.hid (KE1.out.new hb2)
          have HR2 := Lib.hid (HR1.out.new hb2)
          have HS2 := Lib.hid (HS1.out.new hb2)
          clear hb2
          have m0 := KE2.out.at_ (j := 0) (u := .int .i64 e.f0) rfl
          go_wp2_with fail
          go_loopw [7] (fun v wr => v = .int .i64 0 ∧ wr = w2) (fun _ _ => 0)
          case atStart => exact ⟨rfl, rfl⟩
          case round =>
            obtain ⟨rfl, rfl⟩ := hrel
            by_cases h0n : 0 < n0
            · skip
              go_wp2_with fail
              go_ret
              exact ⟨by rw [HE.out]; rfl, HB2.out⟩
            · skip
              go_wp2_with fail
              go_ret
              exact ⟨by rw [HE.out]; rfl, HB2.out⟩
      · have g1 : (e.f0 == 1) = false := by simpa using g1
        have g1' : (e.f0 != 1) = true := by simpa using g1
        by_cases g4 : (e.f0 == 4) = true
        · have g4' : (e.f0 != 4) = false := by simpa using g4
          have hne : (e.f0 != 2) = true := by have : e.f0 = 4 := by simpa using g4
                                              rw [this]; rfl
          cases hp : mLook l0 l1 e.f5 e.f2 with
          | false =>
            have HP := Lib.hid hp
            have HE := Lib.hid (show R = false by rw [HV.out, HVP.out, hp]; simp [g4'])
            clear hp
            go_wp2_with fail
            refine (spec_SeesNode' false l0 A0 n0 c0 lo0 hi0 l1 A1 n1 c1 lo1 hi1 e.f5 e.f2 _ h0 HR1.out p0 b0 h1 HS1.out p1 b1 W5.out W2.out HP).mono ?_
            rintro e2 w2 ⟨rfl, hb2⟩
            have HB2 := Lib.hid (below_trans HB1.out hb2 (Nat.le_refl _))
            have KE2 := Lib.hid (KE1.out.new hb2)
            have HR2 := Lib.hid (HR1.out.new hb2)
            have HS2 := Lib.hid (HS1.out.new hb2)
            clear hb2
            go_wp2_with fail
            go_ret
            exact ⟨by rw [HE.out]; rfl, HB2.out⟩
          | true =>
            have HP := Lib.hid hp
            have HE := Lib.hid (show R = true by rw [HV.out, HVP.out, HVD.out, hp, hne]; simp)
            clear hp
            go_wp2_with fail
            refine (spec_SeesNode' true l0 A0 n0 c0 lo0 hi0 l1 A1 n1 c1 lo1 hi1 e.f5 e.f2 _ h0 HR1.out p0 b0 h1 HS1.out p1 b1 W5.out W2.out HP).mono ?_
            rintro e2 w2 ⟨rfl, hb2⟩
            have HB2 := Lib.hid (below_trans HB1.out hb2 (Nat.le_refl _))
            have KE2 := Lib.hid (KE1.out.new hb2)
            have HR2 := Lib.hid (HR1.out.new hb2)
            have HS2 := Lib.hid (HS1.out.new hb2)
            clear hb2
            have m0 := KE2.out.at_ (j := 0) (u := .int .i64 e.f0) rfl
            go_wp2_with fail
            go_loopw [7] (fun v wr => v = .int .i64 0 ∧ wr = w2) (fun _ _ => 0)
            case atStart => exact ⟨rfl, rfl⟩
            case round =>
              obtain ⟨rfl, rfl⟩ := hrel
              by_cases h0n : 0 < n0
              · skip
                go_wp2_with fail
                go_ret
                exact ⟨by rw [HE.out]; rfl, HB2.out⟩
              · skip
                go_wp2_with fail
                go_ret
                exact ⟨by rw [HE.out]; rfl, HB2.out⟩
        · have g4 : (e.f0 == 4) = false := by simpa using g4
          have g4' : (e.f0 != 4) = true := by simpa using g4
          have HQP := Lib.hid (show qp = true by rw [HVP.out, g1', g4']; simp)
          replace HV := Lib.hid (show R = qd by rw [HV.out, HQP.out]; simp)
          by_cases h2 : (e.f0 == 2) = true
          · skip
            have h2' : (e.f0 != 2) = false := by simpa using h2
            replace HVD := Lib.hid (show qd = l0.all (okOne l0 l1 e) by rw [HVD.out, h2']; simp)
            generalize hQ : okOne l0 l1 e = Q at HVD
            have HQ := Lib.hid (show ∀ x, Q x = (mLook l0 l1 e.f5 x.f0 || !mUnder l0 x.f0 e.f1) by intro x; rw [← hQ]; rfl)
            clear hQ
            go_wp2_with fail
            go_loopw [7] (fun v wr => ∃ k : Nat, v = .int .i64 k ∧ k ≤ n0 ∧ Hid ((l0.take k).all Q = true) ∧ Hid (Below w1.heap.size w1 wr)) (fun v _ => n0 - (intOf v).toNat)
            case atStart => exact ⟨0, rfl, Nat.zero_le _, Lib.hid (by simp), Lib.hid (Below.refl _ _)⟩
            case round =>
              obtain ⟨k, rfl, hk, HF, HB⟩ := hrel
              have HRw := Lib.hid (HR1.out.new HB.out)
              have HSw := Lib.hid (HS1.out.new HB.out)
              have KEw := Lib.hid (KE1.out.new HB.out)
              have HBw := Lib.hid (below_trans HB1.out HB.out (Nat.le_refl _))
              have k0 := KEw.out.at_ (j := 0) (u := .int .i64 e.f0) rfl
              have hl2 := KEw.out.lt
              by_cases hlt : k < n0
              · obtain ⟨b, off, x, rfl, _, _, hz, hc⟩ := rd_elem TNode.len HRw.out HL.out hlt
                have c0' : wr.cell? ⟨b, off + k * 5, none⟩ = _ := hc 0 _ rfl
                have HZ := Lib.hid hz
                have WX := Lib.hid (node_wf b0.out hz).1
                have HQx := Lib.hid (HQ.out x)
                have CU := Lib.hid (fun W (hW : Below wr.heap.size wr W) => spec_IsUnder l0 (some ⟨b, off, none⟩) n0 c0 lo0 hi0 x.f0 e.f1 W h0 (HRw.out.new hW) p0 b0 WX.out W1.out)
                have CS := Lib.hid (fun W (hW : Below wr.heap.size wr W) => spec_SeesNode l0 (some ⟨b, off, none⟩) n0 c0 lo0 hi0 l1 A1 n1 c1 lo1 hi1 e.f5 x.f0 W h0 (HRw.out.new hW) p0 b0 h1 (HSw.out.new hW) p1 b1 W5.out WX.out)
                generalize mUnder l0 x.f0 e.f1 = u at CU HQx
                generalize mLook l0 l1 e.f5 x.f0 = q at CS HQx
                clear hz hc
                go_wp2_with fail
                refine wp_region_held_drew (S := fun w' => BoxAt w' w.heap.size 40 #[.int .i64 e.f0, .int .i64 e.f1, .int .i64 e.f2, .int .i64 e.f3, .int .i64 e.f4, .int .i64 e.f5] ∧ Below wr.heap.size wr w') (by kernel_rfl) ?_ (fun hHeld => ?_)
                · exact ⟨KEw.out.drw, (Below.refl _ _).drew⟩
                refine wpAnyH_take (i := 0) (oi := ⟨some 57, _, _, _, _, _⟩) (v := ?_) rfl (by kernel_rfl) (by kernel_rfl) (by kernel_rfl) (fun _ _ _ h => h) (Or.inl ⟨by kernel_rfl, ?_⟩) hHeld ?_
                rotate_left
                focus (intro W hS; have c0_0 := (hS.1).at_ (j := 0) rfl; have c0_1 := (hS.1).at_ (j := 1) rfl; have c0_2 := (hS.1).at_ (j := 2) rfl; have c0_3 := (hS.1).at_ (j := 3) rfl; have c0_4 := (hS.1).at_ (j := 4) rfl; have c0_5 := (hS.1).at_ (j := 5) rfl; have c0' := cell_nw hS.2 c0'; clear hS; first | (go_simp; done) | (go_simp; with_reducible rfl))
                try simp only [Act.put, List.setIfInBounds_toArray, List.set_cons_zero, List.set_cons_succ]
                refine wpAnyH_take (i := 1) (oi := ⟨some 58, _, _, _, _, _⟩) (v := ?_) rfl (by kernel_rfl) (by kernel_rfl) (by kernel_rfl) (fun _ _ _ h => h) (Or.inl ⟨by kernel_rfl, ?_⟩) hHeld ?_
                rotate_left
                focus (intro W hS; have c0_0 := (hS.1).at_ (j := 0) rfl; have c0_1 := (hS.1).at_ (j := 1) rfl; have c0_2 := (hS.1).at_ (j := 2) rfl; have c0_3 := (hS.1).at_ (j := 3) rfl; have c0_4 := (hS.1).at_ (j := 4) rfl; have c0_5 := (hS.1).at_ (j := 5) rfl; have c0' := cell_nw hS.2 c0'; clear hS; first | (go_simp; done) | (go_simp; with_reducible rfl))
                try simp only [Act.put, List.setIfInBounds_toArray, List.set_cons_zero, List.set_cons_succ]
                refine wpAnyH_take (i := 2) (oi := ⟨some 59, _, _, _, _, _⟩) (v := ?_) rfl (by kernel_rfl) (by kernel_rfl) (by kernel_rfl) (fun _ _ _ h => h) (Or.inl ⟨by kernel_rfl, ?_⟩) hHeld ?_
                rotate_left
                focus (intro W hS; have c0_0 := (hS.1).at_ (j := 0) rfl; have c0_1 := (hS.1).at_ (j := 1) rfl; have c0_2 := (hS.1).at_ (j := 2) rfl; have c0_3 := (hS.1).at_ (j := 3) rfl; have c0_4 := (hS.1).at_ (j := 4) rfl; have c0_5 := (hS.1).at_ (j := 5) rfl; have c0' := cell_nw hS.2 c0'; clear hS; first | (go_simp; done) | (go_simp; with_reducible rfl))
                try simp only [Act.put, List.setIfInBounds_toArray, List.set_cons_zero, List.set_cons_succ]
                refine wpAnyH_take (i := 3) (oi := ⟨some 60, _, _, _, _, _⟩) (v := ?_) rfl (by kernel_rfl) (by kernel_rfl) (by kernel_rfl) (fun _ _ _ h => h) (Or.inl ⟨by kernel_rfl, ?_⟩) hHeld ?_
                rotate_left
                focus (intro W hS; have c0_0 := (hS.1).at_ (j := 0) rfl; have c0_1 := (hS.1).at_ (j := 1) rfl; have c0_2 := (hS.1).at_ (j := 2) rfl; have c0_3 := (hS.1).at_ (j := 3) rfl; have c0_4 := (hS.1).at_ (j := 4) rfl; have c0_5 := (hS.1).at_ (j := 5) rfl; have c0' := cell_nw hS.2 c0'; clear hS; first | (go_simp; done) | (go_simp; with_reducible rfl))
                try simp only [Act.put, List.setIfInBounds_toArray, List.set_cons_zero, List.set_cons_succ]
                refine wpAnyH_take (i := 4) (oi := ⟨some 61, _, _, _, _, _⟩) (v := ?_) rfl (by kernel_rfl) (by kernel_rfl) (by kernel_rfl) (fun _ _ _ h => h) (Or.inl ⟨by kernel_rfl, ?_⟩) hHeld ?_
                rotate_left
                focus (intro W hS; have c0_0 := (hS.1).at_ (j := 0) rfl; have c0_1 := (hS.1).at_ (j := 1) rfl; have c0_2 := (hS.1).at_ (j := 2) rfl; have c0_3 := (hS.1).at_ (j := 3) rfl; have c0_4 := (hS.1).at_ (j := 4) rfl; have c0_5 := (hS.1).at_ (j := 5) rfl; have c0' := cell_nw hS.2 c0'; clear hS; first | (go_simp; done) | (go_simp; with_reducible rfl))
                try simp only [Act.put, List.setIfInBounds_toArray, List.set_cons_zero, List.set_cons_succ]
                refine wpAnyH_take (i := 5) (oi := ⟨some 62, _, _, _, _, _⟩) (v := ?_) rfl (by kernel_rfl) (by kernel_rfl) (by kernel_rfl) (fun _ _ _ h => h) (Or.inl ⟨by kernel_rfl, ?_⟩) hHeld ?_
                rotate_left
                focus (intro W hS; have c0_0 := (hS.1).at_ (j := 0) rfl; have c0_1 := (hS.1).at_ (j := 1) rfl; have c0_2 := (hS.1).at_ (j := 2) rfl; have c0_3 := (hS.1).at_ (j := 3) rfl; have c0_4 := (hS.1).at_ (j := 4) rfl; have c0_5 := (hS.1).at_ (j := 5) rfl; have c0' := cell_nw hS.2 c0'; clear hS; first | (go_simp; done) | (go_simp; with_reducible rfl))
                try simp only [Act.put, List.setIfInBounds_toArray, List.set_cons_zero, List.set_cons_succ]
                refine wpAnyH_take (i := 6) (oi := ⟨some 63, _, _, _, _, _⟩) (v := ?_) rfl (by kernel_rfl) (by kernel_rfl) (by kernel_rfl) (fun _ _ _ h => h) (Or.inl ⟨by kernel_rfl, ?_⟩) hHeld ?_
                rotate_left
                focus (intro W hS; have c0_0 := (hS.1).at_ (j := 0) rfl; have c0_1 := (hS.1).at_ (j := 1) rfl; have c0_2 := (hS.1).at_ (j := 2) rfl; have c0_3 := (hS.1).at_ (j := 3) rfl; have c0_4 := (hS.1).at_ (j := 4) rfl; have c0_5 := (hS.1).at_ (j := 5) rfl; have c0' := cell_nw hS.2 c0'; clear hS; first | (go_simp; done) | (go_simp; with_reducible rfl))
                try simp only [Act.put, List.setIfInBounds_toArray, List.set_cons_zero, List.set_cons_succ]
                refine wpAnyH_take (i := 7) (oi := ⟨some 64, _, _, _, _, _⟩) (v := ?_) rfl (by kernel_rfl) (by kernel_rfl) (by kernel_rfl) (fun _ _ _ h => h) (Or.inl ⟨by kernel_rfl, ?_⟩) hHeld ?_
                rotate_left
                focus (intro W hS; have c0_0 := (hS.1).at_ (j := 0) rfl; have c0_1 := (hS.1).at_ (j := 1) rfl; have c0_2 := (hS.1).at_ (j := 2) rfl; have c0_3 := (hS.1).at_ (j := 3) rfl; have c0_4 := (hS.1).at_ (j := 4) rfl; have c0_5 := (hS.1).at_ (j := 5) rfl; have c0' := cell_nw hS.2 c0'; clear hS; first | (go_simp; done) | (go_simp; with_reducible rfl))
                try simp only [Act.put, List.setIfInBounds_toArray, List.set_cons_zero, List.set_cons_succ]
                refine wpAnyH_ready (rs := [8]) (by kernel_rfl) (by simp) ?_
                refine AllReadyH.cons (o := ⟨some 65, _, _, _, _, _⟩) rfl (fun K hK => ?_) AllReadyH.nil
                go_simp
                refine Calls.mono (CU.out _ hHeld.2) ?_
                rintro e x1 ⟨rfl, hb1⟩
                refine hK.out _ _ ⟨hHeld.1.new hb1, below_trans hHeld.2 hb1 (Nat.le_refl _)⟩ (fun hHeld' => ?_)
                clear hK K hHeld hb1
                have hHeld := hHeld'
                clear hHeld'
                try simp only [Act.put, List.setIfInBounds_toArray, List.set_cons_zero, List.set_cons_succ]
                cases u
                · skip
                  refine wpAnyH_take (i := 9) (oi := ⟨some 66, _, _, _, _, _⟩) (v := ?_) rfl (by kernel_rfl) (by kernel_rfl) (by kernel_rfl) (fun _ _ _ h => h) (Or.inl ⟨by kernel_rfl, ?_⟩) hHeld ?_
                  rotate_left
                  focus (intro W hS; have c0_0 := (hS.1).at_ (j := 0) rfl; have c0_1 := (hS.1).at_ (j := 1) rfl; have c0_2 := (hS.1).at_ (j := 2) rfl; have c0_3 := (hS.1).at_ (j := 3) rfl; have c0_4 := (hS.1).at_ (j := 4) rfl; have c0_5 := (hS.1).at_ (j := 5) rfl; have c0' := cell_nw hS.2 c0'; clear hS; first | (go_simp; done) | (go_simp; with_reducible rfl))
                  try simp only [Act.put, List.setIfInBounds_toArray, List.set_cons_zero, List.set_cons_succ]
                  refine wpAnyH_take (i := 10) (oi := ⟨some 67, _, _, _, _, _⟩) (v := undef) rfl (by kernel_rfl) (by kernel_rfl) (by kernel_rfl) (fun _ _ _ h => h) (Or.inr ⟨by kernel_rfl, rfl⟩) hHeld ?_
                  try simp only [Act.put, List.setIfInBounds_toArray, List.set_cons_zero, List.set_cons_succ]
                  refine wpAnyH_take (i := 11) (oi := ⟨some 68, _, _, _, _, _⟩) (v := undef) rfl (by kernel_rfl) (by kernel_rfl) (by kernel_rfl) (fun _ _ _ h => h) (Or.inr ⟨by kernel_rfl, rfl⟩) hHeld ?_
                  try simp only [Act.put, List.setIfInBounds_toArray, List.set_cons_zero, List.set_cons_succ]
                  refine wpAnyH_take (i := 12) (oi := ⟨some 69, _, _, _, _, _⟩) (v := undef) rfl (by kernel_rfl) (by kernel_rfl) (by kernel_rfl) (fun _ _ _ h => h) (Or.inr ⟨by kernel_rfl, rfl⟩) hHeld ?_
                  try simp only [Act.put, List.setIfInBounds_toArray, List.set_cons_zero, List.set_cons_succ]
                  refine wpAnyH_take (i := 13) (oi := ⟨some 70, _, _, _, _, _⟩) (v := undef) rfl (by kernel_rfl) (by kernel_rfl) (by kernel_rfl) (fun _ _ _ h => h) (Or.inr ⟨by kernel_rfl, rfl⟩) hHeld ?_
                  try simp only [Act.put, List.setIfInBounds_toArray, List.set_cons_zero, List.set_cons_succ]
                  refine wpAnyH_take (i := 14) (oi := ⟨some 71, _, _, _, _, _⟩) (v := undef) rfl (by kernel_rfl) (by kernel_rfl) (by kernel_rfl) (fun _ _ _ h => h) (Or.inr ⟨by kernel_rfl, rfl⟩) hHeld ?_
                  try simp only [Act.put, List.setIfInBounds_toArray, List.set_cons_zero, List.set_cons_succ]
                  refine wpAnyH_take (i := 15) (oi := ⟨some 72, _, _, _, _, _⟩) (v := undef) rfl (by kernel_rfl) (by kernel_rfl) (by kernel_rfl) (fun _ _ _ h => h) (Or.inr ⟨by kernel_rfl, rfl⟩) hHeld ?_
                  try simp only [Act.put, List.setIfInBounds_toArray, List.set_cons_zero, List.set_cons_succ]
                  refine wpAnyH_take (i := 16) (oi := ⟨some 73, _, _, _, _, _⟩) (v := undef) rfl (by kernel_rfl) (by kernel_rfl) (by kernel_rfl) (fun _ _ _ h => h) (Or.inr ⟨by kernel_rfl, rfl⟩) hHeld ?_
                  try simp only [Act.put, List.setIfInBounds_toArray, List.set_cons_zero, List.set_cons_succ]
                  refine wpAnyH_take (i := 17) (oi := ⟨some 74, _, _, _, _, _⟩) (v := undef) rfl (by kernel_rfl) (by kernel_rfl) (by kernel_rfl) (fun _ _ _ h => h) (Or.inr ⟨by kernel_rfl, rfl⟩) hHeld ?_
                  try simp only [Act.put, List.setIfInBounds_toArray, List.set_cons_zero, List.set_cons_succ]
                  refine wpAnyH_take (i := 18) (oi := ⟨some 75, _, _, _, _, _⟩) (v := undef) rfl (by kernel_rfl) (by kernel_rfl) (by kernel_rfl) (fun _ _ _ h => h) (Or.inr ⟨by kernel_rfl, rfl⟩) hHeld ?_
                  try simp only [Act.put, List.setIfInBounds_toArray, List.set_cons_zero, List.set_cons_succ]
                  refine wpAnyH_take (i := 19) (oi := ⟨some 76, _, _, _, _, _⟩) (v := undef) rfl (by kernel_rfl) (by kernel_rfl) (by kernel_rfl) (fun _ _ _ h => h) (Or.inr ⟨by kernel_rfl, rfl⟩) hHeld ?_
                  try simp only [Act.put, List.setIfInBounds_toArray, List.set_cons_zero, List.set_cons_succ]
                  refine wpAnyH_take (i := 20) (oi := ⟨some 77, _, _, _, _, _⟩) (v := undef) rfl (by kernel_rfl) (by kernel_rfl) (by kernel_rfl) (fun _ _ _ h => h) (Or.inr ⟨by kernel_rfl, rfl⟩) hHeld ?_
                  try simp only [Act.put, List.setIfInBounds_toArray, List.set_cons_zero, List.set_cons_succ]
                  refine wpAnyH_take (i := 21) (oi := ⟨some 78, _, _, _, _, _⟩) (v := ?_) rfl (by kernel_rfl) (by kernel_rfl) (by kernel_rfl) (fun _ _ _ h => h) (Or.inl ⟨by kernel_rfl, ?_⟩) hHeld ?_
                  rotate_left
                  focus (intro W hS; have c0_0 := (hS.1).at_ (j := 0) rfl; have c0_1 := (hS.1).at_ (j := 1) rfl; have c0_2 := (hS.1).at_ (j := 2) rfl; have c0_3 := (hS.1).at_ (j := 3) rfl; have c0_4 := (hS.1).at_ (j := 4) rfl; have c0_5 := (hS.1).at_ (j := 5) rfl; have c0' := cell_nw hS.2 c0'; clear hS; first | (go_simp; done) | (go_simp; with_reducible rfl))
                  try simp only [Act.put, List.setIfInBounds_toArray, List.set_cons_zero, List.set_cons_succ]
                  refine wpAnyH_done (by kernel_rfl) ?_ _
                  have HBx := Lib.hid hHeld.2
                  have KEx := Lib.hid hHeld.1
                  clear hHeld
                  have HF2 := Lib.hid (alls_step HF.out HZ.out (by rw [HQx.out]; simp))
                  go_wp2_with fail
                  go_roundw
                  case rel => exact ⟨k + 1, by go_num, by omega, HF2, Lib.hid (below_trans HB.out HBx.out (Nat.le_refl _))⟩
                  case measure => simp [intOf]; omega
                · skip
                  refine wpAnyH_take (i := 9) (oi := ⟨some 66, _, _, _, _, _⟩) (v := ?_) rfl (by kernel_rfl) (by kernel_rfl) (by kernel_rfl) (fun _ _ _ h => h) (Or.inl ⟨by kernel_rfl, ?_⟩) hHeld ?_
                  rotate_left
                  focus (intro W hS; have c0_0 := (hS.1).at_ (j := 0) rfl; have c0_1 := (hS.1).at_ (j := 1) rfl; have c0_2 := (hS.1).at_ (j := 2) rfl; have c0_3 := (hS.1).at_ (j := 3) rfl; have c0_4 := (hS.1).at_ (j := 4) rfl; have c0_5 := (hS.1).at_ (j := 5) rfl; have c0' := cell_nw hS.2 c0'; clear hS; first | (go_simp; done) | (go_simp; with_reducible rfl))
                  try simp only [Act.put, List.setIfInBounds_toArray, List.set_cons_zero, List.set_cons_succ]
                  refine wpAnyH_take (i := 10) (oi := ⟨some 67, _, _, _, _, _⟩) (v := ?_) rfl (by kernel_rfl) (by kernel_rfl) (by kernel_rfl) (fun _ _ _ h => h) (Or.inl ⟨by kernel_rfl, ?_⟩) hHeld ?_
                  rotate_left
                  focus (intro W hS; have c0_0 := (hS.1).at_ (j := 0) rfl; have c0_1 := (hS.1).at_ (j := 1) rfl; have c0_2 := (hS.1).at_ (j := 2) rfl; have c0_3 := (hS.1).at_ (j := 3) rfl; have c0_4 := (hS.1).at_ (j := 4) rfl; have c0_5 := (hS.1).at_ (j := 5) rfl; have c0' := cell_nw hS.2 c0'; clear hS; first | (go_simp; done) | (go_simp; with_reducible rfl))
                  try simp only [Act.put, List.setIfInBounds_toArray, List.set_cons_zero, List.set_cons_succ]
                  refine wpAnyH_take (i := 11) (oi := ⟨some 68, _, _, _, _, _⟩) (v := ?_) rfl (by kernel_rfl) (by kernel_rfl) (by kernel_rfl) (fun _ _ _ h => h) (Or.inl ⟨by kernel_rfl, ?_⟩) hHeld ?_
                  rotate_left
                  focus (intro W hS; have c0_0 := (hS.1).at_ (j := 0) rfl; have c0_1 := (hS.1).at_ (j := 1) rfl; have c0_2 := (hS.1).at_ (j := 2) rfl; have c0_3 := (hS.1).at_ (j := 3) rfl; have c0_4 := (hS.1).at_ (j := 4) rfl; have c0_5 := (hS.1).at_ (j := 5) rfl; have c0' := cell_nw hS.2 c0'; clear hS; first | (go_simp; done) | (go_simp; with_reducible rfl))
                  try simp only [Act.put, List.setIfInBounds_toArray, List.set_cons_zero, List.set_cons_succ]
                  refine wpAnyH_take (i := 12) (oi := ⟨some 69, _, _, _, _, _⟩) (v := ?_) rfl (by kernel_rfl) (by kernel_rfl) (by kernel_rfl) (fun _ _ _ h => h) (Or.inl ⟨by kernel_rfl, ?_⟩) hHeld ?_
                  rotate_left
                  focus (intro W hS; have c0_0 := (hS.1).at_ (j := 0) rfl; have c0_1 := (hS.1).at_ (j := 1) rfl; have c0_2 := (hS.1).at_ (j := 2) rfl; have c0_3 := (hS.1).at_ (j := 3) rfl; have c0_4 := (hS.1).at_ (j := 4) rfl; have c0_5 := (hS.1).at_ (j := 5) rfl; have c0' := cell_nw hS.2 c0'; clear hS; first | (go_simp; done) | (go_simp; with_reducible rfl))
                  try simp only [Act.put, List.setIfInBounds_toArray, List.set_cons_zero, List.set_cons_succ]
                  refine wpAnyH_take (i := 13) (oi := ⟨some 70, _, _, _, _, _⟩) (v := ?_) rfl (by kernel_rfl) (by kernel_rfl) (by kernel_rfl) (fun _ _ _ h => h) (Or.inl ⟨by kernel_rfl, ?_⟩) hHeld ?_
                  rotate_left
                  focus (intro W hS; have c0_0 := (hS.1).at_ (j := 0) rfl; have c0_1 := (hS.1).at_ (j := 1) rfl; have c0_2 := (hS.1).at_ (j := 2) rfl; have c0_3 := (hS.1).at_ (j := 3) rfl; have c0_4 := (hS.1).at_ (j := 4) rfl; have c0_5 := (hS.1).at_ (j := 5) rfl; have c0' := cell_nw hS.2 c0'; clear hS; first | (go_simp; done) | (go_simp; with_reducible rfl))
                  try simp only [Act.put, List.setIfInBounds_toArray, List.set_cons_zero, List.set_cons_succ]
                  refine wpAnyH_take (i := 14) (oi := ⟨some 71, _, _, _, _, _⟩) (v := ?_) rfl (by kernel_rfl) (by kernel_rfl) (by kernel_rfl) (fun _ _ _ h => h) (Or.inl ⟨by kernel_rfl, ?_⟩) hHeld ?_
                  rotate_left
                  focus (intro W hS; have c0_0 := (hS.1).at_ (j := 0) rfl; have c0_1 := (hS.1).at_ (j := 1) rfl; have c0_2 := (hS.1).at_ (j := 2) rfl; have c0_3 := (hS.1).at_ (j := 3) rfl; have c0_4 := (hS.1).at_ (j := 4) rfl; have c0_5 := (hS.1).at_ (j := 5) rfl; have c0' := cell_nw hS.2 c0'; clear hS; first | (go_simp; done) | (go_simp; with_reducible rfl))
                  try simp only [Act.put, List.setIfInBounds_toArray, List.set_cons_zero, List.set_cons_succ]
                  refine wpAnyH_take (i := 15) (oi := ⟨some 72, _, _, _, _, _⟩) (v := ?_) rfl (by kernel_rfl) (by kernel_rfl) (by kernel_rfl) (fun _ _ _ h => h) (Or.inl ⟨by kernel_rfl, ?_⟩) hHeld ?_
                  rotate_left
                  focus (intro W hS; have c0_0 := (hS.1).at_ (j := 0) rfl; have c0_1 := (hS.1).at_ (j := 1) rfl; have c0_2 := (hS.1).at_ (j := 2) rfl; have c0_3 := (hS.1).at_ (j := 3) rfl; have c0_4 := (hS.1).at_ (j := 4) rfl; have c0_5 := (hS.1).at_ (j := 5) rfl; have c0' := cell_nw hS.2 c0'; clear hS; first | (go_simp; done) | (go_simp; with_reducible rfl))
                  try simp only [Act.put, List.setIfInBounds_toArray, List.set_cons_zero, List.set_cons_succ]
                  refine wpAnyH_take (i := 16) (oi := ⟨some 73, _, _, _, _, _⟩) (v := ?_) rfl (by kernel_rfl) (by kernel_rfl) (by kernel_rfl) (fun _ _ _ h => h) (Or.inl ⟨by kernel_rfl, ?_⟩) hHeld ?_
                  rotate_left
                  focus (intro W hS; have c0_0 := (hS.1).at_ (j := 0) rfl; have c0_1 := (hS.1).at_ (j := 1) rfl; have c0_2 := (hS.1).at_ (j := 2) rfl; have c0_3 := (hS.1).at_ (j := 3) rfl; have c0_4 := (hS.1).at_ (j := 4) rfl; have c0_5 := (hS.1).at_ (j := 5) rfl; have c0' := cell_nw hS.2 c0'; clear hS; first | (go_simp; done) | (go_simp; with_reducible rfl))
                  try simp only [Act.put, List.setIfInBounds_toArray, List.set_cons_zero, List.set_cons_succ]
                  refine wpAnyH_take (i := 17) (oi := ⟨some 74, _, _, _, _, _⟩) (v := ?_) rfl (by kernel_rfl) (by kernel_rfl) (by kernel_rfl) (fun _ _ _ h => h) (Or.inl ⟨by kernel_rfl, ?_⟩) hHeld ?_
                  rotate_left
                  focus (intro W hS; have c0_0 := (hS.1).at_ (j := 0) rfl; have c0_1 := (hS.1).at_ (j := 1) rfl; have c0_2 := (hS.1).at_ (j := 2) rfl; have c0_3 := (hS.1).at_ (j := 3) rfl; have c0_4 := (hS.1).at_ (j := 4) rfl; have c0_5 := (hS.1).at_ (j := 5) rfl; have c0' := cell_nw hS.2 c0'; clear hS; first | (go_simp; done) | (go_simp; with_reducible rfl))
                  try simp only [Act.put, List.setIfInBounds_toArray, List.set_cons_zero, List.set_cons_succ]
                  refine wpAnyH_take (i := 18) (oi := ⟨some 75, _, _, _, _, _⟩) (v := ?_) rfl (by kernel_rfl) (by kernel_rfl) (by kernel_rfl) (fun _ _ _ h => h) (Or.inl ⟨by kernel_rfl, ?_⟩) hHeld ?_
                  rotate_left
                  focus (intro W hS; have c0_0 := (hS.1).at_ (j := 0) rfl; have c0_1 := (hS.1).at_ (j := 1) rfl; have c0_2 := (hS.1).at_ (j := 2) rfl; have c0_3 := (hS.1).at_ (j := 3) rfl; have c0_4 := (hS.1).at_ (j := 4) rfl; have c0_5 := (hS.1).at_ (j := 5) rfl; have c0' := cell_nw hS.2 c0'; clear hS; first | (go_simp; done) | (go_simp; with_reducible rfl))
                  try simp only [Act.put, List.setIfInBounds_toArray, List.set_cons_zero, List.set_cons_succ]
                  refine wpAnyH_ready (rs := [19]) (by kernel_rfl) (by simp) ?_
                  refine AllReadyH.cons (o := ⟨some 76, _, _, _, _, _⟩) rfl (fun K hK => ?_) AllReadyH.nil
                  go_simp
                  refine Calls.mono (CS.out _ hHeld.2) ?_
                  rintro e x2 ⟨rfl, hb1⟩
                  refine hK.out _ _ ⟨hHeld.1.new hb1, below_trans hHeld.2 hb1 (Nat.le_refl _)⟩ (fun hHeld' => ?_)
                  clear hK K hHeld hb1
                  have hHeld := hHeld'
                  clear hHeld'
                  try simp only [Act.put, List.setIfInBounds_toArray, List.set_cons_zero, List.set_cons_succ]
                  cases q
                  · skip
                    refine wpAnyH_take (i := 20) (oi := ⟨some 77, _, _, _, _, _⟩) (v := ?_) rfl (by kernel_rfl) (by kernel_rfl) (by kernel_rfl) (fun _ _ _ h => h) (Or.inl ⟨by kernel_rfl, ?_⟩) hHeld ?_
                    rotate_left
                    focus (intro W hS; have c0_0 := (hS.1).at_ (j := 0) rfl; have c0_1 := (hS.1).at_ (j := 1) rfl; have c0_2 := (hS.1).at_ (j := 2) rfl; have c0_3 := (hS.1).at_ (j := 3) rfl; have c0_4 := (hS.1).at_ (j := 4) rfl; have c0_5 := (hS.1).at_ (j := 5) rfl; have c0' := cell_nw hS.2 c0'; clear hS; first | (go_simp; done) | (go_simp; with_reducible rfl))
                    try simp only [Act.put, List.setIfInBounds_toArray, List.set_cons_zero, List.set_cons_succ]
                    refine wpAnyH_take (i := 21) (oi := ⟨some 78, _, _, _, _, _⟩) (v := ?_) rfl (by kernel_rfl) (by kernel_rfl) (by kernel_rfl) (fun _ _ _ h => h) (Or.inl ⟨by kernel_rfl, ?_⟩) hHeld ?_
                    rotate_left
                    focus (intro W hS; have c0_0 := (hS.1).at_ (j := 0) rfl; have c0_1 := (hS.1).at_ (j := 1) rfl; have c0_2 := (hS.1).at_ (j := 2) rfl; have c0_3 := (hS.1).at_ (j := 3) rfl; have c0_4 := (hS.1).at_ (j := 4) rfl; have c0_5 := (hS.1).at_ (j := 5) rfl; have c0' := cell_nw hS.2 c0'; clear hS; first | (go_simp; done) | (go_simp; with_reducible rfl))
                    try simp only [Act.put, List.setIfInBounds_toArray, List.set_cons_zero, List.set_cons_succ]
                    refine wpAnyH_done (by kernel_rfl) ?_ _
                    have HBx := Lib.hid hHeld.2
                    have KEx := Lib.hid hHeld.1
                    clear hHeld
                    have HE := Lib.hid (show R = false by rw [HV.out, HVD.out, alls_no HZ.out (HQx.out.trans rfl)])
                    go_wp2_with fail
                    go_ret
                    exact ⟨by rw [HE.out]; rfl, below_trans HBw.out HBx.out (Nat.le_refl _)⟩
                  · skip
                    refine wpAnyH_take (i := 20) (oi := ⟨some 77, _, _, _, _, _⟩) (v := ?_) rfl (by kernel_rfl) (by kernel_rfl) (by kernel_rfl) (fun _ _ _ h => h) (Or.inl ⟨by kernel_rfl, ?_⟩) hHeld ?_
                    rotate_left
                    focus (intro W hS; have c0_0 := (hS.1).at_ (j := 0) rfl; have c0_1 := (hS.1).at_ (j := 1) rfl; have c0_2 := (hS.1).at_ (j := 2) rfl; have c0_3 := (hS.1).at_ (j := 3) rfl; have c0_4 := (hS.1).at_ (j := 4) rfl; have c0_5 := (hS.1).at_ (j := 5) rfl; have c0' := cell_nw hS.2 c0'; clear hS; first | (go_simp; done) | (go_simp; with_reducible rfl))
                    try simp only [Act.put, List.setIfInBounds_toArray, List.set_cons_zero, List.set_cons_succ]
                    refine wpAnyH_take (i := 21) (oi := ⟨some 78, _, _, _, _, _⟩) (v := ?_) rfl (by kernel_rfl) (by kernel_rfl) (by kernel_rfl) (fun _ _ _ h => h) (Or.inl ⟨by kernel_rfl, ?_⟩) hHeld ?_
                    rotate_left
                    focus (intro W hS; have c0_0 := (hS.1).at_ (j := 0) rfl; have c0_1 := (hS.1).at_ (j := 1) rfl; have c0_2 := (hS.1).at_ (j := 2) rfl; have c0_3 := (hS.1).at_ (j := 3) rfl; have c0_4 := (hS.1).at_ (j := 4) rfl; have c0_5 := (hS.1).at_ (j := 5) rfl; have c0' := cell_nw hS.2 c0'; clear hS; first | (go_simp; done) | (go_simp; with_reducible rfl))
                    try simp only [Act.put, List.setIfInBounds_toArray, List.set_cons_zero, List.set_cons_succ]
                    refine wpAnyH_done (by kernel_rfl) ?_ _
                    have HBx := Lib.hid hHeld.2
                    have KEx := Lib.hid hHeld.1
                    clear hHeld
                    have HF2 := Lib.hid (alls_step HF.out HZ.out (by rw [HQx.out]; simp))
                    go_wp2_with fail
                    go_roundw
                    case rel => exact ⟨k + 1, by go_num, by omega, HF2, Lib.hid (below_trans HB.out HBx.out (Nat.le_refl _))⟩
                    case measure => simp [intOf]; omega
              · obtain rfl : k = n0 := by omega
                have HE := Lib.hid (show R = true by rw [HV.out, HVD.out]; have h := HF.out; rw [List.take_of_length_le (by rw [HL.out]; exact Nat.le_refl _)] at h; exact h)
                go_wp2_with fail
                go_ret
                exact ⟨by rw [HE.out]; rfl, HBw.out⟩
          · skip
            have h2 : (e.f0 == 2) = false := by simpa using h2
            have h2' : (e.f0 != 2) = true := by simpa using h2
            have HE := Lib.hid (show R = true by rw [HV.out, HVD.out, h2']; simp)
            go_wp2_with fail
            go_loopw [7] (fun v wr => v = .int .i64 0 ∧ wr = w1) (fun _ _ => 0)
            case atStart => exact ⟨rfl, rfl⟩
            case round =>
              obtain ⟨rfl, rfl⟩ := hrel
              by_cases h0n : 0 < n0
              · skip
                go_wp2_with fail
                go_ret
                exact ⟨by rw [HE.out]; rfl, HB1.out⟩
              · skip
                go_wp2_with fail
                go_ret
                exact ⟨by rw [HE.out]; rfl, HB1.out⟩
end Go.Proofs.Ytomoigbhikihfaa
