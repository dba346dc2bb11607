/- The model's step of choosing. No condition of its own. -/
import Derived.Test.YtcankpiidjhhpaaRgn
import Derived.Test.YtcankpiidjhhpaaMcS
namespace Go.Proofs.Ytcankpiidjhhpaa
open Go Go.ChangeShapes Go.WideShapes Go.ChangeAt Go.RowKit Go.Lib
set_option linter.unusedVariables false
set_option linter.unusedSimpArgs false
set_option maxRecDepth 100000
set_option maxHeartbeats 16000000 in
theorem st_4 (o : TOp) (vals : List Int) (A : Option Addr) (n c lo hi gv cv gb cb : Nat) (v b : List Int) (w : World) (hn : n ≤ 1048576) (hr : Rd w lo hi 1 A n (i64s vals)) (hhi : hi ≤ gv) (ho : mOp o = true) (hk : o.f0 = 4) (hv : v.length = 6 ∧ ∀ z ∈ v, 0 ≤ z ∧ z ≤ 999) (hb : b.length = 6 ∧ ∀ z ∈ b, mIsLabel z = true) (hV : IRow w gv cv v) (hB : IRow w gb cb b) (hg : gv < gb) :
  Calls Try.prog 81 #[.agg #[.int .i64 o.f0, .int .i64 o.f1, .int .i64 o.f2, .int .i64 o.f3], .slice A n c, .slice (some ⟨gv, 0, none⟩) 6 cv, .slice (some ⟨gb, 0, none⟩) 6 cb] w (fun e w' => e = .returned (.tuple #[.agg #[.int .i64 (mSs o v b).f0, .int .i64 (mSs o v b).f1, .int .i64 (mSs o v b).f2], .bool (o.f0 == 5)]) ∧ IRow w' gv cv (mStV o vals v) ∧ IRow w' gb cb (mStB o b) ∧ Chg gv (gb + 1) w w') := by
 obtain ⟨qa, qb, qc⟩ := mOp_34 ho (.inr hk)
 obtain ⟨ka, e1, hka⟩ := mReg_n qa
 obtain ⟨kb, e2, hkb⟩ := mReg_n qb
 obtain ⟨kc, e3, hkc⟩ := mReg_n qc
 rw [e1] at qa
 rw [e2] at qb
 rw [e3] at qc
 obtain ⟨va, eva⟩ : ∃ z, Hid (v.getD ka 0 = z) := ⟨_, Lib.hid rfl⟩
 obtain ⟨ba, ela⟩ : ∃ z, Hid (b.getD ka 0 = z) := ⟨_, Lib.hid rfl⟩
 have hva : 0 ≤ va ∧ va ≤ 999 := by have h0 := gI_in (P := fun z => 0 ≤ z ∧ z ≤ 999) hv (k := (ka : Int)) qa; rw [← eva.out]; simpa [gI] using h0
 have hba : mIsLabel ba = true := by have h0 := gI_in (P := fun z => mIsLabel z = true) hb (k := (ka : Int)) qa; rw [← ela.out]; simpa [gI] using h0
 have hkia : (ka : Int) < 6 := by omega
 obtain ⟨vb, evb⟩ : ∃ z, Hid (v.getD kb 0 = z) := ⟨_, Lib.hid rfl⟩
 obtain ⟨bb, elb⟩ : ∃ z, Hid (b.getD kb 0 = z) := ⟨_, Lib.hid rfl⟩
 have hvb : 0 ≤ vb ∧ vb ≤ 999 := by have h0 := gI_in (P := fun z => 0 ≤ z ∧ z ≤ 999) hv (k := (kb : Int)) qb; rw [← evb.out]; simpa [gI] using h0
 have hbb : mIsLabel bb = true := by have h0 := gI_in (P := fun z => mIsLabel z = true) hb (k := (kb : Int)) qb; rw [← elb.out]; simpa [gI] using h0
 have hkib : (kb : Int) < 6 := by omega
 obtain ⟨vc, evc⟩ : ∃ z, Hid (v.getD kc 0 = z) := ⟨_, Lib.hid rfl⟩
 obtain ⟨bc, elc⟩ : ∃ z, Hid (b.getD kc 0 = z) := ⟨_, Lib.hid rfl⟩
 have hvc : 0 ≤ vc ∧ vc ≤ 999 := by have h0 := gI_in (P := fun z => 0 ≤ z ∧ z ≤ 999) hv (k := (kc : Int)) qc; rw [← evc.out]; simpa [gI] using h0
 have hbc : mIsLabel bc = true := by have h0 := gI_in (P := fun z => mIsLabel z = true) hb (k := (kc : Int)) qc; rw [← elc.out]; simpa [gI] using h0
 have hkic : (kc : Int) < 6 := by omega
 have EV : mStV o vals v = v.set ka (if vb % 2 = 0 then vc else va) := by unfold mStV; rw [if_neg (by omega), if_neg (by omega), if_neg (by omega), if_pos hk, e1, e2, e3, ← eva.out, ← evb.out, ← evc.out]; rfl
 have EB : mStB o b = b.set ka (mJoin ba (mJoin bb bc)) := by unfold mStB; rw [if_neg (by omega), if_neg (by omega), if_neg (by omega), if_pos hk, e1, e2, e3, ← join_assoc hba hbb hbc, ← ela.out, ← elb.out, ← elc.out]; rfl
 have ES : mSs o v b = ⟨0, 0, 0⟩ := by unfold mSs; rw [if_neg (by omega)]
 have E5 : (o.f0 == 5) = false := by simp; omega
 rw [EV, EB, ES, E5, hk, e1, e2, e3]
 have htm : Int.tmod vb 2 = vb % 2 := Int.tmod_eq_emod_of_nonneg hvb.1
 have CJ := Lib.hid (fun W => spec_JoinLabels bb bc W (lab_wf hbb) (lab_wf hbc))
 have CK := Lib.hid (fun W => spec_JoinLabels ba (mJoin bb bc) W (lab_wf hba) (lab_wf (join_lab hbb hbc)))
 generalize mJoin ba (mJoin bb bc) = lz at CK ⊢
 generalize mJoin bb bc = ly at CJ CK
 have SV := Lib.hid (show v.set ka va = v by rw [← eva.out]; exact set_same (by rw [hv.1]; omega))
 obtain ⟨ev, hev⟩ : ∃ e : Bool, Hid ((vb % 2 == 0) = e) := ⟨_, Lib.hid rfl⟩
 have HZ := Lib.hid (show (if vb % 2 = 0 then vc else va) = if ev = true then vc else va by rw [← hev.out]; simp)
 rw [HZ.out]
 clear EV EB ES E5 e1 e2 e3 hva hvb hvc hba hbb hbc qa qb qc HZ
 have HVl := Lib.hid hv.1
 have HLl := Lib.hid hb.1
 have hgs := hB.lt
 have hgw := hV.lt
 have KA := Lib.hid ((box_new w 49 #[.int .i64 4, .int .i64 (ka : Int), .int .i64 (kb : Int), .int .i64 (kc : Int)]).alloc_ (.cells #[.int .i64 0, .int .i64 0, .int .i64 0] 47))
 have KC := Lib.hid (show BoxAt ((w.alloc (.cells #[.int .i64 4, .int .i64 (ka : Int), .int .i64 (kb : Int), .int .i64 (kc : Int)] 49)).alloc (.cells #[.int .i64 0, .int .i64 0, .int .i64 0] 47)) (w.heap.size + 1) 47 #[.int .i64 0, .int .i64 0, .int .i64 0] by simpa using box_new (w.alloc (.cells #[.int .i64 4, .int .i64 (ka : Int), .int .i64 (kb : Int), .int .i64 (kc : Int)] 49)) 47 #[.int .i64 0, .int .i64 0, .int .i64 0])
 have HC := Lib.hid (((Chg.refl gv (gb + 1) w).alloc (.cells #[.int .i64 4, .int .i64 (ka : Int), .int .i64 (kb : Int), .int .i64 (kc : Int)] 49)).alloc (.cells #[.int .i64 0, .int .i64 0, .int .i64 0] 47))
 have GVx := Lib.hid (show IRow ((w.alloc (.cells #[.int .i64 4, .int .i64 (ka : Int), .int .i64 (kb : Int), .int .i64 (kc : Int)] 49)).alloc (.cells #[.int .i64 0, .int .i64 0, .int .i64 0] 47)) gv cv v from (hV.alloc _).alloc _)
 have GBx := Lib.hid (show IRow ((w.alloc (.cells #[.int .i64 4, .int .i64 (ka : Int), .int .i64 (kb : Int), .int .i64 (kc : Int)] 49)).alloc (.cells #[.int .i64 0, .int .i64 0, .int .i64 0] 47)) gb cb b from (hB.alloc _).alloc _)
 clear hr hv hb hV hB ho hk hn
 go_enter Try.func81, Try.ntmps81
 go_upto_region 12 with fail
 go_cut [77] (fun s77 wx => Hid (BoxAt wx w.heap.size 49 #[.int .i64 4, .int .i64 (ka : Int), .int .i64 (kb : Int), .int .i64 (kc : Int)]) ∧ Hid (BoxAt wx (w.heap.size + 1) 47 #[.int .i64 0, .int .i64 0, .int .i64 0]) ∧ Hid (Chg gv (gb + 1) w wx) ∧ Hid (IRow wx gv cv v) ∧ Hid (IRow wx gb cb (b.set ka lz)))
 case first =>
  go_wp2_with fail
  have GV : IRow (World.drew _) gv cv _ := GVx.out.drw
  have GB : IRow (World.drew _) gb cb _ := GBx.out.drw
  refine wp_region_held_drew (S := fun w' => BoxAt w' w.heap.size 49 #[.int .i64 4, .int .i64 (ka : Int), .int .i64 (kb : Int), .int .i64 (kc : Int)] ∧ BoxAt w' (w.heap.size + 1) 47 #[.int .i64 0, .int .i64 0, .int .i64 0] ∧ Chg gv (gb + 1) w w') (by kernel_rfl) ?_ (fun hHeld => ?_)
  ·
   exact ⟨KA.out.drw, KC.out.drw, HC.out.drewN 1⟩
  generalize (World.drew _) = x0 at hHeld GV GB ⊢
  refine tk (i := 0) (oi := ⟨some 77, _, _, _, _, _⟩) (v := ?_) rfl hHeld ?_ ?_; rotate_left; (focus (intro _ _; go_simp; try with_reducible rfl)); try simp only [ptl]
  refine tk (i := 1) (oi := ⟨some 78, _, _, _, _, _⟩) (v := ?_) rfl hHeld ?_ ?_; rotate_left; (focus (intro _ _; go_simp; try with_reducible rfl)); try simp only [ptl]
  refine tk (i := 2) (oi := ⟨some 79, _, _, _, _, _⟩) (v := ?_) rfl hHeld ?_ ?_; rotate_left; (focus (intro W hS; have c0_0 := (hS.1).at_ (j := 0) rfl; have c0_1 := (hS.1).at_ (j := 1) rfl; have c0_2 := (hS.1).at_ (j := 2) rfl; have c0_3 := (hS.1).at_ (j := 3) rfl; have c1_0 := (hS.2.1).at_ (j := 0) rfl; have c1_1 := (hS.2.1).at_ (j := 1) rfl; have c1_2 := (hS.2.1).at_ (j := 2) rfl; clear hS; go_simp; try with_reducible rfl)); try simp only [ptl]
  refine tk (i := 3) (oi := ⟨some 80, _, _, _, _, _⟩) (v := ?_) rfl hHeld ?_ ?_; rotate_left; (focus (intro _ _; go_simp; try with_reducible rfl)); try simp only [ptl]
  refine tk (i := 4) (oi := ⟨some 81, _, _, _, _, _⟩) (v := ?_) rfl hHeld ?_ ?_; rotate_left; (focus (intro _ _; go_simp; try with_reducible rfl)); try simp only [ptl]
  refine tk (i := 5) (oi := ⟨some 82, _, _, _, _, _⟩) (v := ?_) rfl hHeld ?_ ?_; rotate_left; (focus (intro W hS; have c0_0 := (hS.1).at_ (j := 0) rfl; have c0_1 := (hS.1).at_ (j := 1) rfl; have c0_2 := (hS.1).at_ (j := 2) rfl; have c0_3 := (hS.1).at_ (j := 3) rfl; have c1_0 := (hS.2.1).at_ (j := 0) rfl; have c1_1 := (hS.2.1).at_ (j := 1) rfl; have c1_2 := (hS.2.1).at_ (j := 2) rfl; clear hS; go_simp; try with_reducible rfl)); try simp only [ptl]
  refine tk (i := 6) (oi := ⟨some 83, _, _, _, _, _⟩) (v := ?_) rfl hHeld ?_ ?_; rotate_left; (focus (intro _ _; go_simp; try with_reducible rfl)); try simp only [ptl]
  refine tk (i := 8) (oi := ⟨some 85, _, _, _, _, _⟩) (v := ?_) rfl hHeld ?_ ?_; rotate_left; (focus (intro _ _; go_simp; try with_reducible rfl)); try simp only [ptl]
  refine tk (i := 9) (oi := ⟨some 86, _, _, _, _, _⟩) (v := ?_) rfl hHeld ?_ ?_; rotate_left; (focus (intro _ _; go_simp; try with_reducible rfl)); try simp only [ptl]
  refine tk (i := 10) (oi := ⟨some 87, _, _, _, _, _⟩) (v := ?_) rfl hHeld ?_ ?_; rotate_left; (focus (intro W hS; have c0_0 := (hS.1).at_ (j := 0) rfl; have c0_1 := (hS.1).at_ (j := 1) rfl; have c0_2 := (hS.1).at_ (j := 2) rfl; have c0_3 := (hS.1).at_ (j := 3) rfl; have c1_0 := (hS.2.1).at_ (j := 0) rfl; have c1_1 := (hS.2.1).at_ (j := 1) rfl; have c1_2 := (hS.2.1).at_ (j := 2) rfl; clear hS; go_simp; try with_reducible rfl)); try simp only [ptl]
  refine tk (i := 11) (oi := ⟨some 88, _, _, _, _, _⟩) (v := ?_) rfl hHeld ?_ ?_; rotate_left; (focus (intro _ _; go_simp; try with_reducible rfl)); try simp only [ptl]
  refine tk (i := 13) (oi := ⟨some 90, _, _, _, _, _⟩) (v := ?_) rfl hHeld ?_ ?_; rotate_left; (focus (intro _ _; go_simp; try with_reducible rfl)); try simp only [ptl]
  refine tk (i := 14) (oi := ⟨some 91, _, _, _, _, _⟩) (v := ?_) rfl hHeld ?_ ?_; rotate_left; (focus (intro _ _; go_simp; try with_reducible rfl)); try simp only [ptl]
  refine tk (i := 15) (oi := ⟨some 92, _, _, _, _, _⟩) (v := ?_) rfl hHeld ?_ ?_; rotate_left; (focus (intro W hS; have c0_0 := (hS.1).at_ (j := 0) rfl; have c0_1 := (hS.1).at_ (j := 1) rfl; have c0_2 := (hS.1).at_ (j := 2) rfl; have c0_3 := (hS.1).at_ (j := 3) rfl; have c1_0 := (hS.2.1).at_ (j := 0) rfl; have c1_1 := (hS.2.1).at_ (j := 1) rfl; have c1_2 := (hS.2.1).at_ (j := 2) rfl; clear hS; go_simp; try with_reducible rfl)); try simp only [ptl]
  refine tk (i := 16) (oi := ⟨some 93, _, _, _, _, _⟩) (v := ?_) rfl hHeld ?_ ?_; rotate_left; (focus (intro _ _; go_simp; try with_reducible rfl)); try simp only [ptl]
  refine wpAnyH_ready (rs := [7, 12, 17]) (by kernel_rfl) (by simp) ?_
  refine AllReadyH.cons (o := ⟨some 84, _, _, _, _, _⟩) rfl (fun K hK => ?_) ?_
  ·
   have hc0 := GB.cell hka
   rw [ela.out] at hc0
   go_simp
   clear hc0
   refine hK.out _ _ hHeld (fun hHeld' => ?_)
   clear hK K hHeld; have hHeld := hHeld'; clear hHeld'
   try simp only [ptl]
   refine wpAnyH_ready (rs := [12, 17]) (by kernel_rfl) (by simp) ?_
   refine AllReadyH.cons (o := ⟨some 89, _, _, _, _, _⟩) rfl (fun K hK => ?_) ?_
   ·
    have hc0 := GB.cell hkb
    rw [elb.out] at hc0
    go_simp
    clear hc0
    refine hK.out _ _ hHeld (fun hHeld' => ?_)
    clear hK K hHeld; have hHeld := hHeld'; clear hHeld'
    try simp only [ptl]
    refine rd1 (i := 17) (o := ⟨some 94, _, _, _, _, _⟩) rfl (fun K hK => ?_)
    have hc0 := GB.cell hkc
    rw [elc.out] at hc0
    go_simp
    clear hc0
    refine hK.out _ _ hHeld (fun hHeld' => ?_)
    clear hK K hHeld; have hHeld := hHeld'; clear hHeld'
    try simp only [ptl]
    refine rd1 (i := 18) (o := ⟨some 95, _, _, _, _, _⟩) rfl (fun K hK => ?_)
    go_simp
    refine Calls.mono (CJ.out _) ?_
    rintro e x1 ⟨rfl, hb1⟩
    replace GV := GV.new hb1
    replace GB := GB.new hb1
    refine hK.out _ _ ⟨hHeld.1.new hb1, hHeld.2.1.new hb1, Chg.trans hHeld.2.2 (chg_of_new hb1)⟩ (fun hHeld' => ?_)
    clear hK K hHeld hb1; have hHeld := hHeld'; clear hHeld'
    try simp only [ptl]
    refine rd1 (i := 19) (o := ⟨some 96, _, _, _, _, _⟩) rfl (fun K hK => ?_)
    go_simp
    refine Calls.mono (CK.out _) ?_
    rintro e x2 ⟨rfl, hb1⟩
    replace GV := GV.new hb1
    replace GB := GB.new hb1
    refine hK.out _ _ ⟨hHeld.1.new hb1, hHeld.2.1.new hb1, Chg.trans hHeld.2.2 (chg_of_new hb1)⟩ (fun hHeld' => ?_)
    clear hK K hHeld hb1; have hHeld := hHeld'; clear hHeld'
    try simp only [ptl]
    refine tk (i := 20) (oi := ⟨some 97, _, _, _, _, _⟩) (v := ?_) rfl hHeld ?_ ?_; rotate_left; (focus (intro _ _; go_simp; try with_reducible rfl)); try simp only [ptl]
    refine rd1 (i := 21) (o := ⟨none, _, _, _, _, _⟩) rfl (fun K hK => ?_)
    have hc0 := GB.cell hka
    have hf0 := GB.frozen ka
    go_simp
    clear hc0 hf0
    replace GV := GV.far (q := gb) (k := ka) (by omega) (.int .i64 (lz))
    replace GB := GB.put hka HLl.out (lz)
    refine hK.out _ _ ⟨hHeld.1.chg (chg_one (Chg.refl gv (gb + 1) _) (by omega) (by omega) _) (by omega), hHeld.2.1.chg (chg_one (Chg.refl gv (gb + 1) _) (by omega) (by omega) _) (by omega), chg_one hHeld.2.2 (by omega) (by omega) _⟩ (fun hHeld' => ?_)
    clear hK K hHeld; have hHeld := hHeld'; clear hHeld'
    try simp only [ptl]
    refine wpAnyH_done (by kernel_rfl) ?_ _
    replace KA := Lib.hid hHeld.1
    replace KC := Lib.hid hHeld.2.1
    replace HC := Lib.hid hHeld.2.2
    replace GVx := Lib.hid GV
    replace GBx := Lib.hid GB
    clear hHeld GV GB
    go_wp2_with fail
    go_meet
    exact ⟨KA, KC, HC, GVx, GBx⟩
   refine AllReadyH.cons (o := ⟨some 94, _, _, _, _, _⟩) rfl (fun K hK => ?_) ?_
   ·
    have hc0 := GB.cell hkc
    rw [elc.out] at hc0
    go_simp
    clear hc0
    refine hK.out _ _ hHeld (fun hHeld' => ?_)
    clear hK K hHeld; have hHeld := hHeld'; clear hHeld'
    try simp only [ptl]
    refine rd1 (i := 12) (o := ⟨some 89, _, _, _, _, _⟩) rfl (fun K hK => ?_)
    have hc0 := GB.cell hkb
    rw [elb.out] at hc0
    go_simp
    clear hc0
    refine hK.out _ _ hHeld (fun hHeld' => ?_)
    clear hK K hHeld; have hHeld := hHeld'; clear hHeld'
    try simp only [ptl]
    refine rd1 (i := 18) (o := ⟨some 95, _, _, _, _, _⟩) rfl (fun K hK => ?_)
    go_simp
    refine Calls.mono (CJ.out _) ?_
    rintro e x1 ⟨rfl, hb1⟩
    replace GV := GV.new hb1
    replace GB := GB.new hb1
    refine hK.out _ _ ⟨hHeld.1.new hb1, hHeld.2.1.new hb1, Chg.trans hHeld.2.2 (chg_of_new hb1)⟩ (fun hHeld' => ?_)
    clear hK K hHeld hb1; have hHeld := hHeld'; clear hHeld'
    try simp only [ptl]
    refine rd1 (i := 19) (o := ⟨some 96, _, _, _, _, _⟩) rfl (fun K hK => ?_)
    go_simp
    refine Calls.mono (CK.out _) ?_
    rintro e x2 ⟨rfl, hb1⟩
    replace GV := GV.new hb1
    replace GB := GB.new hb1
    refine hK.out _ _ ⟨hHeld.1.new hb1, hHeld.2.1.new hb1, Chg.trans hHeld.2.2 (chg_of_new hb1)⟩ (fun hHeld' => ?_)
    clear hK K hHeld hb1; have hHeld := hHeld'; clear hHeld'
    try simp only [ptl]
    refine tk (i := 20) (oi := ⟨some 97, _, _, _, _, _⟩) (v := ?_) rfl hHeld ?_ ?_; rotate_left; (focus (intro _ _; go_simp; try with_reducible rfl)); try simp only [ptl]
    refine rd1 (i := 21) (o := ⟨none, _, _, _, _, _⟩) rfl (fun K hK => ?_)
    have hc0 := GB.cell hka
    have hf0 := GB.frozen ka
    go_simp
    clear hc0 hf0
    replace GV := GV.far (q := gb) (k := ka) (by omega) (.int .i64 (lz))
    replace GB := GB.put hka HLl.out (lz)
    refine hK.out _ _ ⟨hHeld.1.chg (chg_one (Chg.refl gv (gb + 1) _) (by omega) (by omega) _) (by omega), hHeld.2.1.chg (chg_one (Chg.refl gv (gb + 1) _) (by omega) (by omega) _) (by omega), chg_one hHeld.2.2 (by omega) (by omega) _⟩ (fun hHeld' => ?_)
    clear hK K hHeld; have hHeld := hHeld'; clear hHeld'
    try simp only [ptl]
    refine wpAnyH_done (by kernel_rfl) ?_ _
    replace KA := Lib.hid hHeld.1
    replace KC := Lib.hid hHeld.2.1
    replace HC := Lib.hid hHeld.2.2
    replace GVx := Lib.hid GV
    replace GBx := Lib.hid GB
    clear hHeld GV GB
    go_wp2_with fail
    go_meet
    exact ⟨KA, KC, HC, GVx, GBx⟩
   exact AllReadyH.nil
  refine AllReadyH.cons (o := ⟨some 89, _, _, _, _, _⟩) rfl (fun K hK => ?_) ?_
  ·
   have hc0 := GB.cell hkb
   rw [elb.out] at hc0
   go_simp
   clear hc0
   refine hK.out _ _ hHeld (fun hHeld' => ?_)
   clear hK K hHeld; have hHeld := hHeld'; clear hHeld'
   try simp only [ptl]
   refine wpAnyH_ready (rs := [7, 17]) (by kernel_rfl) (by simp) ?_
   refine AllReadyH.cons (o := ⟨some 84, _, _, _, _, _⟩) rfl (fun K hK => ?_) ?_
   ·
    have hc0 := GB.cell hka
    rw [ela.out] at hc0
    go_simp
    clear hc0
    refine hK.out _ _ hHeld (fun hHeld' => ?_)
    clear hK K hHeld; have hHeld := hHeld'; clear hHeld'
    try simp only [ptl]
    refine rd1 (i := 17) (o := ⟨some 94, _, _, _, _, _⟩) rfl (fun K hK => ?_)
    have hc0 := GB.cell hkc
    rw [elc.out] at hc0
    go_simp
    clear hc0
    refine hK.out _ _ hHeld (fun hHeld' => ?_)
    clear hK K hHeld; have hHeld := hHeld'; clear hHeld'
    try simp only [ptl]
    refine rd1 (i := 18) (o := ⟨some 95, _, _, _, _, _⟩) rfl (fun K hK => ?_)
    go_simp
    refine Calls.mono (CJ.out _) ?_
    rintro e x1 ⟨rfl, hb1⟩
    replace GV := GV.new hb1
    replace GB := GB.new hb1
    refine hK.out _ _ ⟨hHeld.1.new hb1, hHeld.2.1.new hb1, Chg.trans hHeld.2.2 (chg_of_new hb1)⟩ (fun hHeld' => ?_)
    clear hK K hHeld hb1; have hHeld := hHeld'; clear hHeld'
    try simp only [ptl]
    refine rd1 (i := 19) (o := ⟨some 96, _, _, _, _, _⟩) rfl (fun K hK => ?_)
    go_simp
    refine Calls.mono (CK.out _) ?_
    rintro e x2 ⟨rfl, hb1⟩
    replace GV := GV.new hb1
    replace GB := GB.new hb1
    refine hK.out _ _ ⟨hHeld.1.new hb1, hHeld.2.1.new hb1, Chg.trans hHeld.2.2 (chg_of_new hb1)⟩ (fun hHeld' => ?_)
    clear hK K hHeld hb1; have hHeld := hHeld'; clear hHeld'
    try simp only [ptl]
    refine tk (i := 20) (oi := ⟨some 97, _, _, _, _, _⟩) (v := ?_) rfl hHeld ?_ ?_; rotate_left; (focus (intro _ _; go_simp; try with_reducible rfl)); try simp only [ptl]
    refine rd1 (i := 21) (o := ⟨none, _, _, _, _, _⟩) rfl (fun K hK => ?_)
    have hc0 := GB.cell hka
    have hf0 := GB.frozen ka
    go_simp
    clear hc0 hf0
    replace GV := GV.far (q := gb) (k := ka) (by omega) (.int .i64 (lz))
    replace GB := GB.put hka HLl.out (lz)
    refine hK.out _ _ ⟨hHeld.1.chg (chg_one (Chg.refl gv (gb + 1) _) (by omega) (by omega) _) (by omega), hHeld.2.1.chg (chg_one (Chg.refl gv (gb + 1) _) (by omega) (by omega) _) (by omega), chg_one hHeld.2.2 (by omega) (by omega) _⟩ (fun hHeld' => ?_)
    clear hK K hHeld; have hHeld := hHeld'; clear hHeld'
    try simp only [ptl]
    refine wpAnyH_done (by kernel_rfl) ?_ _
    replace KA := Lib.hid hHeld.1
    replace KC := Lib.hid hHeld.2.1
    replace HC := Lib.hid hHeld.2.2
    replace GVx := Lib.hid GV
    replace GBx := Lib.hid GB
    clear hHeld GV GB
    go_wp2_with fail
    go_meet
    exact ⟨KA, KC, HC, GVx, GBx⟩
   refine AllReadyH.cons (o := ⟨some 94, _, _, _, _, _⟩) rfl (fun K hK => ?_) ?_
   ·
    have hc0 := GB.cell hkc
    rw [elc.out] at hc0
    go_simp
    clear hc0
    refine hK.out _ _ hHeld (fun hHeld' => ?_)
    clear hK K hHeld; have hHeld := hHeld'; clear hHeld'
    try simp only [ptl]
    refine wpAnyH_ready (rs := [7, 18]) (by kernel_rfl) (by simp) ?_
    refine AllReadyH.cons (o := ⟨some 84, _, _, _, _, _⟩) rfl (fun K hK => ?_) ?_
    ·
     have hc0 := GB.cell hka
     rw [ela.out] at hc0
     go_simp
     clear hc0
     refine hK.out _ _ hHeld (fun hHeld' => ?_)
     clear hK K hHeld; have hHeld := hHeld'; clear hHeld'
     try simp only [ptl]
     refine rd1 (i := 18) (o := ⟨some 95, _, _, _, _, _⟩) rfl (fun K hK => ?_)
     go_simp
     refine Calls.mono (CJ.out _) ?_
     rintro e x1 ⟨rfl, hb1⟩
     replace GV := GV.new hb1
     replace GB := GB.new hb1
     refine hK.out _ _ ⟨hHeld.1.new hb1, hHeld.2.1.new hb1, Chg.trans hHeld.2.2 (chg_of_new hb1)⟩ (fun hHeld' => ?_)
     clear hK K hHeld hb1; have hHeld := hHeld'; clear hHeld'
     try simp only [ptl]
     refine rd1 (i := 19) (o := ⟨some 96, _, _, _, _, _⟩) rfl (fun K hK => ?_)
     go_simp
     refine Calls.mono (CK.out _) ?_
     rintro e x2 ⟨rfl, hb1⟩
     replace GV := GV.new hb1
     replace GB := GB.new hb1
     refine hK.out _ _ ⟨hHeld.1.new hb1, hHeld.2.1.new hb1, Chg.trans hHeld.2.2 (chg_of_new hb1)⟩ (fun hHeld' => ?_)
     clear hK K hHeld hb1; have hHeld := hHeld'; clear hHeld'
     try simp only [ptl]
     refine tk (i := 20) (oi := ⟨some 97, _, _, _, _, _⟩) (v := ?_) rfl hHeld ?_ ?_; rotate_left; (focus (intro _ _; go_simp; try with_reducible rfl)); try simp only [ptl]
     refine rd1 (i := 21) (o := ⟨none, _, _, _, _, _⟩) rfl (fun K hK => ?_)
     have hc0 := GB.cell hka
     have hf0 := GB.frozen ka
     go_simp
     clear hc0 hf0
     replace GV := GV.far (q := gb) (k := ka) (by omega) (.int .i64 (lz))
     replace GB := GB.put hka HLl.out (lz)
     refine hK.out _ _ ⟨hHeld.1.chg (chg_one (Chg.refl gv (gb + 1) _) (by omega) (by omega) _) (by omega), hHeld.2.1.chg (chg_one (Chg.refl gv (gb + 1) _) (by omega) (by omega) _) (by omega), chg_one hHeld.2.2 (by omega) (by omega) _⟩ (fun hHeld' => ?_)
     clear hK K hHeld; have hHeld := hHeld'; clear hHeld'
     try simp only [ptl]
     refine wpAnyH_done (by kernel_rfl) ?_ _
     replace KA := Lib.hid hHeld.1
     replace KC := Lib.hid hHeld.2.1
     replace HC := Lib.hid hHeld.2.2
     replace GVx := Lib.hid GV
     replace GBx := Lib.hid GB
     clear hHeld GV GB
     go_wp2_with fail
     go_meet
     exact ⟨KA, KC, HC, GVx, GBx⟩
    refine AllReadyH.cons (o := ⟨some 95, _, _, _, _, _⟩) rfl (fun K hK => ?_) ?_
    ·
     go_simp
     refine Calls.mono (CJ.out _) ?_
     rintro e x1 ⟨rfl, hb1⟩
     replace GV := GV.new hb1
     replace GB := GB.new hb1
     refine hK.out _ _ ⟨hHeld.1.new hb1, hHeld.2.1.new hb1, Chg.trans hHeld.2.2 (chg_of_new hb1)⟩ (fun hHeld' => ?_)
     clear hK K hHeld hb1; have hHeld := hHeld'; clear hHeld'
     try simp only [ptl]
     refine rd1 (i := 7) (o := ⟨some 84, _, _, _, _, _⟩) rfl (fun K hK => ?_)
     have hc0 := GB.cell hka
     rw [ela.out] at hc0
     go_simp
     clear hc0
     refine hK.out _ _ hHeld (fun hHeld' => ?_)
     clear hK K hHeld; have hHeld := hHeld'; clear hHeld'
     try simp only [ptl]
     refine rd1 (i := 19) (o := ⟨some 96, _, _, _, _, _⟩) rfl (fun K hK => ?_)
     go_simp
     refine Calls.mono (CK.out _) ?_
     rintro e x2 ⟨rfl, hb1⟩
     replace GV := GV.new hb1
     replace GB := GB.new hb1
     refine hK.out _ _ ⟨hHeld.1.new hb1, hHeld.2.1.new hb1, Chg.trans hHeld.2.2 (chg_of_new hb1)⟩ (fun hHeld' => ?_)
     clear hK K hHeld hb1; have hHeld := hHeld'; clear hHeld'
     try simp only [ptl]
     refine tk (i := 20) (oi := ⟨some 97, _, _, _, _, _⟩) (v := ?_) rfl hHeld ?_ ?_; rotate_left; (focus (intro _ _; go_simp; try with_reducible rfl)); try simp only [ptl]
     refine rd1 (i := 21) (o := ⟨none, _, _, _, _, _⟩) rfl (fun K hK => ?_)
     have hc0 := GB.cell hka
     have hf0 := GB.frozen ka
     go_simp
     clear hc0 hf0
     replace GV := GV.far (q := gb) (k := ka) (by omega) (.int .i64 (lz))
     replace GB := GB.put hka HLl.out (lz)
     refine hK.out _ _ ⟨hHeld.1.chg (chg_one (Chg.refl gv (gb + 1) _) (by omega) (by omega) _) (by omega), hHeld.2.1.chg (chg_one (Chg.refl gv (gb + 1) _) (by omega) (by omega) _) (by omega), chg_one hHeld.2.2 (by omega) (by omega) _⟩ (fun hHeld' => ?_)
     clear hK K hHeld; have hHeld := hHeld'; clear hHeld'
     try simp only [ptl]
     refine wpAnyH_done (by kernel_rfl) ?_ _
     replace KA := Lib.hid hHeld.1
     replace KC := Lib.hid hHeld.2.1
     replace HC := Lib.hid hHeld.2.2
     replace GVx := Lib.hid GV
     replace GBx := Lib.hid GB
     clear hHeld GV GB
     go_wp2_with fail
     go_meet
     exact ⟨KA, KC, HC, GVx, GBx⟩
    exact AllReadyH.nil
   exact AllReadyH.nil
  refine AllReadyH.cons (o := ⟨some 94, _, _, _, _, _⟩) rfl (fun K hK => ?_) ?_
  ·
   have hc0 := GB.cell hkc
   rw [elc.out] at hc0
   go_simp
   clear hc0
   refine hK.out _ _ hHeld (fun hHeld' => ?_)
   clear hK K hHeld; have hHeld := hHeld'; clear hHeld'
   try simp only [ptl]
   refine wpAnyH_ready (rs := [7, 12]) (by kernel_rfl) (by simp) ?_
   refine AllReadyH.cons (o := ⟨some 84, _, _, _, _, _⟩) rfl (fun K hK => ?_) ?_
   ·
    have hc0 := GB.cell hka
    rw [ela.out] at hc0
    go_simp
    clear hc0
    refine hK.out _ _ hHeld (fun hHeld' => ?_)
    clear hK K hHeld; have hHeld := hHeld'; clear hHeld'
    try simp only [ptl]
    refine rd1 (i := 12) (o := ⟨some 89, _, _, _, _, _⟩) rfl (fun K hK => ?_)
    have hc0 := GB.cell hkb
    rw [elb.out] at hc0
    go_simp
    clear hc0
    refine hK.out _ _ hHeld (fun hHeld' => ?_)
    clear hK K hHeld; have hHeld := hHeld'; clear hHeld'
    try simp only [ptl]
    refine rd1 (i := 18) (o := ⟨some 95, _, _, _, _, _⟩) rfl (fun K hK => ?_)
    go_simp
    refine Calls.mono (CJ.out _) ?_
    rintro e x1 ⟨rfl, hb1⟩
    replace GV := GV.new hb1
    replace GB := GB.new hb1
    refine hK.out _ _ ⟨hHeld.1.new hb1, hHeld.2.1.new hb1, Chg.trans hHeld.2.2 (chg_of_new hb1)⟩ (fun hHeld' => ?_)
    clear hK K hHeld hb1; have hHeld := hHeld'; clear hHeld'
    try simp only [ptl]
    refine rd1 (i := 19) (o := ⟨some 96, _, _, _, _, _⟩) rfl (fun K hK => ?_)
    go_simp
    refine Calls.mono (CK.out _) ?_
    rintro e x2 ⟨rfl, hb1⟩
    replace GV := GV.new hb1
    replace GB := GB.new hb1
    refine hK.out _ _ ⟨hHeld.1.new hb1, hHeld.2.1.new hb1, Chg.trans hHeld.2.2 (chg_of_new hb1)⟩ (fun hHeld' => ?_)
    clear hK K hHeld hb1; have hHeld := hHeld'; clear hHeld'
    try simp only [ptl]
    refine tk (i := 20) (oi := ⟨some 97, _, _, _, _, _⟩) (v := ?_) rfl hHeld ?_ ?_; rotate_left; (focus (intro _ _; go_simp; try with_reducible rfl)); try simp only [ptl]
    refine rd1 (i := 21) (o := ⟨none, _, _, _, _, _⟩) rfl (fun K hK => ?_)
    have hc0 := GB.cell hka
    have hf0 := GB.frozen ka
    go_simp
    clear hc0 hf0
    replace GV := GV.far (q := gb) (k := ka) (by omega) (.int .i64 (lz))
    replace GB := GB.put hka HLl.out (lz)
    refine hK.out _ _ ⟨hHeld.1.chg (chg_one (Chg.refl gv (gb + 1) _) (by omega) (by omega) _) (by omega), hHeld.2.1.chg (chg_one (Chg.refl gv (gb + 1) _) (by omega) (by omega) _) (by omega), chg_one hHeld.2.2 (by omega) (by omega) _⟩ (fun hHeld' => ?_)
    clear hK K hHeld; have hHeld := hHeld'; clear hHeld'
    try simp only [ptl]
    refine wpAnyH_done (by kernel_rfl) ?_ _
    replace KA := Lib.hid hHeld.1
    replace KC := Lib.hid hHeld.2.1
    replace HC := Lib.hid hHeld.2.2
    replace GVx := Lib.hid GV
    replace GBx := Lib.hid GB
    clear hHeld GV GB
    go_wp2_with fail
    go_meet
    exact ⟨KA, KC, HC, GVx, GBx⟩
   refine AllReadyH.cons (o := ⟨some 89, _, _, _, _, _⟩) rfl (fun K hK => ?_) ?_
   ·
    have hc0 := GB.cell hkb
    rw [elb.out] at hc0
    go_simp
    clear hc0
    refine hK.out _ _ hHeld (fun hHeld' => ?_)
    clear hK K hHeld; have hHeld := hHeld'; clear hHeld'
    try simp only [ptl]
    refine wpAnyH_ready (rs := [7, 18]) (by kernel_rfl) (by simp) ?_
    refine AllReadyH.cons (o := ⟨some 84, _, _, _, _, _⟩) rfl (fun K hK => ?_) ?_
    ·
     have hc0 := GB.cell hka
     rw [ela.out] at hc0
     go_simp
     clear hc0
     refine hK.out _ _ hHeld (fun hHeld' => ?_)
     clear hK K hHeld; have hHeld := hHeld'; clear hHeld'
     try simp only [ptl]
     refine rd1 (i := 18) (o := ⟨some 95, _, _, _, _, _⟩) rfl (fun K hK => ?_)
     go_simp
     refine Calls.mono (CJ.out _) ?_
     rintro e x1 ⟨rfl, hb1⟩
     replace GV := GV.new hb1
     replace GB := GB.new hb1
     refine hK.out _ _ ⟨hHeld.1.new hb1, hHeld.2.1.new hb1, Chg.trans hHeld.2.2 (chg_of_new hb1)⟩ (fun hHeld' => ?_)
     clear hK K hHeld hb1; have hHeld := hHeld'; clear hHeld'
     try simp only [ptl]
     refine rd1 (i := 19) (o := ⟨some 96, _, _, _, _, _⟩) rfl (fun K hK => ?_)
     go_simp
     refine Calls.mono (CK.out _) ?_
     rintro e x2 ⟨rfl, hb1⟩
     replace GV := GV.new hb1
     replace GB := GB.new hb1
     refine hK.out _ _ ⟨hHeld.1.new hb1, hHeld.2.1.new hb1, Chg.trans hHeld.2.2 (chg_of_new hb1)⟩ (fun hHeld' => ?_)
     clear hK K hHeld hb1; have hHeld := hHeld'; clear hHeld'
     try simp only [ptl]
     refine tk (i := 20) (oi := ⟨some 97, _, _, _, _, _⟩) (v := ?_) rfl hHeld ?_ ?_; rotate_left; (focus (intro _ _; go_simp; try with_reducible rfl)); try simp only [ptl]
     refine rd1 (i := 21) (o := ⟨none, _, _, _, _, _⟩) rfl (fun K hK => ?_)
     have hc0 := GB.cell hka
     have hf0 := GB.frozen ka
     go_simp
     clear hc0 hf0
     replace GV := GV.far (q := gb) (k := ka) (by omega) (.int .i64 (lz))
     replace GB := GB.put hka HLl.out (lz)
     refine hK.out _ _ ⟨hHeld.1.chg (chg_one (Chg.refl gv (gb + 1) _) (by omega) (by omega) _) (by omega), hHeld.2.1.chg (chg_one (Chg.refl gv (gb + 1) _) (by omega) (by omega) _) (by omega), chg_one hHeld.2.2 (by omega) (by omega) _⟩ (fun hHeld' => ?_)
     clear hK K hHeld; have hHeld := hHeld'; clear hHeld'
     try simp only [ptl]
     refine wpAnyH_done (by kernel_rfl) ?_ _
     replace KA := Lib.hid hHeld.1
     replace KC := Lib.hid hHeld.2.1
     replace HC := Lib.hid hHeld.2.2
     replace GVx := Lib.hid GV
     replace GBx := Lib.hid GB
     clear hHeld GV GB
     go_wp2_with fail
     go_meet
     exact ⟨KA, KC, HC, GVx, GBx⟩
    refine AllReadyH.cons (o := ⟨some 95, _, _, _, _, _⟩) rfl (fun K hK => ?_) ?_
    ·
     go_simp
     refine Calls.mono (CJ.out _) ?_
     rintro e x1 ⟨rfl, hb1⟩
     replace GV := GV.new hb1
     replace GB := GB.new hb1
     refine hK.out _ _ ⟨hHeld.1.new hb1, hHeld.2.1.new hb1, Chg.trans hHeld.2.2 (chg_of_new hb1)⟩ (fun hHeld' => ?_)
     clear hK K hHeld hb1; have hHeld := hHeld'; clear hHeld'
     try simp only [ptl]
     refine rd1 (i := 7) (o := ⟨some 84, _, _, _, _, _⟩) rfl (fun K hK => ?_)
     have hc0 := GB.cell hka
     rw [ela.out] at hc0
     go_simp
     clear hc0
     refine hK.out _ _ hHeld (fun hHeld' => ?_)
     clear hK K hHeld; have hHeld := hHeld'; clear hHeld'
     try simp only [ptl]
     refine rd1 (i := 19) (o := ⟨some 96, _, _, _, _, _⟩) rfl (fun K hK => ?_)
     go_simp
     refine Calls.mono (CK.out _) ?_
     rintro e x2 ⟨rfl, hb1⟩
     replace GV := GV.new hb1
     replace GB := GB.new hb1
     refine hK.out _ _ ⟨hHeld.1.new hb1, hHeld.2.1.new hb1, Chg.trans hHeld.2.2 (chg_of_new hb1)⟩ (fun hHeld' => ?_)
     clear hK K hHeld hb1; have hHeld := hHeld'; clear hHeld'
     try simp only [ptl]
     refine tk (i := 20) (oi := ⟨some 97, _, _, _, _, _⟩) (v := ?_) rfl hHeld ?_ ?_; rotate_left; (focus (intro _ _; go_simp; try with_reducible rfl)); try simp only [ptl]
     refine rd1 (i := 21) (o := ⟨none, _, _, _, _, _⟩) rfl (fun K hK => ?_)
     have hc0 := GB.cell hka
     have hf0 := GB.frozen ka
     go_simp
     clear hc0 hf0
     replace GV := GV.far (q := gb) (k := ka) (by omega) (.int .i64 (lz))
     replace GB := GB.put hka HLl.out (lz)
     refine hK.out _ _ ⟨hHeld.1.chg (chg_one (Chg.refl gv (gb + 1) _) (by omega) (by omega) _) (by omega), hHeld.2.1.chg (chg_one (Chg.refl gv (gb + 1) _) (by omega) (by omega) _) (by omega), chg_one hHeld.2.2 (by omega) (by omega) _⟩ (fun hHeld' => ?_)
     clear hK K hHeld; have hHeld := hHeld'; clear hHeld'
     try simp only [ptl]
     refine wpAnyH_done (by kernel_rfl) ?_ _
     replace KA := Lib.hid hHeld.1
     replace KC := Lib.hid hHeld.2.1
     replace HC := Lib.hid hHeld.2.2
     replace GVx := Lib.hid GV
     replace GBx := Lib.hid GB
     clear hHeld GV GB
     go_wp2_with fail
     go_meet
     exact ⟨KA, KC, HC, GVx, GBx⟩
    exact AllReadyH.nil
   exact AllReadyH.nil
  exact AllReadyH.nil
 case rest =>
  clear KA KC HC GVx GBx
  obtain ⟨KA, KC, HC, GVx, GBx⟩ := hcut
  rename World => wx
  have v0 := GVx.out.cell hkb
  rw [evb.out] at v0
  have hee := hev.out
  have ka0 := KA.out.at_ (j := 0) rfl
  have ka1 := KA.out.at_ (j := 1) rfl
  have ka2 := KA.out.at_ (j := 2) rfl
  have ka3 := KA.out.at_ (j := 3) rfl
  cases ev with
  | true =>
   go_upto_region 14 with fail
   clear v0 ka0 ka1 ka2 ka3
   have GV : IRow (World.drew _) gv cv _ := GVx.out.drw
   have GB : IRow (World.drew _) gb cb _ := GBx.out.drw
   refine wp_region_held_drew (S := fun w' => BoxAt w' w.heap.size 49 #[.int .i64 4, .int .i64 (ka : Int), .int .i64 (kb : Int), .int .i64 (kc : Int)] ∧ BoxAt w' (w.heap.size + 1) 47 #[.int .i64 0, .int .i64 0, .int .i64 0] ∧ Chg gv (gb + 1) w w') (by kernel_rfl) ?_ (fun hHeld => ?_)
   ·
    exact ⟨KA.out.drw, KC.out.drw, HC.out.drewN 1⟩
   generalize (World.drew _) = x0 at hHeld GV GB ⊢
   refine tk (i := 0) (oi := ⟨some 105, _, _, _, _, _⟩) (v := ?_) rfl hHeld ?_ ?_; rotate_left; (focus (intro _ _; go_simp; try with_reducible rfl)); try simp only [ptl]
   refine tk (i := 1) (oi := ⟨some 106, _, _, _, _, _⟩) (v := ?_) rfl hHeld ?_ ?_; rotate_left; (focus (intro _ _; go_simp; try with_reducible rfl)); try simp only [ptl]
   refine tk (i := 2) (oi := ⟨some 107, _, _, _, _, _⟩) (v := ?_) rfl hHeld ?_ ?_; rotate_left; (focus (intro W hS; have c0_0 := (hS.1).at_ (j := 0) rfl; have c0_1 := (hS.1).at_ (j := 1) rfl; have c0_2 := (hS.1).at_ (j := 2) rfl; have c0_3 := (hS.1).at_ (j := 3) rfl; have c1_0 := (hS.2.1).at_ (j := 0) rfl; have c1_1 := (hS.2.1).at_ (j := 1) rfl; have c1_2 := (hS.2.1).at_ (j := 2) rfl; clear hS; go_simp; try with_reducible rfl)); try simp only [ptl]
   refine tk (i := 3) (oi := ⟨some 108, _, _, _, _, _⟩) (v := ?_) rfl hHeld ?_ ?_; rotate_left; (focus (intro _ _; go_simp; try with_reducible rfl)); try simp only [ptl]
   refine tk (i := 4) (oi := ⟨some 109, _, _, _, _, _⟩) (v := ?_) rfl hHeld ?_ ?_; rotate_left; (focus (intro _ _; go_simp; try with_reducible rfl)); try simp only [ptl]
   refine tk (i := 5) (oi := ⟨some 110, _, _, _, _, _⟩) (v := ?_) rfl hHeld ?_ ?_; rotate_left; (focus (intro W hS; have c0_0 := (hS.1).at_ (j := 0) rfl; have c0_1 := (hS.1).at_ (j := 1) rfl; have c0_2 := (hS.1).at_ (j := 2) rfl; have c0_3 := (hS.1).at_ (j := 3) rfl; have c1_0 := (hS.2.1).at_ (j := 0) rfl; have c1_1 := (hS.2.1).at_ (j := 1) rfl; have c1_2 := (hS.2.1).at_ (j := 2) rfl; clear hS; go_simp; try with_reducible rfl)); try simp only [ptl]
   refine tk (i := 6) (oi := ⟨some 111, _, _, _, _, _⟩) (v := ?_) rfl hHeld ?_ ?_; rotate_left; (focus (intro _ _; go_simp; try with_reducible rfl)); try simp only [ptl]
   refine rd1 (i := 7) (o := ⟨some 112, _, _, _, _, _⟩) rfl (fun K hK => ?_)
   have hc0 := GV.cell hkc
   rw [evc.out] at hc0
   go_simp
   clear hc0
   refine hK.out _ _ hHeld (fun hHeld' => ?_)
   clear hK K hHeld; have hHeld := hHeld'; clear hHeld'
   try simp only [ptl]
   refine tk (i := 8) (oi := ⟨some 113, _, _, _, _, _⟩) (v := ?_) rfl hHeld ?_ ?_; rotate_left; (focus (intro _ _; go_simp; try with_reducible rfl)); try simp only [ptl]
   refine rd1 (i := 9) (o := ⟨none, _, _, _, _, _⟩) rfl (fun K hK => ?_)
   have hc0 := GV.cell hka
   have hf0 := GV.frozen ka
   go_simp
   clear hc0 hf0
   replace GB := GB.far (q := gv) (k := ka) (by omega) (.int .i64 (vc))
   replace GV := GV.put hka HVl.out (vc)
   refine hK.out _ _ ⟨hHeld.1.chg (chg_one (Chg.refl gv (gb + 1) _) (by omega) (by omega) _) (by omega), hHeld.2.1.chg (chg_one (Chg.refl gv (gb + 1) _) (by omega) (by omega) _) (by omega), chg_one hHeld.2.2 (by omega) (by omega) _⟩ (fun hHeld' => ?_)
   clear hK K hHeld; have hHeld := hHeld'; clear hHeld'
   try simp only [ptl]
   refine wpAnyH_done (by kernel_rfl) ?_ _
   replace KA := Lib.hid hHeld.1
   replace KC := Lib.hid hHeld.2.1
   replace HC := Lib.hid hHeld.2.2
   replace GVx := Lib.hid GV
   replace GBx := Lib.hid GB
   clear hHeld GV GB
   go_wp2_with (refine wpList_store_row rfl 47 _ _ rfl (w.heap.size + 1) #[.int .i64 0, .int .i64 0, .int .i64 0] rfl rfl 47 _ KC.out (by kernel_rfl) (by kernel_rfl) (by kernel_rfl) ?_)
   have e0 := (box_row (cs := #[.int .i64 0, .int .i64 0, .int .i64 0]) KC.out).at_ (j := 0) rfl
   have e1 := (box_row (cs := #[.int .i64 0, .int .i64 0, .int .i64 0]) KC.out).at_ (j := 1) rfl
   have e2 := (box_row (cs := #[.int .i64 0, .int .i64 0, .int .i64 0]) KC.out).at_ (j := 2) rfl
   exact bodyPost_ret (v := .tuple #[.agg #[.int .i64 0, .int .i64 0, .int .i64 0], .bool false]) (by simp [results, Try.results81, go_sem, e0, e1, e2]) rfl ⟨rfl, irow_row GVx.out _ (by omega), irow_row GBx.out _ (by omega), chg_row_new HC.out (by omega) _⟩
  | false =>
   replace GVx := Lib.hid (show IRow _ gv cv (v.set ka va) by rw [SV.out]; exact GVx.out)
   go_upto_region 17 with fail
   clear v0 ka0 ka1 ka2 ka3
   go_wp2_with (refine wpList_store_row rfl 47 _ _ rfl (w.heap.size + 1) #[.int .i64 0, .int .i64 0, .int .i64 0] rfl rfl 47 _ KC.out (by kernel_rfl) (by kernel_rfl) (by kernel_rfl) ?_)
   have e0 := (box_row (cs := #[.int .i64 0, .int .i64 0, .int .i64 0]) KC.out).at_ (j := 0) rfl
   have e1 := (box_row (cs := #[.int .i64 0, .int .i64 0, .int .i64 0]) KC.out).at_ (j := 1) rfl
   have e2 := (box_row (cs := #[.int .i64 0, .int .i64 0, .int .i64 0]) KC.out).at_ (j := 2) rfl
   exact bodyPost_ret (v := .tuple #[.agg #[.int .i64 0, .int .i64 0, .int .i64 0], .bool false]) (by simp [results, Try.results81, go_sem, e0, e1, e2]) rfl ⟨rfl, irow_row GVx.out _ (by omega), irow_row GBx.out _ (by omega), chg_row_new HC.out (by omega) _⟩
end Go.Proofs.Ytcankpiidjhhpaa
