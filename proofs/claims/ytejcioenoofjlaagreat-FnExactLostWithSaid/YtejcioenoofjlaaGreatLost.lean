/- LostWith, of the program and of the model. No condition but the length. -/
import Derived.Test.YtejcioenoofjlaaGreatTkB
import Derived.Test.YtejcioenoofjlaaGreatFm
import Derived.Deep.LoopGhost
namespace Go.Proofs.YtejcioenoofjlaaGreat
open Go Go.ChangeShapes Go.WideShapes Go.ChangeAt Go.RowKit Go.Lib
set_option linter.unusedVariables false
set_option linter.unusedSimpArgs false
set_option maxRecDepth 100000
def gone (y : List TNode) (x : TNode) : Bool := !(idx y x.f0).isSome
def mLost (l : List TNode) (es : List TEdit) (a : Int) : List Int := mAsd (mFm (gone (mTake l es a)) TNode.f0 (mRun l es))
theorem mLost_len {l : List TNode} (es : List TEdit) (a : Int) (h : cNodeOk l) : (mLost l es a).length ≤ l.length + 16 := Nat.le_trans (Nat.le_trans (mAsd_len _) fm_len) (mRun_le es h)
theorem ownz_newer {w w' : World} {base size n : Nat} {e : TypeId} {v : Value} {xs : List Value} (h : OwnZ w base e size v n xs) (hb : Below w.heap.size w w') : OwnZ w' base e size v n xs := h.imp (fun h => own_newer h hb) id
set_option maxHeartbeats 16000000 in
theorem impl_LostWith (l0 : List TNode) (A0 : Option Addr) (n0 c0 lo0 hi0 : Nat) (l1 : List TEdit) (A1 : Option Addr) (n1 c1 lo1 hi1 : Nat) (a2 : Int) (w : World) (h0 : n0 ≤ 1048576) (r0 : Rd w lo0 hi0 5 A0 n0 (cNode l0)) (b0 : Hid (cNodeOk l0)) (h1 : n1 ≤ 1048576) (r1 : Rd w lo1 hi1 6 A1 n1 (cEdit l1)) (b1 : Hid (cEditOk l1)) (wf2 : (Lit.int .i64 a2).wf = true) :
    Calls Tryz.prog 9 #[.slice A0 n0 c0, .slice A1 n1 c1, .int .i64 a2] w (Makes 3 1 (mLost l0 l1 a2).length (i64s (mLost l0 l1 a2)) w) := by
  have HL0 := rd_len TNode.len r0 (by decide)
  have R0 := Lib.hid r0
  have R1 := Lib.hid r1
  have CT := Lib.hid (impl_TakeBack l0 A0 n0 c0 lo0 hi0 l1 A1 n1 c1 lo1 hi1 a2 w h0 r0 b0 h1 r1 b1 wf2)
  have hyo : Hid (cNodeOk (mTake l0 l1 a2)) := Lib.hid (run_fits _ b0.out)
  have hyl : (mTake l0 l1 a2).length ≤ 1048576 := run_le _ b0.out (by omega) (by omega)
  have hxo : Hid (cNodeOk (mRun l0 l1)) := Lib.hid (run_fits _ b0.out)
  have hxl : (mRun l0 l1).length ≤ 1048576 := run_le _ b0.out (by omega) (by omega)
  generalize hE : mLost l0 l1 a2 = E
  have HE := Lib.hid (show mAsd (mFm (gone (mTake l0 l1 a2)) TNode.f0 (mRun l0 l1)) = E from hE)
  have CR := Lib.hid (fun (W : World) (ha : Rd W lo0 hi0 5 A0 n0 (cNode l0)) (hb : Rd W lo1 hi1 6 A1 n1 (cEdit l1)) => impl_RunEdits l0 A0 n0 c0 lo0 hi0 l1 A1 n1 c1 lo1 hi1 W h0 ha b0 h1 hb b1)
  clear r0 r1 hE wf2
  generalize mTake l0 l1 a2 = Y at CT hyo hyl HE
  generalize mRun l0 l1 = X at CR hxo hxl HE
  generalize hy : Y.length = y at CT hyl
  generalize hx : X.length = r at CR hxl
  have HY := Lib.hid hy
  have HX := Lib.hid hx
  clear hy hx
  go_enter Tryz.func9, Tryz.ntmps9
  go_wp2_with fail
  refine CT.out.mono ?_
  rintro e w1 ⟨T, tc, rfl, hF, hb⟩
  have FT := Lib.hid hF
  have HB1 := Lib.hid hb
  clear hF hb CT
  go_wp2_with fail
  refine (newPage_any Y T y tc _ _ w1 (by omega) FT.out.rd hyo).mono ?_
  rintro e w2 ⟨B, rfl, hB, hM, hb⟩
  have HB2 := Lib.hid (below_trans HB1.out hb (Nat.le_refl _))
  have hBl := hM.lt
  have hmm := HB2.out.size
  have GM := Lib.hid ((hM.alloc_ (.cells #[.slice T y tc, .map (some B)] 52)).alloc_ (.cells #[] 3))
  have GP := Lib.hid ((box_new w2 52 #[.slice T y tc, .map (some B)]).alloc_ (.cells #[] 3))
  have GB := Lib.hid ((HB2.out.alloc hmm (.cells #[.slice T y tc, .map (some B)] 52)).alloc (by simp; omega) (.cells #[] 3))
  have CX := Lib.hid (CR.out ((w2.alloc (.cells #[.slice T y tc, .map (some B)] 52)).alloc (.cells #[] 3)) (R0.out.new (GB.out)) (R1.out.new GB.out))
  clear hM hb CR hB
  go_wp2_with fail
  refine CX.out.mono ?_
  rintro e w4 ⟨R, rc, rfl, hF, hb⟩
  have FR := Lib.hid hF
  have HB4 := Lib.hid (below_trans GB.out hb (by first | (simp; done) | (simp; omega)))
  have KP := Lib.hid (GP.out.new hb)
  have KM := Lib.hid (GM.out.new hb)
  have hw4 : w2.heap.size + 2 ≤ w4.heap.size := by have := hb.size; simpa using this
  have hpl := KP.out.lt
  have hBw := KM.out.lt
  clear hF hb CX GM GP GB hBl
  go_wp2_with fail
  go_loopg [8, 21] r (fun gg v i wr => ∃ (k m : Nat), k ≤ r ∧ r - k ≤ gg ∧ i = .int .i64 k ∧ m ≤ k ∧ Hid (m = (mFm (gone Y) TNode.f0 (X.take k)).length) ∧ Hid (OwnZ wr w4.heap.size 3 1 v m (i64s (mFm (gone Y) TNode.f0 (X.take k)))) ∧ Hid (Below w4.heap.size w4 wr))
  case atStart => exact ⟨0, 0, Nat.zero_le _, by omega, rfl, Nat.le_refl _, Lib.hid rfl, Lib.hid (.inr ⟨rfl, rfl, _, rfl⟩), Lib.hid (Below.refl _ _)⟩
  case round =>
    obtain ⟨k, m, hk, hg, rfl, hmk, HM, HO, HB⟩ := hrel
    have hs := HB.out.size
    by_cases hlt : k < r
    · obtain ⟨b, off, x, rfl, _, _, hz, hc⟩ := rd_elem TNode.len (FR.out.rd.new HB.out) HX.out hlt
      have q0 : wr.cell? ⟨b, off + k * 5, none⟩ = _ := hc 0 _ rfl
      have q1 := hc 1 _ rfl
      have q2 := hc 2 _ rfl
      have q3 := hc 3 _ rfl
      have q4 := hc 4 _ rfl
      have KPr := KP.out.new HB.out
      have p0 := KPr.at_ (j := 0) rfl
      have p1 := KPr.at_ (j := 1) rfl
      have WX := Lib.hid (node_wf hxo.out hz).1
      have HX1 := Lib.hid (box_new wr 42 #[.int .i64 x.f0, .int .i64 x.f1, .int .i64 x.f2, .int .i64 x.f3, .int .i64 x.f4])
      have HB0 := Lib.hid ((HB.out.alloc hs (.cells #[.int .i64 x.f0, .int .i64 x.f1, .int .i64 x.f2, .int .i64 x.f3, .int .i64 x.f4] 42)).alloc (by simp; omega) (.cells #[.int .i64 x.f0] 3))
      have KLit : Hid (BoxAt ((wr.alloc (.cells #[.int .i64 x.f0, .int .i64 x.f1, .int .i64 x.f2, .int .i64 x.f3, .int .i64 x.f4] 42)).alloc (.cells #[.int .i64 x.f0] 3)) (wr.heap.size + 1) 3 #[.int .i64 x.f0]) := Lib.hid (by simpa using box_new (wr.alloc (.cells #[.int .i64 x.f0, .int .i64 x.f1, .int .i64 x.f2, .int .i64 x.f3, .int .i64 x.f4] 42)) 3 #[.int .i64 x.f0])
      have CH := Lib.hid (page_has1 Y T y tc B y x.f0 (wr.heap.size + 1) ((wr.alloc (.cells #[.int .i64 x.f0, .int .i64 x.f1, .int .i64 x.f2, .int .i64 x.f3, .int .i64 x.f4] 42)).alloc (.cells #[.int .i64 x.f0] 3)) ((((KM.out.new HB.out).alloc_ _)).alloc_ _) WX.out (KLit.out.at_ rfl))
      have HO0 := Lib.hid (((ownz_newer HO.out (Below.refl _ _)).alloc (.cells #[.int .i64 x.f0, .int .i64 x.f1, .int .i64 x.f2, .int .i64 x.f3, .int .i64 x.f4] 42)).alloc (.cells #[.int .i64 x.f0] 3))
      have HX0 := Lib.hid (HX1.out.alloc_ (.cells #[.int .i64 x.f0] 3))
      have hpw : w2.heap.size < wr.heap.size := by omega
      clear HO KLit HX1
      cases hq : (idx Y x.f0).isSome with
      | true =>
        rw [hq] at CH
        have HE1 := Lib.hid (show mFm (gone Y) TNode.f0 (X.take (k + 1)) = mFm (gone Y) TNode.f0 (X.take k) from fm_no hz (by unfold gone; rw [hq]; rfl))
        clear hz hc hq
        go_wp2_with fail
        refine CH.out.mono ?_
        rintro e w5 ⟨rfl, hb5⟩
        have HB5 := Lib.hid (below_trans HB0.out hb5 (by first | (simp; done) | (simp; omega)))
        have HO5 := Lib.hid (ownz_newer HO0.out hb5)
        clear hb5 CH
        go_wp2_with fail
        go_roundg (r - (k + 1))
        case measure => omega
        case rel => exact ⟨k + 1, m, by omega, by omega, by go_num, by omega, Lib.hid (by rw [HE1.out]; exact HM.out), Lib.hid (by rw [HE1.out]; exact HO5.out), HB5⟩
      | false =>
        rw [hq] at CH
        have HE1 := Lib.hid (show mFm (gone Y) TNode.f0 (X.take (k + 1)) = mFm (gone Y) TNode.f0 (X.take k) ++ [x.f0] from fm_yes hz (by unfold gone; rw [hq]; rfl))
        generalize mFm (gone Y) TNode.f0 (X.take k) = L at HE1 HM HO0
        clear hz hc hq
        go_wp2_with fail
        refine CH.out.mono ?_
        rintro e w5 ⟨rfl, hb5⟩
        have HB5 := Lib.hid (below_trans HB0.out hb5 (by first | (simp; done) | (simp; omega)))
        have HO5 := Lib.hid (ownz_newer HO0.out hb5)
        have KX := HX0.out.new hb5
        have x0 := KX.at_ (j := 0) rfl
        have x1 := KX.at_ (j := 1) rfl
        have x2 := KX.at_ (j := 2) rfl
        have x3 := KX.at_ (j := 3) rfl
        have x4 := KX.at_ (j := 4) rfl
        have HS5 := Lib.hid HB5.out.size
        clear hb5 CH
        go_wp2_with (at_builtin; refine wp_appz_lit rfl _ _ _ rfl w4.heap.size 3 (.int .i64 0) 1 8 Tryz.underlying26 info_int rfl (by decide) _ _ _ rfl HO5.out #[.int .i64 x.f0] 1 1 _ rfl (by simp) rfl (one_int x.f0) (by unfold maxLen; omega) (by omega) HS5.out ?_; intro v1 w6 ho1 hb6)
        have HO6 := Lib.hid (show OwnZ w6 w4.heap.size 3 1 v1 (m + 1) (i64s (mFm (gone Y) TNode.f0 (X.take (k + 1)))) by rw [HE1.out]; simpa [i64s] using ho1)
        have HB6 := Lib.hid (HB5.out.trans hb6)
        clear ho1 hb6
        go_wp2_with fail
        go_roundg (r - (k + 1))
        case measure => omega
        case rel => exact ⟨k + 1, m + 1, by omega, by omega, by go_num, by omega, Lib.hid (by rw [HE1.out]; have := HM.out; simp; omega), HO6, HB6⟩
    · obtain rfl : k = r := by omega
      have HT := Lib.hid (show X.take k = X from List.take_of_length_le (by rw [HX.out]; omega))
      obtain ⟨Aq, cq, rfl, hF⟩ := fr_of_ownz HO.out
      rw [HT.out] at hF
      have CA := Lib.hid (ascending_any _ Aq m cq _ _ wr (by omega) hF)
      rw [HE.out] at CA
      generalize hel : E.length = el at CA
      have HEL := Lib.hid hel
      clear hF hel
      go_wp2_with fail
      refine CA.out.mono ?_
      rintro e w5 ⟨rfl, h3, h4⟩
      have HF := Lib.hid ((h3.mono (Nat.le_refl _) h4.size).mono (lo' := w.heap.size) (by omega) (Nat.le_refl _))
      have HB5 := Lib.hid (HB4.out.trans ((HB.out.trans (h4.below (.inl (Nat.le_refl _)) hs)).mono (by omega)))
      clear h3 h4 CA
      go_wp2_with fail
      go_ret
      exact ⟨_, _, by rw [HEL.out]; rfl, by rw [HEL.out]; exact HF.out, HB5.out⟩
set_option maxHeartbeats 16000000 in
theorem spec_LostWith (l0 : List TNode) (A0 : Option Addr) (n0 c0 lo0 hi0 : Nat) (l1 : List TEdit) (A1 : Option Addr) (n1 c1 lo1 hi1 : Nat) (a2 : Int) (w : World) (h0 : n0 ≤ 1048576) (r0 : Rd w lo0 hi0 5 A0 n0 (cNode l0)) (b0 : Hid (cNodeOk l0)) (h1 : n1 ≤ 1048576) (r1 : Rd w lo1 hi1 6 A1 n1 (cEdit l1)) (b1 : Hid (cEditOk l1)) (wf2 : (Lit.int .i64 a2).wf = true) :
    Calls Tryz.prog 6 #[.slice A0 n0 c0, .slice A1 n1 c1, .int .i64 a2] w (Makes 3 1 (mLost l0 l1 a2).length (i64s (mLost l0 l1 a2)) w) := by
  have HL0 := rd_len TNode.len r0 (by decide)
  have R0 := Lib.hid r0
  have R1 := Lib.hid r1
  have WF := Lib.hid wf2
  have hyl : (mTake l0 l1 a2).length ≤ 1048576 := run_le _ b0.out (by omega) (by omega)
  have hxl : (mRun l0 l1).length ≤ 1048576 := run_le _ b0.out (by omega) (by omega)
  generalize hE : mLost l0 l1 a2 = E
  have HE := Lib.hid (show mAsd (mFm (gone (mTake l0 l1 a2)) TNode.f0 (mRun l0 l1)) = E from hE)
  have CT := Lib.hid (fun (W : World) (ha : Rd W lo0 hi0 5 A0 n0 (cNode l0)) (hb : Rd W lo1 hi1 6 A1 n1 (cEdit l1)) => spec_TakeBack l0 A0 n0 c0 lo0 hi0 l1 A1 n1 c1 lo1 hi1 a2 W h0 ha b0 h1 hb b1 WF.out)
  have CR := Lib.hid (fun (W : World) (ha : Rd W lo0 hi0 5 A0 n0 (cNode l0)) (hb : Rd W lo1 hi1 6 A1 n1 (cEdit l1)) => spec_RunEdits l0 A0 n0 c0 lo0 hi0 l1 A1 n1 c1 lo1 hi1 W h0 ha b0 h1 hb b1)
  clear r0 r1 hE wf2
  generalize mTake l0 l1 a2 = Y at CT hyl HE
  generalize mRun l0 l1 = X at CR hxl HE
  generalize hy : Y.length = y at CT hyl
  generalize hx : X.length = r at CR hxl
  have HY := Lib.hid hy
  have HX := Lib.hid hx
  have HB0 := Lib.hid ((Below.refl w.heap.size w).alloc (Nat.le_refl _) (.cells #[] 3))
  have C1 := Lib.hid (CR.out (w.alloc (.cells #[] 3)) (R0.out.alloc _) (R1.out.alloc _))
  clear hy hx CR
  go_enter Tryz.func6, Tryz.ntmps6
  go_wp2_with fail
  refine C1.out.mono ?_
  rintro e w1 ⟨R, rc, rfl, hF, hb⟩
  have FR := Lib.hid hF
  have HB1 := Lib.hid (below_trans HB0.out hb (by simp))
  have C2 := Lib.hid (CT.out w1 (R0.out.new HB1.out) (R1.out.new HB1.out))
  clear hF hb C1 CT
  go_wp2_with fail
  refine C2.out.mono ?_
  rintro e w2 ⟨T, tc, rfl, hF, hb⟩
  have FT := Lib.hid hF
  have FR2 := Lib.hid (FR.out.new hb)
  have HB2 := Lib.hid (below_trans HB1.out hb (Nat.le_refl _))
  clear hF hb C2 FR
  go_wp2_with fail
  go_loopg [7, 10] r (fun gg v i wr => ∃ (k : Nat) (A : Option Addr) (m c : Nat), k ≤ r ∧ r - k ≤ gg ∧ i = .int .i64 k ∧ v = .slice A m c ∧ m ≤ k ∧ Hid (m = (mAsd (mFm (gone Y) TNode.f0 (X.take k))).length) ∧ Hid (Fr wr w.heap.size wr.heap.size 3 1 A m c (i64s (mAsd (mFm (gone Y) TNode.f0 (X.take k))))) ∧ Hid (Below w2.heap.size w2 wr))
  case atStart => exact ⟨0, _, 0, 0, Nat.zero_le _, by omega, rfl, rfl, Nat.le_refl _, Lib.hid rfl, Lib.hid ⟨rfl, fun h => absurd h (by omega)⟩, Lib.hid (Below.refl _ _)⟩
  case round =>
    obtain ⟨k, A', m, c', hk, hg, rfl, rfl, hmk, HM, HF, HB⟩ := hrel
    by_cases hlt : k < r
    · obtain ⟨b, off, x, rfl, _, _, hz, hc⟩ := rd_elem TNode.len (FR2.out.rd.new HB.out) HX.out hlt
      have q0 : wr.cell? ⟨b, off + k * 5, none⟩ = _ := hc 0 _ rfl
      have HS := Lib.hid (show w.heap.size ≤ wr.heap.size from Nat.le_trans HB2.out.size HB.out.size)
      have CN := Lib.hid (spec_NodeOf' Y T y tc _ _ x.f0 wr (by omega) (FT.out.rd.new HB.out))
      cases h0 : (idx Y x.f0).isSome with
      | false =>
        have g0 : decide (mNodeOf Y x.f0 < 0) = true := by have h := mNodeOf_neg h0; rw [decide_eq_true_eq]; omega
        have HE1 := Lib.hid (show mAsd (mFm (gone Y) TNode.f0 (X.take (k + 1))) = mPut x.f0 (mAsd (mFm (gone Y) TNode.f0 (X.take k))) by rw [fm_yes hz (by unfold gone; rw [h0]; rfl), mAsd_snoc])
        generalize mAsd (mFm (gone Y) TNode.f0 (X.take k)) = L at HE1 HM HF
        have HN := Lib.hid (mPut_len x.f0 L)
        clear hz hc h0
        go_wp2_with fail
        refine CN.out.mono ?_
        rintro e w5 ⟨rfl, rfl⟩
        clear CN
        go_wp2_with fail
        refine (spec_l6Put L A' m c' _ _ x.f0 wr (by omega) HF.out.rd HF.out.cap).mono ?_
        rintro e w6 ⟨A2, c2, rfl, h5, h6⟩
        have HF1 := Lib.hid (show Fr w6 w.heap.size w6.heap.size 3 1 A2 (mPut x.f0 L).length c2 (i64s (mAsd (mFm (gone Y) TNode.f0 (X.take (k + 1))))) by rw [HE1.out]; exact h5.mono HS.out (Nat.le_refl _))
        have HB6 := Lib.hid (below_trans HB.out h6 (Nat.le_refl _))
        clear h5 h6
        go_wp2_with fail
        go_roundg (r - (k + 1))
        case measure => omega
        case rel => exact ⟨k + 1, A2, _, c2, by omega, by omega, by go_num, rfl, by have := HN.out; have := HM.out; omega, Lib.hid (by rw [HE1.out]), HF1, HB6⟩
      | true =>
        have g0 : decide (mNodeOf Y x.f0 < 0) = false := by have h := mNodeOf_pos h0; rw [decide_eq_false_iff_not]; omega
        have HE1 := Lib.hid (show mFm (gone Y) TNode.f0 (X.take (k + 1)) = mFm (gone Y) TNode.f0 (X.take k) from fm_no hz (by unfold gone; rw [h0]; rfl))
        clear hz hc h0
        go_wp2_with fail
        refine CN.out.mono ?_
        rintro e w5 ⟨rfl, rfl⟩
        clear CN
        go_wp2_with fail
        go_roundg (r - (k + 1))
        case measure => omega
        case rel => exact ⟨k + 1, A', m, c', by omega, by omega, by go_num, rfl, by omega, Lib.hid (by rw [HE1.out]; exact HM.out), Lib.hid (by rw [HE1.out]; exact HF.out), HB⟩
    · obtain rfl : k = r := by omega
      have HT := Lib.hid (show X.take k = X from List.take_of_length_le (by rw [HX.out]; omega))
      have HF1 := Lib.hid (show Fr wr w.heap.size wr.heap.size 3 1 A' m c' (i64s E) by have h := HF.out; rw [HT.out, HE.out] at h; exact h)
      have HN := Lib.hid (show m = E.length by have h := HM.out; rw [HT.out, HE.out] at h; exact h)
      have HBf := Lib.hid (HB2.out.trans (HB.out.mono HB2.out.size))
      clear HF HM
      go_wp2_with fail
      go_ret
      refine ⟨A', c', ?_, ?_, HBf.out⟩
      · rw [← HN.out]; rfl
      · rw [← HN.out]; exact HF1.out
end Go.Proofs.YtejcioenoofjlaaGreat
