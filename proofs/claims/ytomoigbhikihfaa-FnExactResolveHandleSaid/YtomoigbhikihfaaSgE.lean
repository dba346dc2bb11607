/- What the program asks of an edit: three checks of a sight. -/
import Derived.Test.YtomoigbhikihfaaSgJ
import Derived.Test.YtomoigbhikihfaaAplB
import Derived.Deep.RegionHeld3
import Derived.Deep.LoopGhost
namespace Go.Proofs.Ytomoigbhikihfaa
open Go Go.ChangeShapes Go.WideShapes Go.ChangeAt Go.RowKit Go.Lib
set_option linter.unusedVariables false
set_option linter.unusedSimpArgs false
set_option maxRecDepth 100000
def okNode (l : List TNode) (h : List Int) (e : TEdit) : Bool := mLook l h e.f5 e.f1 || !(idx l e.f1).isSome
def okPar (l : List TNode) (h : List Int) (e : TEdit) : Bool := mLook l h e.f5 e.f2 || ((e.f0 != 1) && (e.f0 != 4))
def okOne (l : List TNode) (h : List Int) (e : TEdit) (x : TNode) : Bool := mLook l h e.f5 x.f0 || !mUnder l x.f0 e.f1
def okDrop (l : List TNode) (h : List Int) (e : TEdit) : Bool := (e.f0 != 2) || l.all (okOne l h e)
def mMay (l : List TNode) (h : List Int) (e : TEdit) : Bool := mIsEdit e && okNode l h e && okPar l h e && okDrop l h e
theorem alls_step {α : Type} {p : α → Bool} {l : List α} {k : Nat} {x : α} (h : (l.take k).all p = true) (hz : l[k]? = some x) (hq : p x = true) : (l.take (k + 1)).all p = true := by
  rw [List.take_add_one, hz, Option.toList_some, List.all_append, h]; simp [hq]
theorem alls_no {α : Type} {p : α → Bool} {l : List α} {k : Nat} {x : α} (hz : l[k]? = some x) (hq : p x = false) : l.all p = false := by
  rw [List.all_eq_false]; exact ⟨x, List.mem_of_getElem? hz, by simp [hq]⟩
set_option maxHeartbeats 4000000 in
theorem sees_node (l : List TNode) (A : Option Addr) (n c lo hi : Nat) (h : List Int) (e : TEdit) (B M kk : Nat) (w : World) (hn : n ≤ 1048576) (hr : Rd w lo hi 5 A n (cNode l)) (hok : Hid (cNodeOk l)) (hP : MapAt w B n (idx l)) (hM : MapB w M kk (mLook l h e.f5)) (he : Hid (TEdit.fit e)) :
    Calls Try.prog 49 #[.agg #[.slice A n c, .map (some B), .map (some M)], .agg #[.int .i64 e.f0, .int .i64 e.f1, .int .i64 e.f2, .int .i64 e.f3, .int .i64 e.f4, .int .i64 e.f5]] w (Says (.bool (okNode l h e)) w) := by
  have W1 := Lib.hid (show (Lit.int .i64 e.f1).wf = true from WalkArith.wf_i64 he.out.2.1)
  have hlk := ((hM.alloc_ (.cells #[.slice A n c, .map (some B), .map (some M)] 62)).alloc_ (.cells #[.int .i64 e.f0, .int .i64 e.f1, .int .i64 e.f2, .int .i64 e.f3, .int .i64 e.f4, .int .i64 e.f5] 40)).look Try.underlying60 e.f1 W1.out
  have HP := Lib.hid (((hP.alloc_ (.cells #[.slice A n c, .map (some B), .map (some M)] 62)).alloc_ (.cells #[.int .i64 e.f0, .int .i64 e.f1, .int .i64 e.f2, .int .i64 e.f3, .int .i64 e.f4, .int .i64 e.f5] 40)).alloc_ (.cells #[.int .i64 e.f1] 3))
  have KL : Hid (BoxAt (((w.alloc (.cells #[.slice A n c, .map (some B), .map (some M)] 62)).alloc (.cells #[.int .i64 e.f0, .int .i64 e.f1, .int .i64 e.f2, .int .i64 e.f3, .int .i64 e.f4, .int .i64 e.f5] 40)).alloc (.cells #[.int .i64 e.f1] 3)) (w.heap.size + 1 + 1) 3 #[.int .i64 e.f1]) := Lib.hid (by simpa using box_new ((w.alloc (.cells #[.slice A n c, .map (some B), .map (some M)] 62)).alloc (.cells #[.int .i64 e.f0, .int .i64 e.f1, .int .i64 e.f2, .int .i64 e.f3, .int .i64 e.f4, .int .i64 e.f5] 40)) 3 #[.int .i64 e.f1])
  unfold okNode
  clear hM hP hr
  cases hs : mLook l h e.f5 e.f1 with
  | true =>
    rw [hs] at hlk
    clear hs
    go_enter Try.func49, Try.ntmps49
    go_wp2_with fail
    go_ret
    exact ⟨rfl, ((Below.refl _ _).alloc (Nat.le_refl _) _).alloc (by simp) _⟩
  | false =>
    rw [hs] at hlk
    clear hs
    have HC := Lib.hid (page_has1 l A n c B n e.f1 (w.heap.size + 1 + 1) _ HP.out W1.out (KL.out.at_ rfl))
    generalize (idx l e.f1).isSome = r at HC ⊢
    go_enter Try.func49, Try.ntmps49
    go_wp2_with fail
    refine HC.out.mono ?_
    rintro e1 w1 ⟨rfl, hb1⟩
    have HB1 := Lib.hid (below_trans (show Below w.heap.size w (((w.alloc (.cells #[.slice A n c, .map (some B), .map (some M)] 62)).alloc (.cells #[.int .i64 e.f0, .int .i64 e.f1, .int .i64 e.f2, .int .i64 e.f3, .int .i64 e.f4, .int .i64 e.f5] 40)).alloc (.cells #[.int .i64 e.f1] 3)) from (((Below.refl _ _).alloc (Nat.le_refl _) _).alloc (by simp) _).alloc (by simp <;> omega) _) hb1 (by simp <;> omega))
    clear hb1 HC
    go_wp2_with fail
    go_ret
    exact ⟨by cases r <;> rfl, HB1.out⟩
set_option maxHeartbeats 4000000 in
theorem sees_parent (l : List TNode) (A : Option Addr) (n c lo hi : Nat) (h : List Int) (e : TEdit) (B M kk : Nat) (w : World) (hn : n ≤ 1048576) (hr : Rd w lo hi 5 A n (cNode l)) (hok : Hid (cNodeOk l)) (hP : MapAt w B n (idx l)) (hM : MapB w M kk (mLook l h e.f5)) (he : Hid (TEdit.fit e)) :
    Calls Try.prog 50 #[.agg #[.slice A n c, .map (some B), .map (some M)], .agg #[.int .i64 e.f0, .int .i64 e.f1, .int .i64 e.f2, .int .i64 e.f3, .int .i64 e.f4, .int .i64 e.f5]] w (Says (.bool (okPar l h e)) w) := by
  have W1 := Lib.hid (show (Lit.int .i64 e.f2).wf = true from WalkArith.wf_i64 he.out.2.2.1)
  have hlk := ((hM.alloc_ (.cells #[.slice A n c, .map (some B), .map (some M)] 62)).alloc_ (.cells #[.int .i64 e.f0, .int .i64 e.f1, .int .i64 e.f2, .int .i64 e.f3, .int .i64 e.f4, .int .i64 e.f5] 40)).look Try.underlying60 e.f2 W1.out
  unfold okPar
  clear hM hP hr
  cases hs : mLook l h e.f5 e.f2 with
  | true =>
    rw [hs] at hlk
    clear hs
    go_enter Try.func50, Try.ntmps50
    go_wp2_with fail
    go_ret
    exact ⟨rfl, ((Below.refl _ _).alloc (Nat.le_refl _) _).alloc (by simp) _⟩
  | false =>
    rw [hs] at hlk
    clear hs
    by_cases h1 : (e.f0 != 1) = true
    · by_cases h4 : (e.f0 != 4) = true
      · have HV := Lib.hid (show (false || (e.f0 != 1) && (e.f0 != 4)) = true by rw [h1, h4]; rfl)
        go_enter Try.func50, Try.ntmps50
        go_wp2_with fail
        go_ret
        exact ⟨by rw [HV.out]; rfl, ((Below.refl _ _).alloc (Nat.le_refl _) _).alloc (by simp) _⟩
      · have h4 : (e.f0 != 4) = false := by simpa using h4
        have HV := Lib.hid (show (false || (e.f0 != 1) && (e.f0 != 4)) = false by rw [h1, h4]; rfl)
        go_enter Try.func50, Try.ntmps50
        go_wp2_with fail
        go_ret
        exact ⟨by rw [HV.out]; rfl, ((Below.refl _ _).alloc (Nat.le_refl _) _).alloc (by simp) _⟩
    · have h1 : (e.f0 != 1) = false := by simpa using h1
      have HV := Lib.hid (show (false || (e.f0 != 1) && (e.f0 != 4)) = false by rw [h1]; rfl)
      go_enter Try.func50, Try.ntmps50
      go_wp2_with fail
      go_ret
      exact ⟨by rw [HV.out]; rfl, ((Below.refl _ _).alloc (Nat.le_refl _) _).alloc (by simp) _⟩
set_option maxHeartbeats 8000000 in
theorem sees_all (l : List TNode) (A : Option Addr) (n c lo hi : Nat) (h : List Int) (e : TEdit) (B M kk : Nat) (w : World) (hn : n ≤ 1048576) (hr : Rd w lo hi 5 A n (cNode l)) (hok : Hid (cNodeOk l)) (hP : MapAt w B n (idx l)) (hM : MapB w M kk (mLook l h e.f5)) (he : Hid (TEdit.fit e)) (hcap : n ≤ c) :
    Calls Try.prog 51 #[.agg #[.slice A n c, .map (some B), .map (some M)], .agg #[.int .i64 e.f0, .int .i64 e.f1, .int .i64 e.f2, .int .i64 e.f3, .int .i64 e.f4, .int .i64 e.f5]] w (Says (.bool (okDrop l h e)) w) := by
  have HR := Lib.hid (hr.old (by decide))
  have HL := Lib.hid (rd_len TNode.len hr (by decide))
  have W1 := Lib.hid (show (Lit.int .i64 e.f1).wf = true from WalkArith.wf_i64 he.out.2.1)
  have HM := Lib.hid ((hM.alloc_ (.cells #[.slice A n c, .map (some B), .map (some M)] 62)).alloc_ (.cells #[.int .i64 e.f0, .int .i64 e.f1, .int .i64 e.f2, .int .i64 e.f3, .int .i64 e.f4, .int .i64 e.f5] 40))
  have KS := Lib.hid ((box_new w 62 #[.slice A n c, .map (some B), .map (some M)]).alloc_ (.cells #[.int .i64 e.f0, .int .i64 e.f1, .int .i64 e.f2, .int .i64 e.f3, .int .i64 e.f4, .int .i64 e.f5] 40))
  have KE : Hid (BoxAt ((w.alloc (.cells #[.slice A n c, .map (some B), .map (some M)] 62)).alloc (.cells #[.int .i64 e.f0, .int .i64 e.f1, .int .i64 e.f2, .int .i64 e.f3, .int .i64 e.f4, .int .i64 e.f5] 40)) (w.heap.size + 1) 40 #[.int .i64 e.f0, .int .i64 e.f1, .int .i64 e.f2, .int .i64 e.f3, .int .i64 e.f4, .int .i64 e.f5]) := Lib.hid (by simpa using box_new (w.alloc (.cells #[.slice A n c, .map (some B), .map (some M)] 62)) 40 #[.int .i64 e.f0, .int .i64 e.f1, .int .i64 e.f2, .int .i64 e.f3, .int .i64 e.f4, .int .i64 e.f5])
  have HR2 := Lib.hid ((HR.out.alloc (.cells #[.slice A n c, .map (some B), .map (some M)] 62)).alloc (.cells #[.int .i64 e.f0, .int .i64 e.f1, .int .i64 e.f2, .int .i64 e.f3, .int .i64 e.f4, .int .i64 e.f5] 40))
  have HB2 : Hid (Below w.heap.size w ((w.alloc (.cells #[.slice A n c, .map (some B), .map (some M)] 62)).alloc (.cells #[.int .i64 e.f0, .int .i64 e.f1, .int .i64 e.f2, .int .i64 e.f3, .int .i64 e.f4, .int .i64 e.f5] 40))) := Lib.hid (((Below.refl _ _).alloc (Nat.le_refl _) _).alloc (by simp) _)
  have hv2 : ((w.alloc (.cells #[.slice A n c, .map (some B), .map (some M)] 62)).alloc (.cells #[.int .i64 e.f0, .int .i64 e.f1, .int .i64 e.f2, .int .i64 e.f3, .int .i64 e.f4, .int .i64 e.f5] 40)).heap.size = w.heap.size + 1 + 1 := by simp
  clear hM hP hr
  by_cases h2 : (e.f0 != 2) = true
  · have HV := Lib.hid (show okDrop l h e = true by unfold okDrop; rw [h2]; rfl)
    clear KS KE HR2 HM hv2
    go_enter Try.func51, Try.ntmps51
    go_wp2_with fail
    go_ret
    exact ⟨by rw [HV.out]; rfl, HB2.out⟩
  · have h2 : (e.f0 != 2) = false := by simpa using h2
    have HV := Lib.hid (show okDrop l h e = l.all (okOne l h e) by unfold okDrop; rw [h2]; rfl)
    generalize hQ : okOne l h e = Q at HV
    have HQ := Lib.hid (show ∀ x, Q x = (mLook l h e.f5 x.f0 || !mUnder l x.f0 e.f1) by intro x; rw [← hQ]; rfl)
    clear hQ
    rw [HV.out]
    go_enter Try.func51, Try.ntmps51
    go_wp2_with fail
    generalize hV2 : ((w.alloc (.cells #[.slice A n c, .map (some B), .map (some M)] 62)).alloc (.cells #[.int .i64 e.f0, .int .i64 e.f1, .int .i64 e.f2, .int .i64 e.f3, .int .i64 e.f4, .int .i64 e.f5] 40)) = V at KS KE HR2 HM HB2 hv2 ⊢
    have HVs := Lib.hid hv2
    clear hV2 hv2
    go_loopw [14] (fun v wr => ∃ k : Nat, v = .int .i64 k ∧ k ≤ n ∧ Hid ((l.take k).all Q = true) ∧ Hid (Below V.heap.size V wr)) (fun v _ => n - (intOf v).toNat)
    case atStart => exact ⟨0, rfl, Nat.zero_le _, Lib.hid (by simp), Lib.hid (Below.refl _ _)⟩
    case round =>
      obtain ⟨k, rfl, hk, HF, HB⟩ := hrel
      have HRw := Lib.hid (HR2.out.new HB.out)
      have HMw := Lib.hid (HM.out.new HB.out)
      have hVw : w.heap.size + 1 + 1 ≤ wr.heap.size := by have := HVs.out; have := HB.out.size; omega
      have KSw := Lib.hid (KS.out.new HB.out)
      have KEw := Lib.hid (KE.out.new HB.out)
      have s0 := KSw.out.at_ (j := 0) (u := .slice A n c) rfl
      have s1 := KSw.out.at_ (j := 1) (u := .map (some B)) rfl
      have s2 := KSw.out.at_ (j := 2) (u := .map (some M)) rfl
      have k0 := KEw.out.at_ (j := 0) (u := .int .i64 e.f0) rfl
      have k1 := KEw.out.at_ (j := 1) (u := .int .i64 e.f1) rfl
      have hs1 : w.heap.size < wr.heap.size := by omega
      have hs2 : w.heap.size + 1 < wr.heap.size := by omega
      by_cases hlt : k < n
      · obtain ⟨b, off, x, rfl, _, _, hz, hc⟩ := rd_elem TNode.len HRw.out HL.out hlt
        have c0' : wr.cell? ⟨b, off + k * 5, none⟩ = _ := hc 0 _ rfl
        have c1' := hc 1 _ rfl
        have c2' := hc 2 _ rfl
        have c3' := hc 3 _ rfl
        have c4' := hc 4 _ rfl
        have HZ := Lib.hid hz
        have WX := Lib.hid (node_wf hok.out hz).1
        have HQx := Lib.hid (HQ.out x)
        have hlk := (HMw.out.alloc_ (.cells #[.int .i64 x.f0, .int .i64 x.f1, .int .i64 x.f2, .int .i64 x.f3, .int .i64 x.f4] 54)).look Try.underlying60 x.f0 WX.out
        have hbl : b < wr.heap.size := World.block_lt_of_cell? wr _ c0'
        clear hz hc
        cases hs : mLook l h e.f5 x.f0 with
        | true =>
          rw [hs] at hlk
          have HF2 := Lib.hid (alls_step HF.out HZ.out (by rw [HQx.out, hs]; rfl))
          clear hs
          go_wp2_with fail
          go_roundw
          case rel => exact ⟨k + 1, by go_num, by omega, HF2, Lib.hid (HB.out.alloc HB.out.size _)⟩
          case measure => simp [intOf]; omega
        | false =>
          rw [hs] at hlk
          have HQy := Lib.hid (show Q x = !mUnder l x.f0 e.f1 by rw [HQx.out, hs]; rfl)
          clear hs
          have HC := Lib.hid (impl_IsUnderC l (some ⟨b, off, none⟩) n c 0 w.heap.size x.f0 e.f1 (wr.alloc (.cells #[.int .i64 x.f0, .int .i64 x.f1, .int .i64 x.f2, .int .i64 x.f3, .int .i64 x.f4] 54)) hn (HRw.out.alloc _) hcap hok WX.out W1.out)
          generalize mUnder l x.f0 e.f1 = u at HC HQy
          cases u with
          | true =>
            have HE := Lib.hid (show l.all Q = false from alls_no HZ.out HQy.out)
            go_wp2_with fail
            refine HC.out.mono ?_
            rintro e1 w1 ⟨rfl, hb1⟩
            have HB1 := Lib.hid (below_trans (HB2.out.trans (HB.out.mono (by have := HVs.out; omega)) |>.alloc (by omega) (.cells #[.int .i64 x.f0, .int .i64 x.f1, .int .i64 x.f2, .int .i64 x.f3, .int .i64 x.f4] 54)) hb1 (by simp <;> omega))
            clear hb1 HC
            go_wp2_with fail
            go_ret
            exact ⟨by rw [HE.out]; rfl, HB1.out⟩
          | false =>
            have HF2 := Lib.hid (alls_step HF.out HZ.out HQy.out)
            go_wp2_with fail
            refine HC.out.mono ?_
            rintro e1 w1 ⟨rfl, hb1⟩
            have HB1 := Lib.hid (below_trans (HB.out.alloc HB.out.size (.cells #[.int .i64 x.f0, .int .i64 x.f1, .int .i64 x.f2, .int .i64 x.f3, .int .i64 x.f4] 54)) hb1 (by have := HB.out.size; simp <;> omega))
            clear hb1 HC
            go_wp2_with fail
            go_roundw
            case rel => exact ⟨k + 1, by go_num, by omega, HF2, HB1⟩
            case measure => simp [intOf]; omega
      · obtain rfl : k = n := by omega
        have HE := Lib.hid (show l.all Q = true by have h := HF.out; rwa [List.take_of_length_le (by rw [HL.out]; exact Nat.le_refl _)] at h)
        go_wp2_with fail
        go_ret
        exact ⟨by rw [HE.out]; rfl, HB2.out.trans (HB.out.mono (by have := HVs.out; omega))⟩
end Go.Proofs.Ytomoigbhikihfaa
