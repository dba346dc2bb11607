/- NarrowGrant, of the program and of the model. -/
import Derived.Test.YtagabcnjpmpppaaMeet
import Derived.Test.YtagabcnjpmpppaaGrant
namespace Go.Proofs.Ytagabcnjpmpppaa
open Go Go.ChangeShapes Go.WideShapes Go.ChangeAt Go.RowKit Go.Lib
set_option linter.unusedVariables false
set_option linter.unusedSimpArgs false
set_option maxRecDepth 100000
def mNGok (g : TGrant) (p : TPattern) : Bool := mMeetOk ⟨g.f1, g.f2⟩ p && mIsGrant g
def mNG (g : TGrant) (p : TPattern) : TGrant := if mNGok g p = true then ⟨g.f0, (mMeet ⟨g.f1, g.f2⟩ p).f0, (mMeet ⟨g.f1, g.f2⟩ p).f1, g.f3, g.f4, g.f5, g.f6⟩ else ⟨0, 0, 0, 0, 0, 0, false⟩
theorem mNG_yes {g : TGrant} {p : TPattern} (h : mNGok g p = true) : mNG g p = ⟨g.f0, (mMeet ⟨g.f1, g.f2⟩ p).f0, (mMeet ⟨g.f1, g.f2⟩ p).f1, g.f3, g.f4, g.f5, g.f6⟩ := by unfold mNG; rw [if_pos h]
theorem mNG_no {g : TGrant} {p : TPattern} (h : mNGok g p = false) : mNG g p = ⟨0, 0, 0, 0, 0, 0, false⟩ := by unfold mNG; rw [if_neg (by rw [h]; decide)]

set_option maxHeartbeats 40000000 in
theorem impl_NarrowGrant (g : TGrant) (p : TPattern) (w : World) :
    Calls Try.prog 34 #[vGrant g, vPat p] w (Says (.tuple #[vGrant (mNG g p), .bool (mNGok g p)]) w) := by
  have C0 := fun W => impl_MeetPatterns ⟨g.f1, g.f2⟩ p W
  have C1 := fun W => impl_IsGrant g W
  have HX := Lib.hid (show mNGok g p = (mMeetOk ⟨g.f1, g.f2⟩ p && mIsGrant g) from rfl)
  have HV := mNG_yes (g := g) (p := p)
  generalize mMeet ⟨g.f1, g.f2⟩ p = m at C0 HV
  replace HV := Lib.hid HV
  generalize mMeetOk ⟨g.f1, g.f2⟩ p = b0 at C0 HX
  generalize mIsGrant g = b1 at C1 HX
  replace C0 := Lib.hid C0
  replace C1 := Lib.hid C1
  have KB0 : BoxAt (((w.alloc (.cells #[.int .i64 g.f0, .int .i64 g.f1, .int .i64 g.f2, .int .i64 g.f3, .int .i64 g.f4, .int .i64 g.f5, .bool g.f6] 50)).alloc (.cells #[.int .i64 p.f0, .int .i64 p.f1] 25)).alloc (.cells #[.int .i64 0, .int .i64 0, .int .i64 0, .int .i64 0, .int .i64 0, .int .i64 0, .bool false] 50)) w.heap.size 50 #[.int .i64 g.f0, .int .i64 g.f1, .int .i64 g.f2, .int .i64 g.f3, .int .i64 g.f4, .int .i64 g.f5, .bool g.f6] := (((by simpa using box_new w 50 #[.int .i64 g.f0, .int .i64 g.f1, .int .i64 g.f2, .int .i64 g.f3, .int .i64 g.f4, .int .i64 g.f5, .bool g.f6] : BoxAt (w.alloc (.cells #[.int .i64 g.f0, .int .i64 g.f1, .int .i64 g.f2, .int .i64 g.f3, .int .i64 g.f4, .int .i64 g.f5, .bool g.f6] 50)) w.heap.size 50 #[.int .i64 g.f0, .int .i64 g.f1, .int .i64 g.f2, .int .i64 g.f3, .int .i64 g.f4, .int .i64 g.f5, .bool g.f6])).alloc_ (.cells #[.int .i64 p.f0, .int .i64 p.f1] 25)).alloc_ (.cells #[.int .i64 0, .int .i64 0, .int .i64 0, .int .i64 0, .int .i64 0, .int .i64 0, .bool false] 50)
  have KB1 : BoxAt (((w.alloc (.cells #[.int .i64 g.f0, .int .i64 g.f1, .int .i64 g.f2, .int .i64 g.f3, .int .i64 g.f4, .int .i64 g.f5, .bool g.f6] 50)).alloc (.cells #[.int .i64 p.f0, .int .i64 p.f1] 25)).alloc (.cells #[.int .i64 0, .int .i64 0, .int .i64 0, .int .i64 0, .int .i64 0, .int .i64 0, .bool false] 50)) (w.heap.size + 1) 25 #[.int .i64 p.f0, .int .i64 p.f1] := ((by simpa using box_new (w.alloc (.cells #[.int .i64 g.f0, .int .i64 g.f1, .int .i64 g.f2, .int .i64 g.f3, .int .i64 g.f4, .int .i64 g.f5, .bool g.f6] 50)) 25 #[.int .i64 p.f0, .int .i64 p.f1] : BoxAt ((w.alloc (.cells #[.int .i64 g.f0, .int .i64 g.f1, .int .i64 g.f2, .int .i64 g.f3, .int .i64 g.f4, .int .i64 g.f5, .bool g.f6] 50)).alloc (.cells #[.int .i64 p.f0, .int .i64 p.f1] 25)) (w.heap.size + 1) 25 #[.int .i64 p.f0, .int .i64 p.f1])).alloc_ (.cells #[.int .i64 0, .int .i64 0, .int .i64 0, .int .i64 0, .int .i64 0, .int .i64 0, .bool false] 50)
  have KB2 : BoxAt (((w.alloc (.cells #[.int .i64 g.f0, .int .i64 g.f1, .int .i64 g.f2, .int .i64 g.f3, .int .i64 g.f4, .int .i64 g.f5, .bool g.f6] 50)).alloc (.cells #[.int .i64 p.f0, .int .i64 p.f1] 25)).alloc (.cells #[.int .i64 0, .int .i64 0, .int .i64 0, .int .i64 0, .int .i64 0, .int .i64 0, .bool false] 50)) (w.heap.size + 1 + 1) 50 #[.int .i64 0, .int .i64 0, .int .i64 0, .int .i64 0, .int .i64 0, .int .i64 0, .bool false] := (by simpa using box_new ((w.alloc (.cells #[.int .i64 g.f0, .int .i64 g.f1, .int .i64 g.f2, .int .i64 g.f3, .int .i64 g.f4, .int .i64 g.f5, .bool g.f6] 50)).alloc (.cells #[.int .i64 p.f0, .int .i64 p.f1] 25)) 50 #[.int .i64 0, .int .i64 0, .int .i64 0, .int .i64 0, .int .i64 0, .int .i64 0, .bool false] : BoxAt (((w.alloc (.cells #[.int .i64 g.f0, .int .i64 g.f1, .int .i64 g.f2, .int .i64 g.f3, .int .i64 g.f4, .int .i64 g.f5, .bool g.f6] 50)).alloc (.cells #[.int .i64 p.f0, .int .i64 p.f1] 25)).alloc (.cells #[.int .i64 0, .int .i64 0, .int .i64 0, .int .i64 0, .int .i64 0, .int .i64 0, .bool false] 50)) (w.heap.size + 1 + 1) 50 #[.int .i64 0, .int .i64 0, .int .i64 0, .int .i64 0, .int .i64 0, .int .i64 0, .bool false])
  have HBw : Below w.heap.size w (((w.alloc (.cells #[.int .i64 g.f0, .int .i64 g.f1, .int .i64 g.f2, .int .i64 g.f3, .int .i64 g.f4, .int .i64 g.f5, .bool g.f6] 50)).alloc (.cells #[.int .i64 p.f0, .int .i64 p.f1] 25)).alloc (.cells #[.int .i64 0, .int .i64 0, .int .i64 0, .int .i64 0, .int .i64 0, .int .i64 0, .bool false] 50)) := ((((Below.refl _ _).alloc (by first | exact Nat.le_refl _ | (simp; done) | (simp; omega)) _).alloc (by first | exact Nat.le_refl _ | (simp; done) | (simp; omega)) _).alloc (by first | exact Nat.le_refl _ | (simp; done) | (simp; omega)) _)
  have HG := Lib.hid KB0
  have HP := Lib.hid KB1
  have HR := Lib.hid KB2
  have HB := Lib.hid HBw
  clear KB0 KB1 KB2 HBw
  cases b0
  · skip
    have HK := Lib.hid (show mNGok g p = false from HX.out)
    rw [mNG_no HK.out, HK.out]
    go_enter Try.func34, Try.ntmps34
    go_wp2_with fail
    refine Calls.mono (C0.out _) ?_
    rintro e w1 ⟨rfl, hb1⟩
    replace HG := Lib.hid ((HG.out).new hb1)
    replace HP := Lib.hid ((HP.out).new hb1)
    replace HR := Lib.hid ((HR.out).new hb1)
    replace HB := Lib.hid (below_trans (HB.out) hb1 (Nat.le_refl _))
    have lHG : w.heap.size < w1.heap.size := HG.out.lt
    have lHP : w.heap.size + 1 < w1.heap.size := HP.out.lt
    have lHR : w.heap.size + 1 + 1 < w1.heap.size := HR.out.lt
    clear hb1
    have eHG0 := HG.out.at_ (j := 0) rfl
    have eHG1 := HG.out.at_ (j := 1) rfl
    have eHG2 := HG.out.at_ (j := 2) rfl
    have eHG3 := HG.out.at_ (j := 3) rfl
    have eHG4 := HG.out.at_ (j := 4) rfl
    have eHG5 := HG.out.at_ (j := 5) rfl
    have eHG6 := HG.out.at_ (j := 6) rfl
    have eHR0 := HR.out.at_ (j := 0) rfl
    have eHR1 := HR.out.at_ (j := 1) rfl
    have eHR2 := HR.out.at_ (j := 2) rfl
    have eHR3 := HR.out.at_ (j := 3) rfl
    have eHR4 := HR.out.at_ (j := 4) rfl
    have eHR5 := HR.out.at_ (j := 5) rfl
    have eHR6 := HR.out.at_ (j := 6) rfl
    have fHR0 := HR.out.free 0
    have fHR1 := HR.out.free 1
    have fHR2 := HR.out.free 2
    have fHR3 := HR.out.free 3
    have fHR4 := HR.out.free 4
    have fHR5 := HR.out.free 5
    have fHR6 := HR.out.free 6
    have fHG0 := HG.out.free 0
    have fHG1 := HG.out.free 1
    have fHG2 := HG.out.free 2
    have fHG3 := HG.out.free 3
    have fHG4 := HG.out.free 4
    have fHG5 := HG.out.free 5
    have fHG6 := HG.out.free 6
    have HR2 := Lib.hid (HR.out.alloc_ (.cells #[.int .i64 m.f0, .int .i64 m.f1] 25))
    go_wp2_with (refine wpList_store_row rfl 50 _ _ rfl (w.heap.size + 1 + 1) #[.int .i64 0, .int .i64 0, .int .i64 0, .int .i64 0, .int .i64 0, .int .i64 0, .bool false] rfl rfl 50 _ HR2.out (by kernel_rfl) (by kernel_rfl) (by kernel_rfl) ?_)
    have k0 := (box_row (cs := #[.int .i64 0, .int .i64 0, .int .i64 0, .int .i64 0, .int .i64 0, .int .i64 0, .bool false]) HR2.out).at_ (j := 0) rfl
    have k1 := (box_row (cs := #[.int .i64 0, .int .i64 0, .int .i64 0, .int .i64 0, .int .i64 0, .int .i64 0, .bool false]) HR2.out).at_ (j := 1) rfl
    have k2 := (box_row (cs := #[.int .i64 0, .int .i64 0, .int .i64 0, .int .i64 0, .int .i64 0, .int .i64 0, .bool false]) HR2.out).at_ (j := 2) rfl
    have k3 := (box_row (cs := #[.int .i64 0, .int .i64 0, .int .i64 0, .int .i64 0, .int .i64 0, .int .i64 0, .bool false]) HR2.out).at_ (j := 3) rfl
    have k4 := (box_row (cs := #[.int .i64 0, .int .i64 0, .int .i64 0, .int .i64 0, .int .i64 0, .int .i64 0, .bool false]) HR2.out).at_ (j := 4) rfl
    have k5 := (box_row (cs := #[.int .i64 0, .int .i64 0, .int .i64 0, .int .i64 0, .int .i64 0, .int .i64 0, .bool false]) HR2.out).at_ (j := 5) rfl
    have k6 := (box_row (cs := #[.int .i64 0, .int .i64 0, .int .i64 0, .int .i64 0, .int .i64 0, .int .i64 0, .bool false]) HR2.out).at_ (j := 6) rfl
    exact bodyPost_ret (v := .tuple #[vGrant ⟨0, 0, 0, 0, 0, 0, false⟩, .bool false]) (by simp [results, Try.results34, go_sem, k0, k1, k2, k3, k4, k5, k6]) rfl ⟨rfl, (below_setRow (HB.out.alloc (by first | (simp; done) | (simp; omega) | omega) _) (by omega) _)⟩
  · cases b1
    · skip
      have HK := Lib.hid (show mNGok g p = false from HX.out)
      rw [mNG_no HK.out, HK.out]
      go_enter Try.func34, Try.ntmps34
      go_wp2_with fail
      refine Calls.mono (C0.out _) ?_
      rintro e w1 ⟨rfl, hb1⟩
      replace HG := Lib.hid ((HG.out).new hb1)
      replace HP := Lib.hid ((HP.out).new hb1)
      replace HR := Lib.hid ((HR.out).new hb1)
      replace HB := Lib.hid (below_trans (HB.out) hb1 (Nat.le_refl _))
      have lHG : w.heap.size < w1.heap.size := HG.out.lt
      have lHP : w.heap.size + 1 < w1.heap.size := HP.out.lt
      have lHR : w.heap.size + 1 + 1 < w1.heap.size := HR.out.lt
      clear hb1
      have eHG0 := HG.out.at_ (j := 0) rfl
      have eHG1 := HG.out.at_ (j := 1) rfl
      have eHG2 := HG.out.at_ (j := 2) rfl
      have eHG3 := HG.out.at_ (j := 3) rfl
      have eHG4 := HG.out.at_ (j := 4) rfl
      have eHG5 := HG.out.at_ (j := 5) rfl
      have eHG6 := HG.out.at_ (j := 6) rfl
      have eHR0 := HR.out.at_ (j := 0) rfl
      have eHR1 := HR.out.at_ (j := 1) rfl
      have eHR2 := HR.out.at_ (j := 2) rfl
      have eHR3 := HR.out.at_ (j := 3) rfl
      have eHR4 := HR.out.at_ (j := 4) rfl
      have eHR5 := HR.out.at_ (j := 5) rfl
      have eHR6 := HR.out.at_ (j := 6) rfl
      have fHR0 := HR.out.free 0
      have fHR1 := HR.out.free 1
      have fHR2 := HR.out.free 2
      have fHR3 := HR.out.free 3
      have fHR4 := HR.out.free 4
      have fHR5 := HR.out.free 5
      have fHR6 := HR.out.free 6
      have fHG0 := HG.out.free 0
      have fHG1 := HG.out.free 1
      have fHG2 := HG.out.free 2
      have fHG3 := HG.out.free 3
      have fHG4 := HG.out.free 4
      have fHG5 := HG.out.free 5
      have fHG6 := HG.out.free 6
      go_wp2_with fail
      refine Calls.mono (C1.out _) ?_
      rintro e w2 ⟨rfl, hb1⟩
      replace HG := Lib.hid ((HG.out.alloc_ _).new hb1)
      replace HP := Lib.hid ((HP.out.alloc_ _).new hb1)
      replace HR := Lib.hid ((HR.out.alloc_ _).new hb1)
      have HM := Lib.hid (((box_new _ _ _)).new hb1)
      replace HB := Lib.hid (below_trans ((HB.out.alloc (by first | exact Nat.le_refl _ | (simp; done) | (simp; omega) | omega) _)) hb1 (Nat.le_refl _))
      have lHG : w.heap.size < w2.heap.size := HG.out.lt
      have lHP : w.heap.size + 1 < w2.heap.size := HP.out.lt
      have lHR : w.heap.size + 1 + 1 < w2.heap.size := HR.out.lt
      have lHM : w1.heap.size < w2.heap.size := HM.out.lt
      clear hb1
      have eHG0 := HG.out.at_ (j := 0) rfl
      have eHG1 := HG.out.at_ (j := 1) rfl
      have eHG2 := HG.out.at_ (j := 2) rfl
      have eHG3 := HG.out.at_ (j := 3) rfl
      have eHG4 := HG.out.at_ (j := 4) rfl
      have eHG5 := HG.out.at_ (j := 5) rfl
      have eHG6 := HG.out.at_ (j := 6) rfl
      have eHR0 := HR.out.at_ (j := 0) rfl
      have eHR1 := HR.out.at_ (j := 1) rfl
      have eHR2 := HR.out.at_ (j := 2) rfl
      have eHR3 := HR.out.at_ (j := 3) rfl
      have eHR4 := HR.out.at_ (j := 4) rfl
      have eHR5 := HR.out.at_ (j := 5) rfl
      have eHR6 := HR.out.at_ (j := 6) rfl
      have eHM0 := HM.out.at_ (j := 0) rfl
      have eHM1 := HM.out.at_ (j := 1) rfl
      have fHR0 := HR.out.free 0
      have fHR1 := HR.out.free 1
      have fHR2 := HR.out.free 2
      have fHR3 := HR.out.free 3
      have fHR4 := HR.out.free 4
      have fHR5 := HR.out.free 5
      have fHR6 := HR.out.free 6
      have fHG0 := HG.out.free 0
      have fHG1 := HG.out.free 1
      have fHG2 := HG.out.free 2
      have fHG3 := HG.out.free 3
      have fHG4 := HG.out.free 4
      have fHG5 := HG.out.free 5
      have fHG6 := HG.out.free 6
      have HR2 := HR
      go_wp2_with (refine wpList_store_row rfl 50 _ _ rfl (w.heap.size + 1 + 1) #[.int .i64 0, .int .i64 0, .int .i64 0, .int .i64 0, .int .i64 0, .int .i64 0, .bool false] rfl rfl 50 _ HR2.out (by kernel_rfl) (by kernel_rfl) (by kernel_rfl) ?_)
      have k0 := (box_row (cs := #[.int .i64 0, .int .i64 0, .int .i64 0, .int .i64 0, .int .i64 0, .int .i64 0, .bool false]) HR2.out).at_ (j := 0) rfl
      have k1 := (box_row (cs := #[.int .i64 0, .int .i64 0, .int .i64 0, .int .i64 0, .int .i64 0, .int .i64 0, .bool false]) HR2.out).at_ (j := 1) rfl
      have k2 := (box_row (cs := #[.int .i64 0, .int .i64 0, .int .i64 0, .int .i64 0, .int .i64 0, .int .i64 0, .bool false]) HR2.out).at_ (j := 2) rfl
      have k3 := (box_row (cs := #[.int .i64 0, .int .i64 0, .int .i64 0, .int .i64 0, .int .i64 0, .int .i64 0, .bool false]) HR2.out).at_ (j := 3) rfl
      have k4 := (box_row (cs := #[.int .i64 0, .int .i64 0, .int .i64 0, .int .i64 0, .int .i64 0, .int .i64 0, .bool false]) HR2.out).at_ (j := 4) rfl
      have k5 := (box_row (cs := #[.int .i64 0, .int .i64 0, .int .i64 0, .int .i64 0, .int .i64 0, .int .i64 0, .bool false]) HR2.out).at_ (j := 5) rfl
      have k6 := (box_row (cs := #[.int .i64 0, .int .i64 0, .int .i64 0, .int .i64 0, .int .i64 0, .int .i64 0, .bool false]) HR2.out).at_ (j := 6) rfl
      exact bodyPost_ret (v := .tuple #[vGrant ⟨0, 0, 0, 0, 0, 0, false⟩, .bool false]) (by simp [results, Try.results34, go_sem, k0, k1, k2, k3, k4, k5, k6]) rfl ⟨rfl, (below_setRow HB.out (by omega) _)⟩
    · skip
      have HK := Lib.hid (show mNGok g p = true from HX.out)
      rw [HV.out HK.out, HK.out]
      go_enter Try.func34, Try.ntmps34
      go_wp2_with fail
      refine Calls.mono (C0.out _) ?_
      rintro e w1 ⟨rfl, hb1⟩
      replace HG := Lib.hid ((HG.out).new hb1)
      replace HP := Lib.hid ((HP.out).new hb1)
      replace HR := Lib.hid ((HR.out).new hb1)
      replace HB := Lib.hid (below_trans (HB.out) hb1 (Nat.le_refl _))
      have lHG : w.heap.size < w1.heap.size := HG.out.lt
      have lHP : w.heap.size + 1 < w1.heap.size := HP.out.lt
      have lHR : w.heap.size + 1 + 1 < w1.heap.size := HR.out.lt
      clear hb1
      have eHG0 := HG.out.at_ (j := 0) rfl
      have eHG1 := HG.out.at_ (j := 1) rfl
      have eHG2 := HG.out.at_ (j := 2) rfl
      have eHG3 := HG.out.at_ (j := 3) rfl
      have eHG4 := HG.out.at_ (j := 4) rfl
      have eHG5 := HG.out.at_ (j := 5) rfl
      have eHG6 := HG.out.at_ (j := 6) rfl
      have eHR0 := HR.out.at_ (j := 0) rfl
      have eHR1 := HR.out.at_ (j := 1) rfl
      have eHR2 := HR.out.at_ (j := 2) rfl
      have eHR3 := HR.out.at_ (j := 3) rfl
      have eHR4 := HR.out.at_ (j := 4) rfl
      have eHR5 := HR.out.at_ (j := 5) rfl
      have eHR6 := HR.out.at_ (j := 6) rfl
      have fHR0 := HR.out.free 0
      have fHR1 := HR.out.free 1
      have fHR2 := HR.out.free 2
      have fHR3 := HR.out.free 3
      have fHR4 := HR.out.free 4
      have fHR5 := HR.out.free 5
      have fHR6 := HR.out.free 6
      have fHG0 := HG.out.free 0
      have fHG1 := HG.out.free 1
      have fHG2 := HG.out.free 2
      have fHG3 := HG.out.free 3
      have fHG4 := HG.out.free 4
      have fHG5 := HG.out.free 5
      have fHG6 := HG.out.free 6
      go_wp2_with fail
      refine Calls.mono (C1.out _) ?_
      rintro e w2 ⟨rfl, hb1⟩
      replace HG := Lib.hid ((HG.out.alloc_ _).new hb1)
      replace HP := Lib.hid ((HP.out.alloc_ _).new hb1)
      replace HR := Lib.hid ((HR.out.alloc_ _).new hb1)
      have HM := Lib.hid (((box_new _ _ _)).new hb1)
      replace HB := Lib.hid (below_trans ((HB.out.alloc (by first | exact Nat.le_refl _ | (simp; done) | (simp; omega) | omega) _)) hb1 (Nat.le_refl _))
      have lHG : w.heap.size < w2.heap.size := HG.out.lt
      have lHP : w.heap.size + 1 < w2.heap.size := HP.out.lt
      have lHR : w.heap.size + 1 + 1 < w2.heap.size := HR.out.lt
      have lHM : w1.heap.size < w2.heap.size := HM.out.lt
      clear hb1
      have eHG0 := HG.out.at_ (j := 0) rfl
      have eHG1 := HG.out.at_ (j := 1) rfl
      have eHG2 := HG.out.at_ (j := 2) rfl
      have eHG3 := HG.out.at_ (j := 3) rfl
      have eHG4 := HG.out.at_ (j := 4) rfl
      have eHG5 := HG.out.at_ (j := 5) rfl
      have eHG6 := HG.out.at_ (j := 6) rfl
      have eHR0 := HR.out.at_ (j := 0) rfl
      have eHR1 := HR.out.at_ (j := 1) rfl
      have eHR2 := HR.out.at_ (j := 2) rfl
      have eHR3 := HR.out.at_ (j := 3) rfl
      have eHR4 := HR.out.at_ (j := 4) rfl
      have eHR5 := HR.out.at_ (j := 5) rfl
      have eHR6 := HR.out.at_ (j := 6) rfl
      have eHM0 := HM.out.at_ (j := 0) rfl
      have eHM1 := HM.out.at_ (j := 1) rfl
      have fHR0 := HR.out.free 0
      have fHR1 := HR.out.free 1
      have fHR2 := HR.out.free 2
      have fHR3 := HR.out.free 3
      have fHR4 := HR.out.free 4
      have fHR5 := HR.out.free 5
      have fHR6 := HR.out.free 6
      have fHG0 := HG.out.free 0
      have fHG1 := HG.out.free 1
      have fHG2 := HG.out.free 2
      have fHG3 := HG.out.free 3
      have fHG4 := HG.out.free 4
      have fHG5 := HG.out.free 5
      have fHG6 := HG.out.free 6
      have kHG0 := (box_cell (u := .int .i64 m.f1) (j := 2) (box_cell (u := .int .i64 m.f0) (j := 1) HG.out)).at_ (j := 0) rfl
      have kHG1 := (box_cell (u := .int .i64 m.f1) (j := 2) (box_cell (u := .int .i64 m.f0) (j := 1) HG.out)).at_ (j := 1) rfl
      have kHG2 := (box_cell (u := .int .i64 m.f1) (j := 2) (box_cell (u := .int .i64 m.f0) (j := 1) HG.out)).at_ (j := 2) rfl
      have kHG3 := (box_cell (u := .int .i64 m.f1) (j := 2) (box_cell (u := .int .i64 m.f0) (j := 1) HG.out)).at_ (j := 3) rfl
      have kHG4 := (box_cell (u := .int .i64 m.f1) (j := 2) (box_cell (u := .int .i64 m.f0) (j := 1) HG.out)).at_ (j := 4) rfl
      have kHG5 := (box_cell (u := .int .i64 m.f1) (j := 2) (box_cell (u := .int .i64 m.f0) (j := 1) HG.out)).at_ (j := 5) rfl
      have kHG6 := (box_cell (u := .int .i64 m.f1) (j := 2) (box_cell (u := .int .i64 m.f0) (j := 1) HG.out)).at_ (j := 6) rfl
      have HR2 := Lib.hid (box_cell_far (g := w.heap.size) (j := 2) (u := .int .i64 m.f1) (box_cell_far (g := w.heap.size) (j := 1) (u := .int .i64 m.f0) HR.out (by omega)) (by omega))
      go_wp2_with (refine wpList_store_row rfl 50 _ _ rfl (w.heap.size + 1 + 1) #[.int .i64 g.f0, .int .i64 m.f0, .int .i64 m.f1, .int .i64 g.f3, .int .i64 g.f4, .int .i64 g.f5, .bool g.f6] rfl rfl 50 _ HR2.out (by kernel_rfl) (by kernel_rfl) (by kernel_rfl) ?_)
      have k0 := (box_row (cs := #[.int .i64 g.f0, .int .i64 m.f0, .int .i64 m.f1, .int .i64 g.f3, .int .i64 g.f4, .int .i64 g.f5, .bool g.f6]) HR2.out).at_ (j := 0) rfl
      have k1 := (box_row (cs := #[.int .i64 g.f0, .int .i64 m.f0, .int .i64 m.f1, .int .i64 g.f3, .int .i64 g.f4, .int .i64 g.f5, .bool g.f6]) HR2.out).at_ (j := 1) rfl
      have k2 := (box_row (cs := #[.int .i64 g.f0, .int .i64 m.f0, .int .i64 m.f1, .int .i64 g.f3, .int .i64 g.f4, .int .i64 g.f5, .bool g.f6]) HR2.out).at_ (j := 2) rfl
      have k3 := (box_row (cs := #[.int .i64 g.f0, .int .i64 m.f0, .int .i64 m.f1, .int .i64 g.f3, .int .i64 g.f4, .int .i64 g.f5, .bool g.f6]) HR2.out).at_ (j := 3) rfl
      have k4 := (box_row (cs := #[.int .i64 g.f0, .int .i64 m.f0, .int .i64 m.f1, .int .i64 g.f3, .int .i64 g.f4, .int .i64 g.f5, .bool g.f6]) HR2.out).at_ (j := 4) rfl
      have k5 := (box_row (cs := #[.int .i64 g.f0, .int .i64 m.f0, .int .i64 m.f1, .int .i64 g.f3, .int .i64 g.f4, .int .i64 g.f5, .bool g.f6]) HR2.out).at_ (j := 5) rfl
      have k6 := (box_row (cs := #[.int .i64 g.f0, .int .i64 m.f0, .int .i64 m.f1, .int .i64 g.f3, .int .i64 g.f4, .int .i64 g.f5, .bool g.f6]) HR2.out).at_ (j := 6) rfl
      exact bodyPost_ret (v := .tuple #[vGrant ⟨g.f0, m.f0, m.f1, g.f3, g.f4, g.f5, g.f6⟩, .bool true]) (by simp [results, Try.results34, go_sem, k0, k1, k2, k3, k4, k5, k6]) rfl ⟨rfl, (below_setRow ((HB.out.setCell (by first | exact Nat.le_refl _ | (simp; done) | (simp; omega) | omega) _).setCell (by first | exact Nat.le_refl _ | (simp; done) | (simp; omega) | omega) _) (by omega) _)⟩

set_option maxHeartbeats 40000000 in
theorem spec_NarrowGrant (g : TGrant) (p : TPattern) (w : World) :
    Calls Try.prog 32 #[vGrant g, vPat p] w (Says (.tuple #[vGrant (mNG g p), .bool (mNGok g p)]) w) := by
  have C0 := fun W => spec_MeetPatterns ⟨g.f1, g.f2⟩ p W
  have C1 := fun W => spec_IsGrant g W
  have HX := Lib.hid (show mNGok g p = (mMeetOk ⟨g.f1, g.f2⟩ p && mIsGrant g) from rfl)
  have HV := mNG_yes (g := g) (p := p)
  generalize mMeet ⟨g.f1, g.f2⟩ p = m at C0 HV
  replace HV := Lib.hid HV
  generalize mMeetOk ⟨g.f1, g.f2⟩ p = b0 at C0 HX
  generalize mIsGrant g = b1 at C1 HX
  replace C0 := Lib.hid C0
  replace C1 := Lib.hid C1
  have KB0 : BoxAt (((w.alloc (.cells #[.int .i64 g.f0, .int .i64 g.f1, .int .i64 g.f2, .int .i64 g.f3, .int .i64 g.f4, .int .i64 g.f5, .bool g.f6] 50)).alloc (.cells #[.int .i64 p.f0, .int .i64 p.f1] 25)).alloc (.cells #[.int .i64 0, .int .i64 0, .int .i64 0, .int .i64 0, .int .i64 0, .int .i64 0, .bool false] 50)) w.heap.size 50 #[.int .i64 g.f0, .int .i64 g.f1, .int .i64 g.f2, .int .i64 g.f3, .int .i64 g.f4, .int .i64 g.f5, .bool g.f6] := (((by simpa using box_new w 50 #[.int .i64 g.f0, .int .i64 g.f1, .int .i64 g.f2, .int .i64 g.f3, .int .i64 g.f4, .int .i64 g.f5, .bool g.f6] : BoxAt (w.alloc (.cells #[.int .i64 g.f0, .int .i64 g.f1, .int .i64 g.f2, .int .i64 g.f3, .int .i64 g.f4, .int .i64 g.f5, .bool g.f6] 50)) w.heap.size 50 #[.int .i64 g.f0, .int .i64 g.f1, .int .i64 g.f2, .int .i64 g.f3, .int .i64 g.f4, .int .i64 g.f5, .bool g.f6])).alloc_ (.cells #[.int .i64 p.f0, .int .i64 p.f1] 25)).alloc_ (.cells #[.int .i64 0, .int .i64 0, .int .i64 0, .int .i64 0, .int .i64 0, .int .i64 0, .bool false] 50)
  have KB1 : BoxAt (((w.alloc (.cells #[.int .i64 g.f0, .int .i64 g.f1, .int .i64 g.f2, .int .i64 g.f3, .int .i64 g.f4, .int .i64 g.f5, .bool g.f6] 50)).alloc (.cells #[.int .i64 p.f0, .int .i64 p.f1] 25)).alloc (.cells #[.int .i64 0, .int .i64 0, .int .i64 0, .int .i64 0, .int .i64 0, .int .i64 0, .bool false] 50)) (w.heap.size + 1) 25 #[.int .i64 p.f0, .int .i64 p.f1] := ((by simpa using box_new (w.alloc (.cells #[.int .i64 g.f0, .int .i64 g.f1, .int .i64 g.f2, .int .i64 g.f3, .int .i64 g.f4, .int .i64 g.f5, .bool g.f6] 50)) 25 #[.int .i64 p.f0, .int .i64 p.f1] : BoxAt ((w.alloc (.cells #[.int .i64 g.f0, .int .i64 g.f1, .int .i64 g.f2, .int .i64 g.f3, .int .i64 g.f4, .int .i64 g.f5, .bool g.f6] 50)).alloc (.cells #[.int .i64 p.f0, .int .i64 p.f1] 25)) (w.heap.size + 1) 25 #[.int .i64 p.f0, .int .i64 p.f1])).alloc_ (.cells #[.int .i64 0, .int .i64 0, .int .i64 0, .int .i64 0, .int .i64 0, .int .i64 0, .bool false] 50)
  have KB2 : BoxAt (((w.alloc (.cells #[.int .i64 g.f0, .int .i64 g.f1, .int .i64 g.f2, .int .i64 g.f3, .int .i64 g.f4, .int .i64 g.f5, .bool g.f6] 50)).alloc (.cells #[.int .i64 p.f0, .int .i64 p.f1] 25)).alloc (.cells #[.int .i64 0, .int .i64 0, .int .i64 0, .int .i64 0, .int .i64 0, .int .i64 0, .bool false] 50)) (w.heap.size + 1 + 1) 50 #[.int .i64 0, .int .i64 0, .int .i64 0, .int .i64 0, .int .i64 0, .int .i64 0, .bool false] := (by simpa using box_new ((w.alloc (.cells #[.int .i64 g.f0, .int .i64 g.f1, .int .i64 g.f2, .int .i64 g.f3, .int .i64 g.f4, .int .i64 g.f5, .bool g.f6] 50)).alloc (.cells #[.int .i64 p.f0, .int .i64 p.f1] 25)) 50 #[.int .i64 0, .int .i64 0, .int .i64 0, .int .i64 0, .int .i64 0, .int .i64 0, .bool false] : BoxAt (((w.alloc (.cells #[.int .i64 g.f0, .int .i64 g.f1, .int .i64 g.f2, .int .i64 g.f3, .int .i64 g.f4, .int .i64 g.f5, .bool g.f6] 50)).alloc (.cells #[.int .i64 p.f0, .int .i64 p.f1] 25)).alloc (.cells #[.int .i64 0, .int .i64 0, .int .i64 0, .int .i64 0, .int .i64 0, .int .i64 0, .bool false] 50)) (w.heap.size + 1 + 1) 50 #[.int .i64 0, .int .i64 0, .int .i64 0, .int .i64 0, .int .i64 0, .int .i64 0, .bool false])
  have HBw : Below w.heap.size w (((w.alloc (.cells #[.int .i64 g.f0, .int .i64 g.f1, .int .i64 g.f2, .int .i64 g.f3, .int .i64 g.f4, .int .i64 g.f5, .bool g.f6] 50)).alloc (.cells #[.int .i64 p.f0, .int .i64 p.f1] 25)).alloc (.cells #[.int .i64 0, .int .i64 0, .int .i64 0, .int .i64 0, .int .i64 0, .int .i64 0, .bool false] 50)) := ((((Below.refl _ _).alloc (by first | exact Nat.le_refl _ | (simp; done) | (simp; omega)) _).alloc (by first | exact Nat.le_refl _ | (simp; done) | (simp; omega)) _).alloc (by first | exact Nat.le_refl _ | (simp; done) | (simp; omega)) _)
  have HG := Lib.hid KB0
  have HP := Lib.hid KB1
  have HR := Lib.hid KB2
  have HB := Lib.hid HBw
  clear KB0 KB1 KB2 HBw
  cases b0
  · cases b1
    all_goals skip
    · skip
      have HK := Lib.hid (show mNGok g p = false from HX.out)
      rw [mNG_no HK.out, HK.out]
      go_enter Try.func32, Try.ntmps32
      go_wp2_with fail
      refine Calls.mono (C0.out _) ?_
      rintro e w1 ⟨rfl, hb1⟩
      replace HG := Lib.hid ((HG.out).new hb1)
      replace HP := Lib.hid ((HP.out).new hb1)
      replace HR := Lib.hid ((HR.out).new hb1)
      replace HB := Lib.hid (below_trans (HB.out) hb1 (Nat.le_refl _))
      have lHG : w.heap.size < w1.heap.size := HG.out.lt
      have lHP : w.heap.size + 1 < w1.heap.size := HP.out.lt
      have lHR : w.heap.size + 1 + 1 < w1.heap.size := HR.out.lt
      clear hb1
      have eHG0 := HG.out.at_ (j := 0) rfl
      have eHG1 := HG.out.at_ (j := 1) rfl
      have eHG2 := HG.out.at_ (j := 2) rfl
      have eHG3 := HG.out.at_ (j := 3) rfl
      have eHG4 := HG.out.at_ (j := 4) rfl
      have eHG5 := HG.out.at_ (j := 5) rfl
      have eHG6 := HG.out.at_ (j := 6) rfl
      have eHR0 := HR.out.at_ (j := 0) rfl
      have eHR1 := HR.out.at_ (j := 1) rfl
      have eHR2 := HR.out.at_ (j := 2) rfl
      have eHR3 := HR.out.at_ (j := 3) rfl
      have eHR4 := HR.out.at_ (j := 4) rfl
      have eHR5 := HR.out.at_ (j := 5) rfl
      have eHR6 := HR.out.at_ (j := 6) rfl
      have fHR0 := HR.out.free 0
      have fHR1 := HR.out.free 1
      have fHR2 := HR.out.free 2
      have fHR3 := HR.out.free 3
      have fHR4 := HR.out.free 4
      have fHR5 := HR.out.free 5
      have fHR6 := HR.out.free 6
      have fHG0 := HG.out.free 0
      have fHG1 := HG.out.free 1
      have fHG2 := HG.out.free 2
      have fHG3 := HG.out.free 3
      have fHG4 := HG.out.free 4
      have fHG5 := HG.out.free 5
      have fHG6 := HG.out.free 6
      go_wp2_with fail
      refine Calls.mono (C1.out _) ?_
      rintro e w2 ⟨rfl, hb1⟩
      replace HG := Lib.hid ((HG.out.alloc_ _).new hb1)
      replace HP := Lib.hid ((HP.out.alloc_ _).new hb1)
      replace HR := Lib.hid ((HR.out.alloc_ _).new hb1)
      have HM := Lib.hid (((box_new _ _ _)).new hb1)
      replace HB := Lib.hid (below_trans ((HB.out.alloc (by first | exact Nat.le_refl _ | (simp; done) | (simp; omega) | omega) _)) hb1 (Nat.le_refl _))
      have lHG : w.heap.size < w2.heap.size := HG.out.lt
      have lHP : w.heap.size + 1 < w2.heap.size := HP.out.lt
      have lHR : w.heap.size + 1 + 1 < w2.heap.size := HR.out.lt
      have lHM : w1.heap.size < w2.heap.size := HM.out.lt
      clear hb1
      have eHG0 := HG.out.at_ (j := 0) rfl
      have eHG1 := HG.out.at_ (j := 1) rfl
      have eHG2 := HG.out.at_ (j := 2) rfl
      have eHG3 := HG.out.at_ (j := 3) rfl
      have eHG4 := HG.out.at_ (j := 4) rfl
      have eHG5 := HG.out.at_ (j := 5) rfl
      have eHG6 := HG.out.at_ (j := 6) rfl
      have eHR0 := HR.out.at_ (j := 0) rfl
      have eHR1 := HR.out.at_ (j := 1) rfl
      have eHR2 := HR.out.at_ (j := 2) rfl
      have eHR3 := HR.out.at_ (j := 3) rfl
      have eHR4 := HR.out.at_ (j := 4) rfl
      have eHR5 := HR.out.at_ (j := 5) rfl
      have eHR6 := HR.out.at_ (j := 6) rfl
      have eHM0 := HM.out.at_ (j := 0) rfl
      have eHM1 := HM.out.at_ (j := 1) rfl
      have fHR0 := HR.out.free 0
      have fHR1 := HR.out.free 1
      have fHR2 := HR.out.free 2
      have fHR3 := HR.out.free 3
      have fHR4 := HR.out.free 4
      have fHR5 := HR.out.free 5
      have fHR6 := HR.out.free 6
      have fHG0 := HG.out.free 0
      have fHG1 := HG.out.free 1
      have fHG2 := HG.out.free 2
      have fHG3 := HG.out.free 3
      have fHG4 := HG.out.free 4
      have fHG5 := HG.out.free 5
      have fHG6 := HG.out.free 6
      have HR2 := HR
      go_wp2_with (refine wpList_store_row rfl 50 _ _ rfl (w.heap.size + 1 + 1) #[.int .i64 0, .int .i64 0, .int .i64 0, .int .i64 0, .int .i64 0, .int .i64 0, .bool false] rfl rfl 50 _ HR2.out (by kernel_rfl) (by kernel_rfl) (by kernel_rfl) ?_)
      have k0 := (box_row (cs := #[.int .i64 0, .int .i64 0, .int .i64 0, .int .i64 0, .int .i64 0, .int .i64 0, .bool false]) HR2.out).at_ (j := 0) rfl
      have k1 := (box_row (cs := #[.int .i64 0, .int .i64 0, .int .i64 0, .int .i64 0, .int .i64 0, .int .i64 0, .bool false]) HR2.out).at_ (j := 1) rfl
      have k2 := (box_row (cs := #[.int .i64 0, .int .i64 0, .int .i64 0, .int .i64 0, .int .i64 0, .int .i64 0, .bool false]) HR2.out).at_ (j := 2) rfl
      have k3 := (box_row (cs := #[.int .i64 0, .int .i64 0, .int .i64 0, .int .i64 0, .int .i64 0, .int .i64 0, .bool false]) HR2.out).at_ (j := 3) rfl
      have k4 := (box_row (cs := #[.int .i64 0, .int .i64 0, .int .i64 0, .int .i64 0, .int .i64 0, .int .i64 0, .bool false]) HR2.out).at_ (j := 4) rfl
      have k5 := (box_row (cs := #[.int .i64 0, .int .i64 0, .int .i64 0, .int .i64 0, .int .i64 0, .int .i64 0, .bool false]) HR2.out).at_ (j := 5) rfl
      have k6 := (box_row (cs := #[.int .i64 0, .int .i64 0, .int .i64 0, .int .i64 0, .int .i64 0, .int .i64 0, .bool false]) HR2.out).at_ (j := 6) rfl
      exact bodyPost_ret (v := .tuple #[vGrant ⟨0, 0, 0, 0, 0, 0, false⟩, .bool false]) (by simp [results, Try.results32, go_sem, k0, k1, k2, k3, k4, k5, k6]) rfl ⟨rfl, (below_setRow HB.out (by omega) _)⟩
    · skip
      have HK := Lib.hid (show mNGok g p = false from HX.out)
      rw [mNG_no HK.out, HK.out]
      go_enter Try.func32, Try.ntmps32
      go_wp2_with fail
      refine Calls.mono (C0.out _) ?_
      rintro e w1 ⟨rfl, hb1⟩
      replace HG := Lib.hid ((HG.out).new hb1)
      replace HP := Lib.hid ((HP.out).new hb1)
      replace HR := Lib.hid ((HR.out).new hb1)
      replace HB := Lib.hid (below_trans (HB.out) hb1 (Nat.le_refl _))
      have lHG : w.heap.size < w1.heap.size := HG.out.lt
      have lHP : w.heap.size + 1 < w1.heap.size := HP.out.lt
      have lHR : w.heap.size + 1 + 1 < w1.heap.size := HR.out.lt
      clear hb1
      have eHG0 := HG.out.at_ (j := 0) rfl
      have eHG1 := HG.out.at_ (j := 1) rfl
      have eHG2 := HG.out.at_ (j := 2) rfl
      have eHG3 := HG.out.at_ (j := 3) rfl
      have eHG4 := HG.out.at_ (j := 4) rfl
      have eHG5 := HG.out.at_ (j := 5) rfl
      have eHG6 := HG.out.at_ (j := 6) rfl
      have eHR0 := HR.out.at_ (j := 0) rfl
      have eHR1 := HR.out.at_ (j := 1) rfl
      have eHR2 := HR.out.at_ (j := 2) rfl
      have eHR3 := HR.out.at_ (j := 3) rfl
      have eHR4 := HR.out.at_ (j := 4) rfl
      have eHR5 := HR.out.at_ (j := 5) rfl
      have eHR6 := HR.out.at_ (j := 6) rfl
      have fHR0 := HR.out.free 0
      have fHR1 := HR.out.free 1
      have fHR2 := HR.out.free 2
      have fHR3 := HR.out.free 3
      have fHR4 := HR.out.free 4
      have fHR5 := HR.out.free 5
      have fHR6 := HR.out.free 6
      have fHG0 := HG.out.free 0
      have fHG1 := HG.out.free 1
      have fHG2 := HG.out.free 2
      have fHG3 := HG.out.free 3
      have fHG4 := HG.out.free 4
      have fHG5 := HG.out.free 5
      have fHG6 := HG.out.free 6
      go_wp2_with fail
      refine Calls.mono (C1.out _) ?_
      rintro e w2 ⟨rfl, hb1⟩
      replace HG := Lib.hid ((HG.out.alloc_ _).new hb1)
      replace HP := Lib.hid ((HP.out.alloc_ _).new hb1)
      replace HR := Lib.hid ((HR.out.alloc_ _).new hb1)
      have HM := Lib.hid (((box_new _ _ _)).new hb1)
      replace HB := Lib.hid (below_trans ((HB.out.alloc (by first | exact Nat.le_refl _ | (simp; done) | (simp; omega) | omega) _)) hb1 (Nat.le_refl _))
      have lHG : w.heap.size < w2.heap.size := HG.out.lt
      have lHP : w.heap.size + 1 < w2.heap.size := HP.out.lt
      have lHR : w.heap.size + 1 + 1 < w2.heap.size := HR.out.lt
      have lHM : w1.heap.size < w2.heap.size := HM.out.lt
      clear hb1
      have eHG0 := HG.out.at_ (j := 0) rfl
      have eHG1 := HG.out.at_ (j := 1) rfl
      have eHG2 := HG.out.at_ (j := 2) rfl
      have eHG3 := HG.out.at_ (j := 3) rfl
      have eHG4 := HG.out.at_ (j := 4) rfl
      have eHG5 := HG.out.at_ (j := 5) rfl
      have eHG6 := HG.out.at_ (j := 6) rfl
      have eHR0 := HR.out.at_ (j := 0) rfl
      have eHR1 := HR.out.at_ (j := 1) rfl
      have eHR2 := HR.out.at_ (j := 2) rfl
      have eHR3 := HR.out.at_ (j := 3) rfl
      have eHR4 := HR.out.at_ (j := 4) rfl
      have eHR5 := HR.out.at_ (j := 5) rfl
      have eHR6 := HR.out.at_ (j := 6) rfl
      have eHM0 := HM.out.at_ (j := 0) rfl
      have eHM1 := HM.out.at_ (j := 1) rfl
      have fHR0 := HR.out.free 0
      have fHR1 := HR.out.free 1
      have fHR2 := HR.out.free 2
      have fHR3 := HR.out.free 3
      have fHR4 := HR.out.free 4
      have fHR5 := HR.out.free 5
      have fHR6 := HR.out.free 6
      have fHG0 := HG.out.free 0
      have fHG1 := HG.out.free 1
      have fHG2 := HG.out.free 2
      have fHG3 := HG.out.free 3
      have fHG4 := HG.out.free 4
      have fHG5 := HG.out.free 5
      have fHG6 := HG.out.free 6
      have HR2 := HR
      go_wp2_with (refine wpList_store_row rfl 50 _ _ rfl (w.heap.size + 1 + 1) #[.int .i64 0, .int .i64 0, .int .i64 0, .int .i64 0, .int .i64 0, .int .i64 0, .bool false] rfl rfl 50 _ HR2.out (by kernel_rfl) (by kernel_rfl) (by kernel_rfl) ?_)
      have k0 := (box_row (cs := #[.int .i64 0, .int .i64 0, .int .i64 0, .int .i64 0, .int .i64 0, .int .i64 0, .bool false]) HR2.out).at_ (j := 0) rfl
      have k1 := (box_row (cs := #[.int .i64 0, .int .i64 0, .int .i64 0, .int .i64 0, .int .i64 0, .int .i64 0, .bool false]) HR2.out).at_ (j := 1) rfl
      have k2 := (box_row (cs := #[.int .i64 0, .int .i64 0, .int .i64 0, .int .i64 0, .int .i64 0, .int .i64 0, .bool false]) HR2.out).at_ (j := 2) rfl
      have k3 := (box_row (cs := #[.int .i64 0, .int .i64 0, .int .i64 0, .int .i64 0, .int .i64 0, .int .i64 0, .bool false]) HR2.out).at_ (j := 3) rfl
      have k4 := (box_row (cs := #[.int .i64 0, .int .i64 0, .int .i64 0, .int .i64 0, .int .i64 0, .int .i64 0, .bool false]) HR2.out).at_ (j := 4) rfl
      have k5 := (box_row (cs := #[.int .i64 0, .int .i64 0, .int .i64 0, .int .i64 0, .int .i64 0, .int .i64 0, .bool false]) HR2.out).at_ (j := 5) rfl
      have k6 := (box_row (cs := #[.int .i64 0, .int .i64 0, .int .i64 0, .int .i64 0, .int .i64 0, .int .i64 0, .bool false]) HR2.out).at_ (j := 6) rfl
      exact bodyPost_ret (v := .tuple #[vGrant ⟨0, 0, 0, 0, 0, 0, false⟩, .bool false]) (by simp [results, Try.results32, go_sem, k0, k1, k2, k3, k4, k5, k6]) rfl ⟨rfl, (below_setRow HB.out (by omega) _)⟩
  · cases b1
    · skip
      have HK := Lib.hid (show mNGok g p = false from HX.out)
      rw [mNG_no HK.out, HK.out]
      go_enter Try.func32, Try.ntmps32
      go_wp2_with fail
      refine Calls.mono (C0.out _) ?_
      rintro e w1 ⟨rfl, hb1⟩
      replace HG := Lib.hid ((HG.out).new hb1)
      replace HP := Lib.hid ((HP.out).new hb1)
      replace HR := Lib.hid ((HR.out).new hb1)
      replace HB := Lib.hid (below_trans (HB.out) hb1 (Nat.le_refl _))
      have lHG : w.heap.size < w1.heap.size := HG.out.lt
      have lHP : w.heap.size + 1 < w1.heap.size := HP.out.lt
      have lHR : w.heap.size + 1 + 1 < w1.heap.size := HR.out.lt
      clear hb1
      have eHG0 := HG.out.at_ (j := 0) rfl
      have eHG1 := HG.out.at_ (j := 1) rfl
      have eHG2 := HG.out.at_ (j := 2) rfl
      have eHG3 := HG.out.at_ (j := 3) rfl
      have eHG4 := HG.out.at_ (j := 4) rfl
      have eHG5 := HG.out.at_ (j := 5) rfl
      have eHG6 := HG.out.at_ (j := 6) rfl
      have eHR0 := HR.out.at_ (j := 0) rfl
      have eHR1 := HR.out.at_ (j := 1) rfl
      have eHR2 := HR.out.at_ (j := 2) rfl
      have eHR3 := HR.out.at_ (j := 3) rfl
      have eHR4 := HR.out.at_ (j := 4) rfl
      have eHR5 := HR.out.at_ (j := 5) rfl
      have eHR6 := HR.out.at_ (j := 6) rfl
      have fHR0 := HR.out.free 0
      have fHR1 := HR.out.free 1
      have fHR2 := HR.out.free 2
      have fHR3 := HR.out.free 3
      have fHR4 := HR.out.free 4
      have fHR5 := HR.out.free 5
      have fHR6 := HR.out.free 6
      have fHG0 := HG.out.free 0
      have fHG1 := HG.out.free 1
      have fHG2 := HG.out.free 2
      have fHG3 := HG.out.free 3
      have fHG4 := HG.out.free 4
      have fHG5 := HG.out.free 5
      have fHG6 := HG.out.free 6
      go_wp2_with fail
      refine Calls.mono (C1.out _) ?_
      rintro e w2 ⟨rfl, hb1⟩
      replace HG := Lib.hid ((HG.out.alloc_ _).new hb1)
      replace HP := Lib.hid ((HP.out.alloc_ _).new hb1)
      replace HR := Lib.hid ((HR.out.alloc_ _).new hb1)
      have HM := Lib.hid (((box_new _ _ _)).new hb1)
      replace HB := Lib.hid (below_trans ((HB.out.alloc (by first | exact Nat.le_refl _ | (simp; done) | (simp; omega) | omega) _)) hb1 (Nat.le_refl _))
      have lHG : w.heap.size < w2.heap.size := HG.out.lt
      have lHP : w.heap.size + 1 < w2.heap.size := HP.out.lt
      have lHR : w.heap.size + 1 + 1 < w2.heap.size := HR.out.lt
      have lHM : w1.heap.size < w2.heap.size := HM.out.lt
      clear hb1
      have eHG0 := HG.out.at_ (j := 0) rfl
      have eHG1 := HG.out.at_ (j := 1) rfl
      have eHG2 := HG.out.at_ (j := 2) rfl
      have eHG3 := HG.out.at_ (j := 3) rfl
      have eHG4 := HG.out.at_ (j := 4) rfl
      have eHG5 := HG.out.at_ (j := 5) rfl
      have eHG6 := HG.out.at_ (j := 6) rfl
      have eHR0 := HR.out.at_ (j := 0) rfl
      have eHR1 := HR.out.at_ (j := 1) rfl
      have eHR2 := HR.out.at_ (j := 2) rfl
      have eHR3 := HR.out.at_ (j := 3) rfl
      have eHR4 := HR.out.at_ (j := 4) rfl
      have eHR5 := HR.out.at_ (j := 5) rfl
      have eHR6 := HR.out.at_ (j := 6) rfl
      have eHM0 := HM.out.at_ (j := 0) rfl
      have eHM1 := HM.out.at_ (j := 1) rfl
      have fHR0 := HR.out.free 0
      have fHR1 := HR.out.free 1
      have fHR2 := HR.out.free 2
      have fHR3 := HR.out.free 3
      have fHR4 := HR.out.free 4
      have fHR5 := HR.out.free 5
      have fHR6 := HR.out.free 6
      have fHG0 := HG.out.free 0
      have fHG1 := HG.out.free 1
      have fHG2 := HG.out.free 2
      have fHG3 := HG.out.free 3
      have fHG4 := HG.out.free 4
      have fHG5 := HG.out.free 5
      have fHG6 := HG.out.free 6
      have HR2 := HR
      go_wp2_with (refine wpList_store_row rfl 50 _ _ rfl (w.heap.size + 1 + 1) #[.int .i64 0, .int .i64 0, .int .i64 0, .int .i64 0, .int .i64 0, .int .i64 0, .bool false] rfl rfl 50 _ HR2.out (by kernel_rfl) (by kernel_rfl) (by kernel_rfl) ?_)
      have k0 := (box_row (cs := #[.int .i64 0, .int .i64 0, .int .i64 0, .int .i64 0, .int .i64 0, .int .i64 0, .bool false]) HR2.out).at_ (j := 0) rfl
      have k1 := (box_row (cs := #[.int .i64 0, .int .i64 0, .int .i64 0, .int .i64 0, .int .i64 0, .int .i64 0, .bool false]) HR2.out).at_ (j := 1) rfl
      have k2 := (box_row (cs := #[.int .i64 0, .int .i64 0, .int .i64 0, .int .i64 0, .int .i64 0, .int .i64 0, .bool false]) HR2.out).at_ (j := 2) rfl
      have k3 := (box_row (cs := #[.int .i64 0, .int .i64 0, .int .i64 0, .int .i64 0, .int .i64 0, .int .i64 0, .bool false]) HR2.out).at_ (j := 3) rfl
      have k4 := (box_row (cs := #[.int .i64 0, .int .i64 0, .int .i64 0, .int .i64 0, .int .i64 0, .int .i64 0, .bool false]) HR2.out).at_ (j := 4) rfl
      have k5 := (box_row (cs := #[.int .i64 0, .int .i64 0, .int .i64 0, .int .i64 0, .int .i64 0, .int .i64 0, .bool false]) HR2.out).at_ (j := 5) rfl
      have k6 := (box_row (cs := #[.int .i64 0, .int .i64 0, .int .i64 0, .int .i64 0, .int .i64 0, .int .i64 0, .bool false]) HR2.out).at_ (j := 6) rfl
      exact bodyPost_ret (v := .tuple #[vGrant ⟨0, 0, 0, 0, 0, 0, false⟩, .bool false]) (by simp [results, Try.results32, go_sem, k0, k1, k2, k3, k4, k5, k6]) rfl ⟨rfl, (below_setRow HB.out (by omega) _)⟩
    · skip
      have HK := Lib.hid (show mNGok g p = true from HX.out)
      rw [HV.out HK.out, HK.out]
      go_enter Try.func32, Try.ntmps32
      go_wp2_with fail
      refine Calls.mono (C0.out _) ?_
      rintro e w1 ⟨rfl, hb1⟩
      replace HG := Lib.hid ((HG.out).new hb1)
      replace HP := Lib.hid ((HP.out).new hb1)
      replace HR := Lib.hid ((HR.out).new hb1)
      replace HB := Lib.hid (below_trans (HB.out) hb1 (Nat.le_refl _))
      have lHG : w.heap.size < w1.heap.size := HG.out.lt
      have lHP : w.heap.size + 1 < w1.heap.size := HP.out.lt
      have lHR : w.heap.size + 1 + 1 < w1.heap.size := HR.out.lt
      clear hb1
      have eHG0 := HG.out.at_ (j := 0) rfl
      have eHG1 := HG.out.at_ (j := 1) rfl
      have eHG2 := HG.out.at_ (j := 2) rfl
      have eHG3 := HG.out.at_ (j := 3) rfl
      have eHG4 := HG.out.at_ (j := 4) rfl
      have eHG5 := HG.out.at_ (j := 5) rfl
      have eHG6 := HG.out.at_ (j := 6) rfl
      have eHR0 := HR.out.at_ (j := 0) rfl
      have eHR1 := HR.out.at_ (j := 1) rfl
      have eHR2 := HR.out.at_ (j := 2) rfl
      have eHR3 := HR.out.at_ (j := 3) rfl
      have eHR4 := HR.out.at_ (j := 4) rfl
      have eHR5 := HR.out.at_ (j := 5) rfl
      have eHR6 := HR.out.at_ (j := 6) rfl
      have fHR0 := HR.out.free 0
      have fHR1 := HR.out.free 1
      have fHR2 := HR.out.free 2
      have fHR3 := HR.out.free 3
      have fHR4 := HR.out.free 4
      have fHR5 := HR.out.free 5
      have fHR6 := HR.out.free 6
      have fHG0 := HG.out.free 0
      have fHG1 := HG.out.free 1
      have fHG2 := HG.out.free 2
      have fHG3 := HG.out.free 3
      have fHG4 := HG.out.free 4
      have fHG5 := HG.out.free 5
      have fHG6 := HG.out.free 6
      go_wp2_with fail
      refine Calls.mono (C1.out _) ?_
      rintro e w2 ⟨rfl, hb1⟩
      replace HG := Lib.hid ((HG.out.alloc_ _).new hb1)
      replace HP := Lib.hid ((HP.out.alloc_ _).new hb1)
      replace HR := Lib.hid ((HR.out.alloc_ _).new hb1)
      have HM := Lib.hid (((box_new _ _ _)).new hb1)
      replace HB := Lib.hid (below_trans ((HB.out.alloc (by first | exact Nat.le_refl _ | (simp; done) | (simp; omega) | omega) _)) hb1 (Nat.le_refl _))
      have lHG : w.heap.size < w2.heap.size := HG.out.lt
      have lHP : w.heap.size + 1 < w2.heap.size := HP.out.lt
      have lHR : w.heap.size + 1 + 1 < w2.heap.size := HR.out.lt
      have lHM : w1.heap.size < w2.heap.size := HM.out.lt
      clear hb1
      have eHG0 := HG.out.at_ (j := 0) rfl
      have eHG1 := HG.out.at_ (j := 1) rfl
      have eHG2 := HG.out.at_ (j := 2) rfl
      have eHG3 := HG.out.at_ (j := 3) rfl
      have eHG4 := HG.out.at_ (j := 4) rfl
      have eHG5 := HG.out.at_ (j := 5) rfl
      have eHG6 := HG.out.at_ (j := 6) rfl
      have eHR0 := HR.out.at_ (j := 0) rfl
      have eHR1 := HR.out.at_ (j := 1) rfl
      have eHR2 := HR.out.at_ (j := 2) rfl
      have eHR3 := HR.out.at_ (j := 3) rfl
      have eHR4 := HR.out.at_ (j := 4) rfl
      have eHR5 := HR.out.at_ (j := 5) rfl
      have eHR6 := HR.out.at_ (j := 6) rfl
      have eHM0 := HM.out.at_ (j := 0) rfl
      have eHM1 := HM.out.at_ (j := 1) rfl
      have fHR0 := HR.out.free 0
      have fHR1 := HR.out.free 1
      have fHR2 := HR.out.free 2
      have fHR3 := HR.out.free 3
      have fHR4 := HR.out.free 4
      have fHR5 := HR.out.free 5
      have fHR6 := HR.out.free 6
      have fHG0 := HG.out.free 0
      have fHG1 := HG.out.free 1
      have fHG2 := HG.out.free 2
      have fHG3 := HG.out.free 3
      have fHG4 := HG.out.free 4
      have fHG5 := HG.out.free 5
      have fHG6 := HG.out.free 6
      have kHG0 := (box_cell (u := .int .i64 m.f1) (j := 2) (box_cell (u := .int .i64 m.f0) (j := 1) HG.out)).at_ (j := 0) rfl
      have kHG1 := (box_cell (u := .int .i64 m.f1) (j := 2) (box_cell (u := .int .i64 m.f0) (j := 1) HG.out)).at_ (j := 1) rfl
      have kHG2 := (box_cell (u := .int .i64 m.f1) (j := 2) (box_cell (u := .int .i64 m.f0) (j := 1) HG.out)).at_ (j := 2) rfl
      have kHG3 := (box_cell (u := .int .i64 m.f1) (j := 2) (box_cell (u := .int .i64 m.f0) (j := 1) HG.out)).at_ (j := 3) rfl
      have kHG4 := (box_cell (u := .int .i64 m.f1) (j := 2) (box_cell (u := .int .i64 m.f0) (j := 1) HG.out)).at_ (j := 4) rfl
      have kHG5 := (box_cell (u := .int .i64 m.f1) (j := 2) (box_cell (u := .int .i64 m.f0) (j := 1) HG.out)).at_ (j := 5) rfl
      have kHG6 := (box_cell (u := .int .i64 m.f1) (j := 2) (box_cell (u := .int .i64 m.f0) (j := 1) HG.out)).at_ (j := 6) rfl
      have HR2 := Lib.hid (box_cell_far (g := w.heap.size) (j := 2) (u := .int .i64 m.f1) (box_cell_far (g := w.heap.size) (j := 1) (u := .int .i64 m.f0) HR.out (by omega)) (by omega))
      go_wp2_with (refine wpList_store_row rfl 50 _ _ rfl (w.heap.size + 1 + 1) #[.int .i64 g.f0, .int .i64 m.f0, .int .i64 m.f1, .int .i64 g.f3, .int .i64 g.f4, .int .i64 g.f5, .bool g.f6] rfl rfl 50 _ HR2.out (by kernel_rfl) (by kernel_rfl) (by kernel_rfl) ?_)
      have k0 := (box_row (cs := #[.int .i64 g.f0, .int .i64 m.f0, .int .i64 m.f1, .int .i64 g.f3, .int .i64 g.f4, .int .i64 g.f5, .bool g.f6]) HR2.out).at_ (j := 0) rfl
      have k1 := (box_row (cs := #[.int .i64 g.f0, .int .i64 m.f0, .int .i64 m.f1, .int .i64 g.f3, .int .i64 g.f4, .int .i64 g.f5, .bool g.f6]) HR2.out).at_ (j := 1) rfl
      have k2 := (box_row (cs := #[.int .i64 g.f0, .int .i64 m.f0, .int .i64 m.f1, .int .i64 g.f3, .int .i64 g.f4, .int .i64 g.f5, .bool g.f6]) HR2.out).at_ (j := 2) rfl
      have k3 := (box_row (cs := #[.int .i64 g.f0, .int .i64 m.f0, .int .i64 m.f1, .int .i64 g.f3, .int .i64 g.f4, .int .i64 g.f5, .bool g.f6]) HR2.out).at_ (j := 3) rfl
      have k4 := (box_row (cs := #[.int .i64 g.f0, .int .i64 m.f0, .int .i64 m.f1, .int .i64 g.f3, .int .i64 g.f4, .int .i64 g.f5, .bool g.f6]) HR2.out).at_ (j := 4) rfl
      have k5 := (box_row (cs := #[.int .i64 g.f0, .int .i64 m.f0, .int .i64 m.f1, .int .i64 g.f3, .int .i64 g.f4, .int .i64 g.f5, .bool g.f6]) HR2.out).at_ (j := 5) rfl
      have k6 := (box_row (cs := #[.int .i64 g.f0, .int .i64 m.f0, .int .i64 m.f1, .int .i64 g.f3, .int .i64 g.f4, .int .i64 g.f5, .bool g.f6]) HR2.out).at_ (j := 6) rfl
      exact bodyPost_ret (v := .tuple #[vGrant ⟨g.f0, m.f0, m.f1, g.f3, g.f4, g.f5, g.f6⟩, .bool true]) (by simp [results, Try.results32, go_sem, k0, k1, k2, k3, k4, k5, k6]) rfl ⟨rfl, (below_setRow ((HB.out.setCell (by first | exact Nat.le_refl _ | (simp; done) | (simp; omega) | omega) _).setCell (by first | exact Nat.le_refl _ | (simp; done) | (simp; omega) | omega) _) (by omega) _)⟩
end Go.Proofs.Ytagabcnjpmpppaa
