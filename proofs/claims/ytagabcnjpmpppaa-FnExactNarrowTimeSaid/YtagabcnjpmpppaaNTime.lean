/- NarrowTime, of the program and of the model. -/
import Derived.Test.YtagabcnjpmpppaaMeet
import Derived.Test.YtagabcnjpmpppaaGrant
import Derived.Test.YtagabcnjpmpppaaMaxMin
namespace Go.Proofs.Ytagabcnjpmpppaa
open Go Go.ChangeShapes Go.WideShapes Go.ChangeAt Go.RowKit Go.Lib
set_option linter.unusedVariables false
set_option linter.unusedSimpArgs false
set_option maxRecDepth 100000
abbrev nGrant (g : TGrant) (a b : Int) : TGrant := ⟨g.f0, g.f1, g.f2, g.f3, mMax g.f4 a, mMin g.f5 b, g.f6⟩
def mNTok (g : TGrant) (a b : Int) : Bool := mIsGrant g && mIsGrant (nGrant g a b)
def mNT (g : TGrant) (a b : Int) : TGrant := if mNTok g a b = true then nGrant g a b else ⟨0, 0, 0, 0, 0, 0, false⟩
theorem mNT_yes {g : TGrant} {a b : Int} (h : mNTok g a b = true) : mNT g a b = nGrant g a b := by unfold mNT; rw [if_pos h]
theorem mNT_no {g : TGrant} {a b : Int} (h : mNTok g a b = false) : mNT g a b = ⟨0, 0, 0, 0, 0, 0, false⟩ := by unfold mNT; rw [if_neg (by rw [h]; decide)]

set_option maxHeartbeats 40000000 in
theorem impl_NarrowTime (g : TGrant) (a b : Int) (w : World) :
    Calls Try.prog 37 #[vGrant g, .int .i64 a, .int .i64 b] w (Says (.tuple #[vGrant (mNT g a b), .bool (mNTok g a b)]) w) := by
  have C0 := fun W => impl_IsGrant g W
  have C1 := fun W => impl_IsGrant (nGrant g a b) W
  have C2 := fun W => impl_Max g.f4 a W
  have C3 := fun W => impl_Min g.f5 b W
  have HX := Lib.hid (show mNTok g a b = (mIsGrant g && mIsGrant (nGrant g a b)) from rfl)
  have HV := mNT_yes (g := g) (a := a) (b := b)
  unfold nGrant at C1 HX HV
  generalize mMax g.f4 a = p at C1 C2 HX HV
  generalize mMin g.f5 b = q at C1 C3 HX HV
  replace HV := Lib.hid HV
  generalize mIsGrant g = b0 at C0 HX
  generalize mIsGrant ⟨g.f0, g.f1, g.f2, g.f3, p, q, g.f6⟩ = b1 at C1 HX
  replace C0 := Lib.hid C0
  replace C1 := Lib.hid C1
  replace C2 := Lib.hid C2
  replace C3 := Lib.hid C3
  have KB0 : BoxAt (((w.alloc (.cells #[.int .i64 g.f0, .int .i64 g.f1, .int .i64 g.f2, .int .i64 g.f3, .int .i64 g.f4, .int .i64 g.f5, .bool g.f6] 50)).alloc (.cells #[.int .i64 0, .int .i64 0, .int .i64 0, .int .i64 0, .int .i64 0, .int .i64 0, .bool false] 50)).alloc (.cells #[.int .i64 g.f0, .int .i64 g.f1, .int .i64 g.f2, .int .i64 g.f3, .int .i64 g.f4, .int .i64 g.f5, .bool g.f6] 50)) w.heap.size 50 #[.int .i64 g.f0, .int .i64 g.f1, .int .i64 g.f2, .int .i64 g.f3, .int .i64 g.f4, .int .i64 g.f5, .bool g.f6] := (((by simpa using box_new w 50 #[.int .i64 g.f0, .int .i64 g.f1, .int .i64 g.f2, .int .i64 g.f3, .int .i64 g.f4, .int .i64 g.f5, .bool g.f6] : BoxAt (w.alloc (.cells #[.int .i64 g.f0, .int .i64 g.f1, .int .i64 g.f2, .int .i64 g.f3, .int .i64 g.f4, .int .i64 g.f5, .bool g.f6] 50)) w.heap.size 50 #[.int .i64 g.f0, .int .i64 g.f1, .int .i64 g.f2, .int .i64 g.f3, .int .i64 g.f4, .int .i64 g.f5, .bool g.f6])).alloc_ (.cells #[.int .i64 0, .int .i64 0, .int .i64 0, .int .i64 0, .int .i64 0, .int .i64 0, .bool false] 50)).alloc_ (.cells #[.int .i64 g.f0, .int .i64 g.f1, .int .i64 g.f2, .int .i64 g.f3, .int .i64 g.f4, .int .i64 g.f5, .bool g.f6] 50)
  have KB1 : BoxAt (((w.alloc (.cells #[.int .i64 g.f0, .int .i64 g.f1, .int .i64 g.f2, .int .i64 g.f3, .int .i64 g.f4, .int .i64 g.f5, .bool g.f6] 50)).alloc (.cells #[.int .i64 0, .int .i64 0, .int .i64 0, .int .i64 0, .int .i64 0, .int .i64 0, .bool false] 50)).alloc (.cells #[.int .i64 g.f0, .int .i64 g.f1, .int .i64 g.f2, .int .i64 g.f3, .int .i64 g.f4, .int .i64 g.f5, .bool g.f6] 50)) (w.heap.size + 1) 50 #[.int .i64 0, .int .i64 0, .int .i64 0, .int .i64 0, .int .i64 0, .int .i64 0, .bool false] := ((by simpa using box_new (w.alloc (.cells #[.int .i64 g.f0, .int .i64 g.f1, .int .i64 g.f2, .int .i64 g.f3, .int .i64 g.f4, .int .i64 g.f5, .bool g.f6] 50)) 50 #[.int .i64 0, .int .i64 0, .int .i64 0, .int .i64 0, .int .i64 0, .int .i64 0, .bool false] : BoxAt ((w.alloc (.cells #[.int .i64 g.f0, .int .i64 g.f1, .int .i64 g.f2, .int .i64 g.f3, .int .i64 g.f4, .int .i64 g.f5, .bool g.f6] 50)).alloc (.cells #[.int .i64 0, .int .i64 0, .int .i64 0, .int .i64 0, .int .i64 0, .int .i64 0, .bool false] 50)) (w.heap.size + 1) 50 #[.int .i64 0, .int .i64 0, .int .i64 0, .int .i64 0, .int .i64 0, .int .i64 0, .bool false])).alloc_ (.cells #[.int .i64 g.f0, .int .i64 g.f1, .int .i64 g.f2, .int .i64 g.f3, .int .i64 g.f4, .int .i64 g.f5, .bool g.f6] 50)
  have KB2 : BoxAt (((w.alloc (.cells #[.int .i64 g.f0, .int .i64 g.f1, .int .i64 g.f2, .int .i64 g.f3, .int .i64 g.f4, .int .i64 g.f5, .bool g.f6] 50)).alloc (.cells #[.int .i64 0, .int .i64 0, .int .i64 0, .int .i64 0, .int .i64 0, .int .i64 0, .bool false] 50)).alloc (.cells #[.int .i64 g.f0, .int .i64 g.f1, .int .i64 g.f2, .int .i64 g.f3, .int .i64 g.f4, .int .i64 g.f5, .bool g.f6] 50)) (w.heap.size + 1 + 1) 50 #[.int .i64 g.f0, .int .i64 g.f1, .int .i64 g.f2, .int .i64 g.f3, .int .i64 g.f4, .int .i64 g.f5, .bool g.f6] := (by simpa using box_new ((w.alloc (.cells #[.int .i64 g.f0, .int .i64 g.f1, .int .i64 g.f2, .int .i64 g.f3, .int .i64 g.f4, .int .i64 g.f5, .bool g.f6] 50)).alloc (.cells #[.int .i64 0, .int .i64 0, .int .i64 0, .int .i64 0, .int .i64 0, .int .i64 0, .bool false] 50)) 50 #[.int .i64 g.f0, .int .i64 g.f1, .int .i64 g.f2, .int .i64 g.f3, .int .i64 g.f4, .int .i64 g.f5, .bool g.f6] : BoxAt (((w.alloc (.cells #[.int .i64 g.f0, .int .i64 g.f1, .int .i64 g.f2, .int .i64 g.f3, .int .i64 g.f4, .int .i64 g.f5, .bool g.f6] 50)).alloc (.cells #[.int .i64 0, .int .i64 0, .int .i64 0, .int .i64 0, .int .i64 0, .int .i64 0, .bool false] 50)).alloc (.cells #[.int .i64 g.f0, .int .i64 g.f1, .int .i64 g.f2, .int .i64 g.f3, .int .i64 g.f4, .int .i64 g.f5, .bool g.f6] 50)) (w.heap.size + 1 + 1) 50 #[.int .i64 g.f0, .int .i64 g.f1, .int .i64 g.f2, .int .i64 g.f3, .int .i64 g.f4, .int .i64 g.f5, .bool g.f6])
  have HBw : Below w.heap.size w (((w.alloc (.cells #[.int .i64 g.f0, .int .i64 g.f1, .int .i64 g.f2, .int .i64 g.f3, .int .i64 g.f4, .int .i64 g.f5, .bool g.f6] 50)).alloc (.cells #[.int .i64 0, .int .i64 0, .int .i64 0, .int .i64 0, .int .i64 0, .int .i64 0, .bool false] 50)).alloc (.cells #[.int .i64 g.f0, .int .i64 g.f1, .int .i64 g.f2, .int .i64 g.f3, .int .i64 g.f4, .int .i64 g.f5, .bool g.f6] 50)) := ((((Below.refl _ _).alloc (by first | exact Nat.le_refl _ | (simp; done) | (simp; omega)) _).alloc (by first | exact Nat.le_refl _ | (simp; done) | (simp; omega)) _).alloc (by first | exact Nat.le_refl _ | (simp; done) | (simp; omega)) _)
  have HG := Lib.hid KB0
  have HR := Lib.hid KB1
  have HN := Lib.hid KB2
  have HB := Lib.hid HBw
  clear KB0 KB1 KB2 HBw
  cases b0
  · skip
    have HK := Lib.hid (show mNTok g a b = false from HX.out)
    rw [mNT_no HK.out, HK.out]
    go_enter Try.func37, Try.ntmps37
    go_wp2_with fail
    refine Calls.mono (C2.out _) ?_
    rintro e w1 ⟨rfl, hb1⟩
    replace HG := Lib.hid ((HG.out).new hb1)
    replace HR := Lib.hid ((HR.out).new hb1)
    replace HN := Lib.hid ((HN.out).new hb1)
    replace HB := Lib.hid (below_trans (HB.out) hb1 (Nat.le_refl _))
    have lHG : w.heap.size < w1.heap.size := HG.out.lt
    have lHR : w.heap.size + 1 < w1.heap.size := HR.out.lt
    have lHN : w.heap.size + 1 + 1 < w1.heap.size := HN.out.lt
    clear hb1
    have eHG0 := HG.out.at_ (j := 0) rfl
    have eHG1 := HG.out.at_ (j := 1) rfl
    have eHG2 := HG.out.at_ (j := 2) rfl
    have eHG3 := HG.out.at_ (j := 3) rfl
    have eHG4 := HG.out.at_ (j := 4) rfl
    have eHG5 := HG.out.at_ (j := 5) rfl
    have eHG6 := HG.out.at_ (j := 6) rfl
    have eHR0 := HR.out.at_ (j := 0) rfl
    have eHR1 := HR.out.at_ (j := 1) rfl
    have eHR2 := HR.out.at_ (j := 2) rfl
    have eHR3 := HR.out.at_ (j := 3) rfl
    have eHR4 := HR.out.at_ (j := 4) rfl
    have eHR5 := HR.out.at_ (j := 5) rfl
    have eHR6 := HR.out.at_ (j := 6) rfl
    have eHN0 := HN.out.at_ (j := 0) rfl
    have eHN1 := HN.out.at_ (j := 1) rfl
    have eHN2 := HN.out.at_ (j := 2) rfl
    have eHN3 := HN.out.at_ (j := 3) rfl
    have eHN4 := HN.out.at_ (j := 4) rfl
    have eHN5 := HN.out.at_ (j := 5) rfl
    have eHN6 := HN.out.at_ (j := 6) rfl
    have fHN0 := HN.out.free 0
    have fHN1 := HN.out.free 1
    have fHN2 := HN.out.free 2
    have fHN3 := HN.out.free 3
    have fHN4 := HN.out.free 4
    have fHN5 := HN.out.free 5
    have fHN6 := HN.out.free 6
    go_wp2_with fail
    refine Calls.mono (C3.out _) ?_
    rintro e w2 ⟨rfl, hb1⟩
    replace HG := Lib.hid (((box_cell_far (g := w.heap.size + 1 + 1) (j := 4) (u := .int .i64 p) HG.out (by omega))).new hb1)
    replace HR := Lib.hid (((box_cell_far (g := w.heap.size + 1 + 1) (j := 4) (u := .int .i64 p) HR.out (by omega))).new hb1)
    replace HN := Lib.hid (((box_cell (u := .int .i64 p) (j := 4) HN.out)).new hb1)
    replace HN := Lib.hid (show BoxAt w2 (w.heap.size + 1 + 1) 50 #[.int .i64 g.f0, .int .i64 g.f1, .int .i64 g.f2, .int .i64 g.f3, .int .i64 p, .int .i64 g.f5, .bool g.f6] from HN.out)
    replace HB := Lib.hid (below_trans ((HB.out.setCell (by first | exact Nat.le_refl _ | (simp; done) | (simp; omega) | omega) _)) hb1 (Nat.le_refl _))
    have lHG : w.heap.size < w2.heap.size := HG.out.lt
    have lHR : w.heap.size + 1 < w2.heap.size := HR.out.lt
    have lHN : w.heap.size + 1 + 1 < w2.heap.size := HN.out.lt
    clear hb1
    have eHG0 := HG.out.at_ (j := 0) rfl
    have eHG1 := HG.out.at_ (j := 1) rfl
    have eHG2 := HG.out.at_ (j := 2) rfl
    have eHG3 := HG.out.at_ (j := 3) rfl
    have eHG4 := HG.out.at_ (j := 4) rfl
    have eHG5 := HG.out.at_ (j := 5) rfl
    have eHG6 := HG.out.at_ (j := 6) rfl
    have eHR0 := HR.out.at_ (j := 0) rfl
    have eHR1 := HR.out.at_ (j := 1) rfl
    have eHR2 := HR.out.at_ (j := 2) rfl
    have eHR3 := HR.out.at_ (j := 3) rfl
    have eHR4 := HR.out.at_ (j := 4) rfl
    have eHR5 := HR.out.at_ (j := 5) rfl
    have eHR6 := HR.out.at_ (j := 6) rfl
    have eHN0 := HN.out.at_ (j := 0) rfl
    have eHN1 := HN.out.at_ (j := 1) rfl
    have eHN2 := HN.out.at_ (j := 2) rfl
    have eHN3 := HN.out.at_ (j := 3) rfl
    have eHN4 := HN.out.at_ (j := 4) rfl
    have eHN5 := HN.out.at_ (j := 5) rfl
    have eHN6 := HN.out.at_ (j := 6) rfl
    have fHN0 := HN.out.free 0
    have fHN1 := HN.out.free 1
    have fHN2 := HN.out.free 2
    have fHN3 := HN.out.free 3
    have fHN4 := HN.out.free 4
    have fHN5 := HN.out.free 5
    have fHN6 := HN.out.free 6
    go_wp2_with fail
    refine Calls.mono (C0.out _) ?_
    rintro e w3 ⟨rfl, hb1⟩
    replace HG := Lib.hid (((box_cell_far (g := w.heap.size + 1 + 1) (j := 5) (u := .int .i64 q) HG.out (by omega))).new hb1)
    replace HR := Lib.hid (((box_cell_far (g := w.heap.size + 1 + 1) (j := 5) (u := .int .i64 q) HR.out (by omega))).new hb1)
    replace HN := Lib.hid (((box_cell (u := .int .i64 q) (j := 5) HN.out)).new hb1)
    replace HN := Lib.hid (show BoxAt w3 (w.heap.size + 1 + 1) 50 #[.int .i64 g.f0, .int .i64 g.f1, .int .i64 g.f2, .int .i64 g.f3, .int .i64 p, .int .i64 q, .bool g.f6] from HN.out)
    replace HB := Lib.hid (below_trans ((HB.out.setCell (by first | exact Nat.le_refl _ | (simp; done) | (simp; omega) | omega) _)) hb1 (Nat.le_refl _))
    have lHG : w.heap.size < w3.heap.size := HG.out.lt
    have lHR : w.heap.size + 1 < w3.heap.size := HR.out.lt
    have lHN : w.heap.size + 1 + 1 < w3.heap.size := HN.out.lt
    clear hb1
    have eHG0 := HG.out.at_ (j := 0) rfl
    have eHG1 := HG.out.at_ (j := 1) rfl
    have eHG2 := HG.out.at_ (j := 2) rfl
    have eHG3 := HG.out.at_ (j := 3) rfl
    have eHG4 := HG.out.at_ (j := 4) rfl
    have eHG5 := HG.out.at_ (j := 5) rfl
    have eHG6 := HG.out.at_ (j := 6) rfl
    have eHR0 := HR.out.at_ (j := 0) rfl
    have eHR1 := HR.out.at_ (j := 1) rfl
    have eHR2 := HR.out.at_ (j := 2) rfl
    have eHR3 := HR.out.at_ (j := 3) rfl
    have eHR4 := HR.out.at_ (j := 4) rfl
    have eHR5 := HR.out.at_ (j := 5) rfl
    have eHR6 := HR.out.at_ (j := 6) rfl
    have eHN0 := HN.out.at_ (j := 0) rfl
    have eHN1 := HN.out.at_ (j := 1) rfl
    have eHN2 := HN.out.at_ (j := 2) rfl
    have eHN3 := HN.out.at_ (j := 3) rfl
    have eHN4 := HN.out.at_ (j := 4) rfl
    have eHN5 := HN.out.at_ (j := 5) rfl
    have eHN6 := HN.out.at_ (j := 6) rfl
    have fHN0 := HN.out.free 0
    have fHN1 := HN.out.free 1
    have fHN2 := HN.out.free 2
    have fHN3 := HN.out.free 3
    have fHN4 := HN.out.free 4
    have fHN5 := HN.out.free 5
    have fHN6 := HN.out.free 6
    have HR2 := HR
    go_wp2_with (refine wpList_store_row rfl 50 _ _ rfl (w.heap.size + 1) #[.int .i64 0, .int .i64 0, .int .i64 0, .int .i64 0, .int .i64 0, .int .i64 0, .bool false] rfl rfl 50 _ HR2.out (by kernel_rfl) (by kernel_rfl) (by kernel_rfl) ?_)
    have k0 := (box_row (cs := #[.int .i64 0, .int .i64 0, .int .i64 0, .int .i64 0, .int .i64 0, .int .i64 0, .bool false]) HR2.out).at_ (j := 0) rfl
    have k1 := (box_row (cs := #[.int .i64 0, .int .i64 0, .int .i64 0, .int .i64 0, .int .i64 0, .int .i64 0, .bool false]) HR2.out).at_ (j := 1) rfl
    have k2 := (box_row (cs := #[.int .i64 0, .int .i64 0, .int .i64 0, .int .i64 0, .int .i64 0, .int .i64 0, .bool false]) HR2.out).at_ (j := 2) rfl
    have k3 := (box_row (cs := #[.int .i64 0, .int .i64 0, .int .i64 0, .int .i64 0, .int .i64 0, .int .i64 0, .bool false]) HR2.out).at_ (j := 3) rfl
    have k4 := (box_row (cs := #[.int .i64 0, .int .i64 0, .int .i64 0, .int .i64 0, .int .i64 0, .int .i64 0, .bool false]) HR2.out).at_ (j := 4) rfl
    have k5 := (box_row (cs := #[.int .i64 0, .int .i64 0, .int .i64 0, .int .i64 0, .int .i64 0, .int .i64 0, .bool false]) HR2.out).at_ (j := 5) rfl
    have k6 := (box_row (cs := #[.int .i64 0, .int .i64 0, .int .i64 0, .int .i64 0, .int .i64 0, .int .i64 0, .bool false]) HR2.out).at_ (j := 6) rfl
    exact bodyPost_ret (v := .tuple #[vGrant ⟨0, 0, 0, 0, 0, 0, false⟩, .bool false]) (by simp [results, Try.results37, go_sem, k0, k1, k2, k3, k4, k5, k6]) rfl ⟨rfl, (below_setRow HB.out (by omega) _)⟩
  · cases b1
    · skip
      have HK := Lib.hid (show mNTok g a b = false from HX.out)
      rw [mNT_no HK.out, HK.out]
      go_enter Try.func37, Try.ntmps37
      go_wp2_with fail
      refine Calls.mono (C2.out _) ?_
      rintro e w1 ⟨rfl, hb1⟩
      replace HG := Lib.hid ((HG.out).new hb1)
      replace HR := Lib.hid ((HR.out).new hb1)
      replace HN := Lib.hid ((HN.out).new hb1)
      replace HB := Lib.hid (below_trans (HB.out) hb1 (Nat.le_refl _))
      have lHG : w.heap.size < w1.heap.size := HG.out.lt
      have lHR : w.heap.size + 1 < w1.heap.size := HR.out.lt
      have lHN : w.heap.size + 1 + 1 < w1.heap.size := HN.out.lt
      clear hb1
      have eHG0 := HG.out.at_ (j := 0) rfl
      have eHG1 := HG.out.at_ (j := 1) rfl
      have eHG2 := HG.out.at_ (j := 2) rfl
      have eHG3 := HG.out.at_ (j := 3) rfl
      have eHG4 := HG.out.at_ (j := 4) rfl
      have eHG5 := HG.out.at_ (j := 5) rfl
      have eHG6 := HG.out.at_ (j := 6) rfl
      have eHR0 := HR.out.at_ (j := 0) rfl
      have eHR1 := HR.out.at_ (j := 1) rfl
      have eHR2 := HR.out.at_ (j := 2) rfl
      have eHR3 := HR.out.at_ (j := 3) rfl
      have eHR4 := HR.out.at_ (j := 4) rfl
      have eHR5 := HR.out.at_ (j := 5) rfl
      have eHR6 := HR.out.at_ (j := 6) rfl
      have eHN0 := HN.out.at_ (j := 0) rfl
      have eHN1 := HN.out.at_ (j := 1) rfl
      have eHN2 := HN.out.at_ (j := 2) rfl
      have eHN3 := HN.out.at_ (j := 3) rfl
      have eHN4 := HN.out.at_ (j := 4) rfl
      have eHN5 := HN.out.at_ (j := 5) rfl
      have eHN6 := HN.out.at_ (j := 6) rfl
      have fHN0 := HN.out.free 0
      have fHN1 := HN.out.free 1
      have fHN2 := HN.out.free 2
      have fHN3 := HN.out.free 3
      have fHN4 := HN.out.free 4
      have fHN5 := HN.out.free 5
      have fHN6 := HN.out.free 6
      go_wp2_with fail
      refine Calls.mono (C3.out _) ?_
      rintro e w2 ⟨rfl, hb1⟩
      replace HG := Lib.hid (((box_cell_far (g := w.heap.size + 1 + 1) (j := 4) (u := .int .i64 p) HG.out (by omega))).new hb1)
      replace HR := Lib.hid (((box_cell_far (g := w.heap.size + 1 + 1) (j := 4) (u := .int .i64 p) HR.out (by omega))).new hb1)
      replace HN := Lib.hid (((box_cell (u := .int .i64 p) (j := 4) HN.out)).new hb1)
      replace HN := Lib.hid (show BoxAt w2 (w.heap.size + 1 + 1) 50 #[.int .i64 g.f0, .int .i64 g.f1, .int .i64 g.f2, .int .i64 g.f3, .int .i64 p, .int .i64 g.f5, .bool g.f6] from HN.out)
      replace HB := Lib.hid (below_trans ((HB.out.setCell (by first | exact Nat.le_refl _ | (simp; done) | (simp; omega) | omega) _)) hb1 (Nat.le_refl _))
      have lHG : w.heap.size < w2.heap.size := HG.out.lt
      have lHR : w.heap.size + 1 < w2.heap.size := HR.out.lt
      have lHN : w.heap.size + 1 + 1 < w2.heap.size := HN.out.lt
      clear hb1
      have eHG0 := HG.out.at_ (j := 0) rfl
      have eHG1 := HG.out.at_ (j := 1) rfl
      have eHG2 := HG.out.at_ (j := 2) rfl
      have eHG3 := HG.out.at_ (j := 3) rfl
      have eHG4 := HG.out.at_ (j := 4) rfl
      have eHG5 := HG.out.at_ (j := 5) rfl
      have eHG6 := HG.out.at_ (j := 6) rfl
      have eHR0 := HR.out.at_ (j := 0) rfl
      have eHR1 := HR.out.at_ (j := 1) rfl
      have eHR2 := HR.out.at_ (j := 2) rfl
      have eHR3 := HR.out.at_ (j := 3) rfl
      have eHR4 := HR.out.at_ (j := 4) rfl
      have eHR5 := HR.out.at_ (j := 5) rfl
      have eHR6 := HR.out.at_ (j := 6) rfl
      have eHN0 := HN.out.at_ (j := 0) rfl
      have eHN1 := HN.out.at_ (j := 1) rfl
      have eHN2 := HN.out.at_ (j := 2) rfl
      have eHN3 := HN.out.at_ (j := 3) rfl
      have eHN4 := HN.out.at_ (j := 4) rfl
      have eHN5 := HN.out.at_ (j := 5) rfl
      have eHN6 := HN.out.at_ (j := 6) rfl
      have fHN0 := HN.out.free 0
      have fHN1 := HN.out.free 1
      have fHN2 := HN.out.free 2
      have fHN3 := HN.out.free 3
      have fHN4 := HN.out.free 4
      have fHN5 := HN.out.free 5
      have fHN6 := HN.out.free 6
      go_wp2_with fail
      refine Calls.mono (C0.out _) ?_
      rintro e w3 ⟨rfl, hb1⟩
      replace HG := Lib.hid (((box_cell_far (g := w.heap.size + 1 + 1) (j := 5) (u := .int .i64 q) HG.out (by omega))).new hb1)
      replace HR := Lib.hid (((box_cell_far (g := w.heap.size + 1 + 1) (j := 5) (u := .int .i64 q) HR.out (by omega))).new hb1)
      replace HN := Lib.hid (((box_cell (u := .int .i64 q) (j := 5) HN.out)).new hb1)
      replace HN := Lib.hid (show BoxAt w3 (w.heap.size + 1 + 1) 50 #[.int .i64 g.f0, .int .i64 g.f1, .int .i64 g.f2, .int .i64 g.f3, .int .i64 p, .int .i64 q, .bool g.f6] from HN.out)
      replace HB := Lib.hid (below_trans ((HB.out.setCell (by first | exact Nat.le_refl _ | (simp; done) | (simp; omega) | omega) _)) hb1 (Nat.le_refl _))
      have lHG : w.heap.size < w3.heap.size := HG.out.lt
      have lHR : w.heap.size + 1 < w3.heap.size := HR.out.lt
      have lHN : w.heap.size + 1 + 1 < w3.heap.size := HN.out.lt
      clear hb1
      have eHG0 := HG.out.at_ (j := 0) rfl
      have eHG1 := HG.out.at_ (j := 1) rfl
      have eHG2 := HG.out.at_ (j := 2) rfl
      have eHG3 := HG.out.at_ (j := 3) rfl
      have eHG4 := HG.out.at_ (j := 4) rfl
      have eHG5 := HG.out.at_ (j := 5) rfl
      have eHG6 := HG.out.at_ (j := 6) rfl
      have eHR0 := HR.out.at_ (j := 0) rfl
      have eHR1 := HR.out.at_ (j := 1) rfl
      have eHR2 := HR.out.at_ (j := 2) rfl
      have eHR3 := HR.out.at_ (j := 3) rfl
      have eHR4 := HR.out.at_ (j := 4) rfl
      have eHR5 := HR.out.at_ (j := 5) rfl
      have eHR6 := HR.out.at_ (j := 6) rfl
      have eHN0 := HN.out.at_ (j := 0) rfl
      have eHN1 := HN.out.at_ (j := 1) rfl
      have eHN2 := HN.out.at_ (j := 2) rfl
      have eHN3 := HN.out.at_ (j := 3) rfl
      have eHN4 := HN.out.at_ (j := 4) rfl
      have eHN5 := HN.out.at_ (j := 5) rfl
      have eHN6 := HN.out.at_ (j := 6) rfl
      have fHN0 := HN.out.free 0
      have fHN1 := HN.out.free 1
      have fHN2 := HN.out.free 2
      have fHN3 := HN.out.free 3
      have fHN4 := HN.out.free 4
      have fHN5 := HN.out.free 5
      have fHN6 := HN.out.free 6
      go_wp2_with fail
      refine Calls.mono (C1.out _) ?_
      rintro e w4 ⟨rfl, hb1⟩
      replace HG := Lib.hid ((HG.out).new hb1)
      replace HR := Lib.hid ((HR.out).new hb1)
      replace HN := Lib.hid ((HN.out).new hb1)
      replace HB := Lib.hid (below_trans (HB.out) hb1 (Nat.le_refl _))
      have lHG : w.heap.size < w4.heap.size := HG.out.lt
      have lHR : w.heap.size + 1 < w4.heap.size := HR.out.lt
      have lHN : w.heap.size + 1 + 1 < w4.heap.size := HN.out.lt
      clear hb1
      have eHG0 := HG.out.at_ (j := 0) rfl
      have eHG1 := HG.out.at_ (j := 1) rfl
      have eHG2 := HG.out.at_ (j := 2) rfl
      have eHG3 := HG.out.at_ (j := 3) rfl
      have eHG4 := HG.out.at_ (j := 4) rfl
      have eHG5 := HG.out.at_ (j := 5) rfl
      have eHG6 := HG.out.at_ (j := 6) rfl
      have eHR0 := HR.out.at_ (j := 0) rfl
      have eHR1 := HR.out.at_ (j := 1) rfl
      have eHR2 := HR.out.at_ (j := 2) rfl
      have eHR3 := HR.out.at_ (j := 3) rfl
      have eHR4 := HR.out.at_ (j := 4) rfl
      have eHR5 := HR.out.at_ (j := 5) rfl
      have eHR6 := HR.out.at_ (j := 6) rfl
      have eHN0 := HN.out.at_ (j := 0) rfl
      have eHN1 := HN.out.at_ (j := 1) rfl
      have eHN2 := HN.out.at_ (j := 2) rfl
      have eHN3 := HN.out.at_ (j := 3) rfl
      have eHN4 := HN.out.at_ (j := 4) rfl
      have eHN5 := HN.out.at_ (j := 5) rfl
      have eHN6 := HN.out.at_ (j := 6) rfl
      have fHN0 := HN.out.free 0
      have fHN1 := HN.out.free 1
      have fHN2 := HN.out.free 2
      have fHN3 := HN.out.free 3
      have fHN4 := HN.out.free 4
      have fHN5 := HN.out.free 5
      have fHN6 := HN.out.free 6
      have HR2 := HR
      go_wp2_with (refine wpList_store_row rfl 50 _ _ rfl (w.heap.size + 1) #[.int .i64 0, .int .i64 0, .int .i64 0, .int .i64 0, .int .i64 0, .int .i64 0, .bool false] rfl rfl 50 _ HR2.out (by kernel_rfl) (by kernel_rfl) (by kernel_rfl) ?_)
      have k0 := (box_row (cs := #[.int .i64 0, .int .i64 0, .int .i64 0, .int .i64 0, .int .i64 0, .int .i64 0, .bool false]) HR2.out).at_ (j := 0) rfl
      have k1 := (box_row (cs := #[.int .i64 0, .int .i64 0, .int .i64 0, .int .i64 0, .int .i64 0, .int .i64 0, .bool false]) HR2.out).at_ (j := 1) rfl
      have k2 := (box_row (cs := #[.int .i64 0, .int .i64 0, .int .i64 0, .int .i64 0, .int .i64 0, .int .i64 0, .bool false]) HR2.out).at_ (j := 2) rfl
      have k3 := (box_row (cs := #[.int .i64 0, .int .i64 0, .int .i64 0, .int .i64 0, .int .i64 0, .int .i64 0, .bool false]) HR2.out).at_ (j := 3) rfl
      have k4 := (box_row (cs := #[.int .i64 0, .int .i64 0, .int .i64 0, .int .i64 0, .int .i64 0, .int .i64 0, .bool false]) HR2.out).at_ (j := 4) rfl
      have k5 := (box_row (cs := #[.int .i64 0, .int .i64 0, .int .i64 0, .int .i64 0, .int .i64 0, .int .i64 0, .bool false]) HR2.out).at_ (j := 5) rfl
      have k6 := (box_row (cs := #[.int .i64 0, .int .i64 0, .int .i64 0, .int .i64 0, .int .i64 0, .int .i64 0, .bool false]) HR2.out).at_ (j := 6) rfl
      exact bodyPost_ret (v := .tuple #[vGrant ⟨0, 0, 0, 0, 0, 0, false⟩, .bool false]) (by simp [results, Try.results37, go_sem, k0, k1, k2, k3, k4, k5, k6]) rfl ⟨rfl, (below_setRow HB.out (by omega) _)⟩
    · skip
      have HK := Lib.hid (show mNTok g a b = true from HX.out)
      rw [HV.out HK.out, HK.out]
      go_enter Try.func37, Try.ntmps37
      go_wp2_with fail
      refine Calls.mono (C2.out _) ?_
      rintro e w1 ⟨rfl, hb1⟩
      replace HG := Lib.hid ((HG.out).new hb1)
      replace HR := Lib.hid ((HR.out).new hb1)
      replace HN := Lib.hid ((HN.out).new hb1)
      replace HB := Lib.hid (below_trans (HB.out) hb1 (Nat.le_refl _))
      have lHG : w.heap.size < w1.heap.size := HG.out.lt
      have lHR : w.heap.size + 1 < w1.heap.size := HR.out.lt
      have lHN : w.heap.size + 1 + 1 < w1.heap.size := HN.out.lt
      clear hb1
      have eHG0 := HG.out.at_ (j := 0) rfl
      have eHG1 := HG.out.at_ (j := 1) rfl
      have eHG2 := HG.out.at_ (j := 2) rfl
      have eHG3 := HG.out.at_ (j := 3) rfl
      have eHG4 := HG.out.at_ (j := 4) rfl
      have eHG5 := HG.out.at_ (j := 5) rfl
      have eHG6 := HG.out.at_ (j := 6) rfl
      have eHR0 := HR.out.at_ (j := 0) rfl
      have eHR1 := HR.out.at_ (j := 1) rfl
      have eHR2 := HR.out.at_ (j := 2) rfl
      have eHR3 := HR.out.at_ (j := 3) rfl
      have eHR4 := HR.out.at_ (j := 4) rfl
      have eHR5 := HR.out.at_ (j := 5) rfl
      have eHR6 := HR.out.at_ (j := 6) rfl
      have eHN0 := HN.out.at_ (j := 0) rfl
      have eHN1 := HN.out.at_ (j := 1) rfl
      have eHN2 := HN.out.at_ (j := 2) rfl
      have eHN3 := HN.out.at_ (j := 3) rfl
      have eHN4 := HN.out.at_ (j := 4) rfl
      have eHN5 := HN.out.at_ (j := 5) rfl
      have eHN6 := HN.out.at_ (j := 6) rfl
      have fHN0 := HN.out.free 0
      have fHN1 := HN.out.free 1
      have fHN2 := HN.out.free 2
      have fHN3 := HN.out.free 3
      have fHN4 := HN.out.free 4
      have fHN5 := HN.out.free 5
      have fHN6 := HN.out.free 6
      go_wp2_with fail
      refine Calls.mono (C3.out _) ?_
      rintro e w2 ⟨rfl, hb1⟩
      replace HG := Lib.hid (((box_cell_far (g := w.heap.size + 1 + 1) (j := 4) (u := .int .i64 p) HG.out (by omega))).new hb1)
      replace HR := Lib.hid (((box_cell_far (g := w.heap.size + 1 + 1) (j := 4) (u := .int .i64 p) HR.out (by omega))).new hb1)
      replace HN := Lib.hid (((box_cell (u := .int .i64 p) (j := 4) HN.out)).new hb1)
      replace HN := Lib.hid (show BoxAt w2 (w.heap.size + 1 + 1) 50 #[.int .i64 g.f0, .int .i64 g.f1, .int .i64 g.f2, .int .i64 g.f3, .int .i64 p, .int .i64 g.f5, .bool g.f6] from HN.out)
      replace HB := Lib.hid (below_trans ((HB.out.setCell (by first | exact Nat.le_refl _ | (simp; done) | (simp; omega) | omega) _)) hb1 (Nat.le_refl _))
      have lHG : w.heap.size < w2.heap.size := HG.out.lt
      have lHR : w.heap.size + 1 < w2.heap.size := HR.out.lt
      have lHN : w.heap.size + 1 + 1 < w2.heap.size := HN.out.lt
      clear hb1
      have eHG0 := HG.out.at_ (j := 0) rfl
      have eHG1 := HG.out.at_ (j := 1) rfl
      have eHG2 := HG.out.at_ (j := 2) rfl
      have eHG3 := HG.out.at_ (j := 3) rfl
      have eHG4 := HG.out.at_ (j := 4) rfl
      have eHG5 := HG.out.at_ (j := 5) rfl
      have eHG6 := HG.out.at_ (j := 6) rfl
      have eHR0 := HR.out.at_ (j := 0) rfl
      have eHR1 := HR.out.at_ (j := 1) rfl
      have eHR2 := HR.out.at_ (j := 2) rfl
      have eHR3 := HR.out.at_ (j := 3) rfl
      have eHR4 := HR.out.at_ (j := 4) rfl
      have eHR5 := HR.out.at_ (j := 5) rfl
      have eHR6 := HR.out.at_ (j := 6) rfl
      have eHN0 := HN.out.at_ (j := 0) rfl
      have eHN1 := HN.out.at_ (j := 1) rfl
      have eHN2 := HN.out.at_ (j := 2) rfl
      have eHN3 := HN.out.at_ (j := 3) rfl
      have eHN4 := HN.out.at_ (j := 4) rfl
      have eHN5 := HN.out.at_ (j := 5) rfl
      have eHN6 := HN.out.at_ (j := 6) rfl
      have fHN0 := HN.out.free 0
      have fHN1 := HN.out.free 1
      have fHN2 := HN.out.free 2
      have fHN3 := HN.out.free 3
      have fHN4 := HN.out.free 4
      have fHN5 := HN.out.free 5
      have fHN6 := HN.out.free 6
      go_wp2_with fail
      refine Calls.mono (C0.out _) ?_
      rintro e w3 ⟨rfl, hb1⟩
      replace HG := Lib.hid (((box_cell_far (g := w.heap.size + 1 + 1) (j := 5) (u := .int .i64 q) HG.out (by omega))).new hb1)
      replace HR := Lib.hid (((box_cell_far (g := w.heap.size + 1 + 1) (j := 5) (u := .int .i64 q) HR.out (by omega))).new hb1)
      replace HN := Lib.hid (((box_cell (u := .int .i64 q) (j := 5) HN.out)).new hb1)
      replace HN := Lib.hid (show BoxAt w3 (w.heap.size + 1 + 1) 50 #[.int .i64 g.f0, .int .i64 g.f1, .int .i64 g.f2, .int .i64 g.f3, .int .i64 p, .int .i64 q, .bool g.f6] from HN.out)
      replace HB := Lib.hid (below_trans ((HB.out.setCell (by first | exact Nat.le_refl _ | (simp; done) | (simp; omega) | omega) _)) hb1 (Nat.le_refl _))
      have lHG : w.heap.size < w3.heap.size := HG.out.lt
      have lHR : w.heap.size + 1 < w3.heap.size := HR.out.lt
      have lHN : w.heap.size + 1 + 1 < w3.heap.size := HN.out.lt
      clear hb1
      have eHG0 := HG.out.at_ (j := 0) rfl
      have eHG1 := HG.out.at_ (j := 1) rfl
      have eHG2 := HG.out.at_ (j := 2) rfl
      have eHG3 := HG.out.at_ (j := 3) rfl
      have eHG4 := HG.out.at_ (j := 4) rfl
      have eHG5 := HG.out.at_ (j := 5) rfl
      have eHG6 := HG.out.at_ (j := 6) rfl
      have eHR0 := HR.out.at_ (j := 0) rfl
      have eHR1 := HR.out.at_ (j := 1) rfl
      have eHR2 := HR.out.at_ (j := 2) rfl
      have eHR3 := HR.out.at_ (j := 3) rfl
      have eHR4 := HR.out.at_ (j := 4) rfl
      have eHR5 := HR.out.at_ (j := 5) rfl
      have eHR6 := HR.out.at_ (j := 6) rfl
      have eHN0 := HN.out.at_ (j := 0) rfl
      have eHN1 := HN.out.at_ (j := 1) rfl
      have eHN2 := HN.out.at_ (j := 2) rfl
      have eHN3 := HN.out.at_ (j := 3) rfl
      have eHN4 := HN.out.at_ (j := 4) rfl
      have eHN5 := HN.out.at_ (j := 5) rfl
      have eHN6 := HN.out.at_ (j := 6) rfl
      have fHN0 := HN.out.free 0
      have fHN1 := HN.out.free 1
      have fHN2 := HN.out.free 2
      have fHN3 := HN.out.free 3
      have fHN4 := HN.out.free 4
      have fHN5 := HN.out.free 5
      have fHN6 := HN.out.free 6
      go_wp2_with fail
      refine Calls.mono (C1.out _) ?_
      rintro e w4 ⟨rfl, hb1⟩
      replace HG := Lib.hid ((HG.out).new hb1)
      replace HR := Lib.hid ((HR.out).new hb1)
      replace HN := Lib.hid ((HN.out).new hb1)
      replace HB := Lib.hid (below_trans (HB.out) hb1 (Nat.le_refl _))
      have lHG : w.heap.size < w4.heap.size := HG.out.lt
      have lHR : w.heap.size + 1 < w4.heap.size := HR.out.lt
      have lHN : w.heap.size + 1 + 1 < w4.heap.size := HN.out.lt
      clear hb1
      have eHG0 := HG.out.at_ (j := 0) rfl
      have eHG1 := HG.out.at_ (j := 1) rfl
      have eHG2 := HG.out.at_ (j := 2) rfl
      have eHG3 := HG.out.at_ (j := 3) rfl
      have eHG4 := HG.out.at_ (j := 4) rfl
      have eHG5 := HG.out.at_ (j := 5) rfl
      have eHG6 := HG.out.at_ (j := 6) rfl
      have eHR0 := HR.out.at_ (j := 0) rfl
      have eHR1 := HR.out.at_ (j := 1) rfl
      have eHR2 := HR.out.at_ (j := 2) rfl
      have eHR3 := HR.out.at_ (j := 3) rfl
      have eHR4 := HR.out.at_ (j := 4) rfl
      have eHR5 := HR.out.at_ (j := 5) rfl
      have eHR6 := HR.out.at_ (j := 6) rfl
      have eHN0 := HN.out.at_ (j := 0) rfl
      have eHN1 := HN.out.at_ (j := 1) rfl
      have eHN2 := HN.out.at_ (j := 2) rfl
      have eHN3 := HN.out.at_ (j := 3) rfl
      have eHN4 := HN.out.at_ (j := 4) rfl
      have eHN5 := HN.out.at_ (j := 5) rfl
      have eHN6 := HN.out.at_ (j := 6) rfl
      have fHN0 := HN.out.free 0
      have fHN1 := HN.out.free 1
      have fHN2 := HN.out.free 2
      have fHN3 := HN.out.free 3
      have fHN4 := HN.out.free 4
      have fHN5 := HN.out.free 5
      have fHN6 := HN.out.free 6
      have HR2 := HR
      go_wp2_with (refine wpList_store_row rfl 50 _ _ rfl (w.heap.size + 1) #[.int .i64 g.f0, .int .i64 g.f1, .int .i64 g.f2, .int .i64 g.f3, .int .i64 p, .int .i64 q, .bool g.f6] rfl rfl 50 _ HR2.out (by kernel_rfl) (by kernel_rfl) (by kernel_rfl) ?_)
      have k0 := (box_row (cs := #[.int .i64 g.f0, .int .i64 g.f1, .int .i64 g.f2, .int .i64 g.f3, .int .i64 p, .int .i64 q, .bool g.f6]) HR2.out).at_ (j := 0) rfl
      have k1 := (box_row (cs := #[.int .i64 g.f0, .int .i64 g.f1, .int .i64 g.f2, .int .i64 g.f3, .int .i64 p, .int .i64 q, .bool g.f6]) HR2.out).at_ (j := 1) rfl
      have k2 := (box_row (cs := #[.int .i64 g.f0, .int .i64 g.f1, .int .i64 g.f2, .int .i64 g.f3, .int .i64 p, .int .i64 q, .bool g.f6]) HR2.out).at_ (j := 2) rfl
      have k3 := (box_row (cs := #[.int .i64 g.f0, .int .i64 g.f1, .int .i64 g.f2, .int .i64 g.f3, .int .i64 p, .int .i64 q, .bool g.f6]) HR2.out).at_ (j := 3) rfl
      have k4 := (box_row (cs := #[.int .i64 g.f0, .int .i64 g.f1, .int .i64 g.f2, .int .i64 g.f3, .int .i64 p, .int .i64 q, .bool g.f6]) HR2.out).at_ (j := 4) rfl
      have k5 := (box_row (cs := #[.int .i64 g.f0, .int .i64 g.f1, .int .i64 g.f2, .int .i64 g.f3, .int .i64 p, .int .i64 q, .bool g.f6]) HR2.out).at_ (j := 5) rfl
      have k6 := (box_row (cs := #[.int .i64 g.f0, .int .i64 g.f1, .int .i64 g.f2, .int .i64 g.f3, .int .i64 p, .int .i64 q, .bool g.f6]) HR2.out).at_ (j := 6) rfl
      exact bodyPost_ret (v := .tuple #[vGrant ⟨g.f0, g.f1, g.f2, g.f3, p, q, g.f6⟩, .bool true]) (by simp [results, Try.results37, go_sem, k0, k1, k2, k3, k4, k5, k6]) rfl ⟨rfl, (below_setRow HB.out (by omega) _)⟩

set_option maxHeartbeats 40000000 in
theorem spec_NarrowTime (g : TGrant) (a b : Int) (w : World) :
    Calls Try.prog 36 #[vGrant g, .int .i64 a, .int .i64 b] w (Says (.tuple #[vGrant (mNT g a b), .bool (mNTok g a b)]) w) := by
  have C0 := fun W => spec_IsGrant g W
  have C1 := fun W => spec_IsGrant (nGrant g a b) W
  have C2 := fun W => spec_Max g.f4 a W
  have C3 := fun W => spec_Min g.f5 b W
  have HX := Lib.hid (show mNTok g a b = (mIsGrant g && mIsGrant (nGrant g a b)) from rfl)
  have HV := mNT_yes (g := g) (a := a) (b := b)
  unfold nGrant at C1 HX HV
  generalize mMax g.f4 a = p at C1 C2 HX HV
  generalize mMin g.f5 b = q at C1 C3 HX HV
  replace HV := Lib.hid HV
  generalize mIsGrant g = b0 at C0 HX
  generalize mIsGrant ⟨g.f0, g.f1, g.f2, g.f3, p, q, g.f6⟩ = b1 at C1 HX
  replace C0 := Lib.hid C0
  replace C1 := Lib.hid C1
  replace C2 := Lib.hid C2
  replace C3 := Lib.hid C3
  have KB0 : BoxAt ((w.alloc (.cells #[.int .i64 g.f0, .int .i64 g.f1, .int .i64 g.f2, .int .i64 g.f3, .int .i64 g.f4, .int .i64 g.f5, .bool g.f6] 50)).alloc (.cells #[.int .i64 0, .int .i64 0, .int .i64 0, .int .i64 0, .int .i64 0, .int .i64 0, .bool false] 50)) w.heap.size 50 #[.int .i64 g.f0, .int .i64 g.f1, .int .i64 g.f2, .int .i64 g.f3, .int .i64 g.f4, .int .i64 g.f5, .bool g.f6] := ((by simpa using box_new w 50 #[.int .i64 g.f0, .int .i64 g.f1, .int .i64 g.f2, .int .i64 g.f3, .int .i64 g.f4, .int .i64 g.f5, .bool g.f6] : BoxAt (w.alloc (.cells #[.int .i64 g.f0, .int .i64 g.f1, .int .i64 g.f2, .int .i64 g.f3, .int .i64 g.f4, .int .i64 g.f5, .bool g.f6] 50)) w.heap.size 50 #[.int .i64 g.f0, .int .i64 g.f1, .int .i64 g.f2, .int .i64 g.f3, .int .i64 g.f4, .int .i64 g.f5, .bool g.f6])).alloc_ (.cells #[.int .i64 0, .int .i64 0, .int .i64 0, .int .i64 0, .int .i64 0, .int .i64 0, .bool false] 50)
  have KB1 : BoxAt ((w.alloc (.cells #[.int .i64 g.f0, .int .i64 g.f1, .int .i64 g.f2, .int .i64 g.f3, .int .i64 g.f4, .int .i64 g.f5, .bool g.f6] 50)).alloc (.cells #[.int .i64 0, .int .i64 0, .int .i64 0, .int .i64 0, .int .i64 0, .int .i64 0, .bool false] 50)) (w.heap.size + 1) 50 #[.int .i64 0, .int .i64 0, .int .i64 0, .int .i64 0, .int .i64 0, .int .i64 0, .bool false] := (by simpa using box_new (w.alloc (.cells #[.int .i64 g.f0, .int .i64 g.f1, .int .i64 g.f2, .int .i64 g.f3, .int .i64 g.f4, .int .i64 g.f5, .bool g.f6] 50)) 50 #[.int .i64 0, .int .i64 0, .int .i64 0, .int .i64 0, .int .i64 0, .int .i64 0, .bool false] : BoxAt ((w.alloc (.cells #[.int .i64 g.f0, .int .i64 g.f1, .int .i64 g.f2, .int .i64 g.f3, .int .i64 g.f4, .int .i64 g.f5, .bool g.f6] 50)).alloc (.cells #[.int .i64 0, .int .i64 0, .int .i64 0, .int .i64 0, .int .i64 0, .int .i64 0, .bool false] 50)) (w.heap.size + 1) 50 #[.int .i64 0, .int .i64 0, .int .i64 0, .int .i64 0, .int .i64 0, .int .i64 0, .bool false])
  have HBw : Below w.heap.size w ((w.alloc (.cells #[.int .i64 g.f0, .int .i64 g.f1, .int .i64 g.f2, .int .i64 g.f3, .int .i64 g.f4, .int .i64 g.f5, .bool g.f6] 50)).alloc (.cells #[.int .i64 0, .int .i64 0, .int .i64 0, .int .i64 0, .int .i64 0, .int .i64 0, .bool false] 50)) := (((Below.refl _ _).alloc (by first | exact Nat.le_refl _ | (simp; done) | (simp; omega)) _).alloc (by first | exact Nat.le_refl _ | (simp; done) | (simp; omega)) _)
  have HG := Lib.hid KB0
  have HR := Lib.hid KB1
  have HB := Lib.hid HBw
  clear KB0 KB1 HBw
  cases b0
  · skip
    have HK := Lib.hid (show mNTok g a b = false from HX.out)
    rw [mNT_no HK.out, HK.out]
    go_enter Try.func36, Try.ntmps36
    go_wp2_with fail
    refine Calls.mono (C0.out _) ?_
    rintro e w1 ⟨rfl, hb1⟩
    replace HG := Lib.hid ((HG.out).new hb1)
    replace HR := Lib.hid ((HR.out).new hb1)
    replace HB := Lib.hid (below_trans (HB.out) hb1 (Nat.le_refl _))
    have lHG : w.heap.size < w1.heap.size := HG.out.lt
    have lHR : w.heap.size + 1 < w1.heap.size := HR.out.lt
    clear hb1
    have eHG0 := HG.out.at_ (j := 0) rfl
    have eHG1 := HG.out.at_ (j := 1) rfl
    have eHG2 := HG.out.at_ (j := 2) rfl
    have eHG3 := HG.out.at_ (j := 3) rfl
    have eHG4 := HG.out.at_ (j := 4) rfl
    have eHG5 := HG.out.at_ (j := 5) rfl
    have eHG6 := HG.out.at_ (j := 6) rfl
    have eHR0 := HR.out.at_ (j := 0) rfl
    have eHR1 := HR.out.at_ (j := 1) rfl
    have eHR2 := HR.out.at_ (j := 2) rfl
    have eHR3 := HR.out.at_ (j := 3) rfl
    have eHR4 := HR.out.at_ (j := 4) rfl
    have eHR5 := HR.out.at_ (j := 5) rfl
    have eHR6 := HR.out.at_ (j := 6) rfl
    have fHG0 := HG.out.free 0
    have fHG1 := HG.out.free 1
    have fHG2 := HG.out.free 2
    have fHG3 := HG.out.free 3
    have fHG4 := HG.out.free 4
    have fHG5 := HG.out.free 5
    have fHG6 := HG.out.free 6
    have HR2 := HR
    go_wp2_with (refine wpList_store_row rfl 50 _ _ rfl (w.heap.size + 1) #[.int .i64 0, .int .i64 0, .int .i64 0, .int .i64 0, .int .i64 0, .int .i64 0, .bool false] rfl rfl 50 _ HR2.out (by kernel_rfl) (by kernel_rfl) (by kernel_rfl) ?_)
    have k0 := (box_row (cs := #[.int .i64 0, .int .i64 0, .int .i64 0, .int .i64 0, .int .i64 0, .int .i64 0, .bool false]) HR2.out).at_ (j := 0) rfl
    have k1 := (box_row (cs := #[.int .i64 0, .int .i64 0, .int .i64 0, .int .i64 0, .int .i64 0, .int .i64 0, .bool false]) HR2.out).at_ (j := 1) rfl
    have k2 := (box_row (cs := #[.int .i64 0, .int .i64 0, .int .i64 0, .int .i64 0, .int .i64 0, .int .i64 0, .bool false]) HR2.out).at_ (j := 2) rfl
    have k3 := (box_row (cs := #[.int .i64 0, .int .i64 0, .int .i64 0, .int .i64 0, .int .i64 0, .int .i64 0, .bool false]) HR2.out).at_ (j := 3) rfl
    have k4 := (box_row (cs := #[.int .i64 0, .int .i64 0, .int .i64 0, .int .i64 0, .int .i64 0, .int .i64 0, .bool false]) HR2.out).at_ (j := 4) rfl
    have k5 := (box_row (cs := #[.int .i64 0, .int .i64 0, .int .i64 0, .int .i64 0, .int .i64 0, .int .i64 0, .bool false]) HR2.out).at_ (j := 5) rfl
    have k6 := (box_row (cs := #[.int .i64 0, .int .i64 0, .int .i64 0, .int .i64 0, .int .i64 0, .int .i64 0, .bool false]) HR2.out).at_ (j := 6) rfl
    exact bodyPost_ret (v := .tuple #[vGrant ⟨0, 0, 0, 0, 0, 0, false⟩, .bool false]) (by simp [results, Try.results36, go_sem, k0, k1, k2, k3, k4, k5, k6]) rfl ⟨rfl, (below_setRow HB.out (by omega) _)⟩
  · cases b1
    · skip
      have HK := Lib.hid (show mNTok g a b = false from HX.out)
      rw [mNT_no HK.out, HK.out]
      go_enter Try.func36, Try.ntmps36
      go_wp2_with fail
      refine Calls.mono (C0.out _) ?_
      rintro e w1 ⟨rfl, hb1⟩
      replace HG := Lib.hid ((HG.out).new hb1)
      replace HR := Lib.hid ((HR.out).new hb1)
      replace HB := Lib.hid (below_trans (HB.out) hb1 (Nat.le_refl _))
      have lHG : w.heap.size < w1.heap.size := HG.out.lt
      have lHR : w.heap.size + 1 < w1.heap.size := HR.out.lt
      clear hb1
      have eHG0 := HG.out.at_ (j := 0) rfl
      have eHG1 := HG.out.at_ (j := 1) rfl
      have eHG2 := HG.out.at_ (j := 2) rfl
      have eHG3 := HG.out.at_ (j := 3) rfl
      have eHG4 := HG.out.at_ (j := 4) rfl
      have eHG5 := HG.out.at_ (j := 5) rfl
      have eHG6 := HG.out.at_ (j := 6) rfl
      have eHR0 := HR.out.at_ (j := 0) rfl
      have eHR1 := HR.out.at_ (j := 1) rfl
      have eHR2 := HR.out.at_ (j := 2) rfl
      have eHR3 := HR.out.at_ (j := 3) rfl
      have eHR4 := HR.out.at_ (j := 4) rfl
      have eHR5 := HR.out.at_ (j := 5) rfl
      have eHR6 := HR.out.at_ (j := 6) rfl
      have fHG0 := HG.out.free 0
      have fHG1 := HG.out.free 1
      have fHG2 := HG.out.free 2
      have fHG3 := HG.out.free 3
      have fHG4 := HG.out.free 4
      have fHG5 := HG.out.free 5
      have fHG6 := HG.out.free 6
      go_wp2_with fail
      refine Calls.mono (C2.out _) ?_
      rintro e w2 ⟨rfl, hb1⟩
      replace HG := Lib.hid ((HG.out).new hb1)
      replace HR := Lib.hid ((HR.out).new hb1)
      replace HB := Lib.hid (below_trans (HB.out) hb1 (Nat.le_refl _))
      have lHG : w.heap.size < w2.heap.size := HG.out.lt
      have lHR : w.heap.size + 1 < w2.heap.size := HR.out.lt
      clear hb1
      have eHG0 := HG.out.at_ (j := 0) rfl
      have eHG1 := HG.out.at_ (j := 1) rfl
      have eHG2 := HG.out.at_ (j := 2) rfl
      have eHG3 := HG.out.at_ (j := 3) rfl
      have eHG4 := HG.out.at_ (j := 4) rfl
      have eHG5 := HG.out.at_ (j := 5) rfl
      have eHG6 := HG.out.at_ (j := 6) rfl
      have eHR0 := HR.out.at_ (j := 0) rfl
      have eHR1 := HR.out.at_ (j := 1) rfl
      have eHR2 := HR.out.at_ (j := 2) rfl
      have eHR3 := HR.out.at_ (j := 3) rfl
      have eHR4 := HR.out.at_ (j := 4) rfl
      have eHR5 := HR.out.at_ (j := 5) rfl
      have eHR6 := HR.out.at_ (j := 6) rfl
      have fHG0 := HG.out.free 0
      have fHG1 := HG.out.free 1
      have fHG2 := HG.out.free 2
      have fHG3 := HG.out.free 3
      have fHG4 := HG.out.free 4
      have fHG5 := HG.out.free 5
      have fHG6 := HG.out.free 6
      have z5 : (w2.setCell ⟨w.heap.size, 4, none⟩ (.int .i64 p)).cell? ⟨w.heap.size, 5, none⟩ = some (.int .i64 g.f5) := (box_cell (u := .int .i64 p) (j := 4) HG.out).at_ (j := 5) rfl
      go_wp2_with fail
      refine Calls.mono (C3.out _) ?_
      rintro e w3 ⟨rfl, hb1⟩
      replace HG := Lib.hid (((box_cell (u := .int .i64 p) (j := 4) HG.out)).new hb1)
      replace HR := Lib.hid (((box_cell_far (g := w.heap.size) (j := 4) (u := .int .i64 p) HR.out (by omega))).new hb1)
      replace HG := Lib.hid (show BoxAt w3 (w.heap.size) 50 #[.int .i64 g.f0, .int .i64 g.f1, .int .i64 g.f2, .int .i64 g.f3, .int .i64 p, .int .i64 g.f5, .bool g.f6] from HG.out)
      replace HB := Lib.hid (below_trans ((HB.out.setCell (by first | exact Nat.le_refl _ | (simp; done) | (simp; omega) | omega) _)) hb1 (Nat.le_refl _))
      have lHG : w.heap.size < w3.heap.size := HG.out.lt
      have lHR : w.heap.size + 1 < w3.heap.size := HR.out.lt
      clear hb1
      have eHG0 := HG.out.at_ (j := 0) rfl
      have eHG1 := HG.out.at_ (j := 1) rfl
      have eHG2 := HG.out.at_ (j := 2) rfl
      have eHG3 := HG.out.at_ (j := 3) rfl
      have eHG4 := HG.out.at_ (j := 4) rfl
      have eHG5 := HG.out.at_ (j := 5) rfl
      have eHG6 := HG.out.at_ (j := 6) rfl
      have eHR0 := HR.out.at_ (j := 0) rfl
      have eHR1 := HR.out.at_ (j := 1) rfl
      have eHR2 := HR.out.at_ (j := 2) rfl
      have eHR3 := HR.out.at_ (j := 3) rfl
      have eHR4 := HR.out.at_ (j := 4) rfl
      have eHR5 := HR.out.at_ (j := 5) rfl
      have eHR6 := HR.out.at_ (j := 6) rfl
      have fHG0 := HG.out.free 0
      have fHG1 := HG.out.free 1
      have fHG2 := HG.out.free 2
      have fHG3 := HG.out.free 3
      have fHG4 := HG.out.free 4
      have fHG5 := HG.out.free 5
      have fHG6 := HG.out.free 6
      have y0 := (box_cell (u := .int .i64 q) (j := 5) HG.out).at_ (j := 0) rfl
      have y1 := (box_cell (u := .int .i64 q) (j := 5) HG.out).at_ (j := 1) rfl
      have y2 := (box_cell (u := .int .i64 q) (j := 5) HG.out).at_ (j := 2) rfl
      have y3 := (box_cell (u := .int .i64 q) (j := 5) HG.out).at_ (j := 3) rfl
      have y4 := (box_cell (u := .int .i64 q) (j := 5) HG.out).at_ (j := 4) rfl
      have y5 := (box_cell (u := .int .i64 q) (j := 5) HG.out).at_ (j := 5) rfl
      have y6 := (box_cell (u := .int .i64 q) (j := 5) HG.out).at_ (j := 6) rfl
      go_wp2_with fail
      refine Calls.mono (C1.out _) ?_
      rintro e w4 ⟨rfl, hb1⟩
      replace HG := Lib.hid (((box_cell (u := .int .i64 q) (j := 5) HG.out)).new hb1)
      replace HR := Lib.hid (((box_cell_far (g := w.heap.size) (j := 5) (u := .int .i64 q) HR.out (by omega))).new hb1)
      replace HG := Lib.hid (show BoxAt w4 (w.heap.size) 50 #[.int .i64 g.f0, .int .i64 g.f1, .int .i64 g.f2, .int .i64 g.f3, .int .i64 p, .int .i64 q, .bool g.f6] from HG.out)
      replace HB := Lib.hid (below_trans ((HB.out.setCell (by first | exact Nat.le_refl _ | (simp; done) | (simp; omega) | omega) _)) hb1 (Nat.le_refl _))
      have lHG : w.heap.size < w4.heap.size := HG.out.lt
      have lHR : w.heap.size + 1 < w4.heap.size := HR.out.lt
      clear hb1
      have eHG0 := HG.out.at_ (j := 0) rfl
      have eHG1 := HG.out.at_ (j := 1) rfl
      have eHG2 := HG.out.at_ (j := 2) rfl
      have eHG3 := HG.out.at_ (j := 3) rfl
      have eHG4 := HG.out.at_ (j := 4) rfl
      have eHG5 := HG.out.at_ (j := 5) rfl
      have eHG6 := HG.out.at_ (j := 6) rfl
      have eHR0 := HR.out.at_ (j := 0) rfl
      have eHR1 := HR.out.at_ (j := 1) rfl
      have eHR2 := HR.out.at_ (j := 2) rfl
      have eHR3 := HR.out.at_ (j := 3) rfl
      have eHR4 := HR.out.at_ (j := 4) rfl
      have eHR5 := HR.out.at_ (j := 5) rfl
      have eHR6 := HR.out.at_ (j := 6) rfl
      have fHG0 := HG.out.free 0
      have fHG1 := HG.out.free 1
      have fHG2 := HG.out.free 2
      have fHG3 := HG.out.free 3
      have fHG4 := HG.out.free 4
      have fHG5 := HG.out.free 5
      have fHG6 := HG.out.free 6
      have HR2 := HR
      go_wp2_with (refine wpList_store_row rfl 50 _ _ rfl (w.heap.size + 1) #[.int .i64 0, .int .i64 0, .int .i64 0, .int .i64 0, .int .i64 0, .int .i64 0, .bool false] rfl rfl 50 _ HR2.out (by kernel_rfl) (by kernel_rfl) (by kernel_rfl) ?_)
      have k0 := (box_row (cs := #[.int .i64 0, .int .i64 0, .int .i64 0, .int .i64 0, .int .i64 0, .int .i64 0, .bool false]) HR2.out).at_ (j := 0) rfl
      have k1 := (box_row (cs := #[.int .i64 0, .int .i64 0, .int .i64 0, .int .i64 0, .int .i64 0, .int .i64 0, .bool false]) HR2.out).at_ (j := 1) rfl
      have k2 := (box_row (cs := #[.int .i64 0, .int .i64 0, .int .i64 0, .int .i64 0, .int .i64 0, .int .i64 0, .bool false]) HR2.out).at_ (j := 2) rfl
      have k3 := (box_row (cs := #[.int .i64 0, .int .i64 0, .int .i64 0, .int .i64 0, .int .i64 0, .int .i64 0, .bool false]) HR2.out).at_ (j := 3) rfl
      have k4 := (box_row (cs := #[.int .i64 0, .int .i64 0, .int .i64 0, .int .i64 0, .int .i64 0, .int .i64 0, .bool false]) HR2.out).at_ (j := 4) rfl
      have k5 := (box_row (cs := #[.int .i64 0, .int .i64 0, .int .i64 0, .int .i64 0, .int .i64 0, .int .i64 0, .bool false]) HR2.out).at_ (j := 5) rfl
      have k6 := (box_row (cs := #[.int .i64 0, .int .i64 0, .int .i64 0, .int .i64 0, .int .i64 0, .int .i64 0, .bool false]) HR2.out).at_ (j := 6) rfl
      exact bodyPost_ret (v := .tuple #[vGrant ⟨0, 0, 0, 0, 0, 0, false⟩, .bool false]) (by simp [results, Try.results36, go_sem, k0, k1, k2, k3, k4, k5, k6]) rfl ⟨rfl, (below_setRow HB.out (by omega) _)⟩
    · skip
      have HK := Lib.hid (show mNTok g a b = true from HX.out)
      rw [HV.out HK.out, HK.out]
      go_enter Try.func36, Try.ntmps36
      go_wp2_with fail
      refine Calls.mono (C0.out _) ?_
      rintro e w1 ⟨rfl, hb1⟩
      replace HG := Lib.hid ((HG.out).new hb1)
      replace HR := Lib.hid ((HR.out).new hb1)
      replace HB := Lib.hid (below_trans (HB.out) hb1 (Nat.le_refl _))
      have lHG : w.heap.size < w1.heap.size := HG.out.lt
      have lHR : w.heap.size + 1 < w1.heap.size := HR.out.lt
      clear hb1
      have eHG0 := HG.out.at_ (j := 0) rfl
      have eHG1 := HG.out.at_ (j := 1) rfl
      have eHG2 := HG.out.at_ (j := 2) rfl
      have eHG3 := HG.out.at_ (j := 3) rfl
      have eHG4 := HG.out.at_ (j := 4) rfl
      have eHG5 := HG.out.at_ (j := 5) rfl
      have eHG6 := HG.out.at_ (j := 6) rfl
      have eHR0 := HR.out.at_ (j := 0) rfl
      have eHR1 := HR.out.at_ (j := 1) rfl
      have eHR2 := HR.out.at_ (j := 2) rfl
      have eHR3 := HR.out.at_ (j := 3) rfl
      have eHR4 := HR.out.at_ (j := 4) rfl
      have eHR5 := HR.out.at_ (j := 5) rfl
      have eHR6 := HR.out.at_ (j := 6) rfl
      have fHG0 := HG.out.free 0
      have fHG1 := HG.out.free 1
      have fHG2 := HG.out.free 2
      have fHG3 := HG.out.free 3
      have fHG4 := HG.out.free 4
      have fHG5 := HG.out.free 5
      have fHG6 := HG.out.free 6
      go_wp2_with fail
      refine Calls.mono (C2.out _) ?_
      rintro e w2 ⟨rfl, hb1⟩
      replace HG := Lib.hid ((HG.out).new hb1)
      replace HR := Lib.hid ((HR.out).new hb1)
      replace HB := Lib.hid (below_trans (HB.out) hb1 (Nat.le_refl _))
      have lHG : w.heap.size < w2.heap.size := HG.out.lt
      have lHR : w.heap.size + 1 < w2.heap.size := HR.out.lt
      clear hb1
      have eHG0 := HG.out.at_ (j := 0) rfl
      have eHG1 := HG.out.at_ (j := 1) rfl
      have eHG2 := HG.out.at_ (j := 2) rfl
      have eHG3 := HG.out.at_ (j := 3) rfl
      have eHG4 := HG.out.at_ (j := 4) rfl
      have eHG5 := HG.out.at_ (j := 5) rfl
      have eHG6 := HG.out.at_ (j := 6) rfl
      have eHR0 := HR.out.at_ (j := 0) rfl
      have eHR1 := HR.out.at_ (j := 1) rfl
      have eHR2 := HR.out.at_ (j := 2) rfl
      have eHR3 := HR.out.at_ (j := 3) rfl
      have eHR4 := HR.out.at_ (j := 4) rfl
      have eHR5 := HR.out.at_ (j := 5) rfl
      have eHR6 := HR.out.at_ (j := 6) rfl
      have fHG0 := HG.out.free 0
      have fHG1 := HG.out.free 1
      have fHG2 := HG.out.free 2
      have fHG3 := HG.out.free 3
      have fHG4 := HG.out.free 4
      have fHG5 := HG.out.free 5
      have fHG6 := HG.out.free 6
      have z5 : (w2.setCell ⟨w.heap.size, 4, none⟩ (.int .i64 p)).cell? ⟨w.heap.size, 5, none⟩ = some (.int .i64 g.f5) := (box_cell (u := .int .i64 p) (j := 4) HG.out).at_ (j := 5) rfl
      go_wp2_with fail
      refine Calls.mono (C3.out _) ?_
      rintro e w3 ⟨rfl, hb1⟩
      replace HG := Lib.hid (((box_cell (u := .int .i64 p) (j := 4) HG.out)).new hb1)
      replace HR := Lib.hid (((box_cell_far (g := w.heap.size) (j := 4) (u := .int .i64 p) HR.out (by omega))).new hb1)
      replace HG := Lib.hid (show BoxAt w3 (w.heap.size) 50 #[.int .i64 g.f0, .int .i64 g.f1, .int .i64 g.f2, .int .i64 g.f3, .int .i64 p, .int .i64 g.f5, .bool g.f6] from HG.out)
      replace HB := Lib.hid (below_trans ((HB.out.setCell (by first | exact Nat.le_refl _ | (simp; done) | (simp; omega) | omega) _)) hb1 (Nat.le_refl _))
      have lHG : w.heap.size < w3.heap.size := HG.out.lt
      have lHR : w.heap.size + 1 < w3.heap.size := HR.out.lt
      clear hb1
      have eHG0 := HG.out.at_ (j := 0) rfl
      have eHG1 := HG.out.at_ (j := 1) rfl
      have eHG2 := HG.out.at_ (j := 2) rfl
      have eHG3 := HG.out.at_ (j := 3) rfl
      have eHG4 := HG.out.at_ (j := 4) rfl
      have eHG5 := HG.out.at_ (j := 5) rfl
      have eHG6 := HG.out.at_ (j := 6) rfl
      have eHR0 := HR.out.at_ (j := 0) rfl
      have eHR1 := HR.out.at_ (j := 1) rfl
      have eHR2 := HR.out.at_ (j := 2) rfl
      have eHR3 := HR.out.at_ (j := 3) rfl
      have eHR4 := HR.out.at_ (j := 4) rfl
      have eHR5 := HR.out.at_ (j := 5) rfl
      have eHR6 := HR.out.at_ (j := 6) rfl
      have fHG0 := HG.out.free 0
      have fHG1 := HG.out.free 1
      have fHG2 := HG.out.free 2
      have fHG3 := HG.out.free 3
      have fHG4 := HG.out.free 4
      have fHG5 := HG.out.free 5
      have fHG6 := HG.out.free 6
      have y0 := (box_cell (u := .int .i64 q) (j := 5) HG.out).at_ (j := 0) rfl
      have y1 := (box_cell (u := .int .i64 q) (j := 5) HG.out).at_ (j := 1) rfl
      have y2 := (box_cell (u := .int .i64 q) (j := 5) HG.out).at_ (j := 2) rfl
      have y3 := (box_cell (u := .int .i64 q) (j := 5) HG.out).at_ (j := 3) rfl
      have y4 := (box_cell (u := .int .i64 q) (j := 5) HG.out).at_ (j := 4) rfl
      have y5 := (box_cell (u := .int .i64 q) (j := 5) HG.out).at_ (j := 5) rfl
      have y6 := (box_cell (u := .int .i64 q) (j := 5) HG.out).at_ (j := 6) rfl
      go_wp2_with fail
      refine Calls.mono (C1.out _) ?_
      rintro e w4 ⟨rfl, hb1⟩
      replace HG := Lib.hid (((box_cell (u := .int .i64 q) (j := 5) HG.out)).new hb1)
      replace HR := Lib.hid (((box_cell_far (g := w.heap.size) (j := 5) (u := .int .i64 q) HR.out (by omega))).new hb1)
      replace HG := Lib.hid (show BoxAt w4 (w.heap.size) 50 #[.int .i64 g.f0, .int .i64 g.f1, .int .i64 g.f2, .int .i64 g.f3, .int .i64 p, .int .i64 q, .bool g.f6] from HG.out)
      replace HB := Lib.hid (below_trans ((HB.out.setCell (by first | exact Nat.le_refl _ | (simp; done) | (simp; omega) | omega) _)) hb1 (Nat.le_refl _))
      have lHG : w.heap.size < w4.heap.size := HG.out.lt
      have lHR : w.heap.size + 1 < w4.heap.size := HR.out.lt
      clear hb1
      have eHG0 := HG.out.at_ (j := 0) rfl
      have eHG1 := HG.out.at_ (j := 1) rfl
      have eHG2 := HG.out.at_ (j := 2) rfl
      have eHG3 := HG.out.at_ (j := 3) rfl
      have eHG4 := HG.out.at_ (j := 4) rfl
      have eHG5 := HG.out.at_ (j := 5) rfl
      have eHG6 := HG.out.at_ (j := 6) rfl
      have eHR0 := HR.out.at_ (j := 0) rfl
      have eHR1 := HR.out.at_ (j := 1) rfl
      have eHR2 := HR.out.at_ (j := 2) rfl
      have eHR3 := HR.out.at_ (j := 3) rfl
      have eHR4 := HR.out.at_ (j := 4) rfl
      have eHR5 := HR.out.at_ (j := 5) rfl
      have eHR6 := HR.out.at_ (j := 6) rfl
      have fHG0 := HG.out.free 0
      have fHG1 := HG.out.free 1
      have fHG2 := HG.out.free 2
      have fHG3 := HG.out.free 3
      have fHG4 := HG.out.free 4
      have fHG5 := HG.out.free 5
      have fHG6 := HG.out.free 6
      have HR2 := HR
      go_wp2_with (refine wpList_store_row rfl 50 _ _ rfl (w.heap.size + 1) #[.int .i64 g.f0, .int .i64 g.f1, .int .i64 g.f2, .int .i64 g.f3, .int .i64 p, .int .i64 q, .bool g.f6] rfl rfl 50 _ HR2.out (by kernel_rfl) (by kernel_rfl) (by kernel_rfl) ?_)
      have k0 := (box_row (cs := #[.int .i64 g.f0, .int .i64 g.f1, .int .i64 g.f2, .int .i64 g.f3, .int .i64 p, .int .i64 q, .bool g.f6]) HR2.out).at_ (j := 0) rfl
      have k1 := (box_row (cs := #[.int .i64 g.f0, .int .i64 g.f1, .int .i64 g.f2, .int .i64 g.f3, .int .i64 p, .int .i64 q, .bool g.f6]) HR2.out).at_ (j := 1) rfl
      have k2 := (box_row (cs := #[.int .i64 g.f0, .int .i64 g.f1, .int .i64 g.f2, .int .i64 g.f3, .int .i64 p, .int .i64 q, .bool g.f6]) HR2.out).at_ (j := 2) rfl
      have k3 := (box_row (cs := #[.int .i64 g.f0, .int .i64 g.f1, .int .i64 g.f2, .int .i64 g.f3, .int .i64 p, .int .i64 q, .bool g.f6]) HR2.out).at_ (j := 3) rfl
      have k4 := (box_row (cs := #[.int .i64 g.f0, .int .i64 g.f1, .int .i64 g.f2, .int .i64 g.f3, .int .i64 p, .int .i64 q, .bool g.f6]) HR2.out).at_ (j := 4) rfl
      have k5 := (box_row (cs := #[.int .i64 g.f0, .int .i64 g.f1, .int .i64 g.f2, .int .i64 g.f3, .int .i64 p, .int .i64 q, .bool g.f6]) HR2.out).at_ (j := 5) rfl
      have k6 := (box_row (cs := #[.int .i64 g.f0, .int .i64 g.f1, .int .i64 g.f2, .int .i64 g.f3, .int .i64 p, .int .i64 q, .bool g.f6]) HR2.out).at_ (j := 6) rfl
      exact bodyPost_ret (v := .tuple #[vGrant ⟨g.f0, g.f1, g.f2, g.f3, p, q, g.f6⟩, .bool true]) (by simp [results, Try.results36, go_sem, k0, k1, k2, k3, k4, k5, k6]) rfl ⟨rfl, (below_setRow HB.out (by omega) _)⟩
end Go.Proofs.Ytagabcnjpmpppaa
