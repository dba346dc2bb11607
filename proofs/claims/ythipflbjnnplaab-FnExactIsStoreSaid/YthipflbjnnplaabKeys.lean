/- The keys and the values of stored entries, of the program and of the model. -/
import Derived.Test.YthipflbjnnplaabTStored
import Derived.Test.YthipflbjnnplaabIn
import Derived.Test.YthipflbjnnplaabCmpOr
import Derived.Deep.RegionHeld3
namespace Go.Proofs.Ythipflbjnnplaab
open Go Go.ChangeShapes Go.WideShapes Go.ChangeAt Go.RowKit Go.Lib
set_option linter.unusedVariables false
set_option linter.unusedSimpArgs false
set_option maxRecDepth 100000
def vStored (x : TStored) : Value := .agg #[.int .i64 x.f0, .int .i64 x.f1, .int .i64 x.f2, .int .i64 x.f3]
def mKeys (a b : TStored) : Int := mOr [mCmp a.f0 b.f0, mCmp a.f1 b.f1]
def mStLess (a b : TStored) : Bool := decide (a.f0 < b.f0) || (a.f0 == b.f0 && decide (a.f1 < b.f1))
def mStVals (x : TStored) : Bool := inR x.f0 1 5 && inR x.f1 0 9 && inR x.f2 0 999 && inR x.f3 1 999
theorem mKeys_neg (a b : TStored) : decide (mKeys a b < 0) = mStLess a b := by
  unfold mKeys mStLess
  rw [mOr_cons, mOr_cons]
  have hn : mOr [] = 0 := rfl
  rw [hn, Bool.eq_iff_iff]
  simp only [mCmp_zero, decide_eq_true_eq, Bool.or_eq_true, Bool.and_eq_true, beq_iff_eq]
  have h0 := mCmp_neg a.f0 b.f0
  have h1 := mCmp_neg a.f1 b.f1
  have h2 := mCmp_zero a.f1 b.f1
  split
  · split <;> omega
  · omega
theorem mKeys_ge (a b : TStored) : decide (0 ≤ mKeys a b) = !mStLess a b := by
  rw [← mKeys_neg, Bool.eq_iff_iff]; simp
theorem mKeys_zero (a b : TStored) : mKeys a b = 0 ↔ a.f0 = b.f0 ∧ a.f1 = b.f1 := by
  unfold mKeys
  rw [mOr_cons, mOr_cons]
  have hn : mOr [] = 0 := rfl
  rw [hn]
  simp only [mCmp_zero]
  have h2 := mCmp_zero a.f1 b.f1
  have h3 := mCmp_zero a.f0 b.f0
  split
  · split <;> omega
  · omega
set_option maxHeartbeats 16000000 in
theorem impl_compareKeys (a b : TStored) (w : World) :
    Calls Try.prog 75 #[vStored a, vStored b] w (Says (.int .i64 (mKeys a b)) w) := by
  have KB0 : BoxAt ((w.alloc (.cells #[.int .i64 a.f0, .int .i64 a.f1, .int .i64 a.f2, .int .i64 a.f3] 98)).alloc (.cells #[.int .i64 b.f0, .int .i64 b.f1, .int .i64 b.f2, .int .i64 b.f3] 98)) w.heap.size 98 #[.int .i64 a.f0, .int .i64 a.f1, .int .i64 a.f2, .int .i64 a.f3] := (box_new w _ _).alloc_ _
  have KB1 : BoxAt ((w.alloc (.cells #[.int .i64 a.f0, .int .i64 a.f1, .int .i64 a.f2, .int .i64 a.f3] 98)).alloc (.cells #[.int .i64 b.f0, .int .i64 b.f1, .int .i64 b.f2, .int .i64 b.f3] 98)) (w.heap.size + 1) 98 #[.int .i64 b.f0, .int .i64 b.f1, .int .i64 b.f2, .int .i64 b.f3] := by simpa using box_new (w.alloc (.cells #[.int .i64 a.f0, .int .i64 a.f1, .int .i64 a.f2, .int .i64 a.f3] 98)) 98 #[.int .i64 b.f0, .int .i64 b.f1, .int .i64 b.f2, .int .i64 b.f3]
  have hs3 : (((w.alloc (.cells #[.int .i64 a.f0, .int .i64 a.f1, .int .i64 a.f2, .int .i64 a.f3] 98)).alloc (.cells #[.int .i64 b.f0, .int .i64 b.f1, .int .i64 b.f2, .int .i64 b.f3] 98)).drew).heap.size = w.heap.size + 1 + 1 := by simp
  have hRl := rd_lit (((w.alloc (.cells #[.int .i64 a.f0, .int .i64 a.f1, .int .i64 a.f2, .int .i64 a.f3] 98)).alloc (.cells #[.int .i64 b.f0, .int .i64 b.f1, .int .i64 b.f2, .int .i64 b.f3] 98)).drew) #[.int .i64 (mCmp a.f0 b.f0), .int .i64 (mCmp a.f1 b.f1)] 3 2 1 rfl
  rw [hs3] at hRl
  have HRl := Lib.hid hRl
  clear hRl hs3
  have HE := Lib.hid (show mOr [mCmp a.f0 b.f0, mCmp a.f1 b.f1] = mKeys a b from rfl)
  change Calls Try.prog 75 #[.agg #[.int .i64 a.f0, .int .i64 a.f1, .int .i64 a.f2, .int .i64 a.f3], .agg #[.int .i64 b.f0, .int .i64 b.f1, .int .i64 b.f2, .int .i64 b.f3]] w _
  go_enter Try.func75, Try.ntmps75
  go_wp2_with fail
  replace KB0 := KB0.drw
  replace KB1 := KB1.drw
  go_region_held3 (fun w' => w'.cell? ⟨w.heap.size, 0, none⟩ = some (.int .i64 a.f0) ∧ w'.cell? ⟨w.heap.size, 1, none⟩ = some (.int .i64 a.f1) ∧ w'.cell? ⟨w.heap.size + 1, 0, none⟩ = some (.int .i64 b.f0) ∧ w'.cell? ⟨w.heap.size + 1, 1, none⟩ = some (.int .i64 b.f1))
    (first | exact ⟨KB0.at_ rfl, KB0.at_ rfl, KB1.at_ rfl, KB1.at_ rfl⟩ | exact ⟨(KB0.alloc_ _).at_ rfl, (KB0.alloc_ _).at_ rfl, (KB1.alloc_ _).at_ rfl, (KB1.alloc_ _).at_ rfl⟩)
    (first
      | (go_at_call 130; refine (impl_cmp _ _ _).mono ?_; rintro e w1 ⟨rfl, rfl⟩)
      | (go_at_call 129; refine Calls.mono (impl_Or [mCmp a.f0 b.f0, mCmp a.f1 b.f1] _ 2 2 _ _ _ (by omega) HRl.out) ?_; rintro e w1 ⟨rfl, rfl⟩))
  go_wp2_with fail
  go_ret
  exact ⟨by rw [← HE.out]; rfl, by repeat (first | with_reducible exact Below.refl _ _ | (with_reducible refine below_step ?_ (by assumption) (by first | omega | (simp; done) | (simp <;> omega))) | (with_reducible refine Below.alloc ?_ (by first | omega | (simp; done) | (simp <;> omega)) _) | (with_reducible refine Below.setCell ?_ (by first | omega | (simp; done) | (simp <;> omega)) _) | (with_reducible refine Below.drew ?_) | (with_reducible refine below_dN ?_ _) | (refine Below.alloc ?_ (by first | omega | (simp; done) | (simp <;> omega)) _))⟩

set_option maxHeartbeats 40000000 in
theorem spec_less (a b : TStored) (w : World) :
    Calls Try.prog 71 #[vStored a, vStored b] w (Says (.bool (mStLess a b)) w) := by
  by_cases h0 : (decide (a.f0 < b.f0)) = true
  · skip
    have HE := Lib.hid (show mStLess a b = true by simp [mStLess, h0])
    change Calls Try.prog _ #[.agg #[.int .i64 a.f0, .int .i64 a.f1, .int .i64 a.f2, .int .i64 a.f3], .agg #[.int .i64 b.f0, .int .i64 b.f1, .int .i64 b.f2, .int .i64 b.f3]] w _
    go_enter Try.func71, Try.ntmps71
    go_wp2_with fail
    go_ret
    exact ⟨by rw [HE.out]; rfl, by repeat (first | with_reducible exact Below.refl _ _ | (with_reducible refine below_step ?_ (by assumption) (by first | omega | (simp; done) | (simp <;> omega))) | (with_reducible refine Below.alloc ?_ (by first | omega | (simp; done) | (simp <;> omega)) _) | (with_reducible refine Below.setCell ?_ (by first | omega | (simp; done) | (simp <;> omega)) _) | (with_reducible refine Below.drew ?_) | (with_reducible refine below_dN ?_ _) | (refine Below.alloc ?_ (by first | omega | (simp; done) | (simp <;> omega)) _))⟩
  · have h0 : (decide (a.f0 < b.f0)) = false := by simpa using h0
    by_cases h1 : (a.f0 == b.f0) = true
    · skip
      by_cases h2 : (decide (a.f1 < b.f1)) = true
      · skip
        have HE := Lib.hid (show mStLess a b = true by simp [mStLess, h0, h1, h2])
        change Calls Try.prog _ #[.agg #[.int .i64 a.f0, .int .i64 a.f1, .int .i64 a.f2, .int .i64 a.f3], .agg #[.int .i64 b.f0, .int .i64 b.f1, .int .i64 b.f2, .int .i64 b.f3]] w _
        go_enter Try.func71, Try.ntmps71
        go_wp2_with fail
        go_ret
        exact ⟨by rw [HE.out]; rfl, by repeat (first | with_reducible exact Below.refl _ _ | (with_reducible refine below_step ?_ (by assumption) (by first | omega | (simp; done) | (simp <;> omega))) | (with_reducible refine Below.alloc ?_ (by first | omega | (simp; done) | (simp <;> omega)) _) | (with_reducible refine Below.setCell ?_ (by first | omega | (simp; done) | (simp <;> omega)) _) | (with_reducible refine Below.drew ?_) | (with_reducible refine below_dN ?_ _) | (refine Below.alloc ?_ (by first | omega | (simp; done) | (simp <;> omega)) _))⟩
      · have h2 : (decide (a.f1 < b.f1)) = false := by simpa using h2
        have HE := Lib.hid (show mStLess a b = false by simp [mStLess, h0, h1, h2])
        change Calls Try.prog _ #[.agg #[.int .i64 a.f0, .int .i64 a.f1, .int .i64 a.f2, .int .i64 a.f3], .agg #[.int .i64 b.f0, .int .i64 b.f1, .int .i64 b.f2, .int .i64 b.f3]] w _
        go_enter Try.func71, Try.ntmps71
        go_wp2_with fail
        go_ret
        exact ⟨by rw [HE.out]; rfl, by repeat (first | with_reducible exact Below.refl _ _ | (with_reducible refine below_step ?_ (by assumption) (by first | omega | (simp; done) | (simp <;> omega))) | (with_reducible refine Below.alloc ?_ (by first | omega | (simp; done) | (simp <;> omega)) _) | (with_reducible refine Below.setCell ?_ (by first | omega | (simp; done) | (simp <;> omega)) _) | (with_reducible refine Below.drew ?_) | (with_reducible refine below_dN ?_ _) | (refine Below.alloc ?_ (by first | omega | (simp; done) | (simp <;> omega)) _))⟩
    · have h1 : (a.f0 == b.f0) = false := by simpa using h1
      have HE := Lib.hid (show mStLess a b = false by simp [mStLess, h0, h1])
      change Calls Try.prog _ #[.agg #[.int .i64 a.f0, .int .i64 a.f1, .int .i64 a.f2, .int .i64 a.f3], .agg #[.int .i64 b.f0, .int .i64 b.f1, .int .i64 b.f2, .int .i64 b.f3]] w _
      go_enter Try.func71, Try.ntmps71
      go_wp2_with fail
      go_ret
      exact ⟨by rw [HE.out]; rfl, by repeat (first | with_reducible exact Below.refl _ _ | (with_reducible refine below_step ?_ (by assumption) (by first | omega | (simp; done) | (simp <;> omega))) | (with_reducible refine Below.alloc ?_ (by first | omega | (simp; done) | (simp <;> omega)) _) | (with_reducible refine Below.setCell ?_ (by first | omega | (simp; done) | (simp <;> omega)) _) | (with_reducible refine Below.drew ?_) | (with_reducible refine below_dN ?_ _) | (refine Below.alloc ?_ (by first | omega | (simp; done) | (simp <;> omega)) _))⟩

set_option maxHeartbeats 40000000 in
theorem impl_stVals (x : TStored) (w : World) :
    Calls Try.prog 74 #[vStored x] w (Says (.bool (mStVals x)) w) := by
  by_cases h0 : (inR x.f0 1 5) = true
  · skip
    by_cases h1 : (inR x.f1 0 9) = true
    · skip
      by_cases h2 : (inR x.f2 0 999) = true
      · skip
        by_cases h3 : (inR x.f3 1 999) = true
        · skip
          have HE := Lib.hid (show mStVals x = true by simp [mStVals, h0, h1, h2, h3])
          change Calls Try.prog _ #[.agg #[.int .i64 x.f0, .int .i64 x.f1, .int .i64 x.f2, .int .i64 x.f3]] w _
          go_enter Try.func74, Try.ntmps74
          go_wp2_with (first | (go_at_call 128; refine (impl_in _ _ _ _).mono ?_; rintro e w1 ⟨rfl, rfl⟩))
          go_ret
          exact ⟨by rw [HE.out]; rfl, by repeat (first | with_reducible exact Below.refl _ _ | (with_reducible refine below_step ?_ (by assumption) (by first | omega | (simp; done) | (simp <;> omega))) | (with_reducible refine Below.alloc ?_ (by first | omega | (simp; done) | (simp <;> omega)) _) | (with_reducible refine Below.setCell ?_ (by first | omega | (simp; done) | (simp <;> omega)) _) | (with_reducible refine Below.drew ?_) | (with_reducible refine below_dN ?_ _) | (refine Below.alloc ?_ (by first | omega | (simp; done) | (simp <;> omega)) _))⟩
        · have h3 : (inR x.f3 1 999) = false := by simpa using h3
          have HE := Lib.hid (show mStVals x = false by simp [mStVals, h0, h1, h2, h3])
          change Calls Try.prog _ #[.agg #[.int .i64 x.f0, .int .i64 x.f1, .int .i64 x.f2, .int .i64 x.f3]] w _
          go_enter Try.func74, Try.ntmps74
          go_wp2_with (first | (go_at_call 128; refine (impl_in _ _ _ _).mono ?_; rintro e w1 ⟨rfl, rfl⟩))
          go_ret
          exact ⟨by rw [HE.out]; rfl, by repeat (first | with_reducible exact Below.refl _ _ | (with_reducible refine below_step ?_ (by assumption) (by first | omega | (simp; done) | (simp <;> omega))) | (with_reducible refine Below.alloc ?_ (by first | omega | (simp; done) | (simp <;> omega)) _) | (with_reducible refine Below.setCell ?_ (by first | omega | (simp; done) | (simp <;> omega)) _) | (with_reducible refine Below.drew ?_) | (with_reducible refine below_dN ?_ _) | (refine Below.alloc ?_ (by first | omega | (simp; done) | (simp <;> omega)) _))⟩
      · have h2 : (inR x.f2 0 999) = false := by simpa using h2
        have HE := Lib.hid (show mStVals x = false by simp [mStVals, h0, h1, h2])
        change Calls Try.prog _ #[.agg #[.int .i64 x.f0, .int .i64 x.f1, .int .i64 x.f2, .int .i64 x.f3]] w _
        go_enter Try.func74, Try.ntmps74
        go_wp2_with (first | (go_at_call 128; refine (impl_in _ _ _ _).mono ?_; rintro e w1 ⟨rfl, rfl⟩))
        go_ret
        exact ⟨by rw [HE.out]; rfl, by repeat (first | with_reducible exact Below.refl _ _ | (with_reducible refine below_step ?_ (by assumption) (by first | omega | (simp; done) | (simp <;> omega))) | (with_reducible refine Below.alloc ?_ (by first | omega | (simp; done) | (simp <;> omega)) _) | (with_reducible refine Below.setCell ?_ (by first | omega | (simp; done) | (simp <;> omega)) _) | (with_reducible refine Below.drew ?_) | (with_reducible refine below_dN ?_ _) | (refine Below.alloc ?_ (by first | omega | (simp; done) | (simp <;> omega)) _))⟩
    · have h1 : (inR x.f1 0 9) = false := by simpa using h1
      have HE := Lib.hid (show mStVals x = false by simp [mStVals, h0, h1])
      change Calls Try.prog _ #[.agg #[.int .i64 x.f0, .int .i64 x.f1, .int .i64 x.f2, .int .i64 x.f3]] w _
      go_enter Try.func74, Try.ntmps74
      go_wp2_with (first | (go_at_call 128; refine (impl_in _ _ _ _).mono ?_; rintro e w1 ⟨rfl, rfl⟩))
      go_ret
      exact ⟨by rw [HE.out]; rfl, by repeat (first | with_reducible exact Below.refl _ _ | (with_reducible refine below_step ?_ (by assumption) (by first | omega | (simp; done) | (simp <;> omega))) | (with_reducible refine Below.alloc ?_ (by first | omega | (simp; done) | (simp <;> omega)) _) | (with_reducible refine Below.setCell ?_ (by first | omega | (simp; done) | (simp <;> omega)) _) | (with_reducible refine Below.drew ?_) | (with_reducible refine below_dN ?_ _) | (refine Below.alloc ?_ (by first | omega | (simp; done) | (simp <;> omega)) _))⟩
  · have h0 : (inR x.f0 1 5) = false := by simpa using h0
    have HE := Lib.hid (show mStVals x = false by simp [mStVals, h0])
    change Calls Try.prog _ #[.agg #[.int .i64 x.f0, .int .i64 x.f1, .int .i64 x.f2, .int .i64 x.f3]] w _
    go_enter Try.func74, Try.ntmps74
    go_wp2_with (first | (go_at_call 128; refine (impl_in _ _ _ _).mono ?_; rintro e w1 ⟨rfl, rfl⟩))
    go_ret
    exact ⟨by rw [HE.out]; rfl, by repeat (first | with_reducible exact Below.refl _ _ | (with_reducible refine below_step ?_ (by assumption) (by first | omega | (simp; done) | (simp <;> omega))) | (with_reducible refine Below.alloc ?_ (by first | omega | (simp; done) | (simp <;> omega)) _) | (with_reducible refine Below.setCell ?_ (by first | omega | (simp; done) | (simp <;> omega)) _) | (with_reducible refine Below.drew ?_) | (with_reducible refine below_dN ?_ _) | (refine Below.alloc ?_ (by first | omega | (simp; done) | (simp <;> omega)) _))⟩

end Go.Proofs.Ythipflbjnnplaab
