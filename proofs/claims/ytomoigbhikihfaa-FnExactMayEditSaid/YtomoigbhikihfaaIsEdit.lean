/- IsEdit, of the program and of the model, answer whether each field lies in its range. -/
import Derived.Test.YtomoigbhikihfaaTEdit
import Derived.Test.YtomoigbhikihfaaIn
namespace Go.Proofs.Ytomoigbhikihfaa
open Go Go.ChangeShapes Go.WideShapes Go.ChangeAt Go.RowKit Go.Lib
set_option linter.unusedVariables false
set_option maxRecDepth 100000
theorem bcells {W w1 : World} (hb : Below W.heap.size W w1) : (∀ b o, b < W.heap.size → w1.cell? ⟨b, o, none⟩ = W.cell? ⟨b, o, none⟩) :=
  fun b o h => hb.cell (p := ⟨b, o, none⟩) h
def mIsEdit (a0 : TEdit) : Bool := inR a0.f0 1 4 && inR a0.f1 1 99 && inR a0.f2 0 99 && inR a0.f3 0 9 && inR a0.f4 0 999 && inR a0.f5 0 5
theorem spec_IsEdit (a0 : TEdit) (w : World) (H : Hid a0.fit) :
    Calls Try.prog 46 #[.agg #[.int .i64 a0.f0, .int .i64 a0.f1, .int .i64 a0.f2, .int .i64 a0.f3, .int .i64 a0.f4, .int .i64 a0.f5]] w (Says (.bool (mIsEdit a0)) w) := by
  by_cases h0 : inR a0.f0 1 4 = true
  · skip
    by_cases h1 : inR a0.f1 1 99 = true
    · skip
      by_cases h2 : inR a0.f2 0 99 = true
      · skip
        by_cases h3 : inR a0.f3 0 9 = true
        · skip
          by_cases h4 : inR a0.f4 0 999 = true
          · skip
            by_cases h5 : inR a0.f5 0 5 = true
            · skip
              have HE := Lib.hid (show mIsEdit a0 = true by simp [mIsEdit, h0, h1, h2, h3, h4, h5])
              go_enter Try.func46, Try.ntmps46
              go_wp2_with (first | (go_at_call 60; refine (spec_in _ _ _ _).mono ?_; rintro e w1 ⟨rfl, rfl⟩))
              go_ret
              exact ⟨by rw [HE.out]; rfl, by repeat (first | exact Below.refl _ _ | (refine Below.alloc ?_ (by simp <;> omega) _) | (refine below_dN ?_ _))⟩
            · have h5 : inR a0.f5 0 5 = false := by simpa using h5
              have HE := Lib.hid (show mIsEdit a0 = false by simp [mIsEdit, h0, h1, h2, h3, h4, h5])
              go_enter Try.func46, Try.ntmps46
              go_wp2_with (first | (go_at_call 60; refine (spec_in _ _ _ _).mono ?_; rintro e w1 ⟨rfl, rfl⟩))
              go_ret
              exact ⟨by rw [HE.out]; rfl, by repeat (first | exact Below.refl _ _ | (refine Below.alloc ?_ (by simp <;> omega) _) | (refine below_dN ?_ _))⟩
          · have h4 : inR a0.f4 0 999 = false := by simpa using h4
            have HE := Lib.hid (show mIsEdit a0 = false by simp [mIsEdit, h0, h1, h2, h3, h4])
            go_enter Try.func46, Try.ntmps46
            go_wp2_with (first | (go_at_call 60; refine (spec_in _ _ _ _).mono ?_; rintro e w1 ⟨rfl, rfl⟩))
            go_ret
            exact ⟨by rw [HE.out]; rfl, by repeat (first | exact Below.refl _ _ | (refine Below.alloc ?_ (by simp <;> omega) _) | (refine below_dN ?_ _))⟩
        · have h3 : inR a0.f3 0 9 = false := by simpa using h3
          have HE := Lib.hid (show mIsEdit a0 = false by simp [mIsEdit, h0, h1, h2, h3])
          go_enter Try.func46, Try.ntmps46
          go_wp2_with (first | (go_at_call 60; refine (spec_in _ _ _ _).mono ?_; rintro e w1 ⟨rfl, rfl⟩))
          go_ret
          exact ⟨by rw [HE.out]; rfl, by repeat (first | exact Below.refl _ _ | (refine Below.alloc ?_ (by simp <;> omega) _) | (refine below_dN ?_ _))⟩
      · have h2 : inR a0.f2 0 99 = false := by simpa using h2
        have HE := Lib.hid (show mIsEdit a0 = false by simp [mIsEdit, h0, h1, h2])
        go_enter Try.func46, Try.ntmps46
        go_wp2_with (first | (go_at_call 60; refine (spec_in _ _ _ _).mono ?_; rintro e w1 ⟨rfl, rfl⟩))
        go_ret
        exact ⟨by rw [HE.out]; rfl, by repeat (first | exact Below.refl _ _ | (refine Below.alloc ?_ (by simp <;> omega) _) | (refine below_dN ?_ _))⟩
    · have h1 : inR a0.f1 1 99 = false := by simpa using h1
      have HE := Lib.hid (show mIsEdit a0 = false by simp [mIsEdit, h0, h1])
      go_enter Try.func46, Try.ntmps46
      go_wp2_with (first | (go_at_call 60; refine (spec_in _ _ _ _).mono ?_; rintro e w1 ⟨rfl, rfl⟩))
      go_ret
      exact ⟨by rw [HE.out]; rfl, by repeat (first | exact Below.refl _ _ | (refine Below.alloc ?_ (by simp <;> omega) _) | (refine below_dN ?_ _))⟩
  · have h0 : inR a0.f0 1 4 = false := by simpa using h0
    have HE := Lib.hid (show mIsEdit a0 = false by simp [mIsEdit, h0])
    go_enter Try.func46, Try.ntmps46
    go_wp2_with (first | (go_at_call 60; refine (spec_in _ _ _ _).mono ?_; rintro e w1 ⟨rfl, rfl⟩))
    go_ret
    exact ⟨by rw [HE.out]; rfl, by repeat (first | exact Below.refl _ _ | (refine Below.alloc ?_ (by simp <;> omega) _) | (refine below_dN ?_ _))⟩

/-- What the program makes of an edit: a value of the type of its kind. -/
def changeVal (a0 : TEdit) : Value :=
  if a0.f0 = 1 then .iface 99 (.agg #[.int .i64 a0.f0, .int .i64 a0.f1, .int .i64 a0.f2, .int .i64 a0.f3, .int .i64 a0.f4, .int .i64 a0.f5]) else
  if a0.f0 = 2 then .iface 100 (.agg #[.int .i64 a0.f0, .int .i64 a0.f1, .int .i64 a0.f2, .int .i64 a0.f3, .int .i64 a0.f4, .int .i64 a0.f5]) else
  if a0.f0 = 3 then .iface 101 (.agg #[.int .i64 a0.f0, .int .i64 a0.f1, .int .i64 a0.f2, .int .i64 a0.f3, .int .i64 a0.f4, .int .i64 a0.f5]) else
  if a0.f0 = 4 then .iface 102 (.agg #[.int .i64 a0.f0, .int .i64 a0.f1, .int .i64 a0.f2, .int .i64 a0.f3, .int .i64 a0.f4, .int .i64 a0.f5]) else .nilIface
/-- What kind of edit it is: known just if the kind is one of the four. -/
def ChangeOf (x : TEdit) (w : World) (e : Ending) (w' : World) : Prop := e = .returned (.tuple #[changeVal x, .bool (inR x.f0 1 4)]) ∧ Below w.heap.size w w'
theorem impl_changeOf (a0 : TEdit) (w : World) : Calls Try.prog 67 #[.agg #[.int .i64 a0.f0, .int .i64 a0.f1, .int .i64 a0.f2, .int .i64 a0.f3, .int .i64 a0.f4, .int .i64 a0.f5]] w (ChangeOf a0 w) := by
  by_cases h1 : (a0.f0 == 1) = true
  · have e0 : a0.f0 = 1 := by simpa using h1
    have HE := Lib.hid (show inR a0.f0 1 4 = true by rw [inR_true]; omega)
    have HV := Lib.hid (show changeVal a0 = .iface 99 (.agg #[.int .i64 a0.f0, .int .i64 a0.f1, .int .i64 a0.f2, .int .i64 a0.f3, .int .i64 a0.f4, .int .i64 a0.f5]) by unfold changeVal; rw [if_pos e0])
    clear e0
    go_enter Try.func67, Try.ntmps67
    go_wp2
    go_ret2
    exact ⟨by rw [HE.out, HV.out]; rfl, (Below.refl _ _).alloc (Nat.le_refl _) _⟩
  · have h1 : (a0.f0 == 1) = false := by simpa using h1
    by_cases h2 : (a0.f0 == 2) = true
    · have e0 : a0.f0 = 2 := by simpa using h2
      have HE := Lib.hid (show inR a0.f0 1 4 = true by rw [inR_true]; omega)
      have HV := Lib.hid (show changeVal a0 = .iface 100 (.agg #[.int .i64 a0.f0, .int .i64 a0.f1, .int .i64 a0.f2, .int .i64 a0.f3, .int .i64 a0.f4, .int .i64 a0.f5]) by unfold changeVal; rw [if_neg (by omega)]; rw [if_pos e0])
      clear e0
      go_enter Try.func67, Try.ntmps67
      go_wp2
      go_ret2
      exact ⟨by rw [HE.out, HV.out]; rfl, (Below.refl _ _).alloc (Nat.le_refl _) _⟩
    · have h2 : (a0.f0 == 2) = false := by simpa using h2
      by_cases h3 : (a0.f0 == 3) = true
      · have e0 : a0.f0 = 3 := by simpa using h3
        have HE := Lib.hid (show inR a0.f0 1 4 = true by rw [inR_true]; omega)
        have HV := Lib.hid (show changeVal a0 = .iface 101 (.agg #[.int .i64 a0.f0, .int .i64 a0.f1, .int .i64 a0.f2, .int .i64 a0.f3, .int .i64 a0.f4, .int .i64 a0.f5]) by unfold changeVal; rw [if_neg (by omega)]; rw [if_neg (by omega)]; rw [if_pos e0])
        clear e0
        go_enter Try.func67, Try.ntmps67
        go_wp2
        go_ret2
        exact ⟨by rw [HE.out, HV.out]; rfl, (Below.refl _ _).alloc (Nat.le_refl _) _⟩
      · have h3 : (a0.f0 == 3) = false := by simpa using h3
        by_cases h4 : (a0.f0 == 4) = true
        · have e0 : a0.f0 = 4 := by simpa using h4
          have HE := Lib.hid (show inR a0.f0 1 4 = true by rw [inR_true]; omega)
          have HV := Lib.hid (show changeVal a0 = .iface 102 (.agg #[.int .i64 a0.f0, .int .i64 a0.f1, .int .i64 a0.f2, .int .i64 a0.f3, .int .i64 a0.f4, .int .i64 a0.f5]) by unfold changeVal; rw [if_neg (by omega)]; rw [if_neg (by omega)]; rw [if_neg (by omega)]; rw [if_pos e0])
          clear e0
          go_enter Try.func67, Try.ntmps67
          go_wp2
          go_ret2
          exact ⟨by rw [HE.out, HV.out]; rfl, (Below.refl _ _).alloc (Nat.le_refl _) _⟩
        · have h4 : (a0.f0 == 4) = false := by simpa using h4
          have m1 : a0.f0 ≠ 1 ∧ a0.f0 ≠ 2 ∧ a0.f0 ≠ 3 ∧ a0.f0 ≠ 4 := by simp at h1 h2 h3 h4; exact ⟨h1, h2, h3, h4⟩
          have HE := Lib.hid (show inR a0.f0 1 4 = false by rw [inR_false]; omega)
          have HV := Lib.hid (show changeVal a0 = .nilIface by unfold changeVal; rw [if_neg m1.1, if_neg m1.2.1, if_neg m1.2.2.1, if_neg m1.2.2.2])
          clear m1
          go_enter Try.func67, Try.ntmps67
          go_wp2
          go_ret2
          exact ⟨by rw [HE.out, HV.out]; rfl, (Below.refl _ _).alloc (Nat.le_refl _) _⟩
theorem impl_IsEdit_any (a0 : TEdit) (w : World) :
    Calls Try.prog 48 #[.agg #[.int .i64 a0.f0, .int .i64 a0.f1, .int .i64 a0.f2, .int .i64 a0.f3, .int .i64 a0.f4, .int .i64 a0.f5]] w (Says (.bool (mIsEdit a0)) w) := by
  by_cases h0 : inR a0.f0 1 4 = true
  · skip
    by_cases h1 : inR a0.f1 1 99 = true
    · skip
      by_cases h2 : inR a0.f2 0 99 = true
      · skip
        by_cases h3 : inR a0.f3 0 9 = true
        · skip
          by_cases h4 : inR a0.f4 0 999 = true
          · skip
            by_cases h5 : inR a0.f5 0 5 = true
            · skip
              have HE := Lib.hid (show mIsEdit a0 = true by simp [mIsEdit, h0, h1, h2, h3, h4, h5])
              go_enter Try.func48, Try.ntmps48
              go_wp2_with (first | (go_at_call 68; refine (impl_in _ _ _ _).mono ?_; rintro e w1 ⟨rfl, rfl⟩) | (go_at_call 67; refine (impl_changeOf a0 _).mono ?_; rintro e w1 ⟨rfl, hb⟩; have hbb := ((Below.refl w.heap.size w).alloc (Nat.le_refl _) _).trans (hb.mono (by simp)); have hcell0 := bcells hb; clear hb))
              go_ret
              exact ⟨by rw [HE.out]; rfl, hbb⟩
            · have h5 : inR a0.f5 0 5 = false := by simpa using h5
              have HE := Lib.hid (show mIsEdit a0 = false by simp [mIsEdit, h0, h1, h2, h3, h4, h5])
              go_enter Try.func48, Try.ntmps48
              go_wp2_with (first | (go_at_call 68; refine (impl_in _ _ _ _).mono ?_; rintro e w1 ⟨rfl, rfl⟩) | (go_at_call 67; refine (impl_changeOf a0 _).mono ?_; rintro e w1 ⟨rfl, hb⟩; have hbb := ((Below.refl w.heap.size w).alloc (Nat.le_refl _) _).trans (hb.mono (by simp)); have hcell0 := bcells hb; clear hb))
              go_ret
              exact ⟨by rw [HE.out]; rfl, hbb⟩
          · have h4 : inR a0.f4 0 999 = false := by simpa using h4
            have HE := Lib.hid (show mIsEdit a0 = false by simp [mIsEdit, h0, h1, h2, h3, h4])
            go_enter Try.func48, Try.ntmps48
            go_wp2_with (first | (go_at_call 68; refine (impl_in _ _ _ _).mono ?_; rintro e w1 ⟨rfl, rfl⟩) | (go_at_call 67; refine (impl_changeOf a0 _).mono ?_; rintro e w1 ⟨rfl, hb⟩; have hbb := ((Below.refl w.heap.size w).alloc (Nat.le_refl _) _).trans (hb.mono (by simp)); have hcell0 := bcells hb; clear hb))
            go_ret
            exact ⟨by rw [HE.out]; rfl, hbb⟩
        · have h3 : inR a0.f3 0 9 = false := by simpa using h3
          have HE := Lib.hid (show mIsEdit a0 = false by simp [mIsEdit, h0, h1, h2, h3])
          go_enter Try.func48, Try.ntmps48
          go_wp2_with (first | (go_at_call 68; refine (impl_in _ _ _ _).mono ?_; rintro e w1 ⟨rfl, rfl⟩) | (go_at_call 67; refine (impl_changeOf a0 _).mono ?_; rintro e w1 ⟨rfl, hb⟩; have hbb := ((Below.refl w.heap.size w).alloc (Nat.le_refl _) _).trans (hb.mono (by simp)); have hcell0 := bcells hb; clear hb))
          go_ret
          exact ⟨by rw [HE.out]; rfl, hbb⟩
      · have h2 : inR a0.f2 0 99 = false := by simpa using h2
        have HE := Lib.hid (show mIsEdit a0 = false by simp [mIsEdit, h0, h1, h2])
        go_enter Try.func48, Try.ntmps48
        go_wp2_with (first | (go_at_call 68; refine (impl_in _ _ _ _).mono ?_; rintro e w1 ⟨rfl, rfl⟩) | (go_at_call 67; refine (impl_changeOf a0 _).mono ?_; rintro e w1 ⟨rfl, hb⟩; have hbb := ((Below.refl w.heap.size w).alloc (Nat.le_refl _) _).trans (hb.mono (by simp)); have hcell0 := bcells hb; clear hb))
        go_ret
        exact ⟨by rw [HE.out]; rfl, hbb⟩
    · have h1 : inR a0.f1 1 99 = false := by simpa using h1
      have HE := Lib.hid (show mIsEdit a0 = false by simp [mIsEdit, h0, h1])
      go_enter Try.func48, Try.ntmps48
      go_wp2_with (first | (go_at_call 68; refine (impl_in _ _ _ _).mono ?_; rintro e w1 ⟨rfl, rfl⟩) | (go_at_call 67; refine (impl_changeOf a0 _).mono ?_; rintro e w1 ⟨rfl, hb⟩; have hbb := ((Below.refl w.heap.size w).alloc (Nat.le_refl _) _).trans (hb.mono (by simp)); have hcell0 := bcells hb; clear hb))
      go_ret
      exact ⟨by rw [HE.out]; rfl, hbb⟩
  · have h0 : inR a0.f0 1 4 = false := by simpa using h0
    have HE := Lib.hid (show mIsEdit a0 = false by simp [mIsEdit, h0])
    go_enter Try.func48, Try.ntmps48
    go_wp2_with (first | (go_at_call 68; refine (impl_in _ _ _ _).mono ?_; rintro e w1 ⟨rfl, rfl⟩) | (go_at_call 67; refine (impl_changeOf a0 _).mono ?_; rintro e w1 ⟨rfl, hb⟩; have hbb := ((Below.refl w.heap.size w).alloc (Nat.le_refl _) _).trans (hb.mono (by simp)); have hcell0 := bcells hb; clear hb))
    go_ret
    exact ⟨by rw [HE.out]; rfl, hbb⟩
theorem impl_IsEdit (a0 : TEdit) (w : World) (H : Hid a0.fit) :
    Calls Try.prog 48 #[.agg #[.int .i64 a0.f0, .int .i64 a0.f1, .int .i64 a0.f2, .int .i64 a0.f3, .int .i64 a0.f4, .int .i64 a0.f5]] w (Says (.bool (mIsEdit a0)) w) := impl_IsEdit_any a0 w
end Go.Proofs.Ytomoigbhikihfaa
