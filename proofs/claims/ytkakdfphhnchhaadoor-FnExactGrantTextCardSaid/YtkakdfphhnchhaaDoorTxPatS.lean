/- PatternText of the model. -/
import Derived.Test.YtkakdfphhnchhaaDoorTxPat
import Derived.Deep.RegionHeld3
namespace Go.Proofs.YtkakdfphhnchhaaDoor
open Go Go.ChangeShapes Go.WideShapes Go.ChangeAt Go.RowKit Go.Lib
set_option linter.unusedVariables false
set_option linter.unusedSimpArgs false
set_option maxRecDepth 100000
set_option maxHeartbeats 8000000 in
theorem spec_PatternText (s : TPattern) (w : World) (hT : Pow10 w) (b0 : Hid (TPattern.fit s)) : Calls Tryd.prog 13 #[.agg #[.int .i64 s.f0, .int .i64 s.f1]] w (Says (.string ⟨(tPat s).toArray⟩) w) := by
  have C9 := fun W => spec_IsPattern s W
  have HT := Lib.hid hT
  have C0 := Lib.hid (says_spec s.f0 b0.out.1)
  have C1 := Lib.hid (says_spec s.f1 b0.out.2)
  have hx := itoa_in b0.out.1
  have hy := itoa_in b0.out.2
  have KB0 := Lib.hid (box_new w 30 #[.int .i64 s.f0, .int .i64 s.f1])
  have HB0 := Lib.hid ((Below.refl w.heap.size w).alloc (Nat.le_refl _) (.cells #[.int .i64 s.f0, .int .i64 s.f1] 30))
  clear hT
  unfold tPat
  generalize mIsPattern s = ok at C9 ⊢
  cases ok with
  | false =>
    go_enter Tryd.func13, Tryd.ntmps13
    go_wp2_with fail
    refine (C9 _).mono ?_
    rintro e w1 ⟨rfl, hb1⟩
    have HB1 := Lib.hid (below_trans HB0.out hb1 (by simp))
    clear hb1
    go_wp2_with fail
    go_ret
    exact ⟨rfl, HB1.out⟩
  | true =>
    by_cases h0 : s.f0 = 0
    · by_cases h1 : s.f1 = -1
      · skip
        have g0 : (s.f0 == 0) = true := by simp [h0]
        have g1 : (s.f1 == -1) = true := by simp [h1]
        rw [if_pos rfl, show tOpt (s.f0 != 0) s.f0 ++ [47] ++ tOpt (s.f1 != -1) s.f1 = ([42] : List UInt8) ++ [47] ++ ([42] : List UInt8) by simp [tOpt, h0, h1]]
        clear h0 h1
        generalize itoa s.f0 = X at C0 hx ⊢
        generalize itoa s.f1 = Y at C1 hy ⊢
        have hc0 : ∀ W, (Op.stringOp .add ⟨#[42]⟩ ⟨#[47]⟩).run Tryd.prog W = .ok (.string ⟨(([42] : List UInt8) ++ [47]).toArray⟩) W := fun W => cat_lists ([42]) ([47]) (by first | omega | (simp; done) | (simp <;> omega)) (by first | omega | (simp; done) | (simp <;> omega)) W
        have hc1 : ∀ W, (Op.stringOp .add ⟨#[42, 47]⟩ ⟨#[42]⟩).run Tryd.prog W = .ok (.string ⟨(([42, 47] : List UInt8) ++ [42]).toArray⟩) W := fun W => cat_lists ([42, 47]) ([42]) (by first | omega | (simp; done) | (simp <;> omega)) (by first | omega | (simp; done) | (simp <;> omega)) W
        go_enter Tryd.func13, Tryd.ntmps13
        go_wp2_with fail
        refine (C9 _).mono ?_
        rintro e w1 ⟨rfl, hb1⟩
        have HB1 := Lib.hid (below_trans HB0.out hb1 (by simp))
        replace KB0 := Lib.hid (KB0.out.new hb1)
        have e0 := KB0.out.at_ (j := 0) rfl
        have e1 := KB0.out.at_ (j := 1) rfl
        clear hb1
        go_wp2_with fail
        refine (C0.out _ (pow10_below HT.out HB1.out)).mono ?_
        rintro e w2 ⟨rfl, hb2⟩
        have HB2 := Lib.hid (below_trans HB1.out hb2 (Nat.le_refl _))
        replace KB0 := Lib.hid (KB0.out.new hb2)
        have e0 := KB0.out.at_ (j := 0) rfl
        have e1 := KB0.out.at_ (j := 1) rfl
        clear hb2
        go_wp2_with fail
        refine (C1.out _ (pow10_below HT.out HB2.out)).mono ?_
        rintro e w3 ⟨rfl, hb3⟩
        have HB3 := Lib.hid (below_trans HB2.out hb3 (Nat.le_refl _))
        replace KB0 := Lib.hid (KB0.out.new hb3)
        have e0 := KB0.out.at_ (j := 0) rfl
        have e1 := KB0.out.at_ (j := 1) rfl
        clear hb3
        go_wp2_with fail
        go_ret
        exact ⟨by simp, HB3.out⟩
      · skip
        have g0 : (s.f0 == 0) = true := by simp [h0]
        have g1 : (s.f1 == -1) = false := by simp [h1]
        rw [if_pos rfl, show tOpt (s.f0 != 0) s.f0 ++ [47] ++ tOpt (s.f1 != -1) s.f1 = ([42] : List UInt8) ++ [47] ++ itoa s.f1 by simp [tOpt, h0, h1]]
        clear h0 h1
        generalize itoa s.f0 = X at C0 hx ⊢
        generalize itoa s.f1 = Y at C1 hy ⊢
        have hc0 : ∀ W, (Op.stringOp .add ⟨#[42]⟩ ⟨#[47]⟩).run Tryd.prog W = .ok (.string ⟨(([42] : List UInt8) ++ [47]).toArray⟩) W := fun W => cat_lists ([42]) ([47]) (by first | omega | (simp; done) | (simp <;> omega)) (by first | omega | (simp; done) | (simp <;> omega)) W
        have hc1 : ∀ W, (Op.stringOp .add ⟨#[42, 47]⟩ ⟨Y.toArray⟩).run Tryd.prog W = .ok (.string ⟨(([42, 47] : List UInt8) ++ Y).toArray⟩) W := fun W => cat_lists ([42, 47]) (Y) (by first | omega | (simp; done) | (simp <;> omega)) (by first | omega | (simp; done) | (simp <;> omega)) W
        go_enter Tryd.func13, Tryd.ntmps13
        go_wp2_with fail
        refine (C9 _).mono ?_
        rintro e w1 ⟨rfl, hb1⟩
        have HB1 := Lib.hid (below_trans HB0.out hb1 (by simp))
        replace KB0 := Lib.hid (KB0.out.new hb1)
        have e0 := KB0.out.at_ (j := 0) rfl
        have e1 := KB0.out.at_ (j := 1) rfl
        clear hb1
        go_wp2_with fail
        refine (C0.out _ (pow10_below HT.out HB1.out)).mono ?_
        rintro e w2 ⟨rfl, hb2⟩
        have HB2 := Lib.hid (below_trans HB1.out hb2 (Nat.le_refl _))
        replace KB0 := Lib.hid (KB0.out.new hb2)
        have e0 := KB0.out.at_ (j := 0) rfl
        have e1 := KB0.out.at_ (j := 1) rfl
        clear hb2
        go_wp2_with fail
        refine (C1.out _ (pow10_below HT.out HB2.out)).mono ?_
        rintro e w3 ⟨rfl, hb3⟩
        have HB3 := Lib.hid (below_trans HB2.out hb3 (Nat.le_refl _))
        replace KB0 := Lib.hid (KB0.out.new hb3)
        have e0 := KB0.out.at_ (j := 0) rfl
        have e1 := KB0.out.at_ (j := 1) rfl
        clear hb3
        go_wp2_with fail
        go_ret
        exact ⟨by simp, HB3.out⟩
    · by_cases h1 : s.f1 = -1
      · skip
        have g0 : (s.f0 == 0) = false := by simp [h0]
        have g1 : (s.f1 == -1) = true := by simp [h1]
        rw [if_pos rfl, show tOpt (s.f0 != 0) s.f0 ++ [47] ++ tOpt (s.f1 != -1) s.f1 = itoa s.f0 ++ [47] ++ ([42] : List UInt8) by simp [tOpt, h0, h1]]
        clear h0 h1
        generalize itoa s.f0 = X at C0 hx ⊢
        generalize itoa s.f1 = Y at C1 hy ⊢
        have hc0 : ∀ W, (Op.stringOp .add ⟨X.toArray⟩ ⟨#[47]⟩).run Tryd.prog W = .ok (.string ⟨((X : List UInt8) ++ [47]).toArray⟩) W := fun W => cat_lists (X) ([47]) (by first | omega | (simp; done) | (simp <;> omega)) (by first | omega | (simp; done) | (simp <;> omega)) W
        have hc1 : ∀ W, (Op.stringOp .add ⟨(X ++ [47]).toArray⟩ ⟨#[42]⟩).run Tryd.prog W = .ok (.string ⟨((X ++ [47] : List UInt8) ++ [42]).toArray⟩) W := fun W => cat_lists (X ++ [47]) ([42]) (by first | omega | (simp; done) | (simp <;> omega)) (by first | omega | (simp; done) | (simp <;> omega)) W
        go_enter Tryd.func13, Tryd.ntmps13
        go_wp2_with fail
        refine (C9 _).mono ?_
        rintro e w1 ⟨rfl, hb1⟩
        have HB1 := Lib.hid (below_trans HB0.out hb1 (by simp))
        replace KB0 := Lib.hid (KB0.out.new hb1)
        have e0 := KB0.out.at_ (j := 0) rfl
        have e1 := KB0.out.at_ (j := 1) rfl
        clear hb1
        go_wp2_with fail
        refine (C0.out _ (pow10_below HT.out HB1.out)).mono ?_
        rintro e w2 ⟨rfl, hb2⟩
        have HB2 := Lib.hid (below_trans HB1.out hb2 (Nat.le_refl _))
        replace KB0 := Lib.hid (KB0.out.new hb2)
        have e0 := KB0.out.at_ (j := 0) rfl
        have e1 := KB0.out.at_ (j := 1) rfl
        clear hb2
        go_wp2_with fail
        refine (C1.out _ (pow10_below HT.out HB2.out)).mono ?_
        rintro e w3 ⟨rfl, hb3⟩
        have HB3 := Lib.hid (below_trans HB2.out hb3 (Nat.le_refl _))
        replace KB0 := Lib.hid (KB0.out.new hb3)
        have e0 := KB0.out.at_ (j := 0) rfl
        have e1 := KB0.out.at_ (j := 1) rfl
        clear hb3
        go_wp2_with fail
        go_ret
        exact ⟨by simp, HB3.out⟩
      · skip
        have g0 : (s.f0 == 0) = false := by simp [h0]
        have g1 : (s.f1 == -1) = false := by simp [h1]
        rw [if_pos rfl, show tOpt (s.f0 != 0) s.f0 ++ [47] ++ tOpt (s.f1 != -1) s.f1 = itoa s.f0 ++ [47] ++ itoa s.f1 by simp [tOpt, h0, h1]]
        clear h0 h1
        generalize itoa s.f0 = X at C0 hx ⊢
        generalize itoa s.f1 = Y at C1 hy ⊢
        have hc0 : ∀ W, (Op.stringOp .add ⟨X.toArray⟩ ⟨#[47]⟩).run Tryd.prog W = .ok (.string ⟨((X : List UInt8) ++ [47]).toArray⟩) W := fun W => cat_lists (X) ([47]) (by first | omega | (simp; done) | (simp <;> omega)) (by first | omega | (simp; done) | (simp <;> omega)) W
        have hc1 : ∀ W, (Op.stringOp .add ⟨(X ++ [47]).toArray⟩ ⟨Y.toArray⟩).run Tryd.prog W = .ok (.string ⟨((X ++ [47] : List UInt8) ++ Y).toArray⟩) W := fun W => cat_lists (X ++ [47]) (Y) (by first | omega | (simp; done) | (simp <;> omega)) (by first | omega | (simp; done) | (simp <;> omega)) W
        go_enter Tryd.func13, Tryd.ntmps13
        go_wp2_with fail
        refine (C9 _).mono ?_
        rintro e w1 ⟨rfl, hb1⟩
        have HB1 := Lib.hid (below_trans HB0.out hb1 (by simp))
        replace KB0 := Lib.hid (KB0.out.new hb1)
        have e0 := KB0.out.at_ (j := 0) rfl
        have e1 := KB0.out.at_ (j := 1) rfl
        clear hb1
        go_wp2_with fail
        refine (C0.out _ (pow10_below HT.out HB1.out)).mono ?_
        rintro e w2 ⟨rfl, hb2⟩
        have HB2 := Lib.hid (below_trans HB1.out hb2 (Nat.le_refl _))
        replace KB0 := Lib.hid (KB0.out.new hb2)
        have e0 := KB0.out.at_ (j := 0) rfl
        have e1 := KB0.out.at_ (j := 1) rfl
        clear hb2
        go_wp2_with fail
        refine (C1.out _ (pow10_below HT.out HB2.out)).mono ?_
        rintro e w3 ⟨rfl, hb3⟩
        have HB3 := Lib.hid (below_trans HB2.out hb3 (Nat.le_refl _))
        replace KB0 := Lib.hid (KB0.out.new hb3)
        have e0 := KB0.out.at_ (j := 0) rfl
        have e1 := KB0.out.at_ (j := 1) rfl
        clear hb3
        go_wp2_with fail
        go_ret
        exact ⟨by simp, HB3.out⟩

end Go.Proofs.YtkakdfphhnchhaaDoor
