/- Rules and requests, of the program and of the model. -/
import Derived.Test.YtfceddgacefejaaSite
import Derived.Test.YtfceddgacefejaaTRule
import Derived.Test.YtfceddgacefejaaTRequest
namespace Go.Proofs.Ytfceddgacefejaa
open Go Go.ChangeShapes Go.WideShapes Go.ChangeAt Go.RowKit Go.Lib
set_option linter.unusedVariables false
set_option linter.unusedSimpArgs false
set_option maxRecDepth 100000
abbrev vRule (x : TRule) : Value := .agg #[.int .i64 x.f0, .int .i64 x.f1, .int .i64 x.f2, .int .i64 x.f3, .int .i64 x.f4, .int .i64 x.f5, .int .i64 x.f6, .int .i64 x.f7]
abbrev vReq (x : TRequest) : Value := .agg #[.int .i64 x.f0, .int .i64 x.f1, .int .i64 x.f2]
def mToZero (r : TRule) : Bool := decide ((⟨r.f6, r.f7⟩ : TSite) = ⟨0, 0⟩)
def mIsRule (r : TRule) : Bool := inR r.f0 1 5 && inR r.f1 1 9 && mIsPattern ⟨r.f2, r.f3⟩ && inR r.f4 0 4 && inR r.f5 1 3 && (r.f5 == 3 && mIsSite ⟨r.f6, r.f7⟩ || !(r.f5 == 3) && mToZero r)
def mIsRequest (q : TRequest) : Bool := mIsSite ⟨q.f0, q.f1⟩ && inR q.f2 1 4
def mApplies (r : TRule) (q : TRequest) : Bool := mIsRule r && mIsRequest q && mMatchSite ⟨r.f2, r.f3⟩ ⟨q.f0, q.f1⟩ && mTakes 0 r.f4 q.f2
theorem inR_123 (z : Int) : inR z 1 3 = (z == 3 || (z == 1 || z == 2)) := by
 unfold inR
 rw [Bool.eq_iff_iff]; simp; omega

set_option maxHeartbeats 40000000 in
theorem spec_IsRequest (q : TRequest) (w : World) :
  Calls Try.prog 48 #[vReq q] w (Says (.bool (mIsRequest q)) w) := by
 by_cases h0 : (mIsSite ⟨q.f0, q.f1⟩) = true
 ·
  by_cases h1 : (inR q.f2 1 4) = true
  ·
   have HE := Lib.hid (show mIsRequest q = true by simp [mIsRequest, h0, h1])
   go_enter Try.func48, Try.ntmps48
   go_wp2_with (first | (go_at_call 161; refine (spec_in _ _ _ _).mono ?_; rintro e w1 ⟨rfl, rfl⟩) | (go_at_call 160; refine (spec_IsSite ⟨q.f0, q.f1⟩ _).mono ?_; rintro e w1 ⟨rfl, hb1⟩; obtain ⟨hc1, hf1⟩ := bcell hb1; have HB1 := Lib.hid hb1; have hs1 := hb1.size; (try simp at hs1); (have hz0 : w.heap.size < w1.heap.size := by omega); clear hb1))
   go_ret
   exact ⟨by rw [HE.out]; rfl, by repeat (first | with_reducible exact Below.refl _ _ | (with_reducible refine below_step ?_ (by assumption) (by first | omega | (simp <;> omega))) | (with_reducible refine Below.alloc ?_ (by first | omega | (simp <;> omega)) _) | (with_reducible refine Below.setCell ?_ (by first | omega | (simp <;> omega)) _) | (with_reducible refine Below.drew ?_) | (with_reducible refine below_dN ?_ _) | (refine Below.alloc ?_ (by first | omega | (simp <;> omega)) _))⟩
  ·
   have h1 : (inR q.f2 1 4) = false := by simpa using h1
   have HE := Lib.hid (show mIsRequest q = false by simp [mIsRequest, h0, h1])
   go_enter Try.func48, Try.ntmps48
   go_wp2_with (first | (go_at_call 161; refine (spec_in _ _ _ _).mono ?_; rintro e w1 ⟨rfl, rfl⟩) | (go_at_call 160; refine (spec_IsSite ⟨q.f0, q.f1⟩ _).mono ?_; rintro e w1 ⟨rfl, hb1⟩; obtain ⟨hc1, hf1⟩ := bcell hb1; have HB1 := Lib.hid hb1; have hs1 := hb1.size; (try simp at hs1); (have hz0 : w.heap.size < w1.heap.size := by omega); clear hb1))
   go_ret
   exact ⟨by rw [HE.out]; rfl, by repeat (first | with_reducible exact Below.refl _ _ | (with_reducible refine below_step ?_ (by assumption) (by first | omega | (simp <;> omega))) | (with_reducible refine Below.alloc ?_ (by first | omega | (simp <;> omega)) _) | (with_reducible refine Below.setCell ?_ (by first | omega | (simp <;> omega)) _) | (with_reducible refine Below.drew ?_) | (with_reducible refine below_dN ?_ _) | (refine Below.alloc ?_ (by first | omega | (simp <;> omega)) _))⟩
 ·
  have h0 : (mIsSite ⟨q.f0, q.f1⟩) = false := by simpa using h0
  have HE := Lib.hid (show mIsRequest q = false by simp [mIsRequest, h0])
  go_enter Try.func48, Try.ntmps48
  go_wp2_with (first | (go_at_call 161; refine (spec_in _ _ _ _).mono ?_; rintro e w1 ⟨rfl, rfl⟩) | (go_at_call 160; refine (spec_IsSite ⟨q.f0, q.f1⟩ _).mono ?_; rintro e w1 ⟨rfl, hb1⟩; obtain ⟨hc1, hf1⟩ := bcell hb1; have HB1 := Lib.hid hb1; have hs1 := hb1.size; (try simp at hs1); (have hz0 : w.heap.size < w1.heap.size := by omega); clear hb1))
  go_ret
  exact ⟨by rw [HE.out]; rfl, by repeat (first | with_reducible exact Below.refl _ _ | (with_reducible refine below_step ?_ (by assumption) (by first | omega | (simp <;> omega))) | (with_reducible refine Below.alloc ?_ (by first | omega | (simp <;> omega)) _) | (with_reducible refine Below.setCell ?_ (by first | omega | (simp <;> omega)) _) | (with_reducible refine Below.drew ?_) | (with_reducible refine below_dN ?_ _) | (refine Below.alloc ?_ (by first | omega | (simp <;> omega)) _))⟩

set_option maxHeartbeats 40000000 in
theorem impl_IsRequest (q : TRequest) (w : World) :
  Calls Try.prog 47 #[vReq q] w (Says (.bool (mIsRequest q)) w) := by
 by_cases h0 : (mIsSite ⟨q.f0, q.f1⟩) = true
 ·
  by_cases h1 : (inR q.f2 1 4) = true
  ·
   have HE := Lib.hid (show mIsRequest q = true by simp [mIsRequest, h0, h1])
   go_enter Try.func47, Try.ntmps47
   go_wp2_with (first | (go_at_call 116; refine (impl_in _ _ _ _).mono ?_; rintro e w1 ⟨rfl, rfl⟩) | (go_at_call 119; refine (impl_IsSite ⟨q.f0, q.f1⟩ _).mono ?_; rintro e w1 ⟨rfl, hb1⟩; obtain ⟨hc1, hf1⟩ := bcell hb1; have HB1 := Lib.hid hb1; have hs1 := hb1.size; (try simp at hs1); (have hz0 : w.heap.size < w1.heap.size := by omega); clear hb1))
   go_ret
   exact ⟨by rw [HE.out]; rfl, by repeat (first | with_reducible exact Below.refl _ _ | (with_reducible refine below_step ?_ (by assumption) (by first | omega | (simp <;> omega))) | (with_reducible refine Below.alloc ?_ (by first | omega | (simp <;> omega)) _) | (with_reducible refine Below.setCell ?_ (by first | omega | (simp <;> omega)) _) | (with_reducible refine Below.drew ?_) | (with_reducible refine below_dN ?_ _) | (refine Below.alloc ?_ (by first | omega | (simp <;> omega)) _))⟩
  ·
   have h1 : (inR q.f2 1 4) = false := by simpa using h1
   have HE := Lib.hid (show mIsRequest q = false by simp [mIsRequest, h0, h1])
   go_enter Try.func47, Try.ntmps47
   go_wp2_with (first | (go_at_call 116; refine (impl_in _ _ _ _).mono ?_; rintro e w1 ⟨rfl, rfl⟩) | (go_at_call 119; refine (impl_IsSite ⟨q.f0, q.f1⟩ _).mono ?_; rintro e w1 ⟨rfl, hb1⟩; obtain ⟨hc1, hf1⟩ := bcell hb1; have HB1 := Lib.hid hb1; have hs1 := hb1.size; (try simp at hs1); (have hz0 : w.heap.size < w1.heap.size := by omega); clear hb1))
   go_ret
   exact ⟨by rw [HE.out]; rfl, by repeat (first | with_reducible exact Below.refl _ _ | (with_reducible refine below_step ?_ (by assumption) (by first | omega | (simp <;> omega))) | (with_reducible refine Below.alloc ?_ (by first | omega | (simp <;> omega)) _) | (with_reducible refine Below.setCell ?_ (by first | omega | (simp <;> omega)) _) | (with_reducible refine Below.drew ?_) | (with_reducible refine below_dN ?_ _) | (refine Below.alloc ?_ (by first | omega | (simp <;> omega)) _))⟩
 ·
  have h0 : (mIsSite ⟨q.f0, q.f1⟩) = false := by simpa using h0
  have HE := Lib.hid (show mIsRequest q = false by simp [mIsRequest, h0])
  go_enter Try.func47, Try.ntmps47
  go_wp2_with (first | (go_at_call 116; refine (impl_in _ _ _ _).mono ?_; rintro e w1 ⟨rfl, rfl⟩) | (go_at_call 119; refine (impl_IsSite ⟨q.f0, q.f1⟩ _).mono ?_; rintro e w1 ⟨rfl, hb1⟩; obtain ⟨hc1, hf1⟩ := bcell hb1; have HB1 := Lib.hid hb1; have hs1 := hb1.size; (try simp at hs1); (have hz0 : w.heap.size < w1.heap.size := by omega); clear hb1))
  go_ret
  exact ⟨by rw [HE.out]; rfl, by repeat (first | with_reducible exact Below.refl _ _ | (with_reducible refine below_step ?_ (by assumption) (by first | omega | (simp <;> omega))) | (with_reducible refine Below.alloc ?_ (by first | omega | (simp <;> omega)) _) | (with_reducible refine Below.setCell ?_ (by first | omega | (simp <;> omega)) _) | (with_reducible refine Below.drew ?_) | (with_reducible refine below_dN ?_ _) | (refine Below.alloc ?_ (by first | omega | (simp <;> omega)) _))⟩

set_option maxHeartbeats 40000000 in
theorem spec_IsRule (r : TRule) (w : World) :
  Calls Try.prog 178 #[vRule r] w (Says (.bool (mIsRule r)) w) := by
 by_cases h0 : (inR r.f0 1 5) = true
 ·
  by_cases h1 : (inR r.f1 1 9) = true
  ·
   by_cases h2 : (mIsPattern ⟨r.f2, r.f3⟩) = true
   ·
    by_cases h3 : (inR r.f4 0 4) = true
    ·
     by_cases h4 : (inR r.f5 1 3) = true
     ·
      by_cases h5 : (r.f5 == 3) = true
      ·
       by_cases h6 : (mIsSite ⟨r.f6, r.f7⟩) = true
       ·
        have HE := Lib.hid (show mIsRule r = true by simp [mIsRule, h0, h1, h2, h3, h4, h5, h6])
        have g1 : ∀ w, (binOp .eql 27 (.agg #[.int .i64 r.f6, .int .i64 r.f7]) (.agg #[.int .i64 0, .int .i64 0])).run Try.prog w = .ok (.bool (mToZero r)) w := fun w => eql_Site ⟨r.f6, r.f7⟩ ⟨0, 0⟩ w
        have g2 : ∀ w, (binOp .eql 27 (.agg #[.int .i64 0, .int .i64 0]) (.agg #[.int .i64 0, .int .i64 0])).run Try.prog w = .ok (.bool true) w := fun w => eql_Site ⟨0, 0⟩ ⟨0, 0⟩ w
        have e9 : (r.f5 != 3) = !(r.f5 == 3) := rfl
        go_enter Try.func178, Try.ntmps178
        go_wp2_with (first | (go_at_call 161; refine (spec_in _ _ _ _).mono ?_; rintro e w1 ⟨rfl, rfl⟩) | (go_at_call 225; refine (spec_IsPattern ⟨r.f2, r.f3⟩ _).mono ?_; rintro e w1 ⟨rfl, hb1⟩; obtain ⟨hc1, hf1⟩ := bcell hb1; have HB1 := Lib.hid hb1; have hs1 := hb1.size; (try simp at hs1); (have hz0 : w.heap.size < w1.heap.size := by omega); clear hb1) | (go_at_call 160; refine (spec_IsSite ⟨r.f6, r.f7⟩ _).mono ?_; rintro e w1 ⟨rfl, hb1⟩; obtain ⟨hc1, hf1⟩ := bcell hb1; have HB1 := Lib.hid hb1; have hs1 := hb1.size; (try simp at hs1); (have hz0 : w.heap.size < w1.heap.size := by omega); clear hb1))
        go_ret
        exact ⟨by rw [HE.out]; rfl, by repeat (first | with_reducible exact Below.refl _ _ | (with_reducible refine below_step ?_ (by assumption) (by first | omega | (simp <;> omega))) | (with_reducible refine Below.alloc ?_ (by first | omega | (simp <;> omega)) _) | (with_reducible refine Below.setCell ?_ (by first | omega | (simp <;> omega)) _) | (with_reducible refine Below.drew ?_) | (with_reducible refine below_dN ?_ _) | (refine Below.alloc ?_ (by first | omega | (simp <;> omega)) _))⟩
       ·
        have h6 : (mIsSite ⟨r.f6, r.f7⟩) = false := by simpa using h6
        have HE := Lib.hid (show mIsRule r = false by simp [mIsRule, h0, h1, h2, h3, h4, h5, h6])
        have g1 : ∀ w, (binOp .eql 27 (.agg #[.int .i64 r.f6, .int .i64 r.f7]) (.agg #[.int .i64 0, .int .i64 0])).run Try.prog w = .ok (.bool (mToZero r)) w := fun w => eql_Site ⟨r.f6, r.f7⟩ ⟨0, 0⟩ w
        have g2 : ∀ w, (binOp .eql 27 (.agg #[.int .i64 0, .int .i64 0]) (.agg #[.int .i64 0, .int .i64 0])).run Try.prog w = .ok (.bool true) w := fun w => eql_Site ⟨0, 0⟩ ⟨0, 0⟩ w
        have e9 : (r.f5 != 3) = !(r.f5 == 3) := rfl
        go_enter Try.func178, Try.ntmps178
        go_wp2_with (first | (go_at_call 161; refine (spec_in _ _ _ _).mono ?_; rintro e w1 ⟨rfl, rfl⟩) | (go_at_call 225; refine (spec_IsPattern ⟨r.f2, r.f3⟩ _).mono ?_; rintro e w1 ⟨rfl, hb1⟩; obtain ⟨hc1, hf1⟩ := bcell hb1; have HB1 := Lib.hid hb1; have hs1 := hb1.size; (try simp at hs1); (have hz0 : w.heap.size < w1.heap.size := by omega); clear hb1) | (go_at_call 160; refine (spec_IsSite ⟨r.f6, r.f7⟩ _).mono ?_; rintro e w1 ⟨rfl, hb1⟩; obtain ⟨hc1, hf1⟩ := bcell hb1; have HB1 := Lib.hid hb1; have hs1 := hb1.size; (try simp at hs1); (have hz0 : w.heap.size < w1.heap.size := by omega); clear hb1))
        go_ret
        exact ⟨by rw [HE.out]; rfl, by repeat (first | with_reducible exact Below.refl _ _ | (with_reducible refine below_step ?_ (by assumption) (by first | omega | (simp <;> omega))) | (with_reducible refine Below.alloc ?_ (by first | omega | (simp <;> omega)) _) | (with_reducible refine Below.setCell ?_ (by first | omega | (simp <;> omega)) _) | (with_reducible refine Below.drew ?_) | (with_reducible refine below_dN ?_ _) | (refine Below.alloc ?_ (by first | omega | (simp <;> omega)) _))⟩
      ·
       have h5 : (r.f5 == 3) = false := by simpa using h5
       by_cases h7 : (mToZero r) = true
       ·
        have HE := Lib.hid (show mIsRule r = true by simp [mIsRule, h0, h1, h2, h3, h4, h5, h7])
        have g1 : ∀ w, (binOp .eql 27 (.agg #[.int .i64 r.f6, .int .i64 r.f7]) (.agg #[.int .i64 0, .int .i64 0])).run Try.prog w = .ok (.bool (mToZero r)) w := fun w => eql_Site ⟨r.f6, r.f7⟩ ⟨0, 0⟩ w
        have g2 : ∀ w, (binOp .eql 27 (.agg #[.int .i64 0, .int .i64 0]) (.agg #[.int .i64 0, .int .i64 0])).run Try.prog w = .ok (.bool true) w := fun w => eql_Site ⟨0, 0⟩ ⟨0, 0⟩ w
        have e9 : (r.f5 != 3) = !(r.f5 == 3) := rfl
        go_enter Try.func178, Try.ntmps178
        go_wp2_with (first | (go_at_call 161; refine (spec_in _ _ _ _).mono ?_; rintro e w1 ⟨rfl, rfl⟩) | (go_at_call 225; refine (spec_IsPattern ⟨r.f2, r.f3⟩ _).mono ?_; rintro e w1 ⟨rfl, hb1⟩; obtain ⟨hc1, hf1⟩ := bcell hb1; have HB1 := Lib.hid hb1; have hs1 := hb1.size; (try simp at hs1); (have hz0 : w.heap.size < w1.heap.size := by omega); clear hb1) | (go_at_call 160; refine (spec_IsSite ⟨r.f6, r.f7⟩ _).mono ?_; rintro e w1 ⟨rfl, hb1⟩; obtain ⟨hc1, hf1⟩ := bcell hb1; have HB1 := Lib.hid hb1; have hs1 := hb1.size; (try simp at hs1); (have hz0 : w.heap.size < w1.heap.size := by omega); clear hb1))
        go_ret
        exact ⟨by rw [HE.out]; rfl, by repeat (first | with_reducible exact Below.refl _ _ | (with_reducible refine below_step ?_ (by assumption) (by first | omega | (simp <;> omega))) | (with_reducible refine Below.alloc ?_ (by first | omega | (simp <;> omega)) _) | (with_reducible refine Below.setCell ?_ (by first | omega | (simp <;> omega)) _) | (with_reducible refine Below.drew ?_) | (with_reducible refine below_dN ?_ _) | (refine Below.alloc ?_ (by first | omega | (simp <;> omega)) _))⟩
       ·
        have h7 : (mToZero r) = false := by simpa using h7
        have HE := Lib.hid (show mIsRule r = false by simp [mIsRule, h0, h1, h2, h3, h4, h5, h7])
        have g1 : ∀ w, (binOp .eql 27 (.agg #[.int .i64 r.f6, .int .i64 r.f7]) (.agg #[.int .i64 0, .int .i64 0])).run Try.prog w = .ok (.bool (mToZero r)) w := fun w => eql_Site ⟨r.f6, r.f7⟩ ⟨0, 0⟩ w
        have g2 : ∀ w, (binOp .eql 27 (.agg #[.int .i64 0, .int .i64 0]) (.agg #[.int .i64 0, .int .i64 0])).run Try.prog w = .ok (.bool true) w := fun w => eql_Site ⟨0, 0⟩ ⟨0, 0⟩ w
        have e9 : (r.f5 != 3) = !(r.f5 == 3) := rfl
        go_enter Try.func178, Try.ntmps178
        go_wp2_with (first | (go_at_call 161; refine (spec_in _ _ _ _).mono ?_; rintro e w1 ⟨rfl, rfl⟩) | (go_at_call 225; refine (spec_IsPattern ⟨r.f2, r.f3⟩ _).mono ?_; rintro e w1 ⟨rfl, hb1⟩; obtain ⟨hc1, hf1⟩ := bcell hb1; have HB1 := Lib.hid hb1; have hs1 := hb1.size; (try simp at hs1); (have hz0 : w.heap.size < w1.heap.size := by omega); clear hb1) | (go_at_call 160; refine (spec_IsSite ⟨r.f6, r.f7⟩ _).mono ?_; rintro e w1 ⟨rfl, hb1⟩; obtain ⟨hc1, hf1⟩ := bcell hb1; have HB1 := Lib.hid hb1; have hs1 := hb1.size; (try simp at hs1); (have hz0 : w.heap.size < w1.heap.size := by omega); clear hb1))
        go_ret
        exact ⟨by rw [HE.out]; rfl, by repeat (first | with_reducible exact Below.refl _ _ | (with_reducible refine below_step ?_ (by assumption) (by first | omega | (simp <;> omega))) | (with_reducible refine Below.alloc ?_ (by first | omega | (simp <;> omega)) _) | (with_reducible refine Below.setCell ?_ (by first | omega | (simp <;> omega)) _) | (with_reducible refine Below.drew ?_) | (with_reducible refine below_dN ?_ _) | (refine Below.alloc ?_ (by first | omega | (simp <;> omega)) _))⟩
     ·
      have h4 : (inR r.f5 1 3) = false := by simpa using h4
      have HE := Lib.hid (show mIsRule r = false by simp [mIsRule, h0, h1, h2, h3, h4])
      have g1 : ∀ w, (binOp .eql 27 (.agg #[.int .i64 r.f6, .int .i64 r.f7]) (.agg #[.int .i64 0, .int .i64 0])).run Try.prog w = .ok (.bool (mToZero r)) w := fun w => eql_Site ⟨r.f6, r.f7⟩ ⟨0, 0⟩ w
      have g2 : ∀ w, (binOp .eql 27 (.agg #[.int .i64 0, .int .i64 0]) (.agg #[.int .i64 0, .int .i64 0])).run Try.prog w = .ok (.bool true) w := fun w => eql_Site ⟨0, 0⟩ ⟨0, 0⟩ w
      have e9 : (r.f5 != 3) = !(r.f5 == 3) := rfl
      go_enter Try.func178, Try.ntmps178
      go_wp2_with (first | (go_at_call 161; refine (spec_in _ _ _ _).mono ?_; rintro e w1 ⟨rfl, rfl⟩) | (go_at_call 225; refine (spec_IsPattern ⟨r.f2, r.f3⟩ _).mono ?_; rintro e w1 ⟨rfl, hb1⟩; obtain ⟨hc1, hf1⟩ := bcell hb1; have HB1 := Lib.hid hb1; have hs1 := hb1.size; (try simp at hs1); (have hz0 : w.heap.size < w1.heap.size := by omega); clear hb1) | (go_at_call 160; refine (spec_IsSite ⟨r.f6, r.f7⟩ _).mono ?_; rintro e w1 ⟨rfl, hb1⟩; obtain ⟨hc1, hf1⟩ := bcell hb1; have HB1 := Lib.hid hb1; have hs1 := hb1.size; (try simp at hs1); (have hz0 : w.heap.size < w1.heap.size := by omega); clear hb1))
      go_ret
      exact ⟨by rw [HE.out]; rfl, by repeat (first | with_reducible exact Below.refl _ _ | (with_reducible refine below_step ?_ (by assumption) (by first | omega | (simp <;> omega))) | (with_reducible refine Below.alloc ?_ (by first | omega | (simp <;> omega)) _) | (with_reducible refine Below.setCell ?_ (by first | omega | (simp <;> omega)) _) | (with_reducible refine Below.drew ?_) | (with_reducible refine below_dN ?_ _) | (refine Below.alloc ?_ (by first | omega | (simp <;> omega)) _))⟩
    ·
     have h3 : (inR r.f4 0 4) = false := by simpa using h3
     have HE := Lib.hid (show mIsRule r = false by simp [mIsRule, h0, h1, h2, h3])
     have g1 : ∀ w, (binOp .eql 27 (.agg #[.int .i64 r.f6, .int .i64 r.f7]) (.agg #[.int .i64 0, .int .i64 0])).run Try.prog w = .ok (.bool (mToZero r)) w := fun w => eql_Site ⟨r.f6, r.f7⟩ ⟨0, 0⟩ w
     have g2 : ∀ w, (binOp .eql 27 (.agg #[.int .i64 0, .int .i64 0]) (.agg #[.int .i64 0, .int .i64 0])).run Try.prog w = .ok (.bool true) w := fun w => eql_Site ⟨0, 0⟩ ⟨0, 0⟩ w
     have e9 : (r.f5 != 3) = !(r.f5 == 3) := rfl
     go_enter Try.func178, Try.ntmps178
     go_wp2_with (first | (go_at_call 161; refine (spec_in _ _ _ _).mono ?_; rintro e w1 ⟨rfl, rfl⟩) | (go_at_call 225; refine (spec_IsPattern ⟨r.f2, r.f3⟩ _).mono ?_; rintro e w1 ⟨rfl, hb1⟩; obtain ⟨hc1, hf1⟩ := bcell hb1; have HB1 := Lib.hid hb1; have hs1 := hb1.size; (try simp at hs1); (have hz0 : w.heap.size < w1.heap.size := by omega); clear hb1) | (go_at_call 160; refine (spec_IsSite ⟨r.f6, r.f7⟩ _).mono ?_; rintro e w1 ⟨rfl, hb1⟩; obtain ⟨hc1, hf1⟩ := bcell hb1; have HB1 := Lib.hid hb1; have hs1 := hb1.size; (try simp at hs1); (have hz0 : w.heap.size < w1.heap.size := by omega); clear hb1))
     go_ret
     exact ⟨by rw [HE.out]; rfl, by repeat (first | with_reducible exact Below.refl _ _ | (with_reducible refine below_step ?_ (by assumption) (by first | omega | (simp <;> omega))) | (with_reducible refine Below.alloc ?_ (by first | omega | (simp <;> omega)) _) | (with_reducible refine Below.setCell ?_ (by first | omega | (simp <;> omega)) _) | (with_reducible refine Below.drew ?_) | (with_reducible refine below_dN ?_ _) | (refine Below.alloc ?_ (by first | omega | (simp <;> omega)) _))⟩
   ·
    have h2 : (mIsPattern ⟨r.f2, r.f3⟩) = false := by simpa using h2
    have HE := Lib.hid (show mIsRule r = false by simp [mIsRule, h0, h1, h2])
    have g1 : ∀ w, (binOp .eql 27 (.agg #[.int .i64 r.f6, .int .i64 r.f7]) (.agg #[.int .i64 0, .int .i64 0])).run Try.prog w = .ok (.bool (mToZero r)) w := fun w => eql_Site ⟨r.f6, r.f7⟩ ⟨0, 0⟩ w
    have g2 : ∀ w, (binOp .eql 27 (.agg #[.int .i64 0, .int .i64 0]) (.agg #[.int .i64 0, .int .i64 0])).run Try.prog w = .ok (.bool true) w := fun w => eql_Site ⟨0, 0⟩ ⟨0, 0⟩ w
    have e9 : (r.f5 != 3) = !(r.f5 == 3) := rfl
    go_enter Try.func178, Try.ntmps178
    go_wp2_with (first | (go_at_call 161; refine (spec_in _ _ _ _).mono ?_; rintro e w1 ⟨rfl, rfl⟩) | (go_at_call 225; refine (spec_IsPattern ⟨r.f2, r.f3⟩ _).mono ?_; rintro e w1 ⟨rfl, hb1⟩; obtain ⟨hc1, hf1⟩ := bcell hb1; have HB1 := Lib.hid hb1; have hs1 := hb1.size; (try simp at hs1); (have hz0 : w.heap.size < w1.heap.size := by omega); clear hb1) | (go_at_call 160; refine (spec_IsSite ⟨r.f6, r.f7⟩ _).mono ?_; rintro e w1 ⟨rfl, hb1⟩; obtain ⟨hc1, hf1⟩ := bcell hb1; have HB1 := Lib.hid hb1; have hs1 := hb1.size; (try simp at hs1); (have hz0 : w.heap.size < w1.heap.size := by omega); clear hb1))
    go_ret
    exact ⟨by rw [HE.out]; rfl, by repeat (first | with_reducible exact Below.refl _ _ | (with_reducible refine below_step ?_ (by assumption) (by first | omega | (simp <;> omega))) | (with_reducible refine Below.alloc ?_ (by first | omega | (simp <;> omega)) _) | (with_reducible refine Below.setCell ?_ (by first | omega | (simp <;> omega)) _) | (with_reducible refine Below.drew ?_) | (with_reducible refine below_dN ?_ _) | (refine Below.alloc ?_ (by first | omega | (simp <;> omega)) _))⟩
  ·
   have h1 : (inR r.f1 1 9) = false := by simpa using h1
   have HE := Lib.hid (show mIsRule r = false by simp [mIsRule, h0, h1])
   have g1 : ∀ w, (binOp .eql 27 (.agg #[.int .i64 r.f6, .int .i64 r.f7]) (.agg #[.int .i64 0, .int .i64 0])).run Try.prog w = .ok (.bool (mToZero r)) w := fun w => eql_Site ⟨r.f6, r.f7⟩ ⟨0, 0⟩ w
   have g2 : ∀ w, (binOp .eql 27 (.agg #[.int .i64 0, .int .i64 0]) (.agg #[.int .i64 0, .int .i64 0])).run Try.prog w = .ok (.bool true) w := fun w => eql_Site ⟨0, 0⟩ ⟨0, 0⟩ w
   have e9 : (r.f5 != 3) = !(r.f5 == 3) := rfl
   go_enter Try.func178, Try.ntmps178
   go_wp2_with (first | (go_at_call 161; refine (spec_in _ _ _ _).mono ?_; rintro e w1 ⟨rfl, rfl⟩) | (go_at_call 225; refine (spec_IsPattern ⟨r.f2, r.f3⟩ _).mono ?_; rintro e w1 ⟨rfl, hb1⟩; obtain ⟨hc1, hf1⟩ := bcell hb1; have HB1 := Lib.hid hb1; have hs1 := hb1.size; (try simp at hs1); (have hz0 : w.heap.size < w1.heap.size := by omega); clear hb1) | (go_at_call 160; refine (spec_IsSite ⟨r.f6, r.f7⟩ _).mono ?_; rintro e w1 ⟨rfl, hb1⟩; obtain ⟨hc1, hf1⟩ := bcell hb1; have HB1 := Lib.hid hb1; have hs1 := hb1.size; (try simp at hs1); (have hz0 : w.heap.size < w1.heap.size := by omega); clear hb1))
   go_ret
   exact ⟨by rw [HE.out]; rfl, by repeat (first | with_reducible exact Below.refl _ _ | (with_reducible refine below_step ?_ (by assumption) (by first | omega | (simp <;> omega))) | (with_reducible refine Below.alloc ?_ (by first | omega | (simp <;> omega)) _) | (with_reducible refine Below.setCell ?_ (by first | omega | (simp <;> omega)) _) | (with_reducible refine Below.drew ?_) | (with_reducible refine below_dN ?_ _) | (refine Below.alloc ?_ (by first | omega | (simp <;> omega)) _))⟩
 ·
  have h0 : (inR r.f0 1 5) = false := by simpa using h0
  have HE := Lib.hid (show mIsRule r = false by simp [mIsRule, h0])
  have g1 : ∀ w, (binOp .eql 27 (.agg #[.int .i64 r.f6, .int .i64 r.f7]) (.agg #[.int .i64 0, .int .i64 0])).run Try.prog w = .ok (.bool (mToZero r)) w := fun w => eql_Site ⟨r.f6, r.f7⟩ ⟨0, 0⟩ w
  have g2 : ∀ w, (binOp .eql 27 (.agg #[.int .i64 0, .int .i64 0]) (.agg #[.int .i64 0, .int .i64 0])).run Try.prog w = .ok (.bool true) w := fun w => eql_Site ⟨0, 0⟩ ⟨0, 0⟩ w
  have e9 : (r.f5 != 3) = !(r.f5 == 3) := rfl
  go_enter Try.func178, Try.ntmps178
  go_wp2_with (first | (go_at_call 161; refine (spec_in _ _ _ _).mono ?_; rintro e w1 ⟨rfl, rfl⟩) | (go_at_call 225; refine (spec_IsPattern ⟨r.f2, r.f3⟩ _).mono ?_; rintro e w1 ⟨rfl, hb1⟩; obtain ⟨hc1, hf1⟩ := bcell hb1; have HB1 := Lib.hid hb1; have hs1 := hb1.size; (try simp at hs1); (have hz0 : w.heap.size < w1.heap.size := by omega); clear hb1) | (go_at_call 160; refine (spec_IsSite ⟨r.f6, r.f7⟩ _).mono ?_; rintro e w1 ⟨rfl, hb1⟩; obtain ⟨hc1, hf1⟩ := bcell hb1; have HB1 := Lib.hid hb1; have hs1 := hb1.size; (try simp at hs1); (have hz0 : w.heap.size < w1.heap.size := by omega); clear hb1))
  go_ret
  exact ⟨by rw [HE.out]; rfl, by repeat (first | with_reducible exact Below.refl _ _ | (with_reducible refine below_step ?_ (by assumption) (by first | omega | (simp <;> omega))) | (with_reducible refine Below.alloc ?_ (by first | omega | (simp <;> omega)) _) | (with_reducible refine Below.setCell ?_ (by first | omega | (simp <;> omega)) _) | (with_reducible refine Below.drew ?_) | (with_reducible refine below_dN ?_ _) | (refine Below.alloc ?_ (by first | omega | (simp <;> omega)) _))⟩

set_option maxHeartbeats 40000000 in
theorem impl_IsRule (r : TRule) (w : World) :
  Calls Try.prog 148 #[vRule r] w (Says (.bool (mIsRule r)) w) := by
 by_cases h0 : (r.f5 == 3) = true
 ·
  by_cases h1 : (mIsSite ⟨r.f6, r.f7⟩) = true
  ·
   by_cases h2 : (inR r.f0 1 5) = true
   ·
    by_cases h3 : (inR r.f1 1 9) = true
    ·
     by_cases h4 : (mIsPattern ⟨r.f2, r.f3⟩) = true
     ·
      by_cases h5 : (inR r.f4 0 4) = true
      ·
       have HE := Lib.hid (show mIsRule r = true by simp [mIsRule, inR_123, h0, h1, h2, h3, h4, h5])
       have g1 : ∀ w, (binOp .eql 27 (.agg #[.int .i64 r.f6, .int .i64 r.f7]) (.agg #[.int .i64 0, .int .i64 0])).run Try.prog w = .ok (.bool (mToZero r)) w := fun w => eql_Site ⟨r.f6, r.f7⟩ ⟨0, 0⟩ w
       have g2 : ∀ w, (binOp .eql 27 (.agg #[.int .i64 0, .int .i64 0]) (.agg #[.int .i64 0, .int .i64 0])).run Try.prog w = .ok (.bool true) w := fun w => eql_Site ⟨0, 0⟩ ⟨0, 0⟩ w
       go_enter Try.func148, Try.ntmps148
       go_wp2_with (first | (go_at_call 116; refine (impl_in _ _ _ _).mono ?_; rintro e w1 ⟨rfl, rfl⟩) | (go_at_call 118; refine (impl_IsPattern ⟨r.f2, r.f3⟩ _).mono ?_; rintro e w1 ⟨rfl, hb1⟩; obtain ⟨hc1, hf1⟩ := bcell hb1; have HB1 := Lib.hid hb1; have hs1 := hb1.size; (try simp at hs1); (have hz0 : w.heap.size < w1.heap.size := by omega); clear hb1) | (go_at_call 119; refine (impl_IsSite ⟨r.f6, r.f7⟩ _).mono ?_; rintro e w1 ⟨rfl, hb1⟩; obtain ⟨hc1, hf1⟩ := bcell hb1; have HB1 := Lib.hid hb1; have hs1 := hb1.size; (try simp at hs1); (have hz0 : w.heap.size < w1.heap.size := by omega); clear hb1))
       go_ret
       exact ⟨by rw [HE.out]; rfl, by repeat (first | with_reducible exact Below.refl _ _ | (with_reducible refine below_step ?_ (by assumption) (by first | omega | (simp <;> omega))) | (with_reducible refine Below.alloc ?_ (by first | omega | (simp <;> omega)) _) | (with_reducible refine Below.setCell ?_ (by first | omega | (simp <;> omega)) _) | (with_reducible refine Below.drew ?_) | (with_reducible refine below_dN ?_ _) | (refine Below.alloc ?_ (by first | omega | (simp <;> omega)) _))⟩
      ·
       have h5 : (inR r.f4 0 4) = false := by simpa using h5
       have HE := Lib.hid (show mIsRule r = false by simp [mIsRule, inR_123, h0, h1, h2, h3, h4, h5])
       have g1 : ∀ w, (binOp .eql 27 (.agg #[.int .i64 r.f6, .int .i64 r.f7]) (.agg #[.int .i64 0, .int .i64 0])).run Try.prog w = .ok (.bool (mToZero r)) w := fun w => eql_Site ⟨r.f6, r.f7⟩ ⟨0, 0⟩ w
       have g2 : ∀ w, (binOp .eql 27 (.agg #[.int .i64 0, .int .i64 0]) (.agg #[.int .i64 0, .int .i64 0])).run Try.prog w = .ok (.bool true) w := fun w => eql_Site ⟨0, 0⟩ ⟨0, 0⟩ w
       go_enter Try.func148, Try.ntmps148
       go_wp2_with (first | (go_at_call 116; refine (impl_in _ _ _ _).mono ?_; rintro e w1 ⟨rfl, rfl⟩) | (go_at_call 118; refine (impl_IsPattern ⟨r.f2, r.f3⟩ _).mono ?_; rintro e w1 ⟨rfl, hb1⟩; obtain ⟨hc1, hf1⟩ := bcell hb1; have HB1 := Lib.hid hb1; have hs1 := hb1.size; (try simp at hs1); (have hz0 : w.heap.size < w1.heap.size := by omega); clear hb1) | (go_at_call 119; refine (impl_IsSite ⟨r.f6, r.f7⟩ _).mono ?_; rintro e w1 ⟨rfl, hb1⟩; obtain ⟨hc1, hf1⟩ := bcell hb1; have HB1 := Lib.hid hb1; have hs1 := hb1.size; (try simp at hs1); (have hz0 : w.heap.size < w1.heap.size := by omega); clear hb1))
       go_ret
       exact ⟨by rw [HE.out]; rfl, by repeat (first | with_reducible exact Below.refl _ _ | (with_reducible refine below_step ?_ (by assumption) (by first | omega | (simp <;> omega))) | (with_reducible refine Below.alloc ?_ (by first | omega | (simp <;> omega)) _) | (with_reducible refine Below.setCell ?_ (by first | omega | (simp <;> omega)) _) | (with_reducible refine Below.drew ?_) | (with_reducible refine below_dN ?_ _) | (refine Below.alloc ?_ (by first | omega | (simp <;> omega)) _))⟩
     ·
      have h4 : (mIsPattern ⟨r.f2, r.f3⟩) = false := by simpa using h4
      have HE := Lib.hid (show mIsRule r = false by simp [mIsRule, inR_123, h0, h1, h2, h3, h4])
      have g1 : ∀ w, (binOp .eql 27 (.agg #[.int .i64 r.f6, .int .i64 r.f7]) (.agg #[.int .i64 0, .int .i64 0])).run Try.prog w = .ok (.bool (mToZero r)) w := fun w => eql_Site ⟨r.f6, r.f7⟩ ⟨0, 0⟩ w
      have g2 : ∀ w, (binOp .eql 27 (.agg #[.int .i64 0, .int .i64 0]) (.agg #[.int .i64 0, .int .i64 0])).run Try.prog w = .ok (.bool true) w := fun w => eql_Site ⟨0, 0⟩ ⟨0, 0⟩ w
      go_enter Try.func148, Try.ntmps148
      go_wp2_with (first | (go_at_call 116; refine (impl_in _ _ _ _).mono ?_; rintro e w1 ⟨rfl, rfl⟩) | (go_at_call 118; refine (impl_IsPattern ⟨r.f2, r.f3⟩ _).mono ?_; rintro e w1 ⟨rfl, hb1⟩; obtain ⟨hc1, hf1⟩ := bcell hb1; have HB1 := Lib.hid hb1; have hs1 := hb1.size; (try simp at hs1); (have hz0 : w.heap.size < w1.heap.size := by omega); clear hb1) | (go_at_call 119; refine (impl_IsSite ⟨r.f6, r.f7⟩ _).mono ?_; rintro e w1 ⟨rfl, hb1⟩; obtain ⟨hc1, hf1⟩ := bcell hb1; have HB1 := Lib.hid hb1; have hs1 := hb1.size; (try simp at hs1); (have hz0 : w.heap.size < w1.heap.size := by omega); clear hb1))
      go_ret
      exact ⟨by rw [HE.out]; rfl, by repeat (first | with_reducible exact Below.refl _ _ | (with_reducible refine below_step ?_ (by assumption) (by first | omega | (simp <;> omega))) | (with_reducible refine Below.alloc ?_ (by first | omega | (simp <;> omega)) _) | (with_reducible refine Below.setCell ?_ (by first | omega | (simp <;> omega)) _) | (with_reducible refine Below.drew ?_) | (with_reducible refine below_dN ?_ _) | (refine Below.alloc ?_ (by first | omega | (simp <;> omega)) _))⟩
    ·
     have h3 : (inR r.f1 1 9) = false := by simpa using h3
     have HE := Lib.hid (show mIsRule r = false by simp [mIsRule, inR_123, h0, h1, h2, h3])
     have g1 : ∀ w, (binOp .eql 27 (.agg #[.int .i64 r.f6, .int .i64 r.f7]) (.agg #[.int .i64 0, .int .i64 0])).run Try.prog w = .ok (.bool (mToZero r)) w := fun w => eql_Site ⟨r.f6, r.f7⟩ ⟨0, 0⟩ w
     have g2 : ∀ w, (binOp .eql 27 (.agg #[.int .i64 0, .int .i64 0]) (.agg #[.int .i64 0, .int .i64 0])).run Try.prog w = .ok (.bool true) w := fun w => eql_Site ⟨0, 0⟩ ⟨0, 0⟩ w
     go_enter Try.func148, Try.ntmps148
     go_wp2_with (first | (go_at_call 116; refine (impl_in _ _ _ _).mono ?_; rintro e w1 ⟨rfl, rfl⟩) | (go_at_call 118; refine (impl_IsPattern ⟨r.f2, r.f3⟩ _).mono ?_; rintro e w1 ⟨rfl, hb1⟩; obtain ⟨hc1, hf1⟩ := bcell hb1; have HB1 := Lib.hid hb1; have hs1 := hb1.size; (try simp at hs1); (have hz0 : w.heap.size < w1.heap.size := by omega); clear hb1) | (go_at_call 119; refine (impl_IsSite ⟨r.f6, r.f7⟩ _).mono ?_; rintro e w1 ⟨rfl, hb1⟩; obtain ⟨hc1, hf1⟩ := bcell hb1; have HB1 := Lib.hid hb1; have hs1 := hb1.size; (try simp at hs1); (have hz0 : w.heap.size < w1.heap.size := by omega); clear hb1))
     go_ret
     exact ⟨by rw [HE.out]; rfl, by repeat (first | with_reducible exact Below.refl _ _ | (with_reducible refine below_step ?_ (by assumption) (by first | omega | (simp <;> omega))) | (with_reducible refine Below.alloc ?_ (by first | omega | (simp <;> omega)) _) | (with_reducible refine Below.setCell ?_ (by first | omega | (simp <;> omega)) _) | (with_reducible refine Below.drew ?_) | (with_reducible refine below_dN ?_ _) | (refine Below.alloc ?_ (by first | omega | (simp <;> omega)) _))⟩
   ·
    have h2 : (inR r.f0 1 5) = false := by simpa using h2
    have HE := Lib.hid (show mIsRule r = false by simp [mIsRule, inR_123, h0, h1, h2])
    have g1 : ∀ w, (binOp .eql 27 (.agg #[.int .i64 r.f6, .int .i64 r.f7]) (.agg #[.int .i64 0, .int .i64 0])).run Try.prog w = .ok (.bool (mToZero r)) w := fun w => eql_Site ⟨r.f6, r.f7⟩ ⟨0, 0⟩ w
    have g2 : ∀ w, (binOp .eql 27 (.agg #[.int .i64 0, .int .i64 0]) (.agg #[.int .i64 0, .int .i64 0])).run Try.prog w = .ok (.bool true) w := fun w => eql_Site ⟨0, 0⟩ ⟨0, 0⟩ w
    go_enter Try.func148, Try.ntmps148
    go_wp2_with (first | (go_at_call 116; refine (impl_in _ _ _ _).mono ?_; rintro e w1 ⟨rfl, rfl⟩) | (go_at_call 118; refine (impl_IsPattern ⟨r.f2, r.f3⟩ _).mono ?_; rintro e w1 ⟨rfl, hb1⟩; obtain ⟨hc1, hf1⟩ := bcell hb1; have HB1 := Lib.hid hb1; have hs1 := hb1.size; (try simp at hs1); (have hz0 : w.heap.size < w1.heap.size := by omega); clear hb1) | (go_at_call 119; refine (impl_IsSite ⟨r.f6, r.f7⟩ _).mono ?_; rintro e w1 ⟨rfl, hb1⟩; obtain ⟨hc1, hf1⟩ := bcell hb1; have HB1 := Lib.hid hb1; have hs1 := hb1.size; (try simp at hs1); (have hz0 : w.heap.size < w1.heap.size := by omega); clear hb1))
    go_ret
    exact ⟨by rw [HE.out]; rfl, by repeat (first | with_reducible exact Below.refl _ _ | (with_reducible refine below_step ?_ (by assumption) (by first | omega | (simp <;> omega))) | (with_reducible refine Below.alloc ?_ (by first | omega | (simp <;> omega)) _) | (with_reducible refine Below.setCell ?_ (by first | omega | (simp <;> omega)) _) | (with_reducible refine Below.drew ?_) | (with_reducible refine below_dN ?_ _) | (refine Below.alloc ?_ (by first | omega | (simp <;> omega)) _))⟩
  ·
   have h1 : (mIsSite ⟨r.f6, r.f7⟩) = false := by simpa using h1
   have HE := Lib.hid (show mIsRule r = false by simp [mIsRule, inR_123, h0, h1])
   have g1 : ∀ w, (binOp .eql 27 (.agg #[.int .i64 r.f6, .int .i64 r.f7]) (.agg #[.int .i64 0, .int .i64 0])).run Try.prog w = .ok (.bool (mToZero r)) w := fun w => eql_Site ⟨r.f6, r.f7⟩ ⟨0, 0⟩ w
   have g2 : ∀ w, (binOp .eql 27 (.agg #[.int .i64 0, .int .i64 0]) (.agg #[.int .i64 0, .int .i64 0])).run Try.prog w = .ok (.bool true) w := fun w => eql_Site ⟨0, 0⟩ ⟨0, 0⟩ w
   go_enter Try.func148, Try.ntmps148
   go_wp2_with (first | (go_at_call 116; refine (impl_in _ _ _ _).mono ?_; rintro e w1 ⟨rfl, rfl⟩) | (go_at_call 118; refine (impl_IsPattern ⟨r.f2, r.f3⟩ _).mono ?_; rintro e w1 ⟨rfl, hb1⟩; obtain ⟨hc1, hf1⟩ := bcell hb1; have HB1 := Lib.hid hb1; have hs1 := hb1.size; (try simp at hs1); (have hz0 : w.heap.size < w1.heap.size := by omega); clear hb1) | (go_at_call 119; refine (impl_IsSite ⟨r.f6, r.f7⟩ _).mono ?_; rintro e w1 ⟨rfl, hb1⟩; obtain ⟨hc1, hf1⟩ := bcell hb1; have HB1 := Lib.hid hb1; have hs1 := hb1.size; (try simp at hs1); (have hz0 : w.heap.size < w1.heap.size := by omega); clear hb1))
   go_ret
   exact ⟨by rw [HE.out]; rfl, by repeat (first | with_reducible exact Below.refl _ _ | (with_reducible refine below_step ?_ (by assumption) (by first | omega | (simp <;> omega))) | (with_reducible refine Below.alloc ?_ (by first | omega | (simp <;> omega)) _) | (with_reducible refine Below.setCell ?_ (by first | omega | (simp <;> omega)) _) | (with_reducible refine Below.drew ?_) | (with_reducible refine below_dN ?_ _) | (refine Below.alloc ?_ (by first | omega | (simp <;> omega)) _))⟩
 ·
  have h0 : (r.f5 == 3) = false := by simpa using h0
  by_cases h6 : (r.f5 == 1) = true
  ·
   by_cases h7 : (mToZero r) = true
   ·
    by_cases h8 : (inR r.f0 1 5) = true
    ·
     by_cases h9 : (inR r.f1 1 9) = true
     ·
      by_cases h10 : (mIsPattern ⟨r.f2, r.f3⟩) = true
      ·
       by_cases h11 : (inR r.f4 0 4) = true
       ·
        have HE := Lib.hid (show mIsRule r = true by simp [mIsRule, inR_123, h0, h6, h7, h8, h9, h10, h11])
        have g1 : ∀ w, (binOp .eql 27 (.agg #[.int .i64 r.f6, .int .i64 r.f7]) (.agg #[.int .i64 0, .int .i64 0])).run Try.prog w = .ok (.bool (mToZero r)) w := fun w => eql_Site ⟨r.f6, r.f7⟩ ⟨0, 0⟩ w
        have g2 : ∀ w, (binOp .eql 27 (.agg #[.int .i64 0, .int .i64 0]) (.agg #[.int .i64 0, .int .i64 0])).run Try.prog w = .ok (.bool true) w := fun w => eql_Site ⟨0, 0⟩ ⟨0, 0⟩ w
        go_enter Try.func148, Try.ntmps148
        go_wp2_with (first | (go_at_call 116; refine (impl_in _ _ _ _).mono ?_; rintro e w1 ⟨rfl, rfl⟩) | (go_at_call 118; refine (impl_IsPattern ⟨r.f2, r.f3⟩ _).mono ?_; rintro e w1 ⟨rfl, hb1⟩; obtain ⟨hc1, hf1⟩ := bcell hb1; have HB1 := Lib.hid hb1; have hs1 := hb1.size; (try simp at hs1); (have hz0 : w.heap.size < w1.heap.size := by omega); clear hb1) | (go_at_call 119; refine (impl_IsSite ⟨r.f6, r.f7⟩ _).mono ?_; rintro e w1 ⟨rfl, hb1⟩; obtain ⟨hc1, hf1⟩ := bcell hb1; have HB1 := Lib.hid hb1; have hs1 := hb1.size; (try simp at hs1); (have hz0 : w.heap.size < w1.heap.size := by omega); clear hb1))
        go_ret
        exact ⟨by rw [HE.out]; rfl, by repeat (first | with_reducible exact Below.refl _ _ | (with_reducible refine below_step ?_ (by assumption) (by first | omega | (simp <;> omega))) | (with_reducible refine Below.alloc ?_ (by first | omega | (simp <;> omega)) _) | (with_reducible refine Below.setCell ?_ (by first | omega | (simp <;> omega)) _) | (with_reducible refine Below.drew ?_) | (with_reducible refine below_dN ?_ _) | (refine Below.alloc ?_ (by first | omega | (simp <;> omega)) _))⟩
       ·
        have h11 : (inR r.f4 0 4) = false := by simpa using h11
        have HE := Lib.hid (show mIsRule r = false by simp [mIsRule, inR_123, h0, h6, h7, h8, h9, h10, h11])
        have g1 : ∀ w, (binOp .eql 27 (.agg #[.int .i64 r.f6, .int .i64 r.f7]) (.agg #[.int .i64 0, .int .i64 0])).run Try.prog w = .ok (.bool (mToZero r)) w := fun w => eql_Site ⟨r.f6, r.f7⟩ ⟨0, 0⟩ w
        have g2 : ∀ w, (binOp .eql 27 (.agg #[.int .i64 0, .int .i64 0]) (.agg #[.int .i64 0, .int .i64 0])).run Try.prog w = .ok (.bool true) w := fun w => eql_Site ⟨0, 0⟩ ⟨0, 0⟩ w
        go_enter Try.func148, Try.ntmps148
        go_wp2_with (first | (go_at_call 116; refine (impl_in _ _ _ _).mono ?_; rintro e w1 ⟨rfl, rfl⟩) | (go_at_call 118; refine (impl_IsPattern ⟨r.f2, r.f3⟩ _).mono ?_; rintro e w1 ⟨rfl, hb1⟩; obtain ⟨hc1, hf1⟩ := bcell hb1; have HB1 := Lib.hid hb1; have hs1 := hb1.size; (try simp at hs1); (have hz0 : w.heap.size < w1.heap.size := by omega); clear hb1) | (go_at_call 119; refine (impl_IsSite ⟨r.f6, r.f7⟩ _).mono ?_; rintro e w1 ⟨rfl, hb1⟩; obtain ⟨hc1, hf1⟩ := bcell hb1; have HB1 := Lib.hid hb1; have hs1 := hb1.size; (try simp at hs1); (have hz0 : w.heap.size < w1.heap.size := by omega); clear hb1))
        go_ret
        exact ⟨by rw [HE.out]; rfl, by repeat (first | with_reducible exact Below.refl _ _ | (with_reducible refine below_step ?_ (by assumption) (by first | omega | (simp <;> omega))) | (with_reducible refine Below.alloc ?_ (by first | omega | (simp <;> omega)) _) | (with_reducible refine Below.setCell ?_ (by first | omega | (simp <;> omega)) _) | (with_reducible refine Below.drew ?_) | (with_reducible refine below_dN ?_ _) | (refine Below.alloc ?_ (by first | omega | (simp <;> omega)) _))⟩
      ·
       have h10 : (mIsPattern ⟨r.f2, r.f3⟩) = false := by simpa using h10
       have HE := Lib.hid (show mIsRule r = false by simp [mIsRule, inR_123, h0, h6, h7, h8, h9, h10])
       have g1 : ∀ w, (binOp .eql 27 (.agg #[.int .i64 r.f6, .int .i64 r.f7]) (.agg #[.int .i64 0, .int .i64 0])).run Try.prog w = .ok (.bool (mToZero r)) w := fun w => eql_Site ⟨r.f6, r.f7⟩ ⟨0, 0⟩ w
       have g2 : ∀ w, (binOp .eql 27 (.agg #[.int .i64 0, .int .i64 0]) (.agg #[.int .i64 0, .int .i64 0])).run Try.prog w = .ok (.bool true) w := fun w => eql_Site ⟨0, 0⟩ ⟨0, 0⟩ w
       go_enter Try.func148, Try.ntmps148
       go_wp2_with (first | (go_at_call 116; refine (impl_in _ _ _ _).mono ?_; rintro e w1 ⟨rfl, rfl⟩) | (go_at_call 118; refine (impl_IsPattern ⟨r.f2, r.f3⟩ _).mono ?_; rintro e w1 ⟨rfl, hb1⟩; obtain ⟨hc1, hf1⟩ := bcell hb1; have HB1 := Lib.hid hb1; have hs1 := hb1.size; (try simp at hs1); (have hz0 : w.heap.size < w1.heap.size := by omega); clear hb1) | (go_at_call 119; refine (impl_IsSite ⟨r.f6, r.f7⟩ _).mono ?_; rintro e w1 ⟨rfl, hb1⟩; obtain ⟨hc1, hf1⟩ := bcell hb1; have HB1 := Lib.hid hb1; have hs1 := hb1.size; (try simp at hs1); (have hz0 : w.heap.size < w1.heap.size := by omega); clear hb1))
       go_ret
       exact ⟨by rw [HE.out]; rfl, by repeat (first | with_reducible exact Below.refl _ _ | (with_reducible refine below_step ?_ (by assumption) (by first | omega | (simp <;> omega))) | (with_reducible refine Below.alloc ?_ (by first | omega | (simp <;> omega)) _) | (with_reducible refine Below.setCell ?_ (by first | omega | (simp <;> omega)) _) | (with_reducible refine Below.drew ?_) | (with_reducible refine below_dN ?_ _) | (refine Below.alloc ?_ (by first | omega | (simp <;> omega)) _))⟩
     ·
      have h9 : (inR r.f1 1 9) = false := by simpa using h9
      have HE := Lib.hid (show mIsRule r = false by simp [mIsRule, inR_123, h0, h6, h7, h8, h9])
      have g1 : ∀ w, (binOp .eql 27 (.agg #[.int .i64 r.f6, .int .i64 r.f7]) (.agg #[.int .i64 0, .int .i64 0])).run Try.prog w = .ok (.bool (mToZero r)) w := fun w => eql_Site ⟨r.f6, r.f7⟩ ⟨0, 0⟩ w
      have g2 : ∀ w, (binOp .eql 27 (.agg #[.int .i64 0, .int .i64 0]) (.agg #[.int .i64 0, .int .i64 0])).run Try.prog w = .ok (.bool true) w := fun w => eql_Site ⟨0, 0⟩ ⟨0, 0⟩ w
      go_enter Try.func148, Try.ntmps148
      go_wp2_with (first | (go_at_call 116; refine (impl_in _ _ _ _).mono ?_; rintro e w1 ⟨rfl, rfl⟩) | (go_at_call 118; refine (impl_IsPattern ⟨r.f2, r.f3⟩ _).mono ?_; rintro e w1 ⟨rfl, hb1⟩; obtain ⟨hc1, hf1⟩ := bcell hb1; have HB1 := Lib.hid hb1; have hs1 := hb1.size; (try simp at hs1); (have hz0 : w.heap.size < w1.heap.size := by omega); clear hb1) | (go_at_call 119; refine (impl_IsSite ⟨r.f6, r.f7⟩ _).mono ?_; rintro e w1 ⟨rfl, hb1⟩; obtain ⟨hc1, hf1⟩ := bcell hb1; have HB1 := Lib.hid hb1; have hs1 := hb1.size; (try simp at hs1); (have hz0 : w.heap.size < w1.heap.size := by omega); clear hb1))
      go_ret
      exact ⟨by rw [HE.out]; rfl, by repeat (first | with_reducible exact Below.refl _ _ | (with_reducible refine below_step ?_ (by assumption) (by first | omega | (simp <;> omega))) | (with_reducible refine Below.alloc ?_ (by first | omega | (simp <;> omega)) _) | (with_reducible refine Below.setCell ?_ (by first | omega | (simp <;> omega)) _) | (with_reducible refine Below.drew ?_) | (with_reducible refine below_dN ?_ _) | (refine Below.alloc ?_ (by first | omega | (simp <;> omega)) _))⟩
    ·
     have h8 : (inR r.f0 1 5) = false := by simpa using h8
     have HE := Lib.hid (show mIsRule r = false by simp [mIsRule, inR_123, h0, h6, h7, h8])
     have g1 : ∀ w, (binOp .eql 27 (.agg #[.int .i64 r.f6, .int .i64 r.f7]) (.agg #[.int .i64 0, .int .i64 0])).run Try.prog w = .ok (.bool (mToZero r)) w := fun w => eql_Site ⟨r.f6, r.f7⟩ ⟨0, 0⟩ w
     have g2 : ∀ w, (binOp .eql 27 (.agg #[.int .i64 0, .int .i64 0]) (.agg #[.int .i64 0, .int .i64 0])).run Try.prog w = .ok (.bool true) w := fun w => eql_Site ⟨0, 0⟩ ⟨0, 0⟩ w
     go_enter Try.func148, Try.ntmps148
     go_wp2_with (first | (go_at_call 116; refine (impl_in _ _ _ _).mono ?_; rintro e w1 ⟨rfl, rfl⟩) | (go_at_call 118; refine (impl_IsPattern ⟨r.f2, r.f3⟩ _).mono ?_; rintro e w1 ⟨rfl, hb1⟩; obtain ⟨hc1, hf1⟩ := bcell hb1; have HB1 := Lib.hid hb1; have hs1 := hb1.size; (try simp at hs1); (have hz0 : w.heap.size < w1.heap.size := by omega); clear hb1) | (go_at_call 119; refine (impl_IsSite ⟨r.f6, r.f7⟩ _).mono ?_; rintro e w1 ⟨rfl, hb1⟩; obtain ⟨hc1, hf1⟩ := bcell hb1; have HB1 := Lib.hid hb1; have hs1 := hb1.size; (try simp at hs1); (have hz0 : w.heap.size < w1.heap.size := by omega); clear hb1))
     go_ret
     exact ⟨by rw [HE.out]; rfl, by repeat (first | with_reducible exact Below.refl _ _ | (with_reducible refine below_step ?_ (by assumption) (by first | omega | (simp <;> omega))) | (with_reducible refine Below.alloc ?_ (by first | omega | (simp <;> omega)) _) | (with_reducible refine Below.setCell ?_ (by first | omega | (simp <;> omega)) _) | (with_reducible refine Below.drew ?_) | (with_reducible refine below_dN ?_ _) | (refine Below.alloc ?_ (by first | omega | (simp <;> omega)) _))⟩
   ·
    have h7 : (mToZero r) = false := by simpa using h7
    have HE := Lib.hid (show mIsRule r = false by simp [mIsRule, inR_123, h0, h6, h7])
    have g1 : ∀ w, (binOp .eql 27 (.agg #[.int .i64 r.f6, .int .i64 r.f7]) (.agg #[.int .i64 0, .int .i64 0])).run Try.prog w = .ok (.bool (mToZero r)) w := fun w => eql_Site ⟨r.f6, r.f7⟩ ⟨0, 0⟩ w
    have g2 : ∀ w, (binOp .eql 27 (.agg #[.int .i64 0, .int .i64 0]) (.agg #[.int .i64 0, .int .i64 0])).run Try.prog w = .ok (.bool true) w := fun w => eql_Site ⟨0, 0⟩ ⟨0, 0⟩ w
    go_enter Try.func148, Try.ntmps148
    go_wp2_with (first | (go_at_call 116; refine (impl_in _ _ _ _).mono ?_; rintro e w1 ⟨rfl, rfl⟩) | (go_at_call 118; refine (impl_IsPattern ⟨r.f2, r.f3⟩ _).mono ?_; rintro e w1 ⟨rfl, hb1⟩; obtain ⟨hc1, hf1⟩ := bcell hb1; have HB1 := Lib.hid hb1; have hs1 := hb1.size; (try simp at hs1); (have hz0 : w.heap.size < w1.heap.size := by omega); clear hb1) | (go_at_call 119; refine (impl_IsSite ⟨r.f6, r.f7⟩ _).mono ?_; rintro e w1 ⟨rfl, hb1⟩; obtain ⟨hc1, hf1⟩ := bcell hb1; have HB1 := Lib.hid hb1; have hs1 := hb1.size; (try simp at hs1); (have hz0 : w.heap.size < w1.heap.size := by omega); clear hb1))
    go_ret
    exact ⟨by rw [HE.out]; rfl, by repeat (first | with_reducible exact Below.refl _ _ | (with_reducible refine below_step ?_ (by assumption) (by first | omega | (simp <;> omega))) | (with_reducible refine Below.alloc ?_ (by first | omega | (simp <;> omega)) _) | (with_reducible refine Below.setCell ?_ (by first | omega | (simp <;> omega)) _) | (with_reducible refine Below.drew ?_) | (with_reducible refine below_dN ?_ _) | (refine Below.alloc ?_ (by first | omega | (simp <;> omega)) _))⟩
  ·
   have h6 : (r.f5 == 1) = false := by simpa using h6
   by_cases h12 : (r.f5 == 2) = true
   ·
    by_cases h13 : (mToZero r) = true
    ·
     by_cases h14 : (inR r.f0 1 5) = true
     ·
      by_cases h15 : (inR r.f1 1 9) = true
      ·
       by_cases h16 : (mIsPattern ⟨r.f2, r.f3⟩) = true
       ·
        by_cases h17 : (inR r.f4 0 4) = true
        ·
         have HE := Lib.hid (show mIsRule r = true by simp [mIsRule, inR_123, h0, h6, h12, h13, h14, h15, h16, h17])
         have g1 : ∀ w, (binOp .eql 27 (.agg #[.int .i64 r.f6, .int .i64 r.f7]) (.agg #[.int .i64 0, .int .i64 0])).run Try.prog w = .ok (.bool (mToZero r)) w := fun w => eql_Site ⟨r.f6, r.f7⟩ ⟨0, 0⟩ w
         have g2 : ∀ w, (binOp .eql 27 (.agg #[.int .i64 0, .int .i64 0]) (.agg #[.int .i64 0, .int .i64 0])).run Try.prog w = .ok (.bool true) w := fun w => eql_Site ⟨0, 0⟩ ⟨0, 0⟩ w
         go_enter Try.func148, Try.ntmps148
         go_wp2_with (first | (go_at_call 116; refine (impl_in _ _ _ _).mono ?_; rintro e w1 ⟨rfl, rfl⟩) | (go_at_call 118; refine (impl_IsPattern ⟨r.f2, r.f3⟩ _).mono ?_; rintro e w1 ⟨rfl, hb1⟩; obtain ⟨hc1, hf1⟩ := bcell hb1; have HB1 := Lib.hid hb1; have hs1 := hb1.size; (try simp at hs1); (have hz0 : w.heap.size < w1.heap.size := by omega); clear hb1) | (go_at_call 119; refine (impl_IsSite ⟨r.f6, r.f7⟩ _).mono ?_; rintro e w1 ⟨rfl, hb1⟩; obtain ⟨hc1, hf1⟩ := bcell hb1; have HB1 := Lib.hid hb1; have hs1 := hb1.size; (try simp at hs1); (have hz0 : w.heap.size < w1.heap.size := by omega); clear hb1))
         go_ret
         exact ⟨by rw [HE.out]; rfl, by repeat (first | with_reducible exact Below.refl _ _ | (with_reducible refine below_step ?_ (by assumption) (by first | omega | (simp <;> omega))) | (with_reducible refine Below.alloc ?_ (by first | omega | (simp <;> omega)) _) | (with_reducible refine Below.setCell ?_ (by first | omega | (simp <;> omega)) _) | (with_reducible refine Below.drew ?_) | (with_reducible refine below_dN ?_ _) | (refine Below.alloc ?_ (by first | omega | (simp <;> omega)) _))⟩
        ·
         have h17 : (inR r.f4 0 4) = false := by simpa using h17
         have HE := Lib.hid (show mIsRule r = false by simp [mIsRule, inR_123, h0, h6, h12, h13, h14, h15, h16, h17])
         have g1 : ∀ w, (binOp .eql 27 (.agg #[.int .i64 r.f6, .int .i64 r.f7]) (.agg #[.int .i64 0, .int .i64 0])).run Try.prog w = .ok (.bool (mToZero r)) w := fun w => eql_Site ⟨r.f6, r.f7⟩ ⟨0, 0⟩ w
         have g2 : ∀ w, (binOp .eql 27 (.agg #[.int .i64 0, .int .i64 0]) (.agg #[.int .i64 0, .int .i64 0])).run Try.prog w = .ok (.bool true) w := fun w => eql_Site ⟨0, 0⟩ ⟨0, 0⟩ w
         go_enter Try.func148, Try.ntmps148
         go_wp2_with (first | (go_at_call 116; refine (impl_in _ _ _ _).mono ?_; rintro e w1 ⟨rfl, rfl⟩) | (go_at_call 118; refine (impl_IsPattern ⟨r.f2, r.f3⟩ _).mono ?_; rintro e w1 ⟨rfl, hb1⟩; obtain ⟨hc1, hf1⟩ := bcell hb1; have HB1 := Lib.hid hb1; have hs1 := hb1.size; (try simp at hs1); (have hz0 : w.heap.size < w1.heap.size := by omega); clear hb1) | (go_at_call 119; refine (impl_IsSite ⟨r.f6, r.f7⟩ _).mono ?_; rintro e w1 ⟨rfl, hb1⟩; obtain ⟨hc1, hf1⟩ := bcell hb1; have HB1 := Lib.hid hb1; have hs1 := hb1.size; (try simp at hs1); (have hz0 : w.heap.size < w1.heap.size := by omega); clear hb1))
         go_ret
         exact ⟨by rw [HE.out]; rfl, by repeat (first | with_reducible exact Below.refl _ _ | (with_reducible refine below_step ?_ (by assumption) (by first | omega | (simp <;> omega))) | (with_reducible refine Below.alloc ?_ (by first | omega | (simp <;> omega)) _) | (with_reducible refine Below.setCell ?_ (by first | omega | (simp <;> omega)) _) | (with_reducible refine Below.drew ?_) | (with_reducible refine below_dN ?_ _) | (refine Below.alloc ?_ (by first | omega | (simp <;> omega)) _))⟩
       ·
        have h16 : (mIsPattern ⟨r.f2, r.f3⟩) = false := by simpa using h16
        have HE := Lib.hid (show mIsRule r = false by simp [mIsRule, inR_123, h0, h6, h12, h13, h14, h15, h16])
        have g1 : ∀ w, (binOp .eql 27 (.agg #[.int .i64 r.f6, .int .i64 r.f7]) (.agg #[.int .i64 0, .int .i64 0])).run Try.prog w = .ok (.bool (mToZero r)) w := fun w => eql_Site ⟨r.f6, r.f7⟩ ⟨0, 0⟩ w
        have g2 : ∀ w, (binOp .eql 27 (.agg #[.int .i64 0, .int .i64 0]) (.agg #[.int .i64 0, .int .i64 0])).run Try.prog w = .ok (.bool true) w := fun w => eql_Site ⟨0, 0⟩ ⟨0, 0⟩ w
        go_enter Try.func148, Try.ntmps148
        go_wp2_with (first | (go_at_call 116; refine (impl_in _ _ _ _).mono ?_; rintro e w1 ⟨rfl, rfl⟩) | (go_at_call 118; refine (impl_IsPattern ⟨r.f2, r.f3⟩ _).mono ?_; rintro e w1 ⟨rfl, hb1⟩; obtain ⟨hc1, hf1⟩ := bcell hb1; have HB1 := Lib.hid hb1; have hs1 := hb1.size; (try simp at hs1); (have hz0 : w.heap.size < w1.heap.size := by omega); clear hb1) | (go_at_call 119; refine (impl_IsSite ⟨r.f6, r.f7⟩ _).mono ?_; rintro e w1 ⟨rfl, hb1⟩; obtain ⟨hc1, hf1⟩ := bcell hb1; have HB1 := Lib.hid hb1; have hs1 := hb1.size; (try simp at hs1); (have hz0 : w.heap.size < w1.heap.size := by omega); clear hb1))
        go_ret
        exact ⟨by rw [HE.out]; rfl, by repeat (first | with_reducible exact Below.refl _ _ | (with_reducible refine below_step ?_ (by assumption) (by first | omega | (simp <;> omega))) | (with_reducible refine Below.alloc ?_ (by first | omega | (simp <;> omega)) _) | (with_reducible refine Below.setCell ?_ (by first | omega | (simp <;> omega)) _) | (with_reducible refine Below.drew ?_) | (with_reducible refine below_dN ?_ _) | (refine Below.alloc ?_ (by first | omega | (simp <;> omega)) _))⟩
      ·
       have h15 : (inR r.f1 1 9) = false := by simpa using h15
       have HE := Lib.hid (show mIsRule r = false by simp [mIsRule, inR_123, h0, h6, h12, h13, h14, h15])
       have g1 : ∀ w, (binOp .eql 27 (.agg #[.int .i64 r.f6, .int .i64 r.f7]) (.agg #[.int .i64 0, .int .i64 0])).run Try.prog w = .ok (.bool (mToZero r)) w := fun w => eql_Site ⟨r.f6, r.f7⟩ ⟨0, 0⟩ w
       have g2 : ∀ w, (binOp .eql 27 (.agg #[.int .i64 0, .int .i64 0]) (.agg #[.int .i64 0, .int .i64 0])).run Try.prog w = .ok (.bool true) w := fun w => eql_Site ⟨0, 0⟩ ⟨0, 0⟩ w
       go_enter Try.func148, Try.ntmps148
       go_wp2_with (first | (go_at_call 116; refine (impl_in _ _ _ _).mono ?_; rintro e w1 ⟨rfl, rfl⟩) | (go_at_call 118; refine (impl_IsPattern ⟨r.f2, r.f3⟩ _).mono ?_; rintro e w1 ⟨rfl, hb1⟩; obtain ⟨hc1, hf1⟩ := bcell hb1; have HB1 := Lib.hid hb1; have hs1 := hb1.size; (try simp at hs1); (have hz0 : w.heap.size < w1.heap.size := by omega); clear hb1) | (go_at_call 119; refine (impl_IsSite ⟨r.f6, r.f7⟩ _).mono ?_; rintro e w1 ⟨rfl, hb1⟩; obtain ⟨hc1, hf1⟩ := bcell hb1; have HB1 := Lib.hid hb1; have hs1 := hb1.size; (try simp at hs1); (have hz0 : w.heap.size < w1.heap.size := by omega); clear hb1))
       go_ret
       exact ⟨by rw [HE.out]; rfl, by repeat (first | with_reducible exact Below.refl _ _ | (with_reducible refine below_step ?_ (by assumption) (by first | omega | (simp <;> omega))) | (with_reducible refine Below.alloc ?_ (by first | omega | (simp <;> omega)) _) | (with_reducible refine Below.setCell ?_ (by first | omega | (simp <;> omega)) _) | (with_reducible refine Below.drew ?_) | (with_reducible refine below_dN ?_ _) | (refine Below.alloc ?_ (by first | omega | (simp <;> omega)) _))⟩
     ·
      have h14 : (inR r.f0 1 5) = false := by simpa using h14
      have HE := Lib.hid (show mIsRule r = false by simp [mIsRule, inR_123, h0, h6, h12, h13, h14])
      have g1 : ∀ w, (binOp .eql 27 (.agg #[.int .i64 r.f6, .int .i64 r.f7]) (.agg #[.int .i64 0, .int .i64 0])).run Try.prog w = .ok (.bool (mToZero r)) w := fun w => eql_Site ⟨r.f6, r.f7⟩ ⟨0, 0⟩ w
      have g2 : ∀ w, (binOp .eql 27 (.agg #[.int .i64 0, .int .i64 0]) (.agg #[.int .i64 0, .int .i64 0])).run Try.prog w = .ok (.bool true) w := fun w => eql_Site ⟨0, 0⟩ ⟨0, 0⟩ w
      go_enter Try.func148, Try.ntmps148
      go_wp2_with (first | (go_at_call 116; refine (impl_in _ _ _ _).mono ?_; rintro e w1 ⟨rfl, rfl⟩) | (go_at_call 118; refine (impl_IsPattern ⟨r.f2, r.f3⟩ _).mono ?_; rintro e w1 ⟨rfl, hb1⟩; obtain ⟨hc1, hf1⟩ := bcell hb1; have HB1 := Lib.hid hb1; have hs1 := hb1.size; (try simp at hs1); (have hz0 : w.heap.size < w1.heap.size := by omega); clear hb1) | (go_at_call 119; refine (impl_IsSite ⟨r.f6, r.f7⟩ _).mono ?_; rintro e w1 ⟨rfl, hb1⟩; obtain ⟨hc1, hf1⟩ := bcell hb1; have HB1 := Lib.hid hb1; have hs1 := hb1.size; (try simp at hs1); (have hz0 : w.heap.size < w1.heap.size := by omega); clear hb1))
      go_ret
      exact ⟨by rw [HE.out]; rfl, by repeat (first | with_reducible exact Below.refl _ _ | (with_reducible refine below_step ?_ (by assumption) (by first | omega | (simp <;> omega))) | (with_reducible refine Below.alloc ?_ (by first | omega | (simp <;> omega)) _) | (with_reducible refine Below.setCell ?_ (by first | omega | (simp <;> omega)) _) | (with_reducible refine Below.drew ?_) | (with_reducible refine below_dN ?_ _) | (refine Below.alloc ?_ (by first | omega | (simp <;> omega)) _))⟩
    ·
     have h13 : (mToZero r) = false := by simpa using h13
     have HE := Lib.hid (show mIsRule r = false by simp [mIsRule, inR_123, h0, h6, h12, h13])
     have g1 : ∀ w, (binOp .eql 27 (.agg #[.int .i64 r.f6, .int .i64 r.f7]) (.agg #[.int .i64 0, .int .i64 0])).run Try.prog w = .ok (.bool (mToZero r)) w := fun w => eql_Site ⟨r.f6, r.f7⟩ ⟨0, 0⟩ w
     have g2 : ∀ w, (binOp .eql 27 (.agg #[.int .i64 0, .int .i64 0]) (.agg #[.int .i64 0, .int .i64 0])).run Try.prog w = .ok (.bool true) w := fun w => eql_Site ⟨0, 0⟩ ⟨0, 0⟩ w
     go_enter Try.func148, Try.ntmps148
     go_wp2_with (first | (go_at_call 116; refine (impl_in _ _ _ _).mono ?_; rintro e w1 ⟨rfl, rfl⟩) | (go_at_call 118; refine (impl_IsPattern ⟨r.f2, r.f3⟩ _).mono ?_; rintro e w1 ⟨rfl, hb1⟩; obtain ⟨hc1, hf1⟩ := bcell hb1; have HB1 := Lib.hid hb1; have hs1 := hb1.size; (try simp at hs1); (have hz0 : w.heap.size < w1.heap.size := by omega); clear hb1) | (go_at_call 119; refine (impl_IsSite ⟨r.f6, r.f7⟩ _).mono ?_; rintro e w1 ⟨rfl, hb1⟩; obtain ⟨hc1, hf1⟩ := bcell hb1; have HB1 := Lib.hid hb1; have hs1 := hb1.size; (try simp at hs1); (have hz0 : w.heap.size < w1.heap.size := by omega); clear hb1))
     go_ret
     exact ⟨by rw [HE.out]; rfl, by repeat (first | with_reducible exact Below.refl _ _ | (with_reducible refine below_step ?_ (by assumption) (by first | omega | (simp <;> omega))) | (with_reducible refine Below.alloc ?_ (by first | omega | (simp <;> omega)) _) | (with_reducible refine Below.setCell ?_ (by first | omega | (simp <;> omega)) _) | (with_reducible refine Below.drew ?_) | (with_reducible refine below_dN ?_ _) | (refine Below.alloc ?_ (by first | omega | (simp <;> omega)) _))⟩
   ·
    have h12 : (r.f5 == 2) = false := by simpa using h12
    have HE := Lib.hid (show mIsRule r = false by simp [mIsRule, inR_123, h0, h6, h12])
    have g1 : ∀ w, (binOp .eql 27 (.agg #[.int .i64 r.f6, .int .i64 r.f7]) (.agg #[.int .i64 0, .int .i64 0])).run Try.prog w = .ok (.bool (mToZero r)) w := fun w => eql_Site ⟨r.f6, r.f7⟩ ⟨0, 0⟩ w
    have g2 : ∀ w, (binOp .eql 27 (.agg #[.int .i64 0, .int .i64 0]) (.agg #[.int .i64 0, .int .i64 0])).run Try.prog w = .ok (.bool true) w := fun w => eql_Site ⟨0, 0⟩ ⟨0, 0⟩ w
    go_enter Try.func148, Try.ntmps148
    go_wp2_with (first | (go_at_call 116; refine (impl_in _ _ _ _).mono ?_; rintro e w1 ⟨rfl, rfl⟩) | (go_at_call 118; refine (impl_IsPattern ⟨r.f2, r.f3⟩ _).mono ?_; rintro e w1 ⟨rfl, hb1⟩; obtain ⟨hc1, hf1⟩ := bcell hb1; have HB1 := Lib.hid hb1; have hs1 := hb1.size; (try simp at hs1); (have hz0 : w.heap.size < w1.heap.size := by omega); clear hb1) | (go_at_call 119; refine (impl_IsSite ⟨r.f6, r.f7⟩ _).mono ?_; rintro e w1 ⟨rfl, hb1⟩; obtain ⟨hc1, hf1⟩ := bcell hb1; have HB1 := Lib.hid hb1; have hs1 := hb1.size; (try simp at hs1); (have hz0 : w.heap.size < w1.heap.size := by omega); clear hb1))
    go_ret
    exact ⟨by rw [HE.out]; rfl, by repeat (first | with_reducible exact Below.refl _ _ | (with_reducible refine below_step ?_ (by assumption) (by first | omega | (simp <;> omega))) | (with_reducible refine Below.alloc ?_ (by first | omega | (simp <;> omega)) _) | (with_reducible refine Below.setCell ?_ (by first | omega | (simp <;> omega)) _) | (with_reducible refine Below.drew ?_) | (with_reducible refine below_dN ?_ _) | (refine Below.alloc ?_ (by first | omega | (simp <;> omega)) _))⟩
end Go.Proofs.Ytfceddgacefejaa
