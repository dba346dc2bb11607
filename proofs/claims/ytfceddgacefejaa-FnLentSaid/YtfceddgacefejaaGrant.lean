/- Grants: whether one is valid, and what it covers, of the program and of the model. -/
import Derived.Test.YtfceddgacefejaaSite
import Derived.Test.YtfceddgacefejaaTGrant
namespace Go.Proofs.Ytfceddgacefejaa
open Go Go.ChangeShapes Go.WideShapes Go.ChangeAt Go.RowKit Go.Lib
set_option linter.unusedVariables false
set_option linter.unusedSimpArgs false
set_option maxRecDepth 100000
abbrev vGrant (x : TGrant) : Value := .agg #[.int .i64 x.f0, .int .i64 x.f1, .int .i64 x.f2, .int .i64 x.f3, .int .i64 x.f4, .int .i64 x.f5, .bool x.f6]
def mIsGrant (g : TGrant) : Bool := inR g.f0 1 5 && mIsPattern ⟨g.f1, g.f2⟩ && inR g.f3 1 4 && decide (0 ≤ g.f4) && decide (g.f4 ≤ g.f5) && decide (g.f5 ≤ 10000)
def mCovers (g : TGrant) (ext : Int) (s : TSite) (kind tick : Int) (clicked : Bool) : Bool :=
 mIsGrant g && g.f0 == ext && g.f3 == kind && mMatchSite ⟨g.f1, g.f2⟩ s && inR tick g.f4 g.f5 && (clicked || !g.f6)

set_option maxHeartbeats 40000000 in
theorem spec_IsGrant (g : TGrant) (w : World) :
  Calls Try.prog 203 #[vGrant g] w (Says (.bool (mIsGrant g)) w) := by
 by_cases h0 : (inR g.f0 1 5) = true
 ·
  by_cases h1 : (mIsPattern ⟨g.f1, g.f2⟩) = true
  ·
   by_cases h2 : (inR g.f3 1 4) = true
   ·
    by_cases h3 : (decide (0 ≤ g.f4)) = true
    ·
     by_cases h4 : (decide (g.f4 ≤ g.f5)) = true
     ·
      by_cases h5 : (decide (g.f5 ≤ 10000)) = true
      ·
       have HE := Lib.hid (show mIsGrant g = true by simp [mIsGrant, h0, h1, h2, h3, h4, h5])
       go_enter Try.func203, Try.ntmps203
       go_wp2_with (first | (go_at_call 161; refine (spec_in _ _ _ _).mono ?_; rintro e w1 ⟨rfl, rfl⟩) | (go_at_call 225; refine (spec_IsPattern ⟨g.f1, g.f2⟩ _).mono ?_; rintro e w1 ⟨rfl, hb1⟩; obtain ⟨hc1, hf1⟩ := bcell hb1; have HB1 := Lib.hid hb1; have hs1 := hb1.size; (try simp at hs1); (have hz0 : w.heap.size < w1.heap.size := by omega); clear hb1))
       go_ret
       exact ⟨by rw [HE.out]; rfl, by repeat (first | with_reducible exact Below.refl _ _ | (with_reducible refine below_step ?_ (by assumption) (by first | omega | (simp <;> omega))) | (with_reducible refine Below.alloc ?_ (by first | omega | (simp <;> omega)) _) | (with_reducible refine Below.setCell ?_ (by first | omega | (simp <;> omega)) _) | (with_reducible refine Below.drew ?_) | (with_reducible refine below_dN ?_ _) | (refine Below.alloc ?_ (by first | omega | (simp <;> omega)) _))⟩
      ·
       have h5 : (decide (g.f5 ≤ 10000)) = false := by simpa using h5
       have HE := Lib.hid (show mIsGrant g = false by simp [mIsGrant, h0, h1, h2, h3, h4, h5])
       go_enter Try.func203, Try.ntmps203
       go_wp2_with (first | (go_at_call 161; refine (spec_in _ _ _ _).mono ?_; rintro e w1 ⟨rfl, rfl⟩) | (go_at_call 225; refine (spec_IsPattern ⟨g.f1, g.f2⟩ _).mono ?_; rintro e w1 ⟨rfl, hb1⟩; obtain ⟨hc1, hf1⟩ := bcell hb1; have HB1 := Lib.hid hb1; have hs1 := hb1.size; (try simp at hs1); (have hz0 : w.heap.size < w1.heap.size := by omega); clear hb1))
       go_ret
       exact ⟨by rw [HE.out]; rfl, by repeat (first | with_reducible exact Below.refl _ _ | (with_reducible refine below_step ?_ (by assumption) (by first | omega | (simp <;> omega))) | (with_reducible refine Below.alloc ?_ (by first | omega | (simp <;> omega)) _) | (with_reducible refine Below.setCell ?_ (by first | omega | (simp <;> omega)) _) | (with_reducible refine Below.drew ?_) | (with_reducible refine below_dN ?_ _) | (refine Below.alloc ?_ (by first | omega | (simp <;> omega)) _))⟩
     ·
      have h4 : (decide (g.f4 ≤ g.f5)) = false := by simpa using h4
      have HE := Lib.hid (show mIsGrant g = false by simp [mIsGrant, h0, h1, h2, h3, h4])
      go_enter Try.func203, Try.ntmps203
      go_wp2_with (first | (go_at_call 161; refine (spec_in _ _ _ _).mono ?_; rintro e w1 ⟨rfl, rfl⟩) | (go_at_call 225; refine (spec_IsPattern ⟨g.f1, g.f2⟩ _).mono ?_; rintro e w1 ⟨rfl, hb1⟩; obtain ⟨hc1, hf1⟩ := bcell hb1; have HB1 := Lib.hid hb1; have hs1 := hb1.size; (try simp at hs1); (have hz0 : w.heap.size < w1.heap.size := by omega); clear hb1))
      go_ret
      exact ⟨by rw [HE.out]; rfl, by repeat (first | with_reducible exact Below.refl _ _ | (with_reducible refine below_step ?_ (by assumption) (by first | omega | (simp <;> omega))) | (with_reducible refine Below.alloc ?_ (by first | omega | (simp <;> omega)) _) | (with_reducible refine Below.setCell ?_ (by first | omega | (simp <;> omega)) _) | (with_reducible refine Below.drew ?_) | (with_reducible refine below_dN ?_ _) | (refine Below.alloc ?_ (by first | omega | (simp <;> omega)) _))⟩
    ·
     have h3 : (decide (0 ≤ g.f4)) = false := by simpa using h3
     have HE := Lib.hid (show mIsGrant g = false by simp [mIsGrant, h0, h1, h2, h3])
     go_enter Try.func203, Try.ntmps203
     go_wp2_with (first | (go_at_call 161; refine (spec_in _ _ _ _).mono ?_; rintro e w1 ⟨rfl, rfl⟩) | (go_at_call 225; refine (spec_IsPattern ⟨g.f1, g.f2⟩ _).mono ?_; rintro e w1 ⟨rfl, hb1⟩; obtain ⟨hc1, hf1⟩ := bcell hb1; have HB1 := Lib.hid hb1; have hs1 := hb1.size; (try simp at hs1); (have hz0 : w.heap.size < w1.heap.size := by omega); clear hb1))
     go_ret
     exact ⟨by rw [HE.out]; rfl, by repeat (first | with_reducible exact Below.refl _ _ | (with_reducible refine below_step ?_ (by assumption) (by first | omega | (simp <;> omega))) | (with_reducible refine Below.alloc ?_ (by first | omega | (simp <;> omega)) _) | (with_reducible refine Below.setCell ?_ (by first | omega | (simp <;> omega)) _) | (with_reducible refine Below.drew ?_) | (with_reducible refine below_dN ?_ _) | (refine Below.alloc ?_ (by first | omega | (simp <;> omega)) _))⟩
   ·
    have h2 : (inR g.f3 1 4) = false := by simpa using h2
    have HE := Lib.hid (show mIsGrant g = false by simp [mIsGrant, h0, h1, h2])
    go_enter Try.func203, Try.ntmps203
    go_wp2_with (first | (go_at_call 161; refine (spec_in _ _ _ _).mono ?_; rintro e w1 ⟨rfl, rfl⟩) | (go_at_call 225; refine (spec_IsPattern ⟨g.f1, g.f2⟩ _).mono ?_; rintro e w1 ⟨rfl, hb1⟩; obtain ⟨hc1, hf1⟩ := bcell hb1; have HB1 := Lib.hid hb1; have hs1 := hb1.size; (try simp at hs1); (have hz0 : w.heap.size < w1.heap.size := by omega); clear hb1))
    go_ret
    exact ⟨by rw [HE.out]; rfl, by repeat (first | with_reducible exact Below.refl _ _ | (with_reducible refine below_step ?_ (by assumption) (by first | omega | (simp <;> omega))) | (with_reducible refine Below.alloc ?_ (by first | omega | (simp <;> omega)) _) | (with_reducible refine Below.setCell ?_ (by first | omega | (simp <;> omega)) _) | (with_reducible refine Below.drew ?_) | (with_reducible refine below_dN ?_ _) | (refine Below.alloc ?_ (by first | omega | (simp <;> omega)) _))⟩
  ·
   have h1 : (mIsPattern ⟨g.f1, g.f2⟩) = false := by simpa using h1
   have HE := Lib.hid (show mIsGrant g = false by simp [mIsGrant, h0, h1])
   go_enter Try.func203, Try.ntmps203
   go_wp2_with (first | (go_at_call 161; refine (spec_in _ _ _ _).mono ?_; rintro e w1 ⟨rfl, rfl⟩) | (go_at_call 225; refine (spec_IsPattern ⟨g.f1, g.f2⟩ _).mono ?_; rintro e w1 ⟨rfl, hb1⟩; obtain ⟨hc1, hf1⟩ := bcell hb1; have HB1 := Lib.hid hb1; have hs1 := hb1.size; (try simp at hs1); (have hz0 : w.heap.size < w1.heap.size := by omega); clear hb1))
   go_ret
   exact ⟨by rw [HE.out]; rfl, by repeat (first | with_reducible exact Below.refl _ _ | (with_reducible refine below_step ?_ (by assumption) (by first | omega | (simp <;> omega))) | (with_reducible refine Below.alloc ?_ (by first | omega | (simp <;> omega)) _) | (with_reducible refine Below.setCell ?_ (by first | omega | (simp <;> omega)) _) | (with_reducible refine Below.drew ?_) | (with_reducible refine below_dN ?_ _) | (refine Below.alloc ?_ (by first | omega | (simp <;> omega)) _))⟩
 ·
  have h0 : (inR g.f0 1 5) = false := by simpa using h0
  have HE := Lib.hid (show mIsGrant g = false by simp [mIsGrant, h0])
  go_enter Try.func203, Try.ntmps203
  go_wp2_with (first | (go_at_call 161; refine (spec_in _ _ _ _).mono ?_; rintro e w1 ⟨rfl, rfl⟩) | (go_at_call 225; refine (spec_IsPattern ⟨g.f1, g.f2⟩ _).mono ?_; rintro e w1 ⟨rfl, hb1⟩; obtain ⟨hc1, hf1⟩ := bcell hb1; have HB1 := Lib.hid hb1; have hs1 := hb1.size; (try simp at hs1); (have hz0 : w.heap.size < w1.heap.size := by omega); clear hb1))
  go_ret
  exact ⟨by rw [HE.out]; rfl, by repeat (first | with_reducible exact Below.refl _ _ | (with_reducible refine below_step ?_ (by assumption) (by first | omega | (simp <;> omega))) | (with_reducible refine Below.alloc ?_ (by first | omega | (simp <;> omega)) _) | (with_reducible refine Below.setCell ?_ (by first | omega | (simp <;> omega)) _) | (with_reducible refine Below.drew ?_) | (with_reducible refine below_dN ?_ _) | (refine Below.alloc ?_ (by first | omega | (simp <;> omega)) _))⟩

set_option maxHeartbeats 40000000 in
theorem spec_Covers (g : TGrant) (ext : Int) (s : TSite) (kind tick : Int) (clicked : Bool) (w : World) :
  Calls Try.prog 101 #[vGrant g, .int .i64 ext, vSite s, .int .i64 kind, .int .i64 tick, .bool clicked] w (Says (.bool (mCovers g ext s kind tick clicked)) w) := by
 by_cases h0 : (mIsGrant g) = true
 ·
  by_cases h1 : (g.f0 == ext) = true
  ·
   by_cases h2 : (g.f3 == kind) = true
   ·
    by_cases h3 : (mMatchSite ⟨g.f1, g.f2⟩ s) = true
    ·
     by_cases h4 : (inR tick g.f4 g.f5) = true
     ·
      cases clicked
      ·
       have HE := Lib.hid (show mCovers g ext s kind tick false = (!g.f6) by simp [mCovers, h0, h1, h2, h3, h4])
       go_enter Try.func101, Try.ntmps101
       go_wp2_with (first | (go_at_call 161; refine (spec_in _ _ _ _).mono ?_; rintro e w1 ⟨rfl, rfl⟩) | (go_at_call 203; refine (spec_IsGrant g _).mono ?_; rintro e w1 ⟨rfl, hb1⟩; obtain ⟨hc1, hf1⟩ := bcell hb1; have HB1 := Lib.hid hb1; have hs1 := hb1.size; (try simp at hs1); (have hz0 : w.heap.size < w1.heap.size := by omega); (have hz1 : w.heap.size + 1 < w1.heap.size := by omega); clear hb1) | (go_at_call 204; refine (spec_MatchSite ⟨g.f1, g.f2⟩ s _).mono ?_; rintro e w1 ⟨rfl, hb1⟩; obtain ⟨hc1, hf1⟩ := bcell hb1; have HB1 := Lib.hid hb1; have hs1 := hb1.size; (try simp at hs1); (have hz0 : w.heap.size < w1.heap.size := by omega); (have hz1 : w.heap.size + 1 < w1.heap.size := by omega); clear hb1))
       go_ret
       exact ⟨by rw [HE.out]; rfl, by repeat (first | with_reducible exact Below.refl _ _ | (with_reducible refine below_step ?_ (by assumption) (by first | omega | (simp <;> omega))) | (with_reducible refine Below.alloc ?_ (by first | omega | (simp <;> omega)) _) | (with_reducible refine Below.setCell ?_ (by first | omega | (simp <;> omega)) _) | (with_reducible refine Below.drew ?_) | (with_reducible refine below_dN ?_ _) | (refine Below.alloc ?_ (by first | omega | (simp <;> omega)) _))⟩
      ·
       have HE := Lib.hid (show mCovers g ext s kind tick true = true by simp [mCovers, h0, h1, h2, h3, h4])
       go_enter Try.func101, Try.ntmps101
       go_wp2_with (first | (go_at_call 161; refine (spec_in _ _ _ _).mono ?_; rintro e w1 ⟨rfl, rfl⟩) | (go_at_call 203; refine (spec_IsGrant g _).mono ?_; rintro e w1 ⟨rfl, hb1⟩; obtain ⟨hc1, hf1⟩ := bcell hb1; have HB1 := Lib.hid hb1; have hs1 := hb1.size; (try simp at hs1); (have hz0 : w.heap.size < w1.heap.size := by omega); (have hz1 : w.heap.size + 1 < w1.heap.size := by omega); clear hb1) | (go_at_call 204; refine (spec_MatchSite ⟨g.f1, g.f2⟩ s _).mono ?_; rintro e w1 ⟨rfl, hb1⟩; obtain ⟨hc1, hf1⟩ := bcell hb1; have HB1 := Lib.hid hb1; have hs1 := hb1.size; (try simp at hs1); (have hz0 : w.heap.size < w1.heap.size := by omega); (have hz1 : w.heap.size + 1 < w1.heap.size := by omega); clear hb1))
       go_ret
       exact ⟨by rw [HE.out]; rfl, by repeat (first | with_reducible exact Below.refl _ _ | (with_reducible refine below_step ?_ (by assumption) (by first | omega | (simp <;> omega))) | (with_reducible refine Below.alloc ?_ (by first | omega | (simp <;> omega)) _) | (with_reducible refine Below.setCell ?_ (by first | omega | (simp <;> omega)) _) | (with_reducible refine Below.drew ?_) | (with_reducible refine below_dN ?_ _) | (refine Below.alloc ?_ (by first | omega | (simp <;> omega)) _))⟩
     ·
      have h4 : (inR tick g.f4 g.f5) = false := by simpa using h4
      have HE := Lib.hid (show mCovers g ext s kind tick clicked = false by simp [mCovers, h0, h1, h2, h3, h4])
      go_enter Try.func101, Try.ntmps101
      go_wp2_with (first | (go_at_call 161; refine (spec_in _ _ _ _).mono ?_; rintro e w1 ⟨rfl, rfl⟩) | (go_at_call 203; refine (spec_IsGrant g _).mono ?_; rintro e w1 ⟨rfl, hb1⟩; obtain ⟨hc1, hf1⟩ := bcell hb1; have HB1 := Lib.hid hb1; have hs1 := hb1.size; (try simp at hs1); (have hz0 : w.heap.size < w1.heap.size := by omega); (have hz1 : w.heap.size + 1 < w1.heap.size := by omega); clear hb1) | (go_at_call 204; refine (spec_MatchSite ⟨g.f1, g.f2⟩ s _).mono ?_; rintro e w1 ⟨rfl, hb1⟩; obtain ⟨hc1, hf1⟩ := bcell hb1; have HB1 := Lib.hid hb1; have hs1 := hb1.size; (try simp at hs1); (have hz0 : w.heap.size < w1.heap.size := by omega); (have hz1 : w.heap.size + 1 < w1.heap.size := by omega); clear hb1))
      go_ret
      exact ⟨by rw [HE.out]; rfl, by repeat (first | with_reducible exact Below.refl _ _ | (with_reducible refine below_step ?_ (by assumption) (by first | omega | (simp <;> omega))) | (with_reducible refine Below.alloc ?_ (by first | omega | (simp <;> omega)) _) | (with_reducible refine Below.setCell ?_ (by first | omega | (simp <;> omega)) _) | (with_reducible refine Below.drew ?_) | (with_reducible refine below_dN ?_ _) | (refine Below.alloc ?_ (by first | omega | (simp <;> omega)) _))⟩
    ·
     have h3 : (mMatchSite ⟨g.f1, g.f2⟩ s) = false := by simpa using h3
     have HE := Lib.hid (show mCovers g ext s kind tick clicked = false by simp [mCovers, h0, h1, h2, h3])
     go_enter Try.func101, Try.ntmps101
     go_wp2_with (first | (go_at_call 161; refine (spec_in _ _ _ _).mono ?_; rintro e w1 ⟨rfl, rfl⟩) | (go_at_call 203; refine (spec_IsGrant g _).mono ?_; rintro e w1 ⟨rfl, hb1⟩; obtain ⟨hc1, hf1⟩ := bcell hb1; have HB1 := Lib.hid hb1; have hs1 := hb1.size; (try simp at hs1); (have hz0 : w.heap.size < w1.heap.size := by omega); (have hz1 : w.heap.size + 1 < w1.heap.size := by omega); clear hb1) | (go_at_call 204; refine (spec_MatchSite ⟨g.f1, g.f2⟩ s _).mono ?_; rintro e w1 ⟨rfl, hb1⟩; obtain ⟨hc1, hf1⟩ := bcell hb1; have HB1 := Lib.hid hb1; have hs1 := hb1.size; (try simp at hs1); (have hz0 : w.heap.size < w1.heap.size := by omega); (have hz1 : w.heap.size + 1 < w1.heap.size := by omega); clear hb1))
     go_ret
     exact ⟨by rw [HE.out]; rfl, by repeat (first | with_reducible exact Below.refl _ _ | (with_reducible refine below_step ?_ (by assumption) (by first | omega | (simp <;> omega))) | (with_reducible refine Below.alloc ?_ (by first | omega | (simp <;> omega)) _) | (with_reducible refine Below.setCell ?_ (by first | omega | (simp <;> omega)) _) | (with_reducible refine Below.drew ?_) | (with_reducible refine below_dN ?_ _) | (refine Below.alloc ?_ (by first | omega | (simp <;> omega)) _))⟩
   ·
    have h2 : (g.f3 == kind) = false := by simpa using h2
    have HE := Lib.hid (show mCovers g ext s kind tick clicked = false by simp [mCovers, h0, h1, h2])
    go_enter Try.func101, Try.ntmps101
    go_wp2_with (first | (go_at_call 161; refine (spec_in _ _ _ _).mono ?_; rintro e w1 ⟨rfl, rfl⟩) | (go_at_call 203; refine (spec_IsGrant g _).mono ?_; rintro e w1 ⟨rfl, hb1⟩; obtain ⟨hc1, hf1⟩ := bcell hb1; have HB1 := Lib.hid hb1; have hs1 := hb1.size; (try simp at hs1); (have hz0 : w.heap.size < w1.heap.size := by omega); (have hz1 : w.heap.size + 1 < w1.heap.size := by omega); clear hb1) | (go_at_call 204; refine (spec_MatchSite ⟨g.f1, g.f2⟩ s _).mono ?_; rintro e w1 ⟨rfl, hb1⟩; obtain ⟨hc1, hf1⟩ := bcell hb1; have HB1 := Lib.hid hb1; have hs1 := hb1.size; (try simp at hs1); (have hz0 : w.heap.size < w1.heap.size := by omega); (have hz1 : w.heap.size + 1 < w1.heap.size := by omega); clear hb1))
    go_ret
    exact ⟨by rw [HE.out]; rfl, by repeat (first | with_reducible exact Below.refl _ _ | (with_reducible refine below_step ?_ (by assumption) (by first | omega | (simp <;> omega))) | (with_reducible refine Below.alloc ?_ (by first | omega | (simp <;> omega)) _) | (with_reducible refine Below.setCell ?_ (by first | omega | (simp <;> omega)) _) | (with_reducible refine Below.drew ?_) | (with_reducible refine below_dN ?_ _) | (refine Below.alloc ?_ (by first | omega | (simp <;> omega)) _))⟩
  ·
   have h1 : (g.f0 == ext) = false := by simpa using h1
   have HE := Lib.hid (show mCovers g ext s kind tick clicked = false by simp [mCovers, h0, h1])
   go_enter Try.func101, Try.ntmps101
   go_wp2_with (first | (go_at_call 161; refine (spec_in _ _ _ _).mono ?_; rintro e w1 ⟨rfl, rfl⟩) | (go_at_call 203; refine (spec_IsGrant g _).mono ?_; rintro e w1 ⟨rfl, hb1⟩; obtain ⟨hc1, hf1⟩ := bcell hb1; have HB1 := Lib.hid hb1; have hs1 := hb1.size; (try simp at hs1); (have hz0 : w.heap.size < w1.heap.size := by omega); (have hz1 : w.heap.size + 1 < w1.heap.size := by omega); clear hb1) | (go_at_call 204; refine (spec_MatchSite ⟨g.f1, g.f2⟩ s _).mono ?_; rintro e w1 ⟨rfl, hb1⟩; obtain ⟨hc1, hf1⟩ := bcell hb1; have HB1 := Lib.hid hb1; have hs1 := hb1.size; (try simp at hs1); (have hz0 : w.heap.size < w1.heap.size := by omega); (have hz1 : w.heap.size + 1 < w1.heap.size := by omega); clear hb1))
   go_ret
   exact ⟨by rw [HE.out]; rfl, by repeat (first | with_reducible exact Below.refl _ _ | (with_reducible refine below_step ?_ (by assumption) (by first | omega | (simp <;> omega))) | (with_reducible refine Below.alloc ?_ (by first | omega | (simp <;> omega)) _) | (with_reducible refine Below.setCell ?_ (by first | omega | (simp <;> omega)) _) | (with_reducible refine Below.drew ?_) | (with_reducible refine below_dN ?_ _) | (refine Below.alloc ?_ (by first | omega | (simp <;> omega)) _))⟩
 ·
  have h0 : (mIsGrant g) = false := by simpa using h0
  have HE := Lib.hid (show mCovers g ext s kind tick clicked = false by simp [mCovers, h0])
  go_enter Try.func101, Try.ntmps101
  go_wp2_with (first | (go_at_call 161; refine (spec_in _ _ _ _).mono ?_; rintro e w1 ⟨rfl, rfl⟩) | (go_at_call 203; refine (spec_IsGrant g _).mono ?_; rintro e w1 ⟨rfl, hb1⟩; obtain ⟨hc1, hf1⟩ := bcell hb1; have HB1 := Lib.hid hb1; have hs1 := hb1.size; (try simp at hs1); (have hz0 : w.heap.size < w1.heap.size := by omega); (have hz1 : w.heap.size + 1 < w1.heap.size := by omega); clear hb1) | (go_at_call 204; refine (spec_MatchSite ⟨g.f1, g.f2⟩ s _).mono ?_; rintro e w1 ⟨rfl, hb1⟩; obtain ⟨hc1, hf1⟩ := bcell hb1; have HB1 := Lib.hid hb1; have hs1 := hb1.size; (try simp at hs1); (have hz0 : w.heap.size < w1.heap.size := by omega); (have hz1 : w.heap.size + 1 < w1.heap.size := by omega); clear hb1))
  go_ret
  exact ⟨by rw [HE.out]; rfl, by repeat (first | with_reducible exact Below.refl _ _ | (with_reducible refine below_step ?_ (by assumption) (by first | omega | (simp <;> omega))) | (with_reducible refine Below.alloc ?_ (by first | omega | (simp <;> omega)) _) | (with_reducible refine Below.setCell ?_ (by first | omega | (simp <;> omega)) _) | (with_reducible refine Below.drew ?_) | (with_reducible refine below_dN ?_ _) | (refine Below.alloc ?_ (by first | omega | (simp <;> omega)) _))⟩

set_option maxHeartbeats 40000000 in
theorem impl_IsGrant (g : TGrant) (w : World) :
  Calls Try.prog 110 #[vGrant g] w (Says (.bool (mIsGrant g)) w) := by
 by_cases h0 : (inR g.f0 1 5) = true
 ·
  by_cases h1 : (mIsPattern ⟨g.f1, g.f2⟩) = true
  ·
   by_cases h2 : (inR g.f3 1 4) = true
   ·
    by_cases h3 : (decide (0 ≤ g.f4)) = true
    ·
     by_cases h4 : (decide (g.f4 ≤ g.f5)) = true
     ·
      by_cases h5 : (decide (g.f5 ≤ 10000)) = true
      ·
       have HE := Lib.hid (show mIsGrant g = true by simp [mIsGrant, h0, h1, h2, h3, h4, h5])
       go_enter Try.func110, Try.ntmps110
       go_wp2_with (first | (go_at_call 116; refine (impl_in _ _ _ _).mono ?_; rintro e w1 ⟨rfl, rfl⟩) | (go_at_call 118; refine (impl_IsPattern ⟨g.f1, g.f2⟩ _).mono ?_; rintro e w1 ⟨rfl, hb1⟩; obtain ⟨hc1, hf1⟩ := bcell hb1; have HB1 := Lib.hid hb1; have hs1 := hb1.size; (try simp at hs1); (have hz0 : w.heap.size < w1.heap.size := by omega); clear hb1))
       go_ret
       exact ⟨by rw [HE.out]; rfl, by repeat (first | with_reducible exact Below.refl _ _ | (with_reducible refine below_step ?_ (by assumption) (by first | omega | (simp <;> omega))) | (with_reducible refine Below.alloc ?_ (by first | omega | (simp <;> omega)) _) | (with_reducible refine Below.setCell ?_ (by first | omega | (simp <;> omega)) _) | (with_reducible refine Below.drew ?_) | (with_reducible refine below_dN ?_ _) | (refine Below.alloc ?_ (by first | omega | (simp <;> omega)) _))⟩
      ·
       have h5 : (decide (g.f5 ≤ 10000)) = false := by simpa using h5
       have HE := Lib.hid (show mIsGrant g = false by simp [mIsGrant, h0, h1, h2, h3, h4, h5])
       go_enter Try.func110, Try.ntmps110
       go_wp2_with (first | (go_at_call 116; refine (impl_in _ _ _ _).mono ?_; rintro e w1 ⟨rfl, rfl⟩) | (go_at_call 118; refine (impl_IsPattern ⟨g.f1, g.f2⟩ _).mono ?_; rintro e w1 ⟨rfl, hb1⟩; obtain ⟨hc1, hf1⟩ := bcell hb1; have HB1 := Lib.hid hb1; have hs1 := hb1.size; (try simp at hs1); (have hz0 : w.heap.size < w1.heap.size := by omega); clear hb1))
       go_ret
       exact ⟨by rw [HE.out]; rfl, by repeat (first | with_reducible exact Below.refl _ _ | (with_reducible refine below_step ?_ (by assumption) (by first | omega | (simp <;> omega))) | (with_reducible refine Below.alloc ?_ (by first | omega | (simp <;> omega)) _) | (with_reducible refine Below.setCell ?_ (by first | omega | (simp <;> omega)) _) | (with_reducible refine Below.drew ?_) | (with_reducible refine below_dN ?_ _) | (refine Below.alloc ?_ (by first | omega | (simp <;> omega)) _))⟩
     ·
      have h4 : (decide (g.f4 ≤ g.f5)) = false := by simpa using h4
      have HE := Lib.hid (show mIsGrant g = false by simp [mIsGrant, h0, h1, h2, h3, h4])
      go_enter Try.func110, Try.ntmps110
      go_wp2_with (first | (go_at_call 116; refine (impl_in _ _ _ _).mono ?_; rintro e w1 ⟨rfl, rfl⟩) | (go_at_call 118; refine (impl_IsPattern ⟨g.f1, g.f2⟩ _).mono ?_; rintro e w1 ⟨rfl, hb1⟩; obtain ⟨hc1, hf1⟩ := bcell hb1; have HB1 := Lib.hid hb1; have hs1 := hb1.size; (try simp at hs1); (have hz0 : w.heap.size < w1.heap.size := by omega); clear hb1))
      go_ret
      exact ⟨by rw [HE.out]; rfl, by repeat (first | with_reducible exact Below.refl _ _ | (with_reducible refine below_step ?_ (by assumption) (by first | omega | (simp <;> omega))) | (with_reducible refine Below.alloc ?_ (by first | omega | (simp <;> omega)) _) | (with_reducible refine Below.setCell ?_ (by first | omega | (simp <;> omega)) _) | (with_reducible refine Below.drew ?_) | (with_reducible refine below_dN ?_ _) | (refine Below.alloc ?_ (by first | omega | (simp <;> omega)) _))⟩
    ·
     have h3 : (decide (0 ≤ g.f4)) = false := by simpa using h3
     have HE := Lib.hid (show mIsGrant g = false by simp [mIsGrant, h0, h1, h2, h3])
     go_enter Try.func110, Try.ntmps110
     go_wp2_with (first | (go_at_call 116; refine (impl_in _ _ _ _).mono ?_; rintro e w1 ⟨rfl, rfl⟩) | (go_at_call 118; refine (impl_IsPattern ⟨g.f1, g.f2⟩ _).mono ?_; rintro e w1 ⟨rfl, hb1⟩; obtain ⟨hc1, hf1⟩ := bcell hb1; have HB1 := Lib.hid hb1; have hs1 := hb1.size; (try simp at hs1); (have hz0 : w.heap.size < w1.heap.size := by omega); clear hb1))
     go_ret
     exact ⟨by rw [HE.out]; rfl, by repeat (first | with_reducible exact Below.refl _ _ | (with_reducible refine below_step ?_ (by assumption) (by first | omega | (simp <;> omega))) | (with_reducible refine Below.alloc ?_ (by first | omega | (simp <;> omega)) _) | (with_reducible refine Below.setCell ?_ (by first | omega | (simp <;> omega)) _) | (with_reducible refine Below.drew ?_) | (with_reducible refine below_dN ?_ _) | (refine Below.alloc ?_ (by first | omega | (simp <;> omega)) _))⟩
   ·
    have h2 : (inR g.f3 1 4) = false := by simpa using h2
    have HE := Lib.hid (show mIsGrant g = false by simp [mIsGrant, h0, h1, h2])
    go_enter Try.func110, Try.ntmps110
    go_wp2_with (first | (go_at_call 116; refine (impl_in _ _ _ _).mono ?_; rintro e w1 ⟨rfl, rfl⟩) | (go_at_call 118; refine (impl_IsPattern ⟨g.f1, g.f2⟩ _).mono ?_; rintro e w1 ⟨rfl, hb1⟩; obtain ⟨hc1, hf1⟩ := bcell hb1; have HB1 := Lib.hid hb1; have hs1 := hb1.size; (try simp at hs1); (have hz0 : w.heap.size < w1.heap.size := by omega); clear hb1))
    go_ret
    exact ⟨by rw [HE.out]; rfl, by repeat (first | with_reducible exact Below.refl _ _ | (with_reducible refine below_step ?_ (by assumption) (by first | omega | (simp <;> omega))) | (with_reducible refine Below.alloc ?_ (by first | omega | (simp <;> omega)) _) | (with_reducible refine Below.setCell ?_ (by first | omega | (simp <;> omega)) _) | (with_reducible refine Below.drew ?_) | (with_reducible refine below_dN ?_ _) | (refine Below.alloc ?_ (by first | omega | (simp <;> omega)) _))⟩
  ·
   have h1 : (mIsPattern ⟨g.f1, g.f2⟩) = false := by simpa using h1
   have HE := Lib.hid (show mIsGrant g = false by simp [mIsGrant, h0, h1])
   go_enter Try.func110, Try.ntmps110
   go_wp2_with (first | (go_at_call 116; refine (impl_in _ _ _ _).mono ?_; rintro e w1 ⟨rfl, rfl⟩) | (go_at_call 118; refine (impl_IsPattern ⟨g.f1, g.f2⟩ _).mono ?_; rintro e w1 ⟨rfl, hb1⟩; obtain ⟨hc1, hf1⟩ := bcell hb1; have HB1 := Lib.hid hb1; have hs1 := hb1.size; (try simp at hs1); (have hz0 : w.heap.size < w1.heap.size := by omega); clear hb1))
   go_ret
   exact ⟨by rw [HE.out]; rfl, by repeat (first | with_reducible exact Below.refl _ _ | (with_reducible refine below_step ?_ (by assumption) (by first | omega | (simp <;> omega))) | (with_reducible refine Below.alloc ?_ (by first | omega | (simp <;> omega)) _) | (with_reducible refine Below.setCell ?_ (by first | omega | (simp <;> omega)) _) | (with_reducible refine Below.drew ?_) | (with_reducible refine below_dN ?_ _) | (refine Below.alloc ?_ (by first | omega | (simp <;> omega)) _))⟩
 ·
  have h0 : (inR g.f0 1 5) = false := by simpa using h0
  have HE := Lib.hid (show mIsGrant g = false by simp [mIsGrant, h0])
  go_enter Try.func110, Try.ntmps110
  go_wp2_with (first | (go_at_call 116; refine (impl_in _ _ _ _).mono ?_; rintro e w1 ⟨rfl, rfl⟩) | (go_at_call 118; refine (impl_IsPattern ⟨g.f1, g.f2⟩ _).mono ?_; rintro e w1 ⟨rfl, hb1⟩; obtain ⟨hc1, hf1⟩ := bcell hb1; have HB1 := Lib.hid hb1; have hs1 := hb1.size; (try simp at hs1); (have hz0 : w.heap.size < w1.heap.size := by omega); clear hb1))
  go_ret
  exact ⟨by rw [HE.out]; rfl, by repeat (first | with_reducible exact Below.refl _ _ | (with_reducible refine below_step ?_ (by assumption) (by first | omega | (simp <;> omega))) | (with_reducible refine Below.alloc ?_ (by first | omega | (simp <;> omega)) _) | (with_reducible refine Below.setCell ?_ (by first | omega | (simp <;> omega)) _) | (with_reducible refine Below.drew ?_) | (with_reducible refine below_dN ?_ _) | (refine Below.alloc ?_ (by first | omega | (simp <;> omega)) _))⟩

set_option maxHeartbeats 40000000 in
theorem impl_Covers (g : TGrant) (ext : Int) (s : TSite) (kind tick : Int) (clicked : Bool) (w : World) :
  Calls Try.prog 24 #[vGrant g, .int .i64 ext, vSite s, .int .i64 kind, .int .i64 tick, .bool clicked] w (Says (.bool (mCovers g ext s kind tick clicked)) w) := by
 by_cases h0 : (mIsGrant g) = true
 ·
  by_cases h1 : (g.f0 == ext) = true
  ·
   by_cases h2 : (g.f3 == kind) = true
   ·
    by_cases h3 : (mMatchSite ⟨g.f1, g.f2⟩ s) = true
    ·
     by_cases h4 : (inR tick g.f4 g.f5) = true
     ·
      cases clicked
      ·
       have HE := Lib.hid (show mCovers g ext s kind tick false = (!g.f6) by simp [mCovers, h0, h1, h2, h3, h4])
       go_enter Try.func24, Try.ntmps24
       go_wp2_with (first | (go_at_call 116; refine (impl_in _ _ _ _).mono ?_; rintro e w1 ⟨rfl, rfl⟩) | (go_at_call 110; refine (impl_IsGrant g _).mono ?_; rintro e w1 ⟨rfl, hb1⟩; obtain ⟨hc1, hf1⟩ := bcell hb1; have HB1 := Lib.hid hb1; have hs1 := hb1.size; (try simp at hs1); (have hz0 : w.heap.size < w1.heap.size := by omega); (have hz1 : w.heap.size + 1 < w1.heap.size := by omega); clear hb1) | (go_at_call 25; refine (impl_MatchSite ⟨g.f1, g.f2⟩ s _).mono ?_; rintro e w1 ⟨rfl, hb1⟩; obtain ⟨hc1, hf1⟩ := bcell hb1; have HB1 := Lib.hid hb1; have hs1 := hb1.size; (try simp at hs1); (have hz0 : w.heap.size < w1.heap.size := by omega); (have hz1 : w.heap.size + 1 < w1.heap.size := by omega); clear hb1))
       go_ret
       exact ⟨by rw [HE.out]; rfl, by repeat (first | with_reducible exact Below.refl _ _ | (with_reducible refine below_step ?_ (by assumption) (by first | omega | (simp <;> omega))) | (with_reducible refine Below.alloc ?_ (by first | omega | (simp <;> omega)) _) | (with_reducible refine Below.setCell ?_ (by first | omega | (simp <;> omega)) _) | (with_reducible refine Below.drew ?_) | (with_reducible refine below_dN ?_ _) | (refine Below.alloc ?_ (by first | omega | (simp <;> omega)) _))⟩
      ·
       have HE := Lib.hid (show mCovers g ext s kind tick true = true by simp [mCovers, h0, h1, h2, h3, h4])
       go_enter Try.func24, Try.ntmps24
       go_wp2_with (first | (go_at_call 116; refine (impl_in _ _ _ _).mono ?_; rintro e w1 ⟨rfl, rfl⟩) | (go_at_call 110; refine (impl_IsGrant g _).mono ?_; rintro e w1 ⟨rfl, hb1⟩; obtain ⟨hc1, hf1⟩ := bcell hb1; have HB1 := Lib.hid hb1; have hs1 := hb1.size; (try simp at hs1); (have hz0 : w.heap.size < w1.heap.size := by omega); (have hz1 : w.heap.size + 1 < w1.heap.size := by omega); clear hb1) | (go_at_call 25; refine (impl_MatchSite ⟨g.f1, g.f2⟩ s _).mono ?_; rintro e w1 ⟨rfl, hb1⟩; obtain ⟨hc1, hf1⟩ := bcell hb1; have HB1 := Lib.hid hb1; have hs1 := hb1.size; (try simp at hs1); (have hz0 : w.heap.size < w1.heap.size := by omega); (have hz1 : w.heap.size + 1 < w1.heap.size := by omega); clear hb1))
       go_ret
       exact ⟨by rw [HE.out]; rfl, by repeat (first | with_reducible exact Below.refl _ _ | (with_reducible refine below_step ?_ (by assumption) (by first | omega | (simp <;> omega))) | (with_reducible refine Below.alloc ?_ (by first | omega | (simp <;> omega)) _) | (with_reducible refine Below.setCell ?_ (by first | omega | (simp <;> omega)) _) | (with_reducible refine Below.drew ?_) | (with_reducible refine below_dN ?_ _) | (refine Below.alloc ?_ (by first | omega | (simp <;> omega)) _))⟩
     ·
      have h4 : (inR tick g.f4 g.f5) = false := by simpa using h4
      have HE := Lib.hid (show mCovers g ext s kind tick clicked = false by simp [mCovers, h0, h1, h2, h3, h4])
      go_enter Try.func24, Try.ntmps24
      go_wp2_with (first | (go_at_call 116; refine (impl_in _ _ _ _).mono ?_; rintro e w1 ⟨rfl, rfl⟩) | (go_at_call 110; refine (impl_IsGrant g _).mono ?_; rintro e w1 ⟨rfl, hb1⟩; obtain ⟨hc1, hf1⟩ := bcell hb1; have HB1 := Lib.hid hb1; have hs1 := hb1.size; (try simp at hs1); (have hz0 : w.heap.size < w1.heap.size := by omega); (have hz1 : w.heap.size + 1 < w1.heap.size := by omega); clear hb1) | (go_at_call 25; refine (impl_MatchSite ⟨g.f1, g.f2⟩ s _).mono ?_; rintro e w1 ⟨rfl, hb1⟩; obtain ⟨hc1, hf1⟩ := bcell hb1; have HB1 := Lib.hid hb1; have hs1 := hb1.size; (try simp at hs1); (have hz0 : w.heap.size < w1.heap.size := by omega); (have hz1 : w.heap.size + 1 < w1.heap.size := by omega); clear hb1))
      go_ret
      exact ⟨by rw [HE.out]; rfl, by repeat (first | with_reducible exact Below.refl _ _ | (with_reducible refine below_step ?_ (by assumption) (by first | omega | (simp <;> omega))) | (with_reducible refine Below.alloc ?_ (by first | omega | (simp <;> omega)) _) | (with_reducible refine Below.setCell ?_ (by first | omega | (simp <;> omega)) _) | (with_reducible refine Below.drew ?_) | (with_reducible refine below_dN ?_ _) | (refine Below.alloc ?_ (by first | omega | (simp <;> omega)) _))⟩
    ·
     have h3 : (mMatchSite ⟨g.f1, g.f2⟩ s) = false := by simpa using h3
     have HE := Lib.hid (show mCovers g ext s kind tick clicked = false by simp [mCovers, h0, h1, h2, h3])
     go_enter Try.func24, Try.ntmps24
     go_wp2_with (first | (go_at_call 116; refine (impl_in _ _ _ _).mono ?_; rintro e w1 ⟨rfl, rfl⟩) | (go_at_call 110; refine (impl_IsGrant g _).mono ?_; rintro e w1 ⟨rfl, hb1⟩; obtain ⟨hc1, hf1⟩ := bcell hb1; have HB1 := Lib.hid hb1; have hs1 := hb1.size; (try simp at hs1); (have hz0 : w.heap.size < w1.heap.size := by omega); (have hz1 : w.heap.size + 1 < w1.heap.size := by omega); clear hb1) | (go_at_call 25; refine (impl_MatchSite ⟨g.f1, g.f2⟩ s _).mono ?_; rintro e w1 ⟨rfl, hb1⟩; obtain ⟨hc1, hf1⟩ := bcell hb1; have HB1 := Lib.hid hb1; have hs1 := hb1.size; (try simp at hs1); (have hz0 : w.heap.size < w1.heap.size := by omega); (have hz1 : w.heap.size + 1 < w1.heap.size := by omega); clear hb1))
     go_ret
     exact ⟨by rw [HE.out]; rfl, by repeat (first | with_reducible exact Below.refl _ _ | (with_reducible refine below_step ?_ (by assumption) (by first | omega | (simp <;> omega))) | (with_reducible refine Below.alloc ?_ (by first | omega | (simp <;> omega)) _) | (with_reducible refine Below.setCell ?_ (by first | omega | (simp <;> omega)) _) | (with_reducible refine Below.drew ?_) | (with_reducible refine below_dN ?_ _) | (refine Below.alloc ?_ (by first | omega | (simp <;> omega)) _))⟩
   ·
    have h2 : (g.f3 == kind) = false := by simpa using h2
    have HE := Lib.hid (show mCovers g ext s kind tick clicked = false by simp [mCovers, h0, h1, h2])
    go_enter Try.func24, Try.ntmps24
    go_wp2_with (first | (go_at_call 116; refine (impl_in _ _ _ _).mono ?_; rintro e w1 ⟨rfl, rfl⟩) | (go_at_call 110; refine (impl_IsGrant g _).mono ?_; rintro e w1 ⟨rfl, hb1⟩; obtain ⟨hc1, hf1⟩ := bcell hb1; have HB1 := Lib.hid hb1; have hs1 := hb1.size; (try simp at hs1); (have hz0 : w.heap.size < w1.heap.size := by omega); (have hz1 : w.heap.size + 1 < w1.heap.size := by omega); clear hb1) | (go_at_call 25; refine (impl_MatchSite ⟨g.f1, g.f2⟩ s _).mono ?_; rintro e w1 ⟨rfl, hb1⟩; obtain ⟨hc1, hf1⟩ := bcell hb1; have HB1 := Lib.hid hb1; have hs1 := hb1.size; (try simp at hs1); (have hz0 : w.heap.size < w1.heap.size := by omega); (have hz1 : w.heap.size + 1 < w1.heap.size := by omega); clear hb1))
    go_ret
    exact ⟨by rw [HE.out]; rfl, by repeat (first | with_reducible exact Below.refl _ _ | (with_reducible refine below_step ?_ (by assumption) (by first | omega | (simp <;> omega))) | (with_reducible refine Below.alloc ?_ (by first | omega | (simp <;> omega)) _) | (with_reducible refine Below.setCell ?_ (by first | omega | (simp <;> omega)) _) | (with_reducible refine Below.drew ?_) | (with_reducible refine below_dN ?_ _) | (refine Below.alloc ?_ (by first | omega | (simp <;> omega)) _))⟩
  ·
   have h1 : (g.f0 == ext) = false := by simpa using h1
   have HE := Lib.hid (show mCovers g ext s kind tick clicked = false by simp [mCovers, h0, h1])
   go_enter Try.func24, Try.ntmps24
   go_wp2_with (first | (go_at_call 116; refine (impl_in _ _ _ _).mono ?_; rintro e w1 ⟨rfl, rfl⟩) | (go_at_call 110; refine (impl_IsGrant g _).mono ?_; rintro e w1 ⟨rfl, hb1⟩; obtain ⟨hc1, hf1⟩ := bcell hb1; have HB1 := Lib.hid hb1; have hs1 := hb1.size; (try simp at hs1); (have hz0 : w.heap.size < w1.heap.size := by omega); (have hz1 : w.heap.size + 1 < w1.heap.size := by omega); clear hb1) | (go_at_call 25; refine (impl_MatchSite ⟨g.f1, g.f2⟩ s _).mono ?_; rintro e w1 ⟨rfl, hb1⟩; obtain ⟨hc1, hf1⟩ := bcell hb1; have HB1 := Lib.hid hb1; have hs1 := hb1.size; (try simp at hs1); (have hz0 : w.heap.size < w1.heap.size := by omega); (have hz1 : w.heap.size + 1 < w1.heap.size := by omega); clear hb1))
   go_ret
   exact ⟨by rw [HE.out]; rfl, by repeat (first | with_reducible exact Below.refl _ _ | (with_reducible refine below_step ?_ (by assumption) (by first | omega | (simp <;> omega))) | (with_reducible refine Below.alloc ?_ (by first | omega | (simp <;> omega)) _) | (with_reducible refine Below.setCell ?_ (by first | omega | (simp <;> omega)) _) | (with_reducible refine Below.drew ?_) | (with_reducible refine below_dN ?_ _) | (refine Below.alloc ?_ (by first | omega | (simp <;> omega)) _))⟩
 ·
  have h0 : (mIsGrant g) = false := by simpa using h0
  have HE := Lib.hid (show mCovers g ext s kind tick clicked = false by simp [mCovers, h0])
  go_enter Try.func24, Try.ntmps24
  go_wp2_with (first | (go_at_call 116; refine (impl_in _ _ _ _).mono ?_; rintro e w1 ⟨rfl, rfl⟩) | (go_at_call 110; refine (impl_IsGrant g _).mono ?_; rintro e w1 ⟨rfl, hb1⟩; obtain ⟨hc1, hf1⟩ := bcell hb1; have HB1 := Lib.hid hb1; have hs1 := hb1.size; (try simp at hs1); (have hz0 : w.heap.size < w1.heap.size := by omega); (have hz1 : w.heap.size + 1 < w1.heap.size := by omega); clear hb1) | (go_at_call 25; refine (impl_MatchSite ⟨g.f1, g.f2⟩ s _).mono ?_; rintro e w1 ⟨rfl, hb1⟩; obtain ⟨hc1, hf1⟩ := bcell hb1; have HB1 := Lib.hid hb1; have hs1 := hb1.size; (try simp at hs1); (have hz0 : w.heap.size < w1.heap.size := by omega); (have hz1 : w.heap.size + 1 < w1.heap.size := by omega); clear hb1))
  go_ret
  exact ⟨by rw [HE.out]; rfl, by repeat (first | with_reducible exact Below.refl _ _ | (with_reducible refine below_step ?_ (by assumption) (by first | omega | (simp <;> omega))) | (with_reducible refine Below.alloc ?_ (by first | omega | (simp <;> omega)) _) | (with_reducible refine Below.setCell ?_ (by first | omega | (simp <;> omega)) _) | (with_reducible refine Below.drew ?_) | (with_reducible refine below_dN ?_ _) | (refine Below.alloc ?_ (by first | omega | (simp <;> omega)) _))⟩

end Go.Proofs.Ytfceddgacefejaa
