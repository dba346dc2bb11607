/- LendGrants, of the program and of the model: what a click lends. -/
import Derived.Test.YtfceddgacefejaaGrant
import Derived.Test.YtfceddgacefejaaGB
import Derived.LoopN
namespace Go.Proofs.Ytfceddgacefejaa
open Go Go.ChangeShapes Go.WideShapes Go.ChangeAt Go.RowKit Go.Lib
set_option linter.unusedVariables false
set_option linter.unusedSimpArgs false
set_option maxRecDepth 100000
def lent1 (ext : Int) (s : TSite) (k tick : Int) : TGrant := ⟨ext, s.f0, s.f1, k, tick, tick + 5, false⟩
def mLendOk (ext : Int) (s : TSite) (tick : Int) : Bool := inR ext 1 5 && mIsSite s && inR tick 0 9995
def mLend (ext : Int) (s : TSite) (tick : Int) : List TGrant := if mLendOk ext s tick = true then [lent1 ext s 1 tick, lent1 ext s 2 tick] else []
theorem mLend_yes {ext : Int} {s : TSite} {tick : Int} (h : mLendOk ext s tick = true) : mLend ext s tick = [lent1 ext s 1 tick, lent1 ext s 2 tick] := by unfold mLend; rw [if_pos h]
theorem mLend_no {ext : Int} {s : TSite} {tick : Int} (h : mLendOk ext s tick = false) : mLend ext s tick = [] := by unfold mLend; rw [if_neg (by rw [h]; decide)]
theorem mLend_len (ext : Int) (s : TSite) (tick : Int) : (mLend ext s tick).length ≤ 2 := by unfold mLend; split <;> simp
theorem impl_grant (ext : Int) (s : TSite) (k tick : Int) (w : World) (h0 : 0 ≤ tick) (h1 : tick ≤ 9995) :
    Calls Try.prog 134 #[vSite s, .int .i64 ext, .int .i64 k, .int .i64 tick] w (Says (vGrant (lent1 ext s k tick)) w) := by
  go_enter Try.func134, Try.ntmps134
  go_wp2
  exact bodyPost_ret (v := vGrant (lent1 ext s k tick)) (by simp [results, Try.results134, go_sem, lent1]) rfl ⟨rfl, by repeat (first | with_reducible exact Below.refl _ _ | (with_reducible refine Below.alloc ?_ (by first | omega | (simp; done) | (simp <;> omega)) _) | (with_reducible refine Below.setCell ?_ (by first | omega | (simp; done) | (simp <;> omega)) _))⟩
set_option maxHeartbeats 8000000 in
theorem impl_LendGrants (ext : Int) (s : TSite) (tick : Int) (w : World) :
    Calls Try.prog 33 #[.int .i64 ext, vSite s, .int .i64 tick] w (Makes 35 7 (mLend ext s tick).length (cGrant (mLend ext s tick)) w) := by
  have hmf : ∀ (fn : Fn) (first cap : Array Value) (w : World), (Instr.makeFunc fn first cap).run Try.prog w = .ok (.func fn first cap) w := fun _ _ _ _ => rfl
  cases hok : mLendOk ext s tick with
  | true =>
    rw [mLend_yes hok]
    have hall : inR ext 1 5 = true ∧ mIsSite s = true ∧ inR tick 0 9995 = true := by simpa [mLendOk, and_assoc] using hok
    obtain ⟨h0, h1, h2⟩ := hall
    obtain ⟨b0, b1⟩ := inR_true.1 h2
    clear hok
    go_enter Try.func33, Try.ntmps33
    go_wp2_with (first
      | (go_at_call 116; refine (impl_in _ _ _ _).mono ?_; rintro e w1 ⟨rfl, rfl⟩)
      | (go_at_call 119; refine (impl_IsSite s _).mono ?_; rintro e w1 ⟨rfl, hb1⟩; obtain ⟨hc1, hf1⟩ := bcell hb1; have HB1 := Lib.hid hb1; have hs1 := hb1.size; (try simp at hs1); (have hz0 : w.heap.size < w1.heap.size := by omega); clear hb1)
      | (go_at_call 134; refine (impl_grant ext s _ tick _ b0 b1).mono ?_; rintro e w1 ⟨rfl, hb1⟩; have HB1 := Lib.hid hb1; have hs1 := hb1.size; (try simp at hs1); clear hb1))
    go_ret
    refine makes_of_own (World.ownsRow_lit (base := w.heap.size) _ _ 2 (by omega) (by unfold maxLen; omega) rfl) ?_
    repeat (first | with_reducible exact Below.refl _ _ | (with_reducible refine below_step ?_ (by assumption) (by first | omega | (simp; done) | (simp <;> omega))) | (with_reducible refine Below.alloc ?_ (by first | omega | (simp; done) | (simp <;> omega)) _))
  | false =>
    rw [mLend_no hok]
    by_cases h0 : inR ext 1 5 = true
    · by_cases h1 : mIsSite s = true
      · have h2 : inR tick 0 9995 = false := by simpa [mLendOk, h0, h1] using hok
        clear hok
        go_enter Try.func33, Try.ntmps33
        go_wp2_with (first
          | (go_at_call 116; refine (impl_in _ _ _ _).mono ?_; rintro e w1 ⟨rfl, rfl⟩)
          | (go_at_call 119; refine (impl_IsSite s _).mono ?_; rintro e w1 ⟨rfl, hb1⟩; obtain ⟨hc1, hf1⟩ := bcell hb1; have HB1 := Lib.hid hb1; have hs1 := hb1.size; (try simp at hs1); (have hz0 : w.heap.size < w1.heap.size := by omega); clear hb1))
        go_ret
        refine makes_of_own (World.ownsRow_lit (base := w.heap.size) _ #[] 0 (by first | omega | (simp <;> omega)) (by unfold maxLen; omega) rfl) ?_
        repeat (first | with_reducible exact Below.refl _ _ | (with_reducible refine below_step ?_ (by assumption) (by first | omega | (simp; done) | (simp <;> omega))) | (with_reducible refine Below.alloc ?_ (by first | omega | (simp; done) | (simp <;> omega)) _))
      · have h1 : mIsSite s = false := by simpa using h1
        clear hok
        go_enter Try.func33, Try.ntmps33
        go_wp2_with (first
          | (go_at_call 116; refine (impl_in _ _ _ _).mono ?_; rintro e w1 ⟨rfl, rfl⟩)
          | (go_at_call 119; refine (impl_IsSite s _).mono ?_; rintro e w1 ⟨rfl, hb1⟩; obtain ⟨hc1, hf1⟩ := bcell hb1; have HB1 := Lib.hid hb1; have hs1 := hb1.size; (try simp at hs1); (have hz0 : w.heap.size < w1.heap.size := by omega); clear hb1))
        go_ret
        refine makes_of_own (World.ownsRow_lit (base := w.heap.size) _ #[] 0 (by first | omega | (simp <;> omega)) (by unfold maxLen; omega) rfl) ?_
        repeat (first | with_reducible exact Below.refl _ _ | (with_reducible refine below_step ?_ (by assumption) (by first | omega | (simp; done) | (simp <;> omega))) | (with_reducible refine Below.alloc ?_ (by first | omega | (simp; done) | (simp <;> omega)) _))
    · have h0 : inR ext 1 5 = false := by simpa using h0
      clear hok
      have HO : Hid (((w.alloc (.cells #[.int .i64 s.f0, .int .i64 s.f1] 27)).alloc (.cells #[] 35)).ownsRow w.heap.size 35 7 (.slice (some ⟨w.heap.size + 1, 0, none⟩) 0 0) 0 []) := Lib.hid (by simpa using World.ownsRow_lit (base := w.heap.size) (e := 35) (size := 7) (w.alloc (.cells #[.int .i64 s.f0, .int .i64 s.f1] 27)) #[] 0 (by simp) (by unfold maxLen; omega) rfl)
      go_enter Try.func33, Try.ntmps33
      go_wp2_with (go_at_call 116; refine (impl_in _ _ _ _).mono ?_; rintro e w1 ⟨rfl, rfl⟩)
      go_ret
      refine makes_of_own HO.out ?_
      repeat (first | with_reducible exact Below.refl _ _ | (with_reducible refine Below.alloc ?_ (by first | omega | (simp; done) | (simp <;> omega)) _))
set_option maxHeartbeats 8000000 in
theorem spec_LendGrants (ext : Int) (s : TSite) (tick : Int) (w : World) :
    Calls Try.prog 249 #[.int .i64 ext, vSite s, .int .i64 tick] w (Makes 35 7 (mLend ext s tick).length (cGrant (mLend ext s tick)) w) := by
  cases hok : mLendOk ext s tick with
  | true =>
    rw [mLend_yes hok]
    have hall : inR ext 1 5 = true ∧ mIsSite s = true ∧ inR tick 0 9995 = true := by simpa [mLendOk, and_assoc] using hok
    obtain ⟨h0, h1, h2⟩ := hall
    obtain ⟨b0, b1⟩ := inR_true.1 h2
    clear hok
    have HO : Hid (((w.alloc (.cells #[.int .i64 s.f0, .int .i64 s.f1] 27)).alloc (.cells #[] 35)).ownsRow w.heap.size 35 7 (.slice (some ⟨w.heap.size + 1, 0, none⟩) 0 0) 0 []) := Lib.hid (by simpa using World.ownsRow_lit (base := w.heap.size) (e := 35) (size := 7) (w.alloc (.cells #[.int .i64 s.f0, .int .i64 s.f1] 27)) #[] 0 (by simp) (by unfold maxLen; omega) rfl)
    go_enter Try.func249, Try.ntmps249
    go_wp2_with (first
      | (go_at_call 161; refine (spec_in _ _ _ _).mono ?_; rintro e w1 ⟨rfl, rfl⟩)
      | (go_at_call 160; refine (spec_IsSite s _).mono ?_; rintro e w1 ⟨rfl, hb1⟩; obtain ⟨hc1, hf1⟩ := bcell hb1; have HB1 := Lib.hid hb1; have hs1 := hb1.size; (try simp at hs1); (have hz0 : w.heap.size < w1.heap.size := by omega); clear hb1))
    have HO1 := Lib.hid ((own_newer HO.out HB1.out).alloc (.cells #[.int .i64 s.f0, .int .i64 s.f1] 33))
    have HX1 := Lib.hid ((box_new w1 33 #[.int .i64 s.f0, .int .i64 s.f1]))
    have HBw := Lib.hid (below_step (((Below.refl w.heap.size w).alloc (Nat.le_refl _) (.cells #[.int .i64 s.f0, .int .i64 s.f1] 27)).alloc (by simp) (.cells #[] 35)) HB1 (by simp <;> omega))
    refine wp_loop_rounds 3 ?_
    rw [rounds_succ]
    go_wp2_with (at_builtin; refine wp_app_litg rfl _ _ _ rfl w.heap.size 35 (.agg #[.int .i64 0, .int .i64 0, .int .i64 0, .int .i64 0, .int .i64 0, .int .i64 0, .bool false]) 7 56 Try.underlying24 infoGrant rfl (by decide) _ _ _ rfl HO1.out #[.int .i64 ext, .int .i64 s.f0, .int .i64 s.f1, .int .i64 1, .int .i64 tick, .int .i64 (tick + 5), .bool false] 1 1 _ rfl (by simp) rfl (onesGrant (lent1 ext s 1 tick)) (by unfold maxLen; omega) (by omega) (by have := HBw.out.size; simp; omega) ?_; intro v1 w2 ho2 hb2 hg2)
    have HO2 := Lib.hid ho2
    have HB2 := Lib.hid ((HBw.out.alloc (by have := HBw.out.size; omega) _).trans hb2)
    have HX2 := Lib.hid ((HX1.out.alloc_ _).grown (r := w.heap.size + 1) hg2 (by omega))
    have y0 : w2.cell? ⟨w1.heap.size, 0, none⟩ = some (.int .i64 s.f0) := HX2.out.at_ rfl
    have y1 : w2.cell? ⟨w1.heap.size, 1, none⟩ = some (.int .i64 s.f1) := HX2.out.at_ rfl
    clear ho2 hb2 hg2
    go_wp2_with fail
    rw [rounds_succ]
    go_wp2_with (at_builtin; refine wp_app_litg rfl _ _ _ rfl w.heap.size 35 (.agg #[.int .i64 0, .int .i64 0, .int .i64 0, .int .i64 0, .int .i64 0, .int .i64 0, .bool false]) 7 56 Try.underlying24 infoGrant rfl (by decide) _ _ _ rfl HO2.out #[.int .i64 ext, .int .i64 s.f0, .int .i64 s.f1, .int .i64 2, .int .i64 tick, .int .i64 (tick + 5), .bool false] 1 1 _ rfl (by simp) rfl (onesGrant (lent1 ext s 2 tick)) (by unfold maxLen; omega) (by omega) (by have := HB2.out.size; omega) ?_; intro v3 w3 ho3 hb3 hg3)
    have HO3 := Lib.hid ho3
    have HB3 := Lib.hid (HB2.out.trans hb3)
    clear ho3 hb3 hg3
    go_wp2_with fail
    rw [rounds_succ]
    go_wp2_with fail
    go_ret
    exact makes_of_own (by simpa [cGrant, TGrant.cells, lent1] using HO3.out) HB3.out
  | false =>
    rw [mLend_no hok]
    by_cases h0 : inR ext 1 5 = true
    · by_cases h1 : mIsSite s = true
      · have h2 : inR tick 0 9995 = false := by simpa [mLendOk, h0, h1] using hok
        clear hok
        have HO : Hid (((w.alloc (.cells #[.int .i64 s.f0, .int .i64 s.f1] 27)).alloc (.cells #[] 35)).ownsRow w.heap.size 35 7 (.slice (some ⟨w.heap.size + 1, 0, none⟩) 0 0) 0 []) := Lib.hid (by simpa using World.ownsRow_lit (base := w.heap.size) (e := 35) (size := 7) (w.alloc (.cells #[.int .i64 s.f0, .int .i64 s.f1] 27)) #[] 0 (by simp) (by unfold maxLen; omega) rfl)
        go_enter Try.func249, Try.ntmps249
        go_wp2_with (first
      | (go_at_call 161; refine (spec_in _ _ _ _).mono ?_; rintro e w1 ⟨rfl, rfl⟩)
      | (go_at_call 160; refine (spec_IsSite s _).mono ?_; rintro e w1 ⟨rfl, hb1⟩; obtain ⟨hc1, hf1⟩ := bcell hb1; have HB1 := Lib.hid hb1; have hs1 := hb1.size; (try simp at hs1); (have hz0 : w.heap.size < w1.heap.size := by omega); clear hb1))
        go_ret
        refine makes_of_own (own_newer HO.out HB1.out) ?_
        repeat (first | with_reducible exact Below.refl _ _ | (with_reducible refine below_step ?_ (by assumption) (by first | omega | (simp; done) | (simp <;> omega))) | (with_reducible refine Below.alloc ?_ (by first | omega | (simp; done) | (simp <;> omega)) _))
      · have h1 : mIsSite s = false := by simpa using h1
        clear hok
        have HO : Hid (((w.alloc (.cells #[.int .i64 s.f0, .int .i64 s.f1] 27)).alloc (.cells #[] 35)).ownsRow w.heap.size 35 7 (.slice (some ⟨w.heap.size + 1, 0, none⟩) 0 0) 0 []) := Lib.hid (by simpa using World.ownsRow_lit (base := w.heap.size) (e := 35) (size := 7) (w.alloc (.cells #[.int .i64 s.f0, .int .i64 s.f1] 27)) #[] 0 (by simp) (by unfold maxLen; omega) rfl)
        go_enter Try.func249, Try.ntmps249
        go_wp2_with (first
      | (go_at_call 161; refine (spec_in _ _ _ _).mono ?_; rintro e w1 ⟨rfl, rfl⟩)
      | (go_at_call 160; refine (spec_IsSite s _).mono ?_; rintro e w1 ⟨rfl, hb1⟩; obtain ⟨hc1, hf1⟩ := bcell hb1; have HB1 := Lib.hid hb1; have hs1 := hb1.size; (try simp at hs1); (have hz0 : w.heap.size < w1.heap.size := by omega); clear hb1))
        go_ret
        refine makes_of_own (own_newer HO.out HB1.out) ?_
        repeat (first | with_reducible exact Below.refl _ _ | (with_reducible refine below_step ?_ (by assumption) (by first | omega | (simp; done) | (simp <;> omega))) | (with_reducible refine Below.alloc ?_ (by first | omega | (simp; done) | (simp <;> omega)) _))
    · have h0 : inR ext 1 5 = false := by simpa using h0
      clear hok
      have HO : Hid (((w.alloc (.cells #[.int .i64 s.f0, .int .i64 s.f1] 27)).alloc (.cells #[] 35)).ownsRow w.heap.size 35 7 (.slice (some ⟨w.heap.size + 1, 0, none⟩) 0 0) 0 []) := Lib.hid (by simpa using World.ownsRow_lit (base := w.heap.size) (e := 35) (size := 7) (w.alloc (.cells #[.int .i64 s.f0, .int .i64 s.f1] 27)) #[] 0 (by simp) (by unfold maxLen; omega) rfl)
      go_enter Try.func249, Try.ntmps249
      go_wp2_with (first
      | (go_at_call 161; refine (spec_in _ _ _ _).mono ?_; rintro e w1 ⟨rfl, rfl⟩)
      | (go_at_call 160; refine (spec_IsSite s _).mono ?_; rintro e w1 ⟨rfl, hb1⟩; obtain ⟨hc1, hf1⟩ := bcell hb1; have HB1 := Lib.hid hb1; have hs1 := hb1.size; (try simp at hs1); (have hz0 : w.heap.size < w1.heap.size := by omega); clear hb1))
      go_ret
      refine makes_of_own HO.out ?_
      repeat (first | with_reducible exact Below.refl _ _ | (with_reducible refine below_step ?_ (by assumption) (by first | omega | (simp; done) | (simp <;> omega))) | (with_reducible refine Below.alloc ?_ (by first | omega | (simp; done) | (simp <;> omega)) _))
end Go.Proofs.Ytfceddgacefejaa
