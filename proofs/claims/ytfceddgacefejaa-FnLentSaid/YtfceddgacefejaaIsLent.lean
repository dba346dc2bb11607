/- IsLent, of the program and of the model. -/
import Derived.Test.YtfceddgacefejaaLend
import Derived.Test.YtfceddgacefejaaEGrant
import Derived.Deep.RegionHeld3
namespace Go.Proofs.Ytfceddgacefejaa
open Go Go.ChangeShapes Go.WideShapes Go.ChangeAt Go.RowKit Go.Lib
set_option linter.unusedVariables false
set_option linter.unusedSimpArgs false
set_option maxRecDepth 100000
def mIsLent (g : TGrant) : Bool := mIsGrant g && (g.f1 != 0) && (g.f2 != -1) && inR g.f3 1 2 && (g.f5 == g.f4 + 5) && !g.f6
theorem mIsGrant_bd {g : TGrant} (h : mIsGrant g = true) : 0 ≤ g.f4 ∧ g.f4 ≤ 10000 := by
  simp [mIsGrant] at h
  omega
theorem lent_eq (g : TGrant) : ((mLend g.f0 ⟨g.f1, g.f2⟩ g.f4).any fun x => decide (g = x)) = mIsLent g := by
  obtain ⟨f0, f1, f2, f3, f4, f5, f6⟩ := g
  rw [Bool.eq_iff_iff]
  unfold mLend
  split
  · rename_i h
    simp [mLendOk, mIsSite, inR] at h
    cases f6
    · simp [lent1, mIsLent, mIsGrant, mIsPattern, inR]
      omega
    · simp [lent1, mIsLent]
  · rename_i h
    simp [mLendOk, mIsSite, inR] at h
    simp [mIsLent, mIsGrant, mIsPattern, inR]
    intros
    omega

set_option maxHeartbeats 8000000 in
theorem impl_IsLent (g : TGrant) (w : World) :
    Calls Try.prog 32 #[vGrant g] w (Says (.bool (mIsLent g)) w) := by
  rw [← lent_eq]
  have KB0 := (box_new w 35 #[.int .i64 g.f0, .int .i64 g.f1, .int .i64 g.f2, .int .i64 g.f3, .int .i64 g.f4, .int .i64 g.f5, .bool g.f6]).drw
  have HL := Lib.hid (mLend_len g.f0 ⟨g.f1, g.f2⟩ g.f4)
  go_enter Try.func32, Try.ntmps32
  go_wp2_with fail
  go_region_held3 (fun w' => w'.cell? ⟨w.heap.size, 0, none⟩ = some (.int .i64 g.f0) ∧ w'.cell? ⟨w.heap.size, 1, none⟩ = some (.int .i64 g.f1) ∧ w'.cell? ⟨w.heap.size, 2, none⟩ = some (.int .i64 g.f2) ∧ w'.cell? ⟨w.heap.size, 3, none⟩ = some (.int .i64 g.f3) ∧ w'.cell? ⟨w.heap.size, 4, none⟩ = some (.int .i64 g.f4) ∧ w'.cell? ⟨w.heap.size, 5, none⟩ = some (.int .i64 g.f5) ∧ w'.cell? ⟨w.heap.size, 6, none⟩ = some (.bool g.f6))
    (exact ⟨KB0.at_ rfl, KB0.at_ rfl, KB0.at_ rfl, KB0.at_ rfl, KB0.at_ rfl, KB0.at_ rfl, KB0.at_ rfl⟩)
    (first
      | (go_at_call 33; refine Calls.mono (impl_LendGrants g.f0 ⟨g.f1, g.f2⟩ g.f4 _) ?_; rintro e w1 ⟨A', c', rfl, hF, hb1⟩; (replace KB0 := box_nw hb1 KB0); (have HB1 := Lib.hid hb1); (have hs1 := hb1.size); (try simp at hs1); clear hb1)
      | (go_at_call 129; refine Calls.mono (contains_Grant g (mLend g.f0 ⟨g.f1, g.f2⟩ g.f4) A' _ c' _ _ _ (by have := HL.out; omega) hF.rd) ?_; rintro e w2 ⟨rfl, hb1⟩; (replace KB0 := box_nw hb1 KB0); (have HB2 := Lib.hid hb1); (have hs2 := hb1.size); clear hb1))
  go_wp2_with fail
  go_ret
  exact ⟨rfl, by repeat (first | with_reducible exact Below.refl _ _ | (with_reducible refine below_step ?_ (by assumption) (by first | omega | (simp; done) | (simp <;> omega))) | (with_reducible refine Below.alloc ?_ (by first | omega | (simp; done) | (simp <;> omega)) _) | (with_reducible refine Below.setCell ?_ (by first | omega | (simp; done) | (simp <;> omega)) _) | (with_reducible refine Below.drew ?_) | (with_reducible refine below_dN ?_ _) | (refine Below.alloc ?_ (by first | omega | (simp; done) | (simp <;> omega)) _))⟩
end Go.Proofs.Ytfceddgacefejaa
