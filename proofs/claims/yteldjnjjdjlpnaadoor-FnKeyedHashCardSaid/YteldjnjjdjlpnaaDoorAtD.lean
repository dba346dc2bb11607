/- laws.at as a function of the index. -/
import Derived.Test.YteldjnjjdjlpnaaDoorDraw
import Derived.Test.YteldjnjjdjlpnaaDoorCore
namespace Go.Proofs.YteldjnjjdjlpnaaDoor
open Go Go.ChangeShapes Go.WideShapes Go.ChangeAt Go.RowKit Go.Lib
set_option linter.unusedVariables false
set_option linter.unusedSimpArgs false
set_option maxRecDepth 100000
theorem at_det (n c : Nat) (A : Option Addr) (w : World) (hn : n ≤ 1048576) (m : BytesAt w w.heap.size A n) :
    ∃ a : Nat → Int, (∀ k, 0 ≤ a k ∧ a k ≤ 255) ∧ ∀ (W : World) (k : Nat), Below w.heap.size w W → k ≤ 100 → Calls Tryd.prog 20 #[.slice A n c, .int .i64 (k : Int)] W (Says (.int .i64 (a k)) W) := by
  by_cases h0 : n = 0
  · refine ⟨fun k => ((k : Int) * 31 + (n : Int) * 7) % 256, fun k => by dsimp only; omega, fun W k hb hk => ?_⟩
    have h1 : IntKind.i64.wrap ((k : Int) * 31) = (k : Int) * 31 := IntWalk.i64_in _ (by omega)
    have h2 : IntKind.i64.wrap ((n : Int) * 7) = (n : Int) * 7 := IntWalk.i64_in _ (by omega)
    have h3 : IntKind.i64.wrap ((k : Int) * 31 + (n : Int) * 7) = (k : Int) * 31 + (n : Int) * 7 := IntWalk.i64_in _ (by omega)
    have h4 : IntKind.i64.wrap (((k : Int) * 31 + (n : Int) * 7) % 256) = ((k : Int) * 31 + (n : Int) * 7) % 256 := IntWalk.i64_in _ (by omega)
    have h5 : Int.tmod ((k : Int) * 31 + (n : Int) * 7) 256 = ((k : Int) * 31 + (n : Int) * 7) % 256 := Int.tmod_eq_emod_of_nonneg (by omega)
    have hlt : ¬ (k < n) := by omega
    go_enter Tryd.func20, Tryd.ntmps20
    go_wp2_with fail
    go_ret
    exact ⟨by first | rfl | (simp; done) | (simp [h1, h2, h3, h4, h5]; done) | (simp [h1, h2, h3, h4, h5]; omega), Below.refl _ _⟩
  · obtain ⟨b, off, z, rfl, hb0, hz⟩ := m (by omega)
    refine ⟨fun k => if k < n then z k else ((k : Int) * 31 + (n : Int) * 7) % 256, fun k => ?_, fun W k hb hk => ?_⟩
    · dsimp only
      split
      · rename_i h; exact ⟨(hz k h).1, (hz k h).2.1⟩
      · omega
    · dsimp only
      by_cases hlt : k < n
      · rw [if_pos hlt]
        obtain ⟨z0, z1, hc⟩ := hz k hlt
        have c0 : W.cell? ⟨b, off + k, none⟩ = some (.int .u8 (z k)) := (hb.cell (p := ⟨b, off + k, none⟩) hb0).trans hc
        have hw : IntKind.i64.wrap (z k) = z k := IntWalk.i64_in _ (by omega)
        clear hz hc m
        generalize z k = q at z0 z1 c0 hw ⊢
        rcases Nat.eq_zero_or_pos k with hk0 | hk0
        · subst hk0
          have c0' : W.cell? ⟨b, off, none⟩ = some (.int .u8 q) := c0
          go_enter Tryd.func20, Tryd.ntmps20
          go_wp2_with fail
          go_ret
          exact ⟨by first | rfl | (simp; done), Below.refl _ _⟩
        · go_enter Tryd.func20, Tryd.ntmps20
          go_wp2_with fail
          go_ret
          exact ⟨by first | rfl | (simp; done), Below.refl _ _⟩
      · rw [if_neg hlt]
        have h1 : IntKind.i64.wrap ((k : Int) * 31) = (k : Int) * 31 := IntWalk.i64_in _ (by omega)
        have h2 : IntKind.i64.wrap ((n : Int) * 7) = (n : Int) * 7 := IntWalk.i64_in _ (by omega)
        have h3 : IntKind.i64.wrap ((k : Int) * 31 + (n : Int) * 7) = (k : Int) * 31 + (n : Int) * 7 := IntWalk.i64_in _ (by omega)
        have h4 : IntKind.i64.wrap (((k : Int) * 31 + (n : Int) * 7) % 256) = ((k : Int) * 31 + (n : Int) * 7) % 256 := IntWalk.i64_in _ (by omega)
        have h5 : Int.tmod ((k : Int) * 31 + (n : Int) * 7) 256 = ((k : Int) * 31 + (n : Int) * 7) % 256 := Int.tmod_eq_emod_of_nonneg (by omega)
        clear hz m
        go_enter Tryd.func20, Tryd.ntmps20
        go_wp2_with fail
        go_ret
        exact ⟨by first | rfl | (simp; done) | (simp [h1, h2, h3, h4, h5]; done) | (simp [h1, h2, h3, h4, h5]; omega), Below.refl _ _⟩
end Go.Proofs.YteldjnjjdjlpnaaDoor
