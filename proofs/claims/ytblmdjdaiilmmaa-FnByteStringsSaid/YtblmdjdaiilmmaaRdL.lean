/- ReadUvarint, of the program and of the model: the contracts. -/
import Derived.Test.YtblmdjdaiilmmaaRdI
namespace Go.Proofs.Ytblmdjdaiilmmaa
open Go Go.ChangeShapes Go.WideShapes Go.ChangeAt Go.RowKit Go.Lib
set_option linter.unusedVariables false
set_option maxRecDepth 100000

theorem take_empty (g cap : Nat) (A : Option Addr) (w : World) (hc : BoxAt w g 211 #[.slice A 0 cap, .int .i64 0]) :
    Calls Try.prog 142 #[.pointer (some ⟨g, 0, none⟩), .int .i64 1] w (fun e w' => e = .returned (.tuple #[.slice none 0 0, .bool false]) ∧ w.grownBy w' (some g)) := by
  have p0 := hc.at_ (j := 0) (u := .slice A 0 cap) rfl
  have p1 := hc.at_ (j := 1) (u := .int .i64 0) rfl
  have hin : inR 1 0 0 = false := by rw [Bool.eq_false_iff]; intro h; have := inR_true.1 h; omega
  go_enter Try.func142, Try.ntmps142
  go_wp2_with fail
  go_quiet ((go_at_call 140; exact Calls.quiet_of_same ((impl_in _ _ _ _).mono fun _ _ ⟨a, b⟩ => ⟨a, b.symm⟩)))
  go_wp2_with fail
  go_ret2
  exact ⟨rfl, ⟨rfl, rfl, rfl, Nat.le_refl _, fun i hi hne => rfl⟩⟩
theorem uvarint_empty (g cap : Nat) (A : Option Addr) (w : World) (hc : BoxAt w g 211 #[.slice A 0 cap, .int .i64 0]) :
    Calls Try.prog 141 #[.pointer (some ⟨g, 0, none⟩)] w (fun e w' => e = .returned (.tuple #[.int .i64 0, .bool false]) ∧ w.grownBy w' (some g)) := by
  have HC := Lib.hid hc
  clear hc
  go_enter Try.func141, Try.ntmps141
  go_wp2_with fail
  go_loopw [4, 9] (fun x i wr => i = .int .i64 0 ∧ x = .int .i64 0 ∧ w = wr) (fun _ i _ => 6 - (intOf i).toNat)
  case atStart => exact ⟨rfl, rfl, rfl⟩
  case round =>
    obtain ⟨rfl, rfl, rfl⟩ := hrel
    go_wp2_with fail
    refine (take_empty g cap A _ HC.out).mono ?_
    rintro e w1 ⟨rfl, hg1⟩
    go_wp2_with fail
    go_ret2
    exact ⟨rfl, hg1⟩
theorem mRd_to (l : List Int) (o : Nat) : ∀ (f k : Nat) (n : Int), 0 ≤ (mRd l o f k n).to := by
  intro f
  induction f with
  | zero => intro k n; exact Int.le_refl 0
  | succ f ih =>
    intro k n
    unfold mRd
    split
    · exact Int.le_refl 0
    · split
      · split
        · exact Int.le_refl 0
        · show (0 : Int) ≤ (o : Int) + k + 1
          omega
      · exact ih _ _
theorem mRd_no (l : List Int) (o : Nat) : ∀ (f k : Nat) (n : Int), (mRd l o f k n).ok = false → mRd l o f k n = noU := by
  intro f
  induction f with
  | zero => intro k n _; rfl
  | succ f ih =>
    intro k n h
    unfold mRd at h ⊢
    split at h
    · rename_i e; rfl
    · split at h
      · rename_i e _
        split at h
        · rename_i h1 h2
          simp only [h1, h2, if_true]
        · cases h
      · rename_i h1
        simp only [h1, if_false]
        exact ih _ _ h
theorem below_own {w w' : World} {o : Obj} (h : (w.alloc o).grownBy w' (some w.heap.size)) : Below w.heap.size w w' :=
  ⟨h.os, h.tape, h.output, by have := h.size; simp at this; omega, fun i hi => (h.block i (by simp; omega) (by intro e; injection e with e; omega)).trans (Below.heap_alloc w o i hi)⟩
end Go.Proofs.Ytblmdjdaiilmmaa
