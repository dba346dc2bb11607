/- ReadUvarint, of the program and of the model: the contracts. -/
import Derived.Test.YtkakdfphhnchhabRdI
namespace Go.Proofs.Ytkakdfphhnchhab
open Go Go.ChangeShapes Go.WideShapes Go.ChangeAt Go.RowKit Go.Lib
set_option linter.unusedVariables false
set_option maxRecDepth 100000

theorem take_empty (g cap : Nat) (A : Option Addr) (w : World) (hc : BoxAt w g 71 #[.slice A 0 cap, .int .i64 0]) :
    Calls Try.prog 40 #[.pointer (some ⟨g, 0, none⟩), .int .i64 1] w (fun e w' => e = .returned (.tuple #[.slice none 0 0, .bool false]) ∧ w.grownBy w' (some g)) := by
  have p0 := hc.at_ (j := 0) (u := .slice A 0 cap) rfl
  have p1 := hc.at_ (j := 1) (u := .int .i64 0) rfl
  have hin : inR 1 0 0 = false := by rw [Bool.eq_false_iff]; intro h; have := inR_true.1 h; omega
  go_enter Try.func40, Try.ntmps40
  go_wp2_with fail
  go_quiet ((go_at_call 39; exact Calls.quiet_of_same ((impl_in _ _ _ _).mono fun _ _ ⟨a, b⟩ => ⟨a, b.symm⟩)))
  go_wp2_with fail
  go_ret2
  exact ⟨rfl, ⟨rfl, rfl, rfl, Nat.le_refl _, fun i hi hne => rfl⟩⟩
theorem uvarint_empty (g cap : Nat) (A : Option Addr) (w : World) (hc : BoxAt w g 71 #[.slice A 0 cap, .int .i64 0]) :
    Calls Try.prog 25 #[.pointer (some ⟨g, 0, none⟩)] w (fun e w' => e = .returned (.tuple #[.int .i64 0, .bool false]) ∧ w.grownBy w' (some g)) := by
  have HC := Lib.hid hc
  clear hc
  go_enter Try.func25, Try.ntmps25
  go_wp2_with fail
  go_loopw [4, 9] (fun x i wr => i = .int .i64 0 ∧ x = .int .i64 0 ∧ w = wr) (fun _ i _ => 6 - (intOf i).toNat)
  case atStart => exact ⟨rfl, rfl, rfl⟩
  case round =>
    obtain ⟨rfl, rfl, rfl⟩ := hrel
    go_wp2_with fail
    refine (take_empty g cap A _ HC.out).mono ?_
    rintro e w1 ⟨rfl, hg1⟩
    go_wp2_with fail
    go_ret2
    exact ⟨rfl, hg1⟩
theorem mRd_to (l : List Int) (o : Nat) : ∀ (f k : Nat) (n : Int), 0 ≤ (mRd l o f k n).to := by
  intro f
  induction f with
  | zero => intro k n; exact Int.le_refl 0
  | succ f ih =>
    intro k n
    unfold mRd
    split
    · exact Int.le_refl 0
    · split
      · split
        · exact Int.le_refl 0
        · show (0 : Int) ≤ (o : Int) + k + 1
          omega
      · exact ih _ _
theorem mRd_no (l : List Int) (o : Nat) : ∀ (f k : Nat) (n : Int), (mRd l o f k n).ok = false → mRd l o f k n = noU := by
  intro f
  induction f with
  | zero => intro k n _; rfl
  | succ f ih =>
    intro k n h
    unfold mRd at h ⊢
    split at h
    · rename_i e; rfl
    · split at h
      · rename_i e _
        split at h
        · rename_i h1 h2
          simp only [h1, h2, if_true]
        · cases h
      · rename_i h1
        simp only [h1, if_false]
        exact ih _ _ h
theorem below_own {w w' : World} {o : Obj} (h : (w.alloc o).grownBy w' (some w.heap.size)) : Below w.heap.size w w' :=
  ⟨h.os, h.tape, h.output, by have := h.size; simp at this; omega, fun i hi => (h.block i (by simp; omega) (by intro e; injection e with e; omega)).trans (Below.heap_alloc w o i hi)⟩
theorem read_int (l0 : List Int) (A0 : Option Addr) (n0 c0 lo0 hi0 : Nat) (a1 : Int) (w : World) (h0 : n0 ≤ 1048576) (r0 : Rd w lo0 hi0 1 A0 n0 (u8s l0)) (p0 : n0 ≤ c0) (b0 : Hid (U8s l0)) :
    Calls Try.prog 24 #[.slice A0 n0 c0, .int .i64 a1, .func (.func 25) #[] #[]] w (Says (.tuple #[.int .i64 (mReadU l0 a1).n, .int .i64 (mReadU l0 a1).to, .bool (mReadU l0 a1).ok]) w) := by
  have HR := Lib.hid (r0.old (by decide))
  have HL := Lib.hid (show l0.length = n0 by simpa using r0.1)
  clear r0
  by_cases hin : inR a1 0 n0 = true
  · obtain ⟨o, rfl⟩ := Int.eq_ofNat_of_zero_le (inR_true.1 hin).1
    have hon : o ≤ n0 := by have := (inR_true.1 hin).2; omega
    have HE := Lib.hid (show mReadU l0 o = mRd l0 o 6 0 0 by unfold mReadU; rw [if_neg (by omega)]; rfl)
    rw [HE.out]
    by_cases hz : n0 = 0
    · subst hz
      obtain rfl : o = 0 := by omega
      have HN := Lib.hid (show mRd l0 0 6 0 0 = noU from mRd_none (f := 5) rfl (by rw [HL.out]; omega))
      rw [HN.out]
      have hin0 : inR 0 0 0 = true := inR_true.2 (by omega)
      go_enter Try.func24, Try.ntmps24
      go_wp2_with (go_at_call 39; refine (impl_in _ _ _ _).mono ?_; rintro e w1 ⟨rfl, rfl⟩)
      refine (uvarint_empty w.heap.size c0 A0 _ (box_new w _ _)).mono ?_
      rintro e w2 ⟨rfl, hg⟩
      go_wp2_with fail
      go_ret3
      exact ⟨rfl, below_own hg⟩
    · have hA : 0 < n0 := by omega
      obtain ⟨b, off, _, rfl, _, hbl, _, _⟩ := rd_int HR.out hA
      have HTO := Lib.hid (mRd_to l0 o 6 0 0)
      have HNO := Lib.hid (mRd_no l0 o 6 0 0)
      have HU := Lib.hid (uvarint_any l0 b off n0 c0 0 w.heap.size w.heap.size o (w.alloc (.cells #[.slice (some ⟨b, off, none⟩) n0 c0, .int .i64 o] 71)) h0 p0 hon (HR.out.alloc _) b0 (by omega) (box_new w _ _))
      generalize mRd l0 o 6 0 0 = R at *
      go_enter Try.func24, Try.ntmps24
      go_wp2_with (go_at_call 39; refine (impl_in _ _ _ _).mono ?_; rintro e w1 ⟨rfl, rfl⟩)
      refine HU.out.mono ?_
      rintro e w2 ⟨v, rfl, hv, hg⟩
      have HG := Lib.hid (below_own hg)
      clear hg
      cases hok : R.ok with
      | true =>
        obtain ⟨rfl, hc⟩ := hv hok
        have p1 := hc.at_ (j := 1) (u := .int .i64 (R.to.toNat : Int)) rfl
        rw [Int.toNat_of_nonneg HTO.out] at p1
        clear hv hc
        go_wp2_with fail
        go_quiet (fail)
        go_wp2_with fail
        go_ret3
        exact ⟨by first | rfl | (rw [hok]; rfl), below_dN HG.out _⟩
      | false =>
        obtain rfl := HNO.out hok
        clear hv
        go_wp2_with fail
        go_ret3
        exact ⟨rfl, HG.out⟩
  · have hin : inR a1 0 n0 = false := by simpa using hin
    have HE := Lib.hid (show mReadU l0 a1 = noU by
      unfold mReadU
      by_cases h : a1 < 0
      · rw [if_pos h]
      · rw [if_neg h]
        refine mRd_none (f := 5) rfl ?_
        rw [Bool.eq_false_iff] at hin
        have : ¬ a1 ≤ n0 := fun h2 => hin (inR_true.2 ⟨by omega, h2⟩)
        rw [HL.out]; omega)
    rw [HE.out]
    go_enter Try.func24, Try.ntmps24
    go_wp2_with (go_at_call 39; refine (impl_in _ _ _ _).mono ?_; rintro e w1 ⟨rfl, rfl⟩)
    go_ret3
    exact ⟨rfl, Below.refl _ _⟩
theorem impl_ReadUvarintC (l0 : List Int) (A0 : Option Addr) (n0 c0 lo0 hi0 : Nat) (a1 : Int) (w : World) (h0 : n0 ≤ 1048576) (r0 : Rd w lo0 hi0 1 A0 n0 (u8s l0)) (p0 : n0 ≤ c0) (b0 : Hid (U8s l0)) (w1 : (Lit.int .i64 a1).wf = true) :
    Calls Try.prog 8 #[.slice A0 n0 c0, .int .i64 a1] w (Says (.tuple #[.int .i64 (mReadU l0 a1).n, .int .i64 (mReadU l0 a1).to, .bool (mReadU l0 a1).ok]) w) := by
  have HR := Lib.hid r0
  clear r0
  go_enter Try.func8, Try.ntmps8
  go_wp2_with fail
  refine (read_int l0 A0 n0 c0 lo0 hi0 a1 _ h0 HR.out p0 b0).mono ?_
  rintro e w2 ⟨rfl, hb⟩
  go_wp2_with fail
  go_ret3
  exact ⟨rfl, hb⟩
theorem spec_ReadUvarint (l0 : List Int) (A0 : Option Addr) (n0 c0 lo0 hi0 : Nat) (a1 : Int) (w : World) (h0 : n0 ≤ 1048576) (r0 : Rd w lo0 hi0 1 A0 n0 (u8s l0)) (p0 : n0 ≤ c0) (b0 : Hid (U8s l0)) (w1 : (Lit.int .i64 a1).wf = true) :
    Calls Try.prog 11 #[.slice A0 n0 c0, .int .i64 a1] w (Says (.tuple #[.int .i64 (mReadU l0 a1).n, .int .i64 (mReadU l0 a1).to, .bool (mReadU l0 a1).ok]) w) := by
  by_cases h : a1 < 0
  · have HE := Lib.hid (show mReadU l0 a1 = noU by unfold mReadU; rw [if_pos h])
    rw [HE.out]
    go_enter Try.func11, Try.ntmps11
    go_wp2_with fail
    go_loop [7, 8] (fun x i => i = .int .i64 0 ∧ x = .int .i64 0) (fun _ i => 6 - (intOf i).toNat)
    case atStart => exact ⟨rfl, rfl⟩
    case round =>
      obtain ⟨rfl, rfl⟩ := hrel
      go_wp2_with fail
      go_ret3
      exact ⟨rfl, Below.refl _ _⟩
  · obtain ⟨o, rfl⟩ := Int.eq_ofNat_of_zero_le (show 0 ≤ a1 by omega)
    have HE := Lib.hid (show mReadU l0 o = mRd l0 o 6 0 0 by unfold mReadU; rw [if_neg h]; rfl)
    rw [HE.out]
    exact says_of_same (spec_rdu l0 A0 n0 c0 lo0 hi0 o w (by omega) r0 b0)
end Go.Proofs.Ytkakdfphhnchhab
