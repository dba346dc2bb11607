import Derived.Test.YtmelfgimhilhbaaDoorRows
import Derived.Test.YtmelfgimhilhbaaDoorNum
import Derived.WalkKit
import Derived.WalkLawsBesides
import Derived.Lib.Hide
import Derived.Laws.BytesArg
namespace Go.Proofs.YtmelfgimhilhbaaDoor
open Go.RowKit Go.Lib

theorem conv_one (w : World) (c : Int) : (convert 22 9 (.slice (some ⟨w.heap.size, 0, none⟩) 1 1)).run Tryd.prog (w.alloc (.cells #[.int .u8 c] 5)) =
    .ok (.string ⟨#[UInt8.ofNat c.toNat]⟩) (w.alloc (.cells #[.int .u8 c] 5)) := by
  rw [run_convert_bytes_arg (P := Tryd.prog) (w.alloc (.cells #[.int .u8 c] 5)) 22 5 Tryd.underlying22 Tryd.underlying5 w.heap.size 0 1 1 [c] rfl (fun i hi => by
    obtain rfl : i = 0 := by omega
    rw [World.cell?_alloc_new]; rfl) 9 Tryd.underlying9]
  rfl

theorem tmod_nonpos {y : Int} (h : y ≤ 0) : y.tmod 10 ≤ 0 := by
  obtain ⟨m, rfl⟩ : ∃ m : Nat, y = -(m : Int) := ⟨y.natAbs, by omega⟩
  rw [Int.neg_tmod]
  have : 0 ≤ (m : Int).tmod 10 := Int.tmod_nonneg _ (by omega)
  omega
theorem neg_tmod_abs {y : Int} (h : y ≤ 0) : -(y.tmod 10) = (y.natAbs % 10 : Nat) := by
  obtain ⟨m, rfl⟩ : ∃ m : Nat, y = -(m : Int) := ⟨y.natAbs, by omega⟩
  rw [Int.neg_tmod, Int.neg_neg, Int.tmod_eq_emod_of_nonneg (by omega)]
  omega
theorem tdiv_abs (y : Int) : (y.tdiv 10).natAbs = y.natAbs / 10 := by
  rw [Int.natAbs_tdiv]; rfl
theorem tdiv_bd (y : Int) (h : y ≤ 0) : y ≤ y.tdiv 10 ∧ y.tdiv 10 ≤ 0 := by
  obtain ⟨m, rfl⟩ : ∃ m : Nat, y = -(m : Int) := ⟨y.natAbs, by omega⟩
  rw [Int.neg_tdiv, Int.tdiv_eq_ediv_of_nonneg (by omega)]
  omega

theorem format_any (n : Int) (w : World) (hlo : -9223372036854775808 ≤ n) (hhi : n ≤ 9223372036854775807) :
    Calls Tryd.prog 49 #[.int .i64 n] w fun e w' => e = .returned (.string ⟨(itoa n).toArray⟩) ∧ Below w.heap.size w w' := by
  by_cases h0 : n = 0
  · subst h0
    go_enter Tryd.func49, Tryd.ntmps49
    go_wp2
    go_ret
    exact ⟨by simp [itoa, decDigits], Below.refl _ _⟩
  · go_enter Tryd.func49, Tryd.ntmps49
    go_wp2
    go_loopw [3, 4, 5] (fun s x _ wr => ∃ (y : Int) (l : List UInt8), -9223372036854775808 ≤ y ∧ y ≤ 9223372036854775807 ∧ x = .int .i64 y ∧ s = .string ⟨l.toArray⟩ ∧ (n < 0 → y ≤ 0) ∧ (0 ≤ n → 0 ≤ y) ∧ Laid n.natAbs y.natAbs l ∧ Below w.heap.size w wr)
      (fun _ x _ _ => (intOf x).natAbs)
    case atStart => exact ⟨n, [], hlo, hhi, rfl, rfl, by omega, by omega, laid_start _ (by omega), Below.refl _ _⟩
    case round =>
      obtain ⟨y, l, hy1, hy2, rfl, rfl, hs1, hs2, hl, hb⟩ := hrel
      have hlen := laid_len hl (by omega)
      by_cases hy : y = 0
      · subst hy
        have hl' : l = decDigits n.natAbs := laid_end hl
        clear hl
        by_cases hn : n < 0
        · have hf : itoa n = 45 :: l := by rw [itoa, if_pos hn, hl']
          have Hf := Lib.hid hf
          clear hf hl'
          have hcat : ∀ w' : World, (Op.stringOp .add ⟨#[45]⟩ ⟨l.toArray⟩).run Tryd.prog w' = .ok (.string ⟨(45 :: l).toArray⟩) w' := fun w' => run_string_add_lists w' [45] l (by simp) (by omega)
          go_wp2
          go_ret
          exact ⟨by rw [Hf.out]; rfl, hb⟩
        · have hf : itoa n = l := by rw [itoa, if_neg hn, hl', show n.natAbs = n.toNat by omega]
          have Hf := Lib.hid hf
          clear hf hl'
          go_wp2
          go_ret
          exact ⟨by rw [Hf.out]; rfl, hb⟩
      · have hcat : ∀ (w' : World) (c : UInt8), (Op.stringOp .add ⟨#[c]⟩ ⟨l.toArray⟩).run Tryd.prog w' = .ok (.string ⟨(c :: l).toArray⟩) w' := fun w' c => run_string_add_lists w' [c] l (by simp) (by omega)
        have hconv := conv_one
        have hst := laid_step hl (by omega)
        have Hst := Lib.hid hst
        clear hst hl
        have hsz := hb.size
        by_cases hp : 0 < y
        · go_wp2
          go_roundw
          case rel =>
            refine ⟨y / 10, UInt8.ofNat (48 + y.natAbs % 10) :: l, by omega, by omega, rfl, ?_, by omega, by omega, ?_, hb.alloc hsz _⟩
            · rw [show (48 + y % 10).toNat = 48 + y.natAbs % 10 by omega]
            · rw [show (y / 10).natAbs = y.natAbs / 10 by omega]; exact Hst.out
          case measure => simp [intOf]; omega
        · have b1 : -10 < y.tmod 10 := Int.lt_tmod_of_pos y (by omega)
          have b2 : y.tmod 10 ≤ 0 := tmod_nonpos (by omega)
          have d1 := tdiv_bd y (by omega)
          have B := Lib.hid (neg_tmod_abs (y := y) (by omega))
          have D := Lib.hid (tdiv_abs y)
          by_cases hd : y.tmod 10 < 0
          · go_wp2
            go_roundw
            case rel =>
              refine ⟨y.tdiv 10, UInt8.ofNat (48 + y.natAbs % 10) :: l, by omega, by omega, rfl, ?_, by omega, by omega, ?_, hb.alloc hsz _⟩
              · have := B.out
                rw [show (48 + -y.tmod 10).toNat = 48 + y.natAbs % 10 by omega]
              · rw [D.out]; exact Hst.out
            case measure => simp [intOf, D.out]; omega
          · go_wp2
            go_roundw
            case rel =>
              refine ⟨y.tdiv 10, UInt8.ofNat (48 + y.natAbs % 10) :: l, by omega, by omega, rfl, ?_, by omega, by omega, ?_, hb.alloc hsz _⟩
              · have := B.out
                rw [show (48 + y.tmod 10).toNat = 48 + y.natAbs % 10 by omega]
              · rw [D.out]; exact Hst.out
            case measure => simp [intOf, D.out]; omega
end Go.Proofs.YtmelfgimhilhbaaDoor
