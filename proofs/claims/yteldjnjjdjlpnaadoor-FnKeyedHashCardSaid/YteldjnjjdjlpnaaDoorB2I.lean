/- BytesToInts, of the program and of the model, answer the length and then each byte. -/
import Derived.Test.YteldjnjjdjlpnaaDoorApp
namespace Go.Proofs.YteldjnjjdjlpnaaDoor
open Go Go.ChangeShapes Go.WideShapes Go.ChangeAt Go.RowKit Go.Lib
set_option linter.unusedVariables false
set_option maxRecDepth 100000

theorem info_int : (Tryd.prog.info? 3).map (fun i => (i.zero, i.size, i.bytes)) = some (some (.int .i64 0), 1, 8) := by kernel_rfl
def mB2I (l : List Int) : List Int := (l.length : Int) :: l
theorem mB2I_len (l : List Int) : (mB2I l).length = l.length + 1 := rfl
theorem one_int (z : Int) : ∀ u ∈ (#[Value.int .i64 z]).toList, u.oneCell' = true := by
  intro u hu
  simp only [List.mem_singleton] at hu
  subst hu
  rfl

theorem b2i_step {l : List Int} {k : Nat} {z : Int} (n0 : Nat) (hz : l[k]? = some z) : i64s ((n0 : Int) :: l.take k) ++ (#[Value.int .i64 z]).toList = i64s ((n0 : Int) :: l.take (k + 1)) := by
  rw [List.take_add_one, hz]
  simp
theorem b2i_end {l : List Int} {n : Nat} (h : l.length = n) : ((n : Int) :: l.take n) = mB2I l := by
  rw [← h, List.take_length]; rfl
theorem impl_BytesToInts' (l0 : List Int) (A0 : Option Addr) (n0 c0 lo0 hi0 : Nat) (w : World) (h0 : n0 ≤ 17592186044) (r0 : Rd w lo0 hi0 1 A0 n0 (u8s l0)) (b0 : Hid (U8s l0)) :
    Calls Tryd.prog 72 #[.slice A0 n0 c0] w (Makes 3 1 (mB2I l0).length (i64s (mB2I l0)) w) := by
  have HR := Lib.hid r0
  have HL := Lib.hid (show l0.length = n0 by simpa using r0.1)
  clear r0
  go_enter Tryd.func72, Tryd.ntmps72
  go_wp2_with fail
  go_loopw [3, 11] (fun v i wr => ∃ k : Nat, k ≤ n0 ∧ i = .int .i64 k ∧ wr.ownsRow w.heap.size 3 1 v (1 + k) (i64s ((n0 : Int) :: l0.take k)) ∧ Below w.heap.size w wr) (fun _ i _ => n0 - (intOf i).toNat)
  case atStart => exact ⟨0, Nat.zero_le _, rfl, World.ownsRow_lit w #[.int .i64 n0] 1 (Nat.le_refl _) (by unfold maxLen; omega) rfl, (Below.refl _ _).alloc (Nat.le_refl _) _⟩
  case round =>
    obtain ⟨k, hk, rfl, hown, hb⟩ := hrel
    have HB := Lib.hid hb
    have HO := Lib.hid hown
    have HS := Lib.hid hb.size
    by_cases hlt : k < n0
    · obtain ⟨b, off, z, rfl, _, _, hz, hc⟩ := rd_int (HR.out.new hb) hlt
      have hz2 := b0.out z (List.mem_of_getElem? hz)
      have hz3 := hz2.1
      have hz4 := hz2.2
      have HZ := Lib.hid (b2i_step n0 hz)
      clear hb hown hz hz2
      go_wp2_with (at_builtin; refine wp_app_lit rfl _ _ _ rfl w.heap.size 3 (.int .i64 0) 1 8 Tryd.underlying32 info_int rfl (by decide) _ _ _ rfl HO.out #[.int .i64 z] 1 1 _ rfl (by simp) rfl (one_int z) (by unfold maxLen; omega) (by omega) HS.out ?_; intro v1 w1 ho1 hb1)
      rw [HZ.out] at ho1
      have HO1 := Lib.hid ho1
      have HB1 := Lib.hid (HB.out.trans hb1)
      clear ho1 hb1
      go_wp2
      go_roundw
      case rel => exact ⟨k + 1, by omega, by go_num, HO1.out, HB1.out⟩
      case measure => simp [intOf]; omega
    · obtain rfl : k = n0 := by omega
      rw [b2i_end HL.out] at hown
      have HO := Lib.hid (show wr.ownsRow w.heap.size 3 1 _ (mB2I l0).length _ by rw [mB2I_len, HL.out, Nat.add_comm]; exact hown)
      clear hb hown
      go_wp2
      go_ret
      exact makes_of_own HO.out HB.out
theorem impl_BytesToInts (l0 : List Int) (A0 : Option Addr) (n0 c0 lo0 hi0 : Nat) (w : World) (h0 : n0 ≤ 1048576) (r0 : Rd w lo0 hi0 1 A0 n0 (u8s l0)) (b0 : Hid (U8s l0)) :
    Calls Tryd.prog 72 #[.slice A0 n0 c0] w (Makes 3 1 (mB2I l0).length (i64s (mB2I l0)) w) := impl_BytesToInts' l0 A0 n0 c0 lo0 hi0 w (by omega) r0 b0
end Go.Proofs.YteldjnjjdjlpnaaDoor
