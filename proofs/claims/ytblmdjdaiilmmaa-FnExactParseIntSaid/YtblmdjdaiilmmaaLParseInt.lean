/- The law FnExactParseInt answers true for every string, and leaves it as it was. No condition. -/
import Derived.Test.YtblmdjdaiilmmaaFrame
import Derived.Test.YtblmdjdaiilmmaaParseSpec
namespace Go.Proofs.Ytblmdjdaiilmmaa.fnExactParseInt
open Go Go.ChangeShapes Go.WideShapes Go.ChangeAt Go.RowKit Go.Lib
open Go.ChangeMaps (open_string)

theorem walk (s : ByteArray) (w : World) (hs : s.size ≤ maxLen) :
    Calls Try.prog 13 #[.string s] w fun e w' => e = .returned (.bool true) ∧ Below w.heap.size w w' := by
  have hs' : s.size ≤ 9223372036854775807 := hs
  by_cases h : s.size ≤ 1048576
  · have g : decide ((1048576 : Int) < s.size) = false := by simp; omega
    generalize hp : pval s.data.toList = p
    generalize hq : pok s.data.toList = q
    have HP := Lib.hid hp
    have HQ := Lib.hid hq
    clear hp hq
    go_enter Try.func13, Try.ntmps13
    go_wp2_with fail
    refine (parse_spec s _ hs).mono ?_
    rintro e w1 ⟨rfl, hb1⟩
    rw [HP.out, HQ.out]
    go_wp2_with fail
    refine (parse_impl s _ hs).mono ?_
    rintro e w2 ⟨rfl, hb2⟩
    rw [HP.out, HQ.out]
    go_wp2_with fail
    go_ret
    exact ⟨rfl, hb1.trans (hb2.mono hb1.size)⟩
  · have g : decide ((1048576 : Int) < s.size) = true := by simp; omega
    go_enter Try.func13, Try.ntmps13
    go_wp2_with fail
    go_ret
    exact ⟨rfl, Below.refl _ _⟩

set_option maxRecDepth 100000 in
theorem lifted (os : Os) (started : os.Started) (H : Type) (enc : TypeId × Value → H) :
    ReturnsInHanded {} Try.checked os 13 .any (Rows.fnExactParseIntSpec.pre6 enc Try.prog Try.f13 Rows.fnExactParseIntRow.domain false) (Rows.fnExactParseIntSpec.post enc Try.prog Try.f13 false true false false) := by
  refine law_lifted Try.func13 (by kernel_rfl) rfl rfl (by kernel_rfl) os started
    (ChangeSpec.witness6 (enc := enc) (C := Try.checked) false ⟨#[], #[.string ByteArray.empty], []⟩ 8 (by kernel_rfl) (by kernel_rfl) (by kernel_rfl) (by kernel_rfl)) ?_
  intro W base args ds p hval hA hlt
  rw [Try.params13] at hA hval
  obtain ⟨v0, vs0, d0, ds0, p0, q0, hargs, rfl, rfl, h0, r0⟩ := trodAll_cons hA
  obtain ⟨rfl, rfl, rfl⟩ := trodAll_nil r0
  obtain rfl : args = #[v0] := by cases args; simp_all
  obtain ⟨s, rfl, rfl, rfl, hs⟩ := open_string Try.underlying9 (hval 0 9 v0 rfl rfl) h0
  exact ⟨⟨rfl, rfl, rfl⟩, walk s W hs⟩

theorem over : Rows.fnExactParseIntRow.holds Try.pinned (OpenSpec.ofChange Rows.fnExactParseIntSpec) :=
  OpenClaim.holds_of_wide 13 Try.f13 rfl rfl rfl rfl rfl rfl rfl ⟨rfl, rfl, rfl, rfl, rfl⟩ rfl rfl rfl rfl rfl (by kernel_rfl) Try.func13 (by kernel_rfl)
    (of_decide_eq_true (by kernel_rfl)) (by unfold Func.isWrapper; first | (rw [if_pos (by decide +kernel)]; kernel_rfl) | (rw [if_neg (by decide +kernel)]; exact ⟨rfl, rfl⟩))
    (fun os started H enc _ => lifted os started H enc)

theorem proved : Rows.FnExactParseIntSaid := over
#print axioms proved
end Go.Proofs.Ytblmdjdaiilmmaa.fnExactParseInt
