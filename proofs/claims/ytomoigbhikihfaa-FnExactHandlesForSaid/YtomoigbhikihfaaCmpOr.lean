/- cmp.Compare and cmp.Or at int. -/
import Derived.Test.YtomoigbhikihfaaSlI
import Derived.Test.YtomoigbhikihfaaApp
import Derived.Deep.LoopGhost
namespace Go.Proofs.Ytomoigbhikihfaa
open Go Go.ChangeShapes Go.WideShapes Go.ChangeAt Go.RowKit Go.Lib
set_option linter.unusedVariables false
set_option linter.unusedSimpArgs false
set_option maxRecDepth 100000
def mCmp (a b : Int) : Int := if a < b then -1 else if b < a then 1 else 0
def mOr (l : List Int) : Int := match l.find? (· != 0) with | some z => z | none => 0
theorem impl_cmp (a b : Int) (w : World) : Calls Try.prog 105 #[.int .i64 a, .int .i64 b] w fun e w' => e = .returned (.int .i64 (mCmp a b)) ∧ w = w' := by
  have n1 : (a != a) = false := by simp
  have n2 : (b != b) = false := by simp
  by_cases h1 : a < b
  · have HE := Lib.hid (show mCmp a b = -1 by simp [mCmp, h1])
    go_enter Try.func105, Try.ntmps105
    go_wp2
    go_ret
    exact ⟨by rw [HE.out]; rfl, rfl⟩
  · by_cases h2 : b < a
    · have HE := Lib.hid (show mCmp a b = 1 by simp [mCmp, h1, h2])
      go_enter Try.func105, Try.ntmps105
      go_wp2
      go_ret
      exact ⟨by rw [HE.out]; rfl, rfl⟩
    · have HE := Lib.hid (show mCmp a b = 0 by simp [mCmp, h1, h2])
      go_enter Try.func105, Try.ntmps105
      go_wp2
      go_ret
      exact ⟨by rw [HE.out]; rfl, rfl⟩
theorem mOr_hit {l : List Int} {k : Nat} {z : Int} (h : ∀ x ∈ l.take k, x = 0) (hz : l[k]? = some z) (hne : z ≠ 0) : mOr l = z := by
  unfold mOr
  have : l.find? (· != 0) = some z := by
    have hk : k < l.length := (List.getElem?_eq_some_iff.1 hz).1
    conv => lhs; rw [← List.take_append_drop k l]
    rw [List.find?_append, List.find?_eq_none.2 (fun x hx => by simp [h x hx])]
    have hd : l.drop k = z :: l.drop (k + 1) := by
      rw [List.drop_eq_getElem_cons hk, (List.getElem?_eq_some_iff.1 hz).2]
    have hb : (z != 0) = true := by simp [hne]
    rw [hd, List.find?_cons, hb]
    rfl
  rw [this]
theorem mOr_miss {l : List Int} (h : ∀ x ∈ l, x = 0) : mOr l = 0 := by
  unfold mOr
  rw [List.find?_eq_none.2 (fun x hx => by simp [h x hx])]
theorem zeros_step {l : List Int} {k : Nat} {z : Int} (h : ∀ x ∈ l.take k, x = 0) (hz : l[k]? = some z) (hne : z = 0) : ∀ x ∈ l.take (k + 1), x = 0 := by
  rw [List.take_add_one, hz]
  intro x hx
  rcases List.mem_append.1 hx with h1 | h1
  · exact h x h1
  · simp at h1; rw [h1, hne]
theorem mOr_cons (z : Int) (l : List Int) : mOr (z :: l) = if z = 0 then mOr l else z := by
  unfold mOr
  rw [List.find?_cons]
  by_cases h : z = 0
  · have hb : (z != 0) = false := by simp [h]
    rw [hb, if_pos h]
  · have hb : (z != 0) = true := by simp [h]
    rw [hb, if_neg h]
theorem mCmp_zero (a b : Int) : mCmp a b = 0 ↔ a = b := by unfold mCmp; split <;> (try split) <;> omega
theorem mCmp_neg (a b : Int) : mCmp a b < 0 ↔ a < b := by unfold mCmp; split <;> (try split) <;> omega
theorem mCmp_pos (a b : Int) : 0 < mCmp a b ↔ b < a := by unfold mCmp; split <;> (try split) <;> omega

end Go.Proofs.Ytomoigbhikihfaa
