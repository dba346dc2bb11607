/- What ReadUvarint's number says of the bytes that were read. -/
import Derived.Test.YtkakdfphhnchhabVar
namespace Go.Proofs.Ytkakdfphhnchhab
open Go Go.ChangeShapes Go.WideShapes Go.ChangeAt Go.RowKit Go.Lib
set_option linter.unusedVariables false
set_option linter.unusedSimpArgs false
set_option maxRecDepth 100000
theorem mReadU_yes {l : List Int} {a : Int} (hu : U8s l) (h : (mReadU l a).ok = true) :
    ∃ o v E : Nat, a = o ∧ mReadU l a = ⟨(v : Int), (E : Int), true⟩ ∧ v ≤ 1000000000000 ∧ o < E ∧ E ≤ l.length ∧ (l.drop o).take (E - o) = uv v ∧ E - o = (uv v).length := by
  have h0 : ¬ a < 0 := fun hn => by unfold mReadU at h; rw [if_pos hn] at h; cases h
  obtain ⟨o, rfl⟩ := Int.eq_ofNat_of_zero_le (show 0 ≤ a by omega)
  have e : mReadU l (o : Int) = mRd l o 6 0 ((0 : Nat) : Int) := by unfold mReadU; rw [if_neg h0, Int.toNat_natCast]; rfl
  rw [e] at h ⊢
  obtain ⟨v, _, hn, hto, hl⟩ := mRd_sound l hu o 6 0 0 rfl (by decide) h
  have hf := mRd_fit l o 6 0 ((0 : Nat) : Int) (by omega) (by omega) h
  have hp := uv_pos v
  have hn' : (mRd l o 6 0 ((0 : Nat) : Int)).n = (v : Int) := by rw [hn]; simp
  have hto' : (mRd l o 6 0 ((0 : Nat) : Int)).to = ((o + (uv v).length : Nat) : Int) := by rw [hto]; push_cast; omega
  obtain ⟨_, hf1, hf2⟩ := hf
  rw [hn'] at hf1
  rw [hto'] at hf2
  refine ⟨o, v, o + (uv v).length, rfl, ?_, by omega, by omega, by omega, ?_, by omega⟩
  · generalize mRd l o 6 0 ((0 : Nat) : Int) = R at h hn' hto'
    cases R
    simp only at h hn' hto'
    rw [h, hn', hto']
  · rw [Nat.add_sub_cancel_left]
    apply List.ext_getElem?
    intro j
    rw [List.getElem?_take]
    by_cases hj : j < (uv v).length
    · rw [if_pos hj, List.getElem?_drop]
      have h1 := hl j _ (List.getElem?_eq_getElem hj)
      rw [Nat.add_zero] at h1
      rw [h1, List.getElem?_eq_getElem hj]
    · rw [if_neg hj, List.getElem?_eq_none (by omega)]
end Go.Proofs.Ytkakdfphhnchhab
