/- The keyed hash parts two lists that part at one place modulo Modulus. Plain numbers. -/
import Derived.Test.YtlnmgfbfpjfddaaDoorKHash
namespace Go.Proofs.YtlnmgfbfpjfddaaDoor
open Go Go.Lib
set_option linter.unusedVariables false
theorem kh_core (d k : Int) (hk : d * 1000003 = 2147483647 * k) : ∃ t, d = 2147483647 * t := by
  have hu : (1000003 : Int) * 1523789695 = 2147483647 * 709572 + 1 := by omega
  have h1 : d * (1000003 * 1523789695) = 2147483647 * k * 1523789695 := by rw [← Int.mul_assoc, hk]
  rw [hu, Int.mul_add, Int.mul_one] at h1
  refine ⟨k * 1523789695 - d * 709572, ?_⟩
  have t1 : d * (2147483647 * 709572) = 2147483647 * (d * 709572) := Int.mul_left_comm _ _ _
  have t2 : 2147483647 * k * 1523789695 = 2147483647 * (k * 1523789695) := Int.mul_assoc _ _ _
  rw [Int.mul_sub, ← t1, ← t2, ← h1]
  generalize d * (2147483647 * 709572) = X
  omega
theorem kh_core2 (d t : Int) (a : -2147483647 < d) (b : d < 2147483647) (h : d = 2147483647 * t) : d = 0 := by omega
theorem kh_core3 (a b q r x y : Int) (h1 : r + 2147483647 * x = a * 1000003 + q + 13) (h2 : r + 2147483647 * y = b * 1000003 + q + 13) : (a - b) * 1000003 = 2147483647 * (x - y) := by omega
set_option maxHeartbeats 1000000 in
theorem hstep_inj {h h' v : Int} (a : 0 ≤ h) (b : h < 2147483647) (a' : 0 ≤ h') (b' : h' < 2147483647) (e : hstep h v = hstep h' v) : h = h' := by
  have e1 := Int.emod_add_mul_ediv (h * 1000003 + v % 2147483647 + 13) 2147483647
  have e2 := Int.emod_add_mul_ediv (h' * 1000003 + v % 2147483647 + 13) 2147483647
  rw [show (h * 1000003 + v % 2147483647 + 13) % 2147483647 = (h' * 1000003 + v % 2147483647 + 13) % 2147483647 from e] at e1
  obtain ⟨t, ht⟩ := kh_core _ _ (kh_core3 _ _ _ _ _ _ e1 e2)
  clear e e1 e2
  have c := kh_core2 (h - h') t (by omega) (by omega) ht
  clear ht
  omega
theorem hstep_parts {h v v' : Int} (e : hstep h v = hstep h v') : v % 2147483647 = v' % 2147483647 := by
  unfold hstep at e
  omega
theorem fold_inj : ∀ (l : List Int) {h h' : Int}, 0 ≤ h → h < 2147483647 → 0 ≤ h' → h' < 2147483647 → l.foldl hstep h = l.foldl hstep h' → h = h'
  | [], _, _, _, _, _, _, e => e
  | v :: l, h, h', a, b, a', b', e => hstep_inj a b a' b' (fold_inj l (hstep_bd h v).1 (hstep_bd h v).2 (hstep_bd h' v).1 (hstep_bd h' v).2 e)
theorem mKHash_parts (k : Int) {l : List Int} {i : Nat} {z z' : Int} (hz : l[i]? = some z) (hne : z % 2147483647 ≠ z' % 2147483647) : mKHash k (l.set i z') ≠ mKHash k l := by
  have hlt := (List.getElem?_eq_some_iff.1 hz).1
  have e1 : l = l.take i ++ z :: l.drop (i + 1) := by
    have := List.drop_eq_getElem_cons hlt
    rw [(List.getElem?_eq_some_iff.1 hz).2] at this
    rw [← this, List.take_append_drop]
  have e2 : l.set i z' = l.take i ++ z' :: l.drop (i + 1) := by rw [List.set_eq_take_append_cons_drop, if_pos hlt]
  intro e
  unfold mKHash mHash at e
  rw [e2] at e
  conv at e => rhs; rw [e1]
  simp only [List.foldl_cons, List.foldl_append, List.foldl_nil] at e
  have b0 := hstep_bd 11 k
  have b1 := foldl_bd (l.take i) (hstep 11 k) b0.1 b0.2
  generalize (l.take i).foldl hstep (hstep 11 k) = g at e b1
  have c1 := hstep_bd g z
  have c2 := hstep_bd g z'
  have d1 := foldl_bd (l.drop (i + 1)) (hstep g z) c1.1 c1.2
  have d2 := foldl_bd (l.drop (i + 1)) (hstep g z') c2.1 c2.2
  have f := hstep_inj d2.1 d2.2 d1.1 d1.2 e
  have f2 := fold_inj _ c2.1 c2.2 c1.1 c1.2 f
  exact hne (hstep_parts f2).symm
end Go.Proofs.YtlnmgfbfpjfddaaDoor
