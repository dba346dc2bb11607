/- A number put into an ascending list: the model's l6Put, at every list. No condition but its length. -/
import Derived.Test.YtfceddgacefejaaRgn
import Derived.Test.YtfceddgacefejaaAscM
import Derived.Test.YtfceddgacefejaaAppO
import Derived.Test.YtfceddgacefejaaSlI
import Derived.Test.YtfceddgacefejaaFun
import Derived.Test.YtfceddgacefejaaB2I
import Derived.Deep.LoopGhost
namespace Go.Proofs.Ytfceddgacefejaa
open Go Go.ChangeShapes Go.WideShapes Go.ChangeAt Go.RowKit Go.Lib
set_option linter.unusedVariables false
set_option linter.unusedSimpArgs false
set_option maxRecDepth 100000
theorem rd_boxp {w : World} {g : Nat} {t : TypeId} {cs : Array Value} (h : BoxAt w g t cs) (n : Nat) (hn : cs.size = n) : Rd w g (g + 1) 1 (some ⟨g, 0, none⟩) n cs.toList :=
 ⟨by simpa using hn, fun _ => ⟨g, 0, rfl, Nat.le_refl _, by omega, fun j u hu => by rw [Nat.zero_add]; exact h.at_ (by simpa using hu)⟩⟩
theorem mPut_low {n : Int} : ∀ {l : List Int} {k : Nat}, (∀ x ∈ l.take k, x < n) → k ≤ l.length → mPut n l = l.take k ++ mPut n (l.drop k)
 | l, 0, _, _ => by simp
 | [], k + 1, _, h => by simp at h
 | x :: l, k + 1, h, hk => by
  have hx : x < n := h x (by simp)
  rw [List.take_succ_cons, List.drop_succ_cons, mPut, if_pos hx, mPut_low (l := l) (k := k) (fun y hy => h y (by simp [hy])) (by simpa using hk)]
  simp
theorem mPut_in {n : Int} {l : List Int} {k : Nat} (h : ∀ x ∈ l.take k, x < n) (hk : l[k]? = some n) : mPut n l = l := by
 have hlt := (List.getElem?_eq_some_iff.1 hk).1
 rw [mPut_low h (by omega), List.drop_eq_getElem_cons hlt]
 have e : l[k] = n := (List.getElem?_eq_some_iff.1 hk).2
 rw [e, mPut, if_neg (by omega), if_pos rfl, ← e, ← List.drop_eq_getElem_cons hlt, List.take_append_drop]
theorem mPut_new {n : Int} {l : List Int} {k : Nat} (h : ∀ x ∈ l.take k, x < n) (hk : k ≤ l.length) (hx : ∀ y, l[k]? = some y → n < y) : mPut n l = l.take k ++ [n] ++ l.drop k := by
 rw [mPut_low h hk]
 by_cases e : k < l.length
 ·
  have := hx _ (List.getElem?_eq_getElem e)
  rw [List.drop_eq_getElem_cons e, mPut, if_neg (by omega), if_neg (by omega)]
  simp
 ·
  rw [List.drop_eq_nil_of_le (by omega)]; simp [mPut]
theorem low_step {n z : Int} {l : List Int} {k : Nat} (h : ∀ x ∈ l.take k, x < n) (hz : l[k]? = some z) (hlt : z < n) : ∀ x ∈ l.take (k + 1), x < n := by
 intro x hx
 rw [List.take_add_one, hz] at hx
 rcases List.mem_append.1 hx with hx | hx
 ·
  exact h x hx
 ·
  simp at hx; omega
theorem rd_take {w : World} {lo hi n k : Nat} {A : Option Addr} {l : List Int} (h : Rd w lo hi 1 A n (i64s l)) (hk : k ≤ n) : Rd w lo hi 1 A k (i64s (l.take k)) := by
 have hl : l.length = n := by have := h.1; simpa [i64s] using this
 refine ⟨by simp [i64s]; omega, fun h0 => ?_⟩
 obtain ⟨b, off, e, h1, h2, hc⟩ := h.2 (by omega)
 refine ⟨b, off, e, h1, h2, fun j u hu => hc j u ?_⟩
 unfold i64s at hu ⊢
 rw [List.map_take, List.getElem?_take] at hu
 split at hu
 ·
  exact hu
 ·
  cases hu
theorem rd_drop {w : World} {lo hi n k : Nat} {b off : Nat} {l : List Int} (h : Rd w lo hi 1 (some ⟨b, off, none⟩) n (i64s l)) (hk : k ≤ n) : Rd w lo hi 1 (some ⟨b, off + k, none⟩) (n - k) (i64s (l.drop k)) := by
 have hl : l.length = n := by have := h.1; simpa [i64s] using this
 refine ⟨by simp [i64s]; omega, fun h0 => ?_⟩
 obtain ⟨b', off', e, h1, h2, hc⟩ := h.2 (by omega)
 injection e with e; injection e with e1 e2; subst e1; subst e2
 refine ⟨_, _, rfl, h1, h2, fun j u hu => ?_⟩
 rw [Nat.add_assoc]
 refine hc (k + j) u ?_
 unfold i64s at hu ⊢
 rw [List.map_drop, List.getElem?_drop] at hu
 exact hu
end Go.Proofs.Ytfceddgacefejaa
