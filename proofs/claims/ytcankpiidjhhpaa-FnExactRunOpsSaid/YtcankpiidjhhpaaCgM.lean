/- The grid of flows: a row of 102 cells, and what may flow. Lists alone. -/
import Derived.Test.YtcankpiidjhhpaaFlow
import Derived.Test.YtcankpiidjhhpaaOwn2
import Derived.Test.YtcankpiidjhhpaaTFlow
namespace Go.Proofs.Ytcankpiidjhhpaa
open Go Go.ChangeShapes Go.WideShapes Go.ChangeAt Go.RowKit Go.Lib
set_option linter.unusedVariables false
set_option linter.unusedSimpArgs false
set_option maxRecDepth 100000

/-- A grid of ten rows of ten, and a mask. -/
def cargoL (P : Nat → Nat → Bool) (b : Int) (v : Bool) : List Value := (List.range 100).map (fun i => Value.bool (P (i / 10) (i % 10))) ++ [.int .i64 b, .bool v]
def cargoC (P : Nat → Nat → Bool) (b : Int) (v : Bool) : Array Value := (cargoL P b v).toArray
theorem cargo_size (P : Nat → Nat → Bool) (b : Int) (v : Bool) : (cargoC P b v).size = 102 := by simp [cargoC, cargoL]
theorem cargo_get (P : Nat → Nat → Bool) (b : Int) (v : Bool) {x y : Nat} (hx : x < 10) (hy : y < 10) : (cargoC P b v)[x * 10 + y]? = some (.bool (P x y)) := by
  simp only [cargoC, cargoL, List.getElem?_toArray]
  rw [List.getElem?_append_left (by simp; omega), List.getElem?_map, List.getElem?_range (by omega)]
  have e1 : (x * 10 + y) / 10 = x := by omega
  have e2 : (x * 10 + y) % 10 = y := by omega
  simp [e1, e2]
theorem cargo_ones (P : Nat → Nat → Bool) (b : Int) (v : Bool) : (cargoC P b v).all (·.oneCell') = true := by
  simp [cargoC, cargoL, Value.oneCell']
theorem cargo_bits (P : Nat → Nat → Bool) (b : Int) (v : Bool) : (cargoC P b v)[100]? = some (.int .i64 b) ∧ (cargoC P b v)[101]? = some (.bool v) := by
  simp only [cargoC, cargoL, List.getElem?_toArray]
  exact ⟨by rw [List.getElem?_append_right (by simp)]; simp, by rw [List.getElem?_append_right (by simp)]; simp⟩
theorem cargo_set (P : Nat → Nat → Bool) (b : Int) (v : Bool) {x y : Nat} (hx : x < 10) (hy : y < 10) : (cargoC P b v).setIfInBounds (x * 10 + y) (.bool true) = cargoC (fun i j => P i j || (i == x && j == y)) b v := by
  apply Array.ext_getElem?
  intro i
  rw [Array.getElem?_setIfInBounds, cargo_size]
  by_cases h : x * 10 + y = i
  · subst h
    rw [if_pos rfl, if_pos (by omega), cargo_get _ _ _ hx hy]
    simp
  · rw [if_neg h]
    by_cases hi : i < 100
    · obtain ⟨a, c, ha, hc, rfl⟩ : ∃ a c, a < 10 ∧ c < 10 ∧ i = a * 10 + c := ⟨i / 10, i % 10, by omega, by omega, by omega⟩
      rw [cargo_get _ _ _ ha hc, cargo_get _ _ _ ha hc]
      have : (a == x && c == y) = false := by
        rw [Bool.eq_false_iff]
        intro h'
        simp only [Bool.and_eq_true, beq_iff_eq] at h'
        omega
      simp [this]
    · simp only [cargoC, cargoL, List.getElem?_toArray]
      rw [List.getElem?_append_right (by simp; omega), List.getElem?_append_right (by simp; omega)]
      simp
theorem cargo_ext {P Q : Nat → Nat → Bool} (b : Int) (v : Bool) (h : ∀ i j, i < 10 → j < 10 → P i j = Q i j) : cargoC P b v = cargoC Q b v := by
  unfold cargoC cargoL
  congr 2
  refine List.map_congr_left fun i hi => ?_
  rw [List.mem_range] at hi
  rw [h (i / 10) (i % 10) (by omega) (by omega)]
def diag (k : Nat) (i j : Nat) : Bool := i == j && decide (i < k)
def flowAt (e : Int) (i j : Nat) (f : TFlow) : Bool := mIsFlow f && f.f0 == e && f.f1 == (i : Int) && f.f2 == (j : Int)
/-- Values may go from i to j. -/
def opnG (l : List TFlow) (e : Int) (i j : Nat) : Bool := (i == j) || l.any (flowAt e i j)
theorem diag_step (k : Nat) (hk : k < 10) : cargoC (fun i j => diag k i j || (i == k && j == k)) = cargoC (diag (k + 1)) := by
  funext b v
  refine cargo_ext b v fun i j _ _ => ?_
  unfold diag
  rw [Bool.eq_iff_iff]
  simp only [Bool.or_eq_true, Bool.and_eq_true, beq_iff_eq, decide_eq_true_eq]
  omega
theorem diag_all (e : Int) : cargoC (diag 10) = cargoC (opnG [] e) := by
  funext b v
  refine cargo_ext b v fun i j hi _ => ?_
  unfold diag opnG
  simp [hi]
theorem opn_take {l : List TFlow} {k : Nat} {f : TFlow} (hz : l[k]? = some f) (e : Int) (i j : Nat) : opnG (l.take (k + 1)) e i j = (opnG (l.take k) e i j || flowAt e i j f) := by
  unfold opnG
  rw [List.take_add_one, hz, List.any_append]
  simp [Bool.or_assoc]
theorem opn_no {l : List TFlow} {k : Nat} {f : TFlow} {e : Int} (hz : l[k]? = some f) (h : (mIsFlow f && f.f0 == e) = false) : cargoC (opnG (l.take (k + 1)) e) = cargoC (opnG (l.take k) e) := by
  funext b v
  refine cargo_ext b v fun i j _ _ => ?_
  rw [opn_take hz]
  have : flowAt e i j f = false := by unfold flowAt; rw [h]; rfl
  rw [this, Bool.or_false]
theorem opn_yes {l : List TFlow} {k : Nat} {f : TFlow} {e : Int} {x y : Nat} (hz : l[k]? = some f) (h : (mIsFlow f && f.f0 == e) = true) (hx : f.f1 = (x : Int)) (hy : f.f2 = (y : Int)) : cargoC (fun i j => opnG (l.take k) e i j || (i == x && j == y)) = cargoC (opnG (l.take (k + 1)) e) := by
  funext b v
  refine cargo_ext b v fun i j _ _ => ?_
  rw [opn_take hz]
  have : flowAt e i j f = (i == x && j == y) := by
    unfold flowAt
    rw [h, hx, hy, Bool.true_and, Bool.eq_iff_iff]
    simp only [Bool.and_eq_true, beq_iff_eq]
    omega
  rw [this]
theorem flow_bd {f : TFlow} (h : mIsFlow f = true) : ∃ x y : Nat, f.f1 = (x : Int) ∧ f.f2 = (y : Int) ∧ x < 10 ∧ y < 10 := by
  simp only [mIsFlow, Bool.and_eq_true, inR_true] at h
  exact ⟨f.f1.toNat, f.f2.toNat, by omega, by omega, by omega, by omega⟩
/-- A grid with a mask lets its value go there. -/
def goes (P : Nat → Nat → Bool) (b : Int) (v : Bool) (to : Int) : Bool := v && inR to 1 9 && (List.range 10).all fun k => !(decide (1 ≤ k) && mHas b k) || P k to.toNat
def mMayF (l : List TFlow) (e x t : Int) : Bool := mIsLabel x && inR t 1 9 && (mOwn x).all fun o => o == t || (mIsFlow ⟨e, o, t⟩ && l.any fun f => decide ((⟨e, o, t⟩ : TFlow) = f))
theorem goes_may (l : List TFlow) (e x t : Int) : goes (opnG l e) (if mIsLabel x then x else 0) (mIsLabel x) t = mMayF l e x t := by
  unfold goes mMayF
  cases hx : mIsLabel x with
  | false => rfl
  | true =>
    rw [if_pos rfl, Bool.true_and]
    cases ht : inR t 1 9 with
    | false => rfl
    | true =>
      rw [Bool.true_and, Bool.true_and]
      have ht2 := inR_true.1 ht
      rw [Bool.eq_iff_iff, List.all_eq_true, List.all_eq_true]
      have key : ∀ k : Nat, 1 ≤ k → k ≤ 9 → opnG l e k t.toNat = ((k : Int) == t || (mIsFlow ⟨e, (k : Int), t⟩ && l.any fun f => decide ((⟨e, (k : Int), t⟩ : TFlow) = f))) := by
        intro k h1 h9
        unfold opnG
        rw [Bool.eq_iff_iff]
        simp only [Bool.or_eq_true, Bool.and_eq_true, beq_iff_eq, List.any_eq_true, decide_eq_true_eq]
        constructor
        · rintro (h | ⟨f, hf, hh⟩)
          · left; omega
          · right
            unfold flowAt at hh
            simp only [Bool.and_eq_true, beq_iff_eq] at hh
            have hE : (⟨e, (k : Int), t⟩ : TFlow) = f := by
              obtain ⟨f0, f1, f2⟩ := f
              simp only at hh
              simp only [TFlow.mk.injEq]
              omega
            exact ⟨by rw [hE]; exact hh.1.1.1, f, hf, hE⟩
        · rintro (h | ⟨hF, f, hf, hE⟩)
          · left; omega
          · right
            refine ⟨f, hf, ?_⟩
            unfold flowAt
            rw [← hE, hF]
            simp only [Bool.and_eq_true, beq_iff_eq, true_and]
            omega
      constructor
      · intro H o ho
        unfold mOwn at ho
        obtain ⟨ho1, ho2⟩ := List.mem_filter.1 ho
        obtain ⟨k, hk, rfl⟩ := rangeI_mem ho1
        have H1 := H (k + 1) (List.mem_range.2 (by omega))
        have e1 : (1 + (k : Int)) = ((k + 1 : Nat) : Int) := by omega
        rw [e1] at ho2 ⊢
        rw [hx, Bool.true_and, Int.toNat_natCast] at ho2
        rw [ho2, key (k + 1) (by omega) (by omega)] at H1
        simpa using H1
      · intro H k hk
        rw [List.mem_range] at hk
        by_cases h1 : 1 ≤ k
        · cases hh : mHas x k with
          | false => simp
          | true =>
            have ho : ((k : Nat) : Int) ∈ mOwn x := by
              unfold mOwn
              refine List.mem_filter.2 ⟨?_, by rw [hx, Int.toNat_natCast, hh]; rfl⟩
              simp only [rangeI, List.mem_map, List.mem_range]
              exact ⟨k - 1, by omega, by omega⟩
            have := H _ ho
            rw [← key k h1 (by omega)] at this
            rw [this]; simp
        · have : decide (1 ≤ k) = false := decide_eq_false h1
          rw [this]; rfl
end Go.Proofs.Ytcankpiidjhhpaa
