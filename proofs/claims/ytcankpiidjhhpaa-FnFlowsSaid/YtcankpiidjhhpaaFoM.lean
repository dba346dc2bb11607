/- What FnFlows asks, in plain words. No condition of its own. -/
import Derived.Test.YtcankpiidjhhpaaCgB
import Derived.Test.YtcankpiidjhhpaaCgS
import Derived.Test.YtcankpiidjhhpaaTgt
import Derived.Test.YtcankpiidjhhpaaFlowsOf
import Derived.Test.YtcankpiidjhhpaaFlowsWithin
import Derived.Test.YtcankpiidjhhpaaLabOf
import Derived.Test.YtcankpiidjhhpaaLwD
import Derived.Test.YtcankpiidjhhpaaDrFb
namespace Go.Proofs.Ytcankpiidjhhpaa
open Go Go.ChangeShapes Go.WideShapes Go.ChangeAt Go.RowKit Go.Lib
set_option linter.unusedVariables false
set_option linter.unusedSimpArgs false
set_option maxRecDepth 100000
theorem may_def (l : List TFlow) (e x t : Int) : mMayF l e x t = (mIsLabel x && inR t 1 9 && (mOwn x).all (mayOne l e t)) := rfl
theorem own_bd {x o : Int} (h : o ∈ mOwn x) : 1 ≤ o ∧ o ≤ 9 := by
  obtain ⟨k, hk, rfl⟩ := rangeI_mem (List.mem_filter.1 h).1
  omega
theorem own_one {o : Int} (h1 : 1 ≤ o) (h9 : o ≤ 9) : mOwn ((2 ^ o.toNat : Nat) : Int) = [o] ∧ mIsLabel ((2 ^ o.toNat : Nat) : Int) = true := by
  obtain ⟨k, rfl⟩ := Int.eq_ofNat_of_zero_le (show 0 ≤ o by omega)
  have : k = 1 ∨ k = 2 ∨ k = 3 ∨ k = 4 ∨ k = 5 ∨ k = 6 ∨ k = 7 ∨ k = 8 ∨ k = 9 := by omega
  rcases this with rfl | rfl | rfl | rfl | rfl | rfl | rfl | rfl | rfl <;> decide
theorem may_one {l : List TFlow} {e t o : Int} (h1 : 1 ≤ o) (h9 : o ≤ 9) : mMayF l e ((2 ^ o.toNat : Nat) : Int) t = (inR t 1 9 && mayOne l e t o) := by
  rw [may_def, (own_one h1 h9).1, (own_one h1 h9).2]
  simp
/-- Of all parts: as the law goes through them. -/
def mParts (l : List TFlow) (e t : Int) (os : List Int) : Bool := os.all fun o => mMayF l e ((2 ^ o.toNat : Nat) : Int) t
theorem may_parts (l : List TFlow) (e x t : Int) : (mIsLabel x && inR t 1 9 && mParts l e t (mOwn x)) = mMayF l e x t := by
  rw [may_def]
  cases hx : mIsLabel x with
  | false => rfl
  | true =>
    cases ht : inR t 1 9 with
    | false => rfl
    | true =>
      simp only [Bool.true_and]
      unfold mParts
      rw [Bool.eq_iff_iff, List.all_eq_true, List.all_eq_true]
      constructor
      · intro h o ho
        have := h o ho
        rw [may_one (own_bd ho).1 (own_bd ho).2, ht, Bool.true_and] at this
        exact this
      · intro h o ho
        rw [may_one (own_bd ho).1 (own_bd ho).2, ht, Bool.true_and]
        exact h o ho
theorem targ_mem (l : List TFlow) (e x t : Int) : decide (t ∈ mTarg l e x) = mMayF l e x t := by
  rw [Bool.eq_iff_iff, decide_eq_true_eq]
  unfold mTarg
  rw [List.mem_filter]
  constructor
  · exact fun h => h.2
  · intro h
    refine ⟨?_, h⟩
    rw [may_def] at h
    simp only [Bool.and_eq_true, inR_true] at h
    simp only [rangeI, List.mem_map, List.mem_range]
    exact ⟨(t - 1).toNat, by omega, by omega⟩
theorem one_of (l : List TFlow) (e t o : Int) : mayOne (l.filter fun f => f.f0 == e) e t o = mayOne l e t o := by
  unfold mayOne
  congr 2
  rw [Bool.eq_iff_iff, List.any_eq_true, List.any_eq_true]
  constructor
  · rintro ⟨f, hf, h⟩
    exact ⟨f, (List.mem_filter.1 hf).1, h⟩
  · rintro ⟨f, hf, h⟩
    refine ⟨f, List.mem_filter.2 ⟨hf, ?_⟩, h⟩
    rw [decide_eq_true_eq] at h
    rw [← h]; simp
theorem may_of (l : List TFlow) (e x t : Int) : mMayF (l.filter fun f => f.f0 == e) e x t = mMayF l e x t := by
  rw [may_def, may_def]
  congr 2
  funext o
  exact one_of l e t o
theorem may_in {a b : List TFlow} (h : a.all (pFW b) = true) (e x t : Int) (ha : mMayF a e x t = true) : mMayF b e x t = true := by
  rw [may_def] at ha ⊢
  simp only [Bool.and_eq_true, List.all_eq_true] at ha ⊢
  refine ⟨ha.1, fun o ho => ?_⟩
  have := ha.2 o ho
  unfold mayOne at this ⊢
  simp only [Bool.or_eq_true, Bool.and_eq_true, List.any_eq_true, decide_eq_true_eq] at this ⊢
  rcases this with h1 | ⟨h1, f, hf, rfl⟩
  · exact .inl h1
  · right
    refine ⟨h1, ?_⟩
    have := List.all_eq_true.1 h _ hf
    unfold pFW at this
    simp only [Bool.and_eq_true, List.any_eq_true, decide_eq_true_eq] at this
    exact this.2
theorem may_self {e x o : Int} (hx : mIsLabel x = true) (ho : mOwn x = [o]) : mMayF [] e x o = true := by
  have hb := own_bd (x := x) (o := o) (by rw [ho]; simp)
  rw [may_def, ho, hx]
  simp [mayOne, inR_true.2 hb]
theorem parts_take {l : List TFlow} {e t : Int} {os : List Int} {k : Nat} {o : Int} (hz : os[k]? = some o) : mParts l e t (os.take (k + 1)) = (mParts l e t (os.take k) && mMayF l e ((2 ^ o.toNat : Nat) : Int) t) := by
  unfold mParts
  rw [List.take_add_one, hz, List.all_append]
  simp

theorem lab_one {o : Int} (h1 : 1 ≤ o) (h9 : o ≤ 9) : mLabS [o] 9 = 2 ^ o.toNat := by
  obtain ⟨k, rfl⟩ := Int.eq_ofNat_of_zero_le (show 0 ≤ o by omega)
  have : k = 1 ∨ k = 2 ∨ k = 3 ∨ k = 4 ∨ k = 5 ∨ k = 6 ∨ k = 7 ∨ k = 8 ∨ k = 9 := by omega
  rcases this with rfl | rfl | rfl | rfl | rfl | rfl | rfl | rfl | rfl <;> decide
theorem fmay_eq (l : List TFlow) (A : Option Addr) (n c lo hi : Nat) (e x t : Int) (v : Bool) (h : mMayF l e x t = v) (w : World) (hn : n ≤ 1048576) (hr : Rd w lo hi 3 A n (cFlow l)) (H : Hid (cFlowOk l)) :
    Calls Try.prog 9 #[.slice A n c, .int .i64 e, .int .i64 x, .int .i64 t] w (Says (.bool v) w) := h ▸ impl_MayFlow l A n c lo hi e x t w hn hr H
theorem fmays_eq (l : List TFlow) (A : Option Addr) (n c lo hi : Nat) (e x t : Int) (v : Bool) (h : mMayF l e x t = v) (w : World) (hn : n ≤ 1048576) (hr : Rd w lo hi 3 A n (cFlow l)) (H : Hid (cFlowOk l)) :
    Calls Try.prog 10 #[.slice A n c, .int .i64 e, .int .i64 x, .int .i64 t] w (Says (.bool v) w) := h ▸ spec_MayFlow l A n c lo hi e x t w hn hr H
theorem fmay_nil (e x t : Int) (v : Bool) (h : mMayF [] e x t = v) (w : World) :
    Calls Try.prog 9 #[.slice none 0 0, .int .i64 e, .int .i64 x, .int .i64 t] w (Says (.bool v) w) :=
  fmay_eq [] none 0 0 0 0 e x t v h w (by omega) ⟨rfl, fun h => absurd h (by omega)⟩ (Lib.hid fun _ h => by cases h)
theorem flab_eq (x : Int) (v : Bool) (h : mIsLabel x = v) (w : World) : Calls Try.prog 11 #[.int .i64 x] w (Says (.bool v) w) := h ▸ impl_IsLabel x w
theorem fcon_eq (l : List Int) (A : Option Addr) (n c lo hi : Nat) (z : Int) (v : Bool) (h : decide (z ∈ l) = v) (w : World) (hn : n ≤ 1048576) (hr : Rd w lo hi 1 A n (i64s l)) :
    Calls Try.prog 14 #[.slice A n c, .int .i64 z] w (Says (.bool v) w) := (laws_contains l A n c lo hi z w hn hr).mono (by rintro e w1 ⟨rfl, rfl⟩; exact ⟨by rw [h], Below.refl _ _⟩)
theorem fwit_eq (l : List TFlow) (A : Option Addr) (n c lo hi : Nat) (l1 : List TFlow) (A1 : Option Addr) (n1 cc1 lo1 hi1 : Nat) (v : Bool) (h : l.all (pFW l1) = v) (w : World) (hn : n ≤ 1048576) (hr : Rd w lo hi 3 A n (cFlow l)) (hcap : n ≤ c) (H : Hid (cFlowOk l)) (hn1 : n1 ≤ 1048576) (hr1 : Rd w lo1 hi1 3 A1 n1 (cFlow l1)) (hcap1 : n1 ≤ cc1) (H1 : Hid (cFlowOk l1)) :
    Calls Try.prog 18 #[.slice A n c, .slice A1 n1 cc1] w (Says (.bool v) w) := h ▸ impl_FlowsWithinC l A n c lo hi l1 A1 n1 cc1 lo1 hi1 w hn hr hcap H hn1 hr1 hcap1 H1
theorem flo_one (o : Int) (h1 : 1 ≤ o) (h9 : o ≤ 9) (w : World) :
    Calls Try.prog 13 #[.slice (some ⟨w.heap.size, 0, none⟩) 1 1] (w.alloc (.cells #[.int .i64 o] 3)) (Says (.int .i64 ((2 ^ o.toNat : Nat) : Int)) (w.alloc (.cells #[.int .i64 o] 3))) := by
  have := impl_LabelOf [o] (some ⟨w.heap.size, 0, none⟩) 1 1 _ _ (w.alloc (.cells #[.int .i64 o] 3)) (by omega) (rd_lit w #[.int .i64 o] 3 1 1 rfl) (Lib.hid fun z hz => by rw [List.mem_singleton.1 hz]; constructor <;> omega)
  rwa [lab_one h1 h9] at this
theorem ffilter_ok {l : List TFlow} (p : TFlow → Bool) (H : Hid (cFlowOk l)) : Hid (cFlowOk (l.filter p)) := Lib.hid fun x hx => H.out x (List.mem_filter.1 hx).1
end Go.Proofs.Ytcankpiidjhhpaa
