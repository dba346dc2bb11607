/- cmp.Compare and cmp.Or at int. -/
import Derived.Test.YthipflbjnnplaabSlI
import Derived.Test.YthipflbjnnplaabApp
import Derived.Deep.LoopGhost
namespace Go.Proofs.Ythipflbjnnplaab
open Go Go.ChangeShapes Go.WideShapes Go.ChangeAt Go.RowKit Go.Lib
set_option linter.unusedVariables false
set_option linter.unusedSimpArgs false
set_option maxRecDepth 100000
def mCmp (a b : Int) : Int := if a < b then -1 else if b < a then 1 else 0
def mOr (l : List Int) : Int := match l.find? (· != 0) with | some z => z | none => 0
theorem impl_cmp (a b : Int) (w : World) : Calls Try.prog 130 #[.int .i64 a, .int .i64 b] w fun e w' => e = .returned (.int .i64 (mCmp a b)) ∧ w = w' := by
  have n1 : (a != a) = false := by simp
  have n2 : (b != b) = false := by simp
  by_cases h1 : a < b
  · have HE := Lib.hid (show mCmp a b = -1 by simp [mCmp, h1])
    go_enter Try.func130, Try.ntmps130
    go_wp2
    go_ret
    exact ⟨by rw [HE.out]; rfl, rfl⟩
  · by_cases h2 : b < a
    · have HE := Lib.hid (show mCmp a b = 1 by simp [mCmp, h1, h2])
      go_enter Try.func130, Try.ntmps130
      go_wp2
      go_ret
      exact ⟨by rw [HE.out]; rfl, rfl⟩
    · have HE := Lib.hid (show mCmp a b = 0 by simp [mCmp, h1, h2])
      go_enter Try.func130, Try.ntmps130
      go_wp2
      go_ret
      exact ⟨by rw [HE.out]; rfl, rfl⟩
theorem mOr_hit {l : List Int} {k : Nat} {z : Int} (h : ∀ x ∈ l.take k, x = 0) (hz : l[k]? = some z) (hne : z ≠ 0) : mOr l = z := by
  unfold mOr
  have : l.find? (· != 0) = some z := by
    have hk : k < l.length := (List.getElem?_eq_some_iff.1 hz).1
    conv => lhs; rw [← List.take_append_drop k l]
    rw [List.find?_append, List.find?_eq_none.2 (fun x hx => by simp [h x hx])]
    have hd : l.drop k = z :: l.drop (k + 1) := by
      rw [List.drop_eq_getElem_cons hk, (List.getElem?_eq_some_iff.1 hz).2]
    have hb : (z != 0) = true := by simp [hne]
    rw [hd, List.find?_cons, hb]
    rfl
  rw [this]
theorem mOr_miss {l : List Int} (h : ∀ x ∈ l, x = 0) : mOr l = 0 := by
  unfold mOr
  rw [List.find?_eq_none.2 (fun x hx => by simp [h x hx])]
theorem zeros_step {l : List Int} {k : Nat} {z : Int} (h : ∀ x ∈ l.take k, x = 0) (hz : l[k]? = some z) (hne : z = 0) : ∀ x ∈ l.take (k + 1), x = 0 := by
  rw [List.take_add_one, hz]
  intro x hx
  rcases List.mem_append.1 hx with h1 | h1
  · exact h x h1
  · simp at h1; rw [h1, hne]
set_option maxHeartbeats 4000000 in
theorem impl_Or (l : List Int) (A : Option Addr) (n c lo hi : Nat) (w : World) (hn : n ≤ 1048576) (hr : Rd w lo hi 1 A n (i64s l)) :
    Calls Try.prog 129 #[.slice A n c] w fun e w' => e = .returned (.int .i64 (mOr l)) ∧ w = w' := by
  have HR := Lib.hid hr
  have HL := Lib.hid (show l.length = n by have := hr.1; simpa using this)
  clear hr
  go_enter Try.func129, Try.ntmps129
  go_wp2_with fail
  go_loopg [5, 8] n (fun gg _ i wr => ∃ k : Nat, k ≤ n ∧ n - k ≤ gg ∧ i = .int .i64 k ∧ w = wr ∧ Hid (∀ x ∈ l.take k, x = 0))
  case atStart => exact ⟨0, Nat.zero_le _, by omega, rfl, rfl, Lib.hid (by simp)⟩
  case round =>
    obtain ⟨k, hk, hg, rfl, rfl, HF⟩ := hrel
    by_cases hlt : k < n
    · obtain ⟨b, off, z, rfl, _, _, hz, hc⟩ := rd_int HR.out hlt
      have HZ := Lib.hid hz
      clear hz
      by_cases e : z = 0
      · have e2 : (z != 0) = false := by simp [e]
        have HE := Lib.hid (zeros_step HF.out HZ.out e)
        clear e
        go_wp2_with fail
        go_roundg (n - (k + 1))
        case measure => omega
        case rel => exact ⟨k + 1, by omega, by omega, by go_num, rfl, HE⟩
      · have e2 : (z != 0) = true := by simp [e]
        have HE := Lib.hid (mOr_hit HF.out HZ.out e)
        clear e
        go_wp2_with fail
        go_ret
        exact ⟨by rw [HE.out]; rfl, rfl⟩
    · obtain rfl : k = n := by omega
      have HE := Lib.hid (mOr_miss (by have := HF.out; rw [List.take_of_length_le (by have := HL.out; omega)] at this; exact this))
      go_wp2_with fail
      go_ret
      exact ⟨by rw [HE.out]; rfl, rfl⟩
theorem mOr_cons (z : Int) (l : List Int) : mOr (z :: l) = if z = 0 then mOr l else z := by
  unfold mOr
  rw [List.find?_cons]
  by_cases h : z = 0
  · have hb : (z != 0) = false := by simp [h]
    rw [hb, if_pos h]
  · have hb : (z != 0) = true := by simp [h]
    rw [hb, if_neg h]
theorem mCmp_zero (a b : Int) : mCmp a b = 0 ↔ a = b := by unfold mCmp; split <;> (try split) <;> omega
theorem mCmp_neg (a b : Int) : mCmp a b < 0 ↔ a < b := by unfold mCmp; split <;> (try split) <;> omega
theorem mCmp_pos (a b : Int) : 0 < mCmp a b ↔ b < a := by unfold mCmp; split <;> (try split) <;> omega

end Go.Proofs.Ythipflbjnnplaab
