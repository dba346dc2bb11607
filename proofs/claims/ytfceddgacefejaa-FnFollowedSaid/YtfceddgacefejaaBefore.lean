/- IsBefore, of the program and of the model. -/
import Derived.Test.YtfceddgacefejaaRule
import Derived.Test.YtfceddgacefejaaSlI
import Derived.Test.YtfceddgacefejaaApp
import Derived.Deep.RegionHeld3
import Derived.Deep.LoopGhost
namespace Go.Proofs.Ytfceddgacefejaa
open Go Go.ChangeShapes Go.WideShapes Go.ChangeAt Go.RowKit Go.Lib
set_option linter.unusedVariables false
set_option linter.unusedSimpArgs false
set_option maxRecDepth 100000
def mCmp (a b : Int) : Int := if a < b then -1 else if b < a then 1 else 0
def mOr (l : List Int) : Int := match l.find? (· != 0) with | some z => z | none => 0
def mCmpRules (a b : TRule) : Int := mOr [mCmp b.f1 a.f1, mCmp a.f5 b.f5, mCmp a.f0 b.f0, mCmp a.f6 b.f6, mCmp a.f7 b.f7]
def mIsBefore (a b : TRule) : Bool := decide (mCmpRules a b < 0)
theorem impl_cmp (a b : Int) (w : World) : Calls Try.prog 230 #[.int .i64 a, .int .i64 b] w fun e w' => e = .returned (.int .i64 (mCmp a b)) ∧ w = w' := by
  have n1 : (a != a) = false := by simp
  have n2 : (b != b) = false := by simp
  by_cases h1 : a < b
  · have HE := Lib.hid (show mCmp a b = -1 by simp [mCmp, h1])
    go_enter Try.func230, Try.ntmps230
    go_wp2
    go_ret
    exact ⟨by rw [HE.out]; rfl, rfl⟩
  · by_cases h2 : b < a
    · have HE := Lib.hid (show mCmp a b = 1 by simp [mCmp, h1, h2])
      go_enter Try.func230, Try.ntmps230
      go_wp2
      go_ret
      exact ⟨by rw [HE.out]; rfl, rfl⟩
    · have HE := Lib.hid (show mCmp a b = 0 by simp [mCmp, h1, h2])
      go_enter Try.func230, Try.ntmps230
      go_wp2
      go_ret
      exact ⟨by rw [HE.out]; rfl, rfl⟩
theorem mOr_hit {l : List Int} {k : Nat} {z : Int} (h : ∀ x ∈ l.take k, x = 0) (hz : l[k]? = some z) (hne : z ≠ 0) : mOr l = z := by
  unfold mOr
  have : l.find? (· != 0) = some z := by
    have hk : k < l.length := (List.getElem?_eq_some_iff.1 hz).1
    conv => lhs; rw [← List.take_append_drop k l]
    rw [List.find?_append, List.find?_eq_none.2 (fun x hx => by simp [h x hx])]
    have hd : l.drop k = z :: l.drop (k + 1) := by
      rw [List.drop_eq_getElem_cons hk, (List.getElem?_eq_some_iff.1 hz).2]
    have hb : (z != 0) = true := by simp [hne]
    rw [hd, List.find?_cons, hb]
    rfl
  rw [this]
theorem mOr_miss {l : List Int} (h : ∀ x ∈ l, x = 0) : mOr l = 0 := by
  unfold mOr
  rw [List.find?_eq_none.2 (fun x hx => by simp [h x hx])]
theorem zeros_step {l : List Int} {k : Nat} {z : Int} (h : ∀ x ∈ l.take k, x = 0) (hz : l[k]? = some z) (hne : z = 0) : ∀ x ∈ l.take (k + 1), x = 0 := by
  rw [List.take_add_one, hz]
  intro x hx
  rcases List.mem_append.1 hx with h1 | h1
  · exact h x h1
  · simp at h1; rw [h1, hne]
set_option maxHeartbeats 4000000 in
theorem impl_Or (l : List Int) (A : Option Addr) (n c lo hi : Nat) (w : World) (hn : n ≤ 1048576) (hr : Rd w lo hi 1 A n (i64s l)) :
    Calls Try.prog 229 #[.slice A n c] w fun e w' => e = .returned (.int .i64 (mOr l)) ∧ w = w' := by
  have HR := Lib.hid hr
  have HL := Lib.hid (show l.length = n by have := hr.1; simpa using this)
  clear hr
  go_enter Try.func229, Try.ntmps229
  go_wp2_with fail
  go_loopg [5, 8] n (fun gg _ i wr => ∃ k : Nat, k ≤ n ∧ n - k ≤ gg ∧ i = .int .i64 k ∧ w = wr ∧ Hid (∀ x ∈ l.take k, x = 0))
  case atStart => exact ⟨0, Nat.zero_le _, by omega, rfl, rfl, Lib.hid (by simp)⟩
  case round =>
    obtain ⟨k, hk, hg, rfl, rfl, HF⟩ := hrel
    by_cases hlt : k < n
    · obtain ⟨b, off, z, rfl, _, _, hz, hc⟩ := rd_int HR.out hlt
      have HZ := Lib.hid hz
      clear hz
      by_cases e : z = 0
      · have e2 : (z != 0) = false := by simp [e]
        have HE := Lib.hid (zeros_step HF.out HZ.out e)
        clear e
        go_wp2_with fail
        go_roundg (n - (k + 1))
        case measure => omega
        case rel => exact ⟨k + 1, by omega, by omega, by go_num, rfl, HE⟩
      · have e2 : (z != 0) = true := by simp [e]
        have HE := Lib.hid (mOr_hit HF.out HZ.out e)
        clear e
        go_wp2_with fail
        go_ret
        exact ⟨by rw [HE.out]; rfl, rfl⟩
    · obtain rfl : k = n := by omega
      have HE := Lib.hid (mOr_miss (by have := HF.out; rw [List.take_of_length_le (by have := HL.out; omega)] at this; exact this))
      go_wp2_with fail
      go_ret
      exact ⟨by rw [HE.out]; rfl, rfl⟩

set_option maxHeartbeats 16000000 in
theorem impl_compareRules (a b : TRule) (w : World) :
    Calls Try.prog 181 #[vRule a, vRule b] w (Says (.int .i64 (mCmpRules a b)) w) := by
  have KB0 : BoxAt ((w.alloc (.cells #[.int .i64 a.f0, .int .i64 a.f1, .int .i64 a.f2, .int .i64 a.f3, .int .i64 a.f4, .int .i64 a.f5, .int .i64 a.f6, .int .i64 a.f7] 165)).alloc (.cells #[.int .i64 b.f0, .int .i64 b.f1, .int .i64 b.f2, .int .i64 b.f3, .int .i64 b.f4, .int .i64 b.f5, .int .i64 b.f6, .int .i64 b.f7] 165)) w.heap.size 165 #[.int .i64 a.f0, .int .i64 a.f1, .int .i64 a.f2, .int .i64 a.f3, .int .i64 a.f4, .int .i64 a.f5, .int .i64 a.f6, .int .i64 a.f7] := (box_new w _ _).alloc_ _
  have KB1 : BoxAt ((w.alloc (.cells #[.int .i64 a.f0, .int .i64 a.f1, .int .i64 a.f2, .int .i64 a.f3, .int .i64 a.f4, .int .i64 a.f5, .int .i64 a.f6, .int .i64 a.f7] 165)).alloc (.cells #[.int .i64 b.f0, .int .i64 b.f1, .int .i64 b.f2, .int .i64 b.f3, .int .i64 b.f4, .int .i64 b.f5, .int .i64 b.f6, .int .i64 b.f7] 165)) (w.heap.size + 1) 165 #[.int .i64 b.f0, .int .i64 b.f1, .int .i64 b.f2, .int .i64 b.f3, .int .i64 b.f4, .int .i64 b.f5, .int .i64 b.f6, .int .i64 b.f7] := by simpa using box_new (w.alloc (.cells #[.int .i64 a.f0, .int .i64 a.f1, .int .i64 a.f2, .int .i64 a.f3, .int .i64 a.f4, .int .i64 a.f5, .int .i64 a.f6, .int .i64 a.f7] 165)) 165 #[.int .i64 b.f0, .int .i64 b.f1, .int .i64 b.f2, .int .i64 b.f3, .int .i64 b.f4, .int .i64 b.f5, .int .i64 b.f6, .int .i64 b.f7]
  have hs3 : (((w.alloc (.cells #[.int .i64 a.f0, .int .i64 a.f1, .int .i64 a.f2, .int .i64 a.f3, .int .i64 a.f4, .int .i64 a.f5, .int .i64 a.f6, .int .i64 a.f7] 165)).alloc (.cells #[.int .i64 b.f0, .int .i64 b.f1, .int .i64 b.f2, .int .i64 b.f3, .int .i64 b.f4, .int .i64 b.f5, .int .i64 b.f6, .int .i64 b.f7] 165)).drew).heap.size = w.heap.size + 1 + 1 := by simp
  have hRl := rd_lit (((w.alloc (.cells #[.int .i64 a.f0, .int .i64 a.f1, .int .i64 a.f2, .int .i64 a.f3, .int .i64 a.f4, .int .i64 a.f5, .int .i64 a.f6, .int .i64 a.f7] 165)).alloc (.cells #[.int .i64 b.f0, .int .i64 b.f1, .int .i64 b.f2, .int .i64 b.f3, .int .i64 b.f4, .int .i64 b.f5, .int .i64 b.f6, .int .i64 b.f7] 165)).drew) #[.int .i64 (mCmp b.f1 a.f1), .int .i64 (mCmp a.f5 b.f5), .int .i64 (mCmp a.f0 b.f0), .int .i64 (mCmp a.f6 b.f6), .int .i64 (mCmp a.f7 b.f7)] 3 5 1 rfl
  rw [hs3] at hRl
  have HRl := Lib.hid hRl
  clear hRl hs3
  have HE := Lib.hid (show mOr [mCmp b.f1 a.f1, mCmp a.f5 b.f5, mCmp a.f0 b.f0, mCmp a.f6 b.f6, mCmp a.f7 b.f7] = mCmpRules a b from rfl)
  go_enter Try.func181, Try.ntmps181
  go_wp2_with fail
  replace KB0 := KB0.drw
  replace KB1 := KB1.drw
  go_region_held3 (fun w' => w'.cell? ⟨w.heap.size, 0, none⟩ = some (.int .i64 a.f0) ∧ w'.cell? ⟨w.heap.size, 1, none⟩ = some (.int .i64 a.f1) ∧ w'.cell? ⟨w.heap.size, 2, none⟩ = some (.int .i64 a.f2) ∧ w'.cell? ⟨w.heap.size, 3, none⟩ = some (.int .i64 a.f3) ∧ w'.cell? ⟨w.heap.size, 4, none⟩ = some (.int .i64 a.f4) ∧ w'.cell? ⟨w.heap.size, 5, none⟩ = some (.int .i64 a.f5) ∧ w'.cell? ⟨w.heap.size, 6, none⟩ = some (.int .i64 a.f6) ∧ w'.cell? ⟨w.heap.size, 7, none⟩ = some (.int .i64 a.f7) ∧ w'.cell? ⟨w.heap.size + 1, 0, none⟩ = some (.int .i64 b.f0) ∧ w'.cell? ⟨w.heap.size + 1, 1, none⟩ = some (.int .i64 b.f1) ∧ w'.cell? ⟨w.heap.size + 1, 2, none⟩ = some (.int .i64 b.f2) ∧ w'.cell? ⟨w.heap.size + 1, 3, none⟩ = some (.int .i64 b.f3) ∧ w'.cell? ⟨w.heap.size + 1, 4, none⟩ = some (.int .i64 b.f4) ∧ w'.cell? ⟨w.heap.size + 1, 5, none⟩ = some (.int .i64 b.f5) ∧ w'.cell? ⟨w.heap.size + 1, 6, none⟩ = some (.int .i64 b.f6) ∧ w'.cell? ⟨w.heap.size + 1, 7, none⟩ = some (.int .i64 b.f7))
    (first | exact ⟨KB0.at_ rfl, KB0.at_ rfl, KB0.at_ rfl, KB0.at_ rfl, KB0.at_ rfl, KB0.at_ rfl, KB0.at_ rfl, KB0.at_ rfl, KB1.at_ rfl, KB1.at_ rfl, KB1.at_ rfl, KB1.at_ rfl, KB1.at_ rfl, KB1.at_ rfl, KB1.at_ rfl, KB1.at_ rfl⟩ | exact ⟨(KB0.alloc_ _).at_ rfl, (KB0.alloc_ _).at_ rfl, (KB0.alloc_ _).at_ rfl, (KB0.alloc_ _).at_ rfl, (KB0.alloc_ _).at_ rfl, (KB0.alloc_ _).at_ rfl, (KB0.alloc_ _).at_ rfl, (KB0.alloc_ _).at_ rfl, (KB1.alloc_ _).at_ rfl, (KB1.alloc_ _).at_ rfl, (KB1.alloc_ _).at_ rfl, (KB1.alloc_ _).at_ rfl, (KB1.alloc_ _).at_ rfl, (KB1.alloc_ _).at_ rfl, (KB1.alloc_ _).at_ rfl, (KB1.alloc_ _).at_ rfl⟩)
    (first
      | (go_at_call 230; refine (impl_cmp _ _ _).mono ?_; rintro e w1 ⟨rfl, rfl⟩)
      | (go_at_call 229; refine Calls.mono (impl_Or [mCmp b.f1 a.f1, mCmp a.f5 b.f5, mCmp a.f0 b.f0, mCmp a.f6 b.f6, mCmp a.f7 b.f7] _ 5 5 _ _ _ (by omega) HRl.out) ?_; rintro e w1 ⟨rfl, rfl⟩))
  go_wp2_with fail
  go_ret
  exact ⟨by rw [← HE.out]; rfl, by repeat (first | with_reducible exact Below.refl _ _ | (with_reducible refine below_step ?_ (by assumption) (by first | omega | (simp; done) | (simp <;> omega))) | (with_reducible refine Below.alloc ?_ (by first | omega | (simp; done) | (simp <;> omega)) _) | (with_reducible refine Below.setCell ?_ (by first | omega | (simp; done) | (simp <;> omega)) _) | (with_reducible refine Below.drew ?_) | (with_reducible refine below_dN ?_ _) | (refine Below.alloc ?_ (by first | omega | (simp; done) | (simp <;> omega)) _))⟩
set_option maxHeartbeats 4000000 in
theorem impl_IsBefore (a b : TRule) (w : World) :
    Calls Try.prog 142 #[vRule a, vRule b] w (Says (.bool (mIsBefore a b)) w) := by
  have HC := Lib.hid (fun W => impl_compareRules a b W)
  unfold mIsBefore
  generalize mCmpRules a b = r at HC ⊢
  go_enter Try.func142, Try.ntmps142
  go_wp2_with fail
  refine (HC.out _).mono ?_
  rintro e w1 ⟨rfl, hb1⟩
  have HB1 := Lib.hid hb1
  clear hb1
  go_wp2_with fail
  go_ret
  exact ⟨by first | rfl | simp, by repeat (first | with_reducible exact Below.refl _ _ | (with_reducible refine below_step ?_ (by assumption) (by first | omega | (simp; done) | (simp <;> omega))) | (with_reducible refine Below.alloc ?_ (by first | omega | (simp; done) | (simp <;> omega)) _) | (with_reducible refine Below.setCell ?_ (by first | omega | (simp; done) | (simp <;> omega)) _) | (with_reducible refine Below.drew ?_) | (with_reducible refine below_dN ?_ _) | (refine Below.alloc ?_ (by first | omega | (simp; done) | (simp <;> omega)) _))⟩
end Go.Proofs.Ytfceddgacefejaa
