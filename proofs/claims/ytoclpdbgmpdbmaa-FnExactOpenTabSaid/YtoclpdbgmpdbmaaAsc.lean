/- isAscending of the program. -/
import Derived.Test.YtoclpdbgmpdbmaaSlI
import Derived.Test.YtoclpdbgmpdbmaaFun
import Derived.WalkMore
import Derived.ScopeJumps
import Derived.IntWalk
namespace Go.Proofs.Ytoclpdbgmpdbmaa
open Go Go.ChangeShapes Go.WideShapes Go.ChangeAt Go.RowKit Go.Lib
set_option linter.unusedVariables false
set_option linter.unusedSimpArgs false
set_option maxRecDepth 100000
def ascAt (l : List Int) (i : Nat) : Bool := match l[i]?, l[i + 1]? with | some a, some b => decide (a < b) | _, _ => true
def mAsc (l : List Int) : Bool := (List.range (l.length - 1)).all (ascAt l)
theorem asc_step {l : List Int} {k : Nat} (h : (List.range k).all (ascAt l) = true) (h2 : ascAt l k = true) : (List.range (k + 1)).all (ascAt l) = true := by
  rw [List.range_succ, List.all_append, h]; simp [h2]
theorem asc_end {l : List Int} {k : Nat} (h : (List.range k).all (ascAt l) = true) (hk : l.length - 1 = k) : mAsc l = true := by unfold mAsc; rw [hk]; exact h
theorem asc_bad {l : List Int} {k : Nat} (h : ascAt l k = false) (hk : k + 1 < l.length) : mAsc l = false := by
  unfold mAsc
  rw [List.all_eq_false]
  exact ⟨k, List.mem_range.2 (by omega), by rw [h]; simp⟩
theorem asc_at {l : List Int} {k : Nat} {a b : Int} (h1 : l[k]? = some a) (h2 : l[k + 1]? = some b) : ascAt l k = decide (a < b) := by unfold ascAt; rw [h1, h2]
def intOfA : Value → Int | .int _ q => q | _ => 0

set_option maxHeartbeats 16000000 in
theorem impl_isAscending (l : List Int) (A : Option Addr) (n c lo hi : Nat) (w : World) (hn : n ≤ 1048576) (hr : Rd w lo hi 1 A n (i64s l)) :
    Calls Try.prog 164 #[.slice A n c] w (Says (.bool (mAsc l)) w) := by
  have HR := Lib.hid hr
  have HL := Lib.hid (show l.length = n by have := hr.1; simpa [i64s] using this)
  clear hr
  go_enter Try.func164, Try.ntmps164
  go_wp2_with fail
  refine wp_scope_jumps 0 (fun a' w' => ∃ (k : Nat) (u4 u5 u6 u7 u8 u9 u10 u11 u12 u13 u14 u15 u16 u17 u18 u19 : Value), a' = { tmps := #[.slice A n c, undef, .bool false, .int .i64 ((k : Int) + 1), u4, u5, u6, u7, u8, u9, u10, u11, u12, u13, u14, u15, u16, u17, u18, u19], defers := [] } ∧ Hid ((List.range k).all (ascAt l) = true) ∧ k + 1 ≤ n ∧ Hid (Below w.heap.size w w')) (fun a' _ => ((n : Int) - intOfA (a'.tmps.getD 3 undef)).toNat) rfl ?_ ?_
  · go_wp2_with fail
    go_step3
    by_cases hlt : 0 + 1 < n
    · obtain ⟨b, off, x, rfl, _, _, hx, hcx⟩ := rd_int (HR.out) (show 0 < n by omega)
      obtain ⟨b2, off2, y, hAA, _, _, hy, hcy⟩ := rd_int (HR.out) hlt
      cases hAA
      have c0 : w.cell? ⟨b, off, none⟩ = some (.int .i64 x) := hcx
      have c1 : w.cell? ⟨b, off + 1, none⟩ = some (.int .i64 y) := hcy
      have t6 : 0 < n := by omega
      have t7 : 1 < n := hlt
      have g0 : decide ((n : Int) ≤ 1) = false := by simp; omega
      have HA := Lib.hid (asc_at hx hy)
      clear hx hy hcx hcy
      by_cases e : x < y
      · have HE := Lib.hid (HA.out.trans (decide_eq_true e))
        go_wp2_with fail
        go_quiet (fail)
        go_wp2_with fail
        go_step3
        refine ⟨rfl, 1, _, _, _, _, _, _, _, _, _, _, _, _, _, _, _, _, rfl, Lib.hid (asc_step (k := 0) rfl HE.out), by omega, Lib.hid (by first | exact below_dN (Below.refl _ _) _ | exact Below.refl _ _)⟩
      · have HE := Lib.hid (HA.out.trans (decide_eq_false e))
        have HF := Lib.hid (asc_bad HE.out (by rw [HL.out]; omega))
        go_wp2_with fail
        go_quiet (fail)
        go_wp2_with fail
        simp only [Exit.jump]
        go_ret
        exact ⟨by rw [HF.out]; rfl, by first | exact below_dN (Below.refl _ _) _ | exact below_dN HB.out _ | exact HB.out | exact Below.refl _ _⟩
    · have HT := Lib.hid (asc_end (l := l) (k := 0) rfl (by rw [HL.out]; omega))
      have g0 : decide ((n : Int) ≤ 1) = true := by simp; omega
      go_wp2_with fail
      simp only [Exit.jump]
      go_ret
      exact ⟨by rw [HT.out]; rfl, by first | exact HB.out | exact Below.refl _ _⟩
  · rintro a' w' ⟨k, u4, u5, u6, u7, u8, u9, u10, u11, u12, u13, u14, u15, u16, u17, u18, u19, rfl, HP, hk, HB⟩
    by_cases hlt : k + 1 < n
    · obtain ⟨b, off, x, rfl, _, _, hx, hcx⟩ := rd_int (HR.out.new HB.out) (show k < n by omega)
      obtain ⟨b2, off2, y, hAA, _, _, hy, hcy⟩ := rd_int (HR.out.new HB.out) hlt
      cases hAA
      have c0 : w'.cell? ⟨b, off + k, none⟩ = some (.int .i64 x) := hcx
      have c1 : w'.cell? ⟨b, off + (k + 1), none⟩ = some (.int .i64 y) := hcy
      have c1' : w'.cell? ⟨b, off + k + 1, none⟩ = some (.int .i64 y) := c1
      have t1 : ((k : Int) + 1).toNat = k + 1 := by omega
      have t2 : (k : Int) + 1 - 1 = (k : Int) := by omega
      have t3 : IntKind.i64.wrap ((k : Int) + 1 - 1) = (k : Int) := by rw [t2]; exact IntWalk.i64_in _ (by omega)
      have t4 : (0 : Int) ≤ (k : Int) + 1 := by omega
      have t5 : (k : Int) + 1 < n := by omega
      have t6 : k < n := by omega
      have t7 : k + 1 < n := hlt
      have g0 : decide ((n : Int) ≤ (k : Int) + 1) = false := by simp; omega
      have HA := Lib.hid (asc_at hx hy)
      clear hx hy hcx hcy
      by_cases e : x < y
      · have HE := Lib.hid (HA.out.trans (decide_eq_true e))
        go_wp2_with fail
        go_quiet (fail)
        go_wp2_with fail
        go_step3
        rw [show ((k : Int) + 1 + 1) = ((k + 1 : Nat) : Int) + 1 by omega]
        refine ⟨rfl, ⟨k + 1, _, _, _, _, _, _, _, _, _, _, _, _, _, _, _, _, rfl, Lib.hid (asc_step HP.out HE.out), by omega, Lib.hid (by first | exact below_dN HB.out _ | exact HB.out)⟩, ?_⟩
        simp [intOfA]; omega
      · have HE := Lib.hid (HA.out.trans (decide_eq_false e))
        have HF := Lib.hid (asc_bad HE.out (by rw [HL.out]; omega))
        go_wp2_with fail
        go_quiet (fail)
        go_wp2_with fail
        simp only [Exit.jump]
        go_ret
        exact ⟨by rw [HF.out]; rfl, by first | exact below_dN (Below.refl _ _) _ | exact below_dN HB.out _ | exact HB.out | exact Below.refl _ _⟩
    · have HT := Lib.hid (asc_end (l := l) (k := k) HP.out (by rw [HL.out]; omega))
      have g0 : decide ((n : Int) ≤ (k : Int) + 1) = true := by simp; omega
      go_wp2_with fail
      simp only [Exit.jump]
      go_ret
      exact ⟨by rw [HT.out]; rfl, by first | exact HB.out | exact Below.refl _ _⟩

end Go.Proofs.Ytoclpdbgmpdbmaa
