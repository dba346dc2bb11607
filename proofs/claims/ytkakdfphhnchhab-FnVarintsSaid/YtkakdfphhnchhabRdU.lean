/- ReadUvarint, of the program and of the model. -/
import Derived.Test.YtkakdfphhnchhabUv
namespace Go.Proofs.Ytkakdfphhnchhab
open Go Go.ChangeShapes Go.WideShapes Go.ChangeAt Go.RowKit Go.Lib
set_option linter.unusedVariables false
set_option maxRecDepth 100000

/-- What is answered: the number, where it ends, whether there is one. -/
structure RdU where
  n : Int
  to : Int
  ok : Bool
def noU : RdU := ⟨0, 0, false⟩
/-- The number so far, and the group number k. -/
def grpU (n z : Int) (k : Nat) : Int := bits .or .i64 n (z % 128 * 128 ^ k)
def mRd (l : List Int) (o : Nat) : Nat → Nat → Int → RdU
  | 0, _, _ => noU
  | f + 1, k, n => match l[o + k]? with
    | none => noU
    | some z => if z < 128 then (if (decide (z = 0) && decide (0 < k)) || decide (1000000000000 < grpU n z k) then noU else ⟨grpU n z k, (o : Int) + k + 1, true⟩) else mRd l o f (k + 1) (grpU n z k)
def mReadU (l : List Int) (a : Int) : RdU := if a < 0 then noU else mRd l a.toNat 6 0 0
theorem and127b {z : Int} (h0 : 0 ≤ z) (h1 : z ≤ 255) : bits .and .i64 z 127 = z % 128 := by
  obtain ⟨m, rfl⟩ := Int.eq_ofNat_of_zero_le h0
  have h := and127 m (by omega)
  rw [h]; omega
theorem mRd_none {l : List Int} {o k f : Nat} {n : Int} {R : RdU} (h : mRd l o (f + 1) k n = R) (hl : l.length ≤ o + k) : R = noU := by
  unfold mRd at h
  rw [List.getElem?_eq_none hl] at h
  exact h.symm
theorem mRd_more {l : List Int} {o k f : Nat} {n z : Int} {R : RdU} (h : mRd l o (f + 1) k n = R) (hz : l[o + k]? = some z) (h1 : ¬ z < 128) : mRd l o f (k + 1) (grpU n z k) = R := by
  unfold mRd at h
  rw [hz] at h
  simpa [h1] using h
theorem mRd_bad {l : List Int} {o k f : Nat} {n z : Int} {R : RdU} (h : mRd l o (f + 1) k n = R) (hz : l[o + k]? = some z) (h1 : z < 128) (h2 : z = 0 ∧ 0 < k ∨ 1000000000000 < grpU n z k) : R = noU := by
  unfold mRd at h
  rw [hz] at h
  simp only [h1, if_true] at h
  rw [if_pos (by simpa using h2)] at h
  exact h.symm
theorem mRd_good {l : List Int} {o k f : Nat} {n z : Int} {R : RdU} (h : mRd l o (f + 1) k n = R) (hz : l[o + k]? = some z) (h1 : z < 128) (h2 : ¬ (z = 0 ∧ 0 < k ∨ 1000000000000 < grpU n z k)) : R = ⟨grpU n z k, (o : Int) + k + 1, true⟩ := by
  unfold mRd at h
  rw [hz] at h
  simp only [h1, if_true] at h
  rw [if_neg (by simpa using h2)] at h
  exact h.symm
set_option maxHeartbeats 4000000 in
theorem spec_rdu (l : List Int) (A : Option Addr) (n c lo hi : Nat) (o : Nat) (w : World) (hn : n ≤ 17592186044416) (hr : Rd w lo hi 1 A n (u8s l)) (hu : Hid (U8s l)) :
    Calls Try.prog 11 #[.slice A n c, .int .i64 o] w (fun e w' => e = .returned (.tuple #[.int .i64 (mRd l o 6 0 0).n, .int .i64 (mRd l o 6 0 0).to, .bool (mRd l o 6 0 0).ok]) ∧ w = w') := by
  have HR := Lib.hid hr
  have HL := Lib.hid (show l.length = n by simpa using hr.1)
  clear hr
  obtain ⟨R, hR⟩ : ∃ R, mRd l o 6 0 0 = R := ⟨_, rfl⟩
  rw [hR]
  have HRR := Lib.hid hR
  clear hR
  go_enter Try.func11, Try.ntmps11
  go_wp2_with fail
  go_loop [7, 8] (fun x i => ∃ (k : Nat) (m : Int), k ≤ 6 ∧ i = .int .i64 k ∧ x = .int .i64 m ∧ mRd l o (6 - k) k m = R) (fun _ i => 6 - (intOf i).toNat)
  case atStart => exact ⟨0, 0, by omega, rfl, rfl, HRR.out⟩
  case round =>
    obtain ⟨k, m, hk, rfl, rfl, hm⟩ := hrel
    have HM := Lib.hid hm
    clear hm
    have hk7 : k = 0 ∨ k = 1 ∨ k = 2 ∨ k = 3 ∨ k = 4 ∨ k = 5 ∨ k = 6 := by omega
    rcases hk7 with rfl | rfl | rfl | rfl | rfl | rfl | rfl
    · by_cases hlt : o < n
      · obtain ⟨b, off, z, rfl, _, _, hz, hc⟩ := rd_int HR.out hlt
        have hz1 := (hu.out z (List.mem_of_getElem? hz)).1
        have hz2 := (hu.out z (List.mem_of_getElem? hz)).2
        have ha := and127b hz1 hz2
        have hg : grpU m z 0 = bits .or .i64 m (z % 128) := by unfold grpU; rw [Int.pow_zero, Int.mul_one]
        by_cases h1 : z < 128
        · by_cases hb : z = 0 ∧ 0 < 0 ∨ 1000000000000 < grpU m z 0
          · have HE := Lib.hid (mRd_bad (f := 5) (k := 0) HM.out hz h1 hb)
            by_cases e : z = 0
            · have g0 : (z == 0) = true := by simpa using e
              by_cases eM : 1000000000000 < grpU m z 0
              · have gM : decide ((1000000000000 : Int) < bits .or .i64 m (z % 128)) = true := by rw [← hg]; simpa using eM
                clear hb e eM hz hg
                go_wp2_with fail
                go_ret3
                exact ⟨by rw [HE.out]; rfl, rfl⟩
              · have gM : decide ((1000000000000 : Int) < bits .or .i64 m (z % 128)) = false := by rw [← hg]; simpa using eM
                exact absurd hb (by omega)
            · have g0 : (z == 0) = false := by simpa using e
              have eM : 1000000000000 < grpU m z 0 := by omega
              have gM : decide ((1000000000000 : Int) < bits .or .i64 m (z % 128)) = true := by rw [← hg]; simpa using eM
              clear hb e eM hz hg
              go_wp2_with fail
              go_ret3
              exact ⟨by rw [HE.out]; rfl, rfl⟩
          · have HE := Lib.hid (mRd_good (f := 5) (k := 0) HM.out hz h1 hb)
            have eM : ¬ 1000000000000 < grpU m z 0 := by omega
            have gM : decide ((1000000000000 : Int) < bits .or .i64 m (z % 128)) = false := by rw [← hg]; simpa using eM
            have HG := Lib.hid hg
            by_cases e : z = 0
            · have hg0 : grpU m z 0 = bits .or .i64 m 0 := by rw [hg, e]; rfl
              have gM0 : decide ((1000000000000 : Int) < bits .or .i64 m 0) = false := by rw [← hg0]; simpa using eM
              have HG0 := Lib.hid hg0
              have g0 : (z == 0) = true := by simpa using e
              clear hb eM hz hg hg0 gM
              subst e
              go_wp2_with fail
              go_ret3
              exact ⟨by rw [HE.out, HG0.out]; first | rfl | simp, rfl⟩
            · have g0 : (z == 0) = false := by simpa using e
              clear hb eM hz hg e
              go_wp2_with fail
              go_ret3
              exact ⟨by rw [HE.out, HG.out]; first | rfl | simp, rfl⟩
        · have HM2 := Lib.hid (mRd_more (f := 5) (k := 0) HM.out hz h1)
          have HG := Lib.hid hg
          clear hz hg
          go_wp2_with fail
          go_round
          case rel => exact ⟨1, grpU m z 0, by omega, by go_num, by rw [HG.out], HM2.out⟩
          case measure => simp [intOf]
      · have HE := Lib.hid (mRd_none (f := 5) (k := 0) HM.out (by rw [HL.out]; omega))
        go_wp2_with fail
        go_ret3
        exact ⟨by rw [HE.out]; rfl, rfl⟩
    · by_cases hlt : o + 1 < n
      · obtain ⟨b, off, z, rfl, _, _, hz, hc⟩ := rd_int HR.out hlt
        have hz1 := (hu.out z (List.mem_of_getElem? hz)).1
        have hz2 := (hu.out z (List.mem_of_getElem? hz)).2
        have ha := and127b hz1 hz2
        have hg : grpU m z 1 = bits .or .i64 m (z % 128 * 128) := by unfold grpU; rw [show (128 : Int) ^ 1 = 128 by rfl]
        by_cases h1 : z < 128
        · by_cases hb : z = 0 ∧ 0 < 1 ∨ 1000000000000 < grpU m z 1
          · have HE := Lib.hid (mRd_bad (f := 4) (k := 1) HM.out hz h1 hb)
            by_cases e : z = 0
            · have g0 : (z == 0) = true := by simpa using e
              by_cases eM : 1000000000000 < grpU m z 1
              · have gM : decide ((1000000000000 : Int) < bits .or .i64 m (z % 128 * 128)) = true := by rw [← hg]; simpa using eM
                clear hb e eM hz hg
                go_wp2_with fail
                go_ret3
                exact ⟨by rw [HE.out]; rfl, rfl⟩
              · have gM : decide ((1000000000000 : Int) < bits .or .i64 m (z % 128 * 128)) = false := by rw [← hg]; simpa using eM
                clear hb e eM hz hg
                go_wp2_with fail
                go_ret3
                exact ⟨by rw [HE.out]; rfl, rfl⟩
            · have g0 : (z == 0) = false := by simpa using e
              have eM : 1000000000000 < grpU m z 1 := by omega
              have gM : decide ((1000000000000 : Int) < bits .or .i64 m (z % 128 * 128)) = true := by rw [← hg]; simpa using eM
              clear hb e eM hz hg
              go_wp2_with fail
              go_ret3
              exact ⟨by rw [HE.out]; rfl, rfl⟩
          · have HE := Lib.hid (mRd_good (f := 4) (k := 1) HM.out hz h1 hb)
            have eM : ¬ 1000000000000 < grpU m z 1 := by omega
            have gM : decide ((1000000000000 : Int) < bits .or .i64 m (z % 128 * 128)) = false := by rw [← hg]; simpa using eM
            have g0 : (z == 0) = false := by rw [beq_eq_false_iff_ne]; omega
            have HG := Lib.hid hg
            clear hb eM hz hg
            go_wp2_with fail
            all_goals go_ret3
            all_goals exact ⟨by rw [HE.out, HG.out]; rfl, rfl⟩
        · have HM2 := Lib.hid (mRd_more (f := 4) (k := 1) HM.out hz h1)
          have HG := Lib.hid hg
          clear hz hg
          go_wp2_with fail
          go_round
          case rel => exact ⟨2, grpU m z 1, by omega, by go_num, by rw [HG.out], HM2.out⟩
          case measure => simp [intOf]
      · have HE := Lib.hid (mRd_none (f := 4) (k := 1) HM.out (by rw [HL.out]; omega))
        go_wp2_with fail
        go_ret3
        exact ⟨by rw [HE.out]; rfl, rfl⟩
    · by_cases hlt : o + 2 < n
      · obtain ⟨b, off, z, rfl, _, _, hz, hc⟩ := rd_int HR.out hlt
        have hz1 := (hu.out z (List.mem_of_getElem? hz)).1
        have hz2 := (hu.out z (List.mem_of_getElem? hz)).2
        have ha := and127b hz1 hz2
        have hg : grpU m z 2 = bits .or .i64 m (z % 128 * 16384) := by unfold grpU; rw [show (128 : Int) ^ 2 = 16384 by rfl]
        by_cases h1 : z < 128
        · by_cases hb : z = 0 ∧ 0 < 2 ∨ 1000000000000 < grpU m z 2
          · have HE := Lib.hid (mRd_bad (f := 3) (k := 2) HM.out hz h1 hb)
            by_cases e : z = 0
            · have g0 : (z == 0) = true := by simpa using e
              by_cases eM : 1000000000000 < grpU m z 2
              · have gM : decide ((1000000000000 : Int) < bits .or .i64 m (z % 128 * 16384)) = true := by rw [← hg]; simpa using eM
                clear hb e eM hz hg
                go_wp2_with fail
                go_ret3
                exact ⟨by rw [HE.out]; rfl, rfl⟩
              · have gM : decide ((1000000000000 : Int) < bits .or .i64 m (z % 128 * 16384)) = false := by rw [← hg]; simpa using eM
                clear hb e eM hz hg
                go_wp2_with fail
                go_ret3
                exact ⟨by rw [HE.out]; rfl, rfl⟩
            · have g0 : (z == 0) = false := by simpa using e
              have eM : 1000000000000 < grpU m z 2 := by omega
              have gM : decide ((1000000000000 : Int) < bits .or .i64 m (z % 128 * 16384)) = true := by rw [← hg]; simpa using eM
              clear hb e eM hz hg
              go_wp2_with fail
              go_ret3
              exact ⟨by rw [HE.out]; rfl, rfl⟩
          · have HE := Lib.hid (mRd_good (f := 3) (k := 2) HM.out hz h1 hb)
            have eM : ¬ 1000000000000 < grpU m z 2 := by omega
            have gM : decide ((1000000000000 : Int) < bits .or .i64 m (z % 128 * 16384)) = false := by rw [← hg]; simpa using eM
            have g0 : (z == 0) = false := by rw [beq_eq_false_iff_ne]; omega
            have HG := Lib.hid hg
            clear hb eM hz hg
            go_wp2_with fail
            all_goals go_ret3
            all_goals exact ⟨by rw [HE.out, HG.out]; rfl, rfl⟩
        · have HM2 := Lib.hid (mRd_more (f := 3) (k := 2) HM.out hz h1)
          have HG := Lib.hid hg
          clear hz hg
          go_wp2_with fail
          go_round
          case rel => exact ⟨3, grpU m z 2, by omega, by go_num, by rw [HG.out], HM2.out⟩
          case measure => simp [intOf]
      · have HE := Lib.hid (mRd_none (f := 3) (k := 2) HM.out (by rw [HL.out]; omega))
        go_wp2_with fail
        go_ret3
        exact ⟨by rw [HE.out]; rfl, rfl⟩
    · by_cases hlt : o + 3 < n
      · obtain ⟨b, off, z, rfl, _, _, hz, hc⟩ := rd_int HR.out hlt
        have hz1 := (hu.out z (List.mem_of_getElem? hz)).1
        have hz2 := (hu.out z (List.mem_of_getElem? hz)).2
        have ha := and127b hz1 hz2
        have hg : grpU m z 3 = bits .or .i64 m (z % 128 * 2097152) := by unfold grpU; rw [show (128 : Int) ^ 3 = 2097152 by rfl]
        by_cases h1 : z < 128
        · by_cases hb : z = 0 ∧ 0 < 3 ∨ 1000000000000 < grpU m z 3
          · have HE := Lib.hid (mRd_bad (f := 2) (k := 3) HM.out hz h1 hb)
            by_cases e : z = 0
            · have g0 : (z == 0) = true := by simpa using e
              by_cases eM : 1000000000000 < grpU m z 3
              · have gM : decide ((1000000000000 : Int) < bits .or .i64 m (z % 128 * 2097152)) = true := by rw [← hg]; simpa using eM
                clear hb e eM hz hg
                go_wp2_with fail
                go_ret3
                exact ⟨by rw [HE.out]; rfl, rfl⟩
              · have gM : decide ((1000000000000 : Int) < bits .or .i64 m (z % 128 * 2097152)) = false := by rw [← hg]; simpa using eM
                clear hb e eM hz hg
                go_wp2_with fail
                go_ret3
                exact ⟨by rw [HE.out]; rfl, rfl⟩
            · have g0 : (z == 0) = false := by simpa using e
              have eM : 1000000000000 < grpU m z 3 := by omega
              have gM : decide ((1000000000000 : Int) < bits .or .i64 m (z % 128 * 2097152)) = true := by rw [← hg]; simpa using eM
              clear hb e eM hz hg
              go_wp2_with fail
              go_ret3
              exact ⟨by rw [HE.out]; rfl, rfl⟩
          · have HE := Lib.hid (mRd_good (f := 2) (k := 3) HM.out hz h1 hb)
            have eM : ¬ 1000000000000 < grpU m z 3 := by omega
            have gM : decide ((1000000000000 : Int) < bits .or .i64 m (z % 128 * 2097152)) = false := by rw [← hg]; simpa using eM
            have g0 : (z == 0) = false := by rw [beq_eq_false_iff_ne]; omega
            have HG := Lib.hid hg
            clear hb eM hz hg
            go_wp2_with fail
            all_goals go_ret3
            all_goals exact ⟨by rw [HE.out, HG.out]; rfl, rfl⟩
        · have HM2 := Lib.hid (mRd_more (f := 2) (k := 3) HM.out hz h1)
          have HG := Lib.hid hg
          clear hz hg
          go_wp2_with fail
          go_round
          case rel => exact ⟨4, grpU m z 3, by omega, by go_num, by rw [HG.out], HM2.out⟩
          case measure => simp [intOf]
      · have HE := Lib.hid (mRd_none (f := 2) (k := 3) HM.out (by rw [HL.out]; omega))
        go_wp2_with fail
        go_ret3
        exact ⟨by rw [HE.out]; rfl, rfl⟩
    · by_cases hlt : o + 4 < n
      · obtain ⟨b, off, z, rfl, _, _, hz, hc⟩ := rd_int HR.out hlt
        have hz1 := (hu.out z (List.mem_of_getElem? hz)).1
        have hz2 := (hu.out z (List.mem_of_getElem? hz)).2
        have ha := and127b hz1 hz2
        have hg : grpU m z 4 = bits .or .i64 m (z % 128 * 268435456) := by unfold grpU; rw [show (128 : Int) ^ 4 = 268435456 by rfl]
        by_cases h1 : z < 128
        · by_cases hb : z = 0 ∧ 0 < 4 ∨ 1000000000000 < grpU m z 4
          · have HE := Lib.hid (mRd_bad (f := 1) (k := 4) HM.out hz h1 hb)
            by_cases e : z = 0
            · have g0 : (z == 0) = true := by simpa using e
              by_cases eM : 1000000000000 < grpU m z 4
              · have gM : decide ((1000000000000 : Int) < bits .or .i64 m (z % 128 * 268435456)) = true := by rw [← hg]; simpa using eM
                clear hb e eM hz hg
                go_wp2_with fail
                go_ret3
                exact ⟨by rw [HE.out]; rfl, rfl⟩
              · have gM : decide ((1000000000000 : Int) < bits .or .i64 m (z % 128 * 268435456)) = false := by rw [← hg]; simpa using eM
                clear hb e eM hz hg
                go_wp2_with fail
                go_ret3
                exact ⟨by rw [HE.out]; rfl, rfl⟩
            · have g0 : (z == 0) = false := by simpa using e
              have eM : 1000000000000 < grpU m z 4 := by omega
              have gM : decide ((1000000000000 : Int) < bits .or .i64 m (z % 128 * 268435456)) = true := by rw [← hg]; simpa using eM
              clear hb e eM hz hg
              go_wp2_with fail
              go_ret3
              exact ⟨by rw [HE.out]; rfl, rfl⟩
          · have HE := Lib.hid (mRd_good (f := 1) (k := 4) HM.out hz h1 hb)
            have eM : ¬ 1000000000000 < grpU m z 4 := by omega
            have gM : decide ((1000000000000 : Int) < bits .or .i64 m (z % 128 * 268435456)) = false := by rw [← hg]; simpa using eM
            have g0 : (z == 0) = false := by rw [beq_eq_false_iff_ne]; omega
            have HG := Lib.hid hg
            clear hb eM hz hg
            go_wp2_with fail
            all_goals go_ret3
            all_goals exact ⟨by rw [HE.out, HG.out]; rfl, rfl⟩
        · have HM2 := Lib.hid (mRd_more (f := 1) (k := 4) HM.out hz h1)
          have HG := Lib.hid hg
          clear hz hg
          go_wp2_with fail
          go_round
          case rel => exact ⟨5, grpU m z 4, by omega, by go_num, by rw [HG.out], HM2.out⟩
          case measure => simp [intOf]
      · have HE := Lib.hid (mRd_none (f := 1) (k := 4) HM.out (by rw [HL.out]; omega))
        go_wp2_with fail
        go_ret3
        exact ⟨by rw [HE.out]; rfl, rfl⟩
    · by_cases hlt : o + 5 < n
      · obtain ⟨b, off, z, rfl, _, _, hz, hc⟩ := rd_int HR.out hlt
        have hz1 := (hu.out z (List.mem_of_getElem? hz)).1
        have hz2 := (hu.out z (List.mem_of_getElem? hz)).2
        have ha := and127b hz1 hz2
        have hg : grpU m z 5 = bits .or .i64 m (z % 128 * 34359738368) := by unfold grpU; rw [show (128 : Int) ^ 5 = 34359738368 by rfl]
        by_cases h1 : z < 128
        · by_cases hb : z = 0 ∧ 0 < 5 ∨ 1000000000000 < grpU m z 5
          · have HE := Lib.hid (mRd_bad (f := 0) (k := 5) HM.out hz h1 hb)
            by_cases e : z = 0
            · have g0 : (z == 0) = true := by simpa using e
              by_cases eM : 1000000000000 < grpU m z 5
              · have gM : decide ((1000000000000 : Int) < bits .or .i64 m (z % 128 * 34359738368)) = true := by rw [← hg]; simpa using eM
                clear hb e eM hz hg
                go_wp2_with fail
                go_ret3
                exact ⟨by rw [HE.out]; rfl, rfl⟩
              · have gM : decide ((1000000000000 : Int) < bits .or .i64 m (z % 128 * 34359738368)) = false := by rw [← hg]; simpa using eM
                clear hb e eM hz hg
                go_wp2_with fail
                go_ret3
                exact ⟨by rw [HE.out]; rfl, rfl⟩
            · have g0 : (z == 0) = false := by simpa using e
              have eM : 1000000000000 < grpU m z 5 := by omega
              have gM : decide ((1000000000000 : Int) < bits .or .i64 m (z % 128 * 34359738368)) = true := by rw [← hg]; simpa using eM
              clear hb e eM hz hg
              go_wp2_with fail
              go_ret3
              exact ⟨by rw [HE.out]; rfl, rfl⟩
          · have HE := Lib.hid (mRd_good (f := 0) (k := 5) HM.out hz h1 hb)
            have eM : ¬ 1000000000000 < grpU m z 5 := by omega
            have gM : decide ((1000000000000 : Int) < bits .or .i64 m (z % 128 * 34359738368)) = false := by rw [← hg]; simpa using eM
            have g0 : (z == 0) = false := by rw [beq_eq_false_iff_ne]; omega
            have HG := Lib.hid hg
            clear hb eM hz hg
            go_wp2_with fail
            all_goals go_ret3
            all_goals exact ⟨by rw [HE.out, HG.out]; rfl, rfl⟩
        · have HM2 := Lib.hid (mRd_more (f := 0) (k := 5) HM.out hz h1)
          have HG := Lib.hid hg
          clear hz hg
          go_wp2_with fail
          go_round
          case rel => exact ⟨6, grpU m z 5, by omega, by go_num, by rw [HG.out], HM2.out⟩
          case measure => simp [intOf]
      · have HE := Lib.hid (mRd_none (f := 0) (k := 5) HM.out (by rw [HL.out]; omega))
        go_wp2_with fail
        go_ret3
        exact ⟨by rw [HE.out]; rfl, rfl⟩
    · have HE := Lib.hid (show R = noU from HM.out.symm)
      go_wp2_with fail
      go_ret3
      exact ⟨by rw [HE.out]; rfl, rfl⟩
end Go.Proofs.Ytkakdfphhnchhab
