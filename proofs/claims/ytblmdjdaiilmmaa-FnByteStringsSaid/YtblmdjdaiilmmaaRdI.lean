/- ReadUvarint of the program. -/
import Derived.Test.YtblmdjdaiilmmaaRdU
namespace Go.Proofs.Ytblmdjdaiilmmaa
open Go Go.ChangeShapes Go.WideShapes Go.ChangeAt Go.RowKit Go.Lib
set_option linter.unusedVariables false
set_option maxRecDepth 100000

theorem and127u {z : Int} (h0 : 0 ≤ z) (h1 : z ≤ 255) : bits .and .u8 z 127 = z % 128 := by
  obtain ⟨m, rfl⟩ := Int.eq_ofNat_of_zero_le h0
  have h' : ∀ x : Fin 256, bits .and .u8 ((x.val : Nat) : Int) 127 = ((x.val : Nat) : Int) % 128 := by decide
  exact h' ⟨m, by omega⟩
/-- The cursor of the program. -/
def CurP (w : World) (g b off n cap : Nat) (k : Nat) : Prop := BoxAt w g 211 #[.slice (some ⟨b, off, none⟩) n cap, .int .i64 k]
theorem curp_set {w : World} {g b off n cap k : Nat} (h : CurP w g b off n cap k) (j : Nat) : CurP (w.setCell ⟨g, 1, none⟩ (.int .i64 j)) g b off n cap j := by
  unfold CurP BoxAt at h ⊢
  simp [World.setCell, Array.getElem?_modify, h]
theorem take_one (g b off n cap k : Nat) (w : World) (hn : n ≤ 17592186044416) (hcap : n ≤ cap) (hc : CurP w g b off n cap k) (hk : k < n) :
    Calls Try.prog 142 #[.pointer (some ⟨g, 0, none⟩), .int .i64 1] w (fun e w' => e = .returned (.tuple #[.slice (some ⟨b, off + k, none⟩) 1 1, .bool true]) ∧ CurP w' g b off n cap (k + 1) ∧ w.grownBy w' (some g)) := by
  have p0 := hc.at_ (j := 0) (u := .slice (some ⟨b, off, none⟩) n cap) rfl
  have p1 := hc.at_ (j := 1) (u := .int .i64 k) rfl
  have f1 := hc.free 1
  have hin : inR 1 0 ((n : Int) - k) = true := inR_true.2 (by omega)
  go_enter Try.func142, Try.ntmps142
  go_wp2_with fail
  go_quiet ((go_at_call 140; exact Calls.quiet_of_same ((impl_in _ _ _ _).mono fun _ _ ⟨a, b⟩ => ⟨a, b.symm⟩)))
  go_wp2_with fail
  go_quiet (fail)
  go_wp2_with fail
  go_ret2
  refine ⟨rfl, ?_, ?_⟩
  · exact curp_set (w := w) hc (k + 1)
  · exact ⟨rfl, rfl, rfl, by simp [World.setCell], fun i hi hne => Below.heap_setCell w ⟨g, 1, none⟩ _ i (fun e => hne (by rw [e]))⟩
theorem take_none (g b off n cap k : Nat) (w : World) (hn : n ≤ 17592186044416) (hc : CurP w g b off n cap k) (hk : n ≤ k) (hk2 : k ≤ 17592186044416) :
    Calls Try.prog 142 #[.pointer (some ⟨g, 0, none⟩), .int .i64 1] w (fun e w' => e = .returned (.tuple #[.slice none 0 0, .bool false]) ∧ CurP w' g b off n cap k ∧ w.grownBy w' (some g)) := by
  have p0 := hc.at_ (j := 0) (u := .slice (some ⟨b, off, none⟩) n cap) rfl
  have p1 := hc.at_ (j := 1) (u := .int .i64 k) rfl
  have hin : inR 1 0 ((n : Int) - k) = false := by rw [Bool.eq_false_iff]; intro h; have := inR_true.1 h; omega
  go_enter Try.func142, Try.ntmps142
  go_wp2_with fail
  go_quiet ((go_at_call 140; exact Calls.quiet_of_same ((impl_in _ _ _ _).mono fun _ _ ⟨a, b⟩ => ⟨a, b.symm⟩)))
  go_wp2_with fail
  go_ret2
  exact ⟨rfl, hc, ⟨rfl, rfl, rfl, Nat.le_refl _, fun i hi hne => rfl⟩⟩
/-- What the reading of a number does: it answers whether there is one, and if so the number, and the cursor stands behind it. -/
def UvP (R : RdU) (g b off n cap : Nat) (w : World) (e : Ending) (w' : World) : Prop :=
  ∃ v : Int, e = .returned (.tuple #[.int .i64 v, .bool R.ok]) ∧ (R.ok = true → v = R.n ∧ CurP w' g b off n cap R.to.toNat) ∧ w.grownBy w' (some g)
theorem grown_both' {w w1 w2 : World} {g : Nat} (h : w.grownBy w1 (some g)) (k : w1.grownBy w2 (some g)) : w.grownBy w2 (some g) :=
  ⟨k.os.trans h.os, k.tape.trans h.tape, k.output.trans h.output, Nat.le_trans h.size k.size, fun i hi hne => (k.block i (Nat.lt_of_lt_of_le hi h.size) hne).trans (h.block i hi hne)⟩
theorem cell_grown {w w' : World} {g : Nat} {a : Addr} {u : Value} (hg : w.grownBy w' (some g)) (hne : a.block ≠ g) (h : w.cell? a = some u) : w'.cell? a = some u :=
  (World.cell?_of_block (hg.block _ (World.block_lt_of_cell? w _ h) (fun e => hne (by injection e)))).trans h
set_option maxHeartbeats 8000000 in
theorem uvarint_any (l : List Int) (b off n cap lo hi g o : Nat) (w : World) (hn : n ≤ 1048576) (hcap : n ≤ cap) (ho : o ≤ n) (hr : Rd w lo hi 1 (some ⟨b, off, none⟩) n (u8s l)) (hu : Hid (U8s l)) (hbg : b ≠ g) (hc : CurP w g b off n cap o) :
    Calls Try.prog 141 #[.pointer (some ⟨g, 0, none⟩)] w (UvP (mRd l o 6 0 0) g b off n cap w) := by
  have HR := Lib.hid hr
  have HL := Lib.hid (show l.length = n by simpa using hr.1)
  have HC := Lib.hid hc
  clear hr hc
  obtain ⟨R, hR⟩ : ∃ R, mRd l o 6 0 0 = R := ⟨_, rfl⟩
  rw [hR]
  have HRR := Lib.hid hR
  clear hR
  go_enter Try.func141, Try.ntmps141
  go_wp2_with fail
  go_loopw [4, 9] (fun x i wr => ∃ (k : Nat) (m : Int), k ≤ 6 ∧ i = .int .i64 k ∧ x = .int .i64 m ∧ mRd l o (6 - k) k m = R ∧ CurP wr g b off n cap (o + k) ∧ w.grownBy wr (some g)) (fun _ i _ => 6 - (intOf i).toNat)
  case atStart => exact ⟨0, 0, by omega, rfl, rfl, HRR.out, HC.out, World.grownBy.refl w _⟩
  case round =>
    obtain ⟨k, m, hk, rfl, rfl, hm, hcw, hgw⟩ := hrel
    have HM := Lib.hid hm
    have HCW := Lib.hid hcw
    have HGW := Lib.hid hgw
    clear hm hcw hgw
    have hk7 : k = 0 ∨ k = 1 ∨ k = 2 ∨ k = 3 ∨ k = 4 ∨ k = 5 ∨ k = 6 := by omega
    rcases hk7 with rfl | rfl | rfl | rfl | rfl | rfl | rfl
    · by_cases hlt : o < n
      · obtain ⟨b', off', z, hA, _, _, hz, hc⟩ := rd_int HR.out hlt
        injection hA with hA
        injection hA with hA1 hA2 _
        subst hA1
        subst hA2
        have hz1 := (hu.out z (List.mem_of_getElem? hz)).1
        have hz2 := (hu.out z (List.mem_of_getElem? hz)).2
        have ha := and127u hz1 hz2
        have hg : grpU m z 0 = bits .or .i64 m (z % 128) := by unfold grpU; rw [Int.pow_zero, Int.mul_one]
        by_cases h1 : z < 128
        · by_cases e : z = 0
          · have hg0 : grpU m z 0 = bits .or .i64 m 0 := by rw [hg, e]; rfl
            have g0 : (z == 0) = true := by simpa using e
            by_cases eM : 1000000000000 < grpU m z 0
            · have HE := Lib.hid (mRd_bad (f := 5) (k := 0) HM.out hz h1 (Or.inr eM))
              have gM : decide (bits .or .i64 m 0 ≤ (1000000000000 : Int)) = false := by rw [← hg0]; simp; omega
              subst e
              clear hz hg hg0 eM
              go_wp2_with fail
              refine (take_one g b off n cap (o) _ (by omega) hcap HCW.out hlt).mono ?_
              rintro e w1 ⟨rfl, hc1, hg1⟩
              have HC1 := Lib.hid hc1
              have HG1 := Lib.hid (grown_both' HGW.out hg1)
              have c1 := cell_grown HG1.out (a := ⟨b, off + (o), none⟩) hbg hc
              have hlb := World.block_lt_of_cell? w1 _ c1
              clear hc hc1 hg1
              go_wp2_with fail
              all_goals go_ret2
              all_goals exact ⟨_, by rw [HE.out]; rfl, (by rw [HE.out]; intro h; cases h), HG1.out⟩
            · have gM : decide (bits .or .i64 m 0 ≤ (1000000000000 : Int)) = true := by rw [← hg0]; simp; omega
              have HE := Lib.hid (mRd_good (f := 5) (k := 0) HM.out hz h1 (by omega))
              have HG0 := Lib.hid hg0
              subst e
              clear hz hg hg0 eM
              go_wp2_with fail
              refine (take_one g b off n cap (o) _ (by omega) hcap HCW.out hlt).mono ?_
              rintro e w1 ⟨rfl, hc1, hg1⟩
              have HC1 := Lib.hid hc1
              have HG1 := Lib.hid (grown_both' HGW.out hg1)
              have c1 := cell_grown HG1.out (a := ⟨b, off + (o), none⟩) hbg hc
              have hlb := World.block_lt_of_cell? w1 _ c1
              clear hc hc1 hg1
              go_wp2_with fail
              all_goals go_ret2
              all_goals exact ⟨_, by rw [HE.out]; rfl, (by rw [HE.out]; exact fun _ => ⟨HG0.out.symm, HC1.out⟩), HG1.out⟩
          · have g0 : (z == 0) = false := by simpa using e
            have g0' : (z != 0) = true := by simpa using e
            by_cases eM : 1000000000000 < grpU m z 0
            · have HE := Lib.hid (mRd_bad (f := 5) (k := 0) HM.out hz h1 (Or.inr eM))
              have gM : decide (bits .or .i64 m (z % 128) ≤ (1000000000000 : Int)) = false := by rw [← hg]; simp; omega
              clear hz hg eM e
              go_wp2_with fail
              refine (take_one g b off n cap (o) _ (by omega) hcap HCW.out hlt).mono ?_
              rintro e w1 ⟨rfl, hc1, hg1⟩
              have HC1 := Lib.hid hc1
              have HG1 := Lib.hid (grown_both' HGW.out hg1)
              have c1 := cell_grown HG1.out (a := ⟨b, off + (o), none⟩) hbg hc
              have hlb := World.block_lt_of_cell? w1 _ c1
              clear hc hc1 hg1
              go_wp2_with fail
              all_goals go_ret2
              all_goals exact ⟨_, by rw [HE.out]; rfl, (by rw [HE.out]; intro h; cases h), HG1.out⟩
            · have HE := Lib.hid (mRd_good (f := 5) (k := 0) HM.out hz h1 (by omega))
              have gM : decide (bits .or .i64 m (z % 128) ≤ (1000000000000 : Int)) = true := by rw [← hg]; simp; omega
              have HG := Lib.hid hg
              clear hz hg eM e
              go_wp2_with fail
              refine (take_one g b off n cap (o) _ (by omega) hcap HCW.out hlt).mono ?_
              rintro e w1 ⟨rfl, hc1, hg1⟩
              have HC1 := Lib.hid hc1
              have HG1 := Lib.hid (grown_both' HGW.out hg1)
              have c1 := cell_grown HG1.out (a := ⟨b, off + (o), none⟩) hbg hc
              have hlb := World.block_lt_of_cell? w1 _ c1
              clear hc hc1 hg1
              go_wp2_with fail
              all_goals go_ret2
              all_goals exact ⟨_, by rw [HE.out]; rfl, (by rw [HE.out]; exact fun _ => ⟨HG.out.symm, HC1.out⟩), HG1.out⟩
        · have HM2 := Lib.hid (mRd_more (f := 5) (k := 0) HM.out hz h1)
          have HG := Lib.hid hg
          clear hz hg
          go_wp2_with fail
          refine (take_one g b off n cap (o) _ (by omega) hcap HCW.out hlt).mono ?_
          rintro e w1 ⟨rfl, hc1, hg1⟩
          have HC1 := Lib.hid hc1
          have HG1 := Lib.hid (grown_both' HGW.out hg1)
          have c1 := cell_grown HG1.out (a := ⟨b, off + (o), none⟩) hbg hc
          have hlb := World.block_lt_of_cell? w1 _ c1
          clear hc hc1 hg1
          go_wp2_with fail
          go_roundw
          case rel => exact ⟨1, grpU m z 0, by omega, by go_num, by rw [HG.out], HM2.out, HC1.out, HG1.out⟩
          case measure => simp [intOf]
      · have HE := Lib.hid (mRd_none (f := 5) (k := 0) HM.out (by rw [HL.out]; omega))
        go_wp2_with fail
        refine (take_none g b off n cap (o) _ (by omega) HCW.out (by omega) (by omega)).mono ?_
        rintro e w1 ⟨rfl, hc1, hg1⟩
        have HG1 := Lib.hid (grown_both' HGW.out hg1)
        clear hc1 hg1
        go_wp2_with fail
        go_ret2
        exact ⟨_, by rw [HE.out]; rfl, (by rw [HE.out]; intro h; cases h), HG1.out⟩
    · by_cases hlt : o + 1 < n
      · obtain ⟨b', off', z, hA, _, _, hz, hc⟩ := rd_int HR.out hlt
        injection hA with hA
        injection hA with hA1 hA2 _
        subst hA1
        subst hA2
        have hz1 := (hu.out z (List.mem_of_getElem? hz)).1
        have hz2 := (hu.out z (List.mem_of_getElem? hz)).2
        have ha := and127u hz1 hz2
        have hg : grpU m z 1 = bits .or .i64 m (z % 128 * 128) := by unfold grpU; rw [show (128 : Int) ^ 1 = 128 by rfl]
        by_cases h1 : z < 128
        · by_cases e : z = 0
          · have hg0 : grpU m z 1 = bits .or .i64 m 0 := by rw [hg, e]; rfl
            have g0 : (z == 0) = true := by simpa using e
            by_cases eM : 1000000000000 < grpU m z 1
            · have HE := Lib.hid (mRd_bad (f := 4) (k := 1) HM.out hz h1 (Or.inr eM))
              have gM : decide (bits .or .i64 m 0 ≤ (1000000000000 : Int)) = false := by rw [← hg0]; simp; omega
              subst e
              clear hz hg hg0 eM
              go_wp2_with fail
              refine (take_one g b off n cap (o + 1) _ (by omega) hcap HCW.out hlt).mono ?_
              rintro e w1 ⟨rfl, hc1, hg1⟩
              have HC1 := Lib.hid hc1
              have HG1 := Lib.hid (grown_both' HGW.out hg1)
              have c1 := cell_grown HG1.out (a := ⟨b, off + (o + 1), none⟩) hbg hc
              have hlb := World.block_lt_of_cell? w1 _ c1
              clear hc hc1 hg1
              go_wp2_with fail
              all_goals go_ret2
              all_goals exact ⟨_, by rw [HE.out]; rfl, (by rw [HE.out]; intro h; cases h), HG1.out⟩
            · have gM : decide (bits .or .i64 m 0 ≤ (1000000000000 : Int)) = true := by rw [← hg0]; simp; omega
              have HE := Lib.hid (mRd_bad (f := 4) (k := 1) HM.out hz h1 (Or.inl ⟨e, by omega⟩))
              have HG0 := Lib.hid hg0
              subst e
              clear hz hg hg0 eM
              go_wp2_with fail
              refine (take_one g b off n cap (o + 1) _ (by omega) hcap HCW.out hlt).mono ?_
              rintro e w1 ⟨rfl, hc1, hg1⟩
              have HC1 := Lib.hid hc1
              have HG1 := Lib.hid (grown_both' HGW.out hg1)
              have c1 := cell_grown HG1.out (a := ⟨b, off + (o + 1), none⟩) hbg hc
              have hlb := World.block_lt_of_cell? w1 _ c1
              clear hc hc1 hg1
              go_wp2_with fail
              all_goals go_ret2
              all_goals exact ⟨_, by rw [HE.out]; rfl, (by rw [HE.out]; intro h; cases h), HG1.out⟩
          · have g0 : (z == 0) = false := by simpa using e
            have g0' : (z != 0) = true := by simpa using e
            by_cases eM : 1000000000000 < grpU m z 1
            · have HE := Lib.hid (mRd_bad (f := 4) (k := 1) HM.out hz h1 (Or.inr eM))
              have gM : decide (bits .or .i64 m (z % 128 * 128) ≤ (1000000000000 : Int)) = false := by rw [← hg]; simp; omega
              clear hz hg eM e
              go_wp2_with fail
              refine (take_one g b off n cap (o + 1) _ (by omega) hcap HCW.out hlt).mono ?_
              rintro e w1 ⟨rfl, hc1, hg1⟩
              have HC1 := Lib.hid hc1
              have HG1 := Lib.hid (grown_both' HGW.out hg1)
              have c1 := cell_grown HG1.out (a := ⟨b, off + (o + 1), none⟩) hbg hc
              have hlb := World.block_lt_of_cell? w1 _ c1
              clear hc hc1 hg1
              go_wp2_with fail
              all_goals go_ret2
              all_goals exact ⟨_, by rw [HE.out]; rfl, (by rw [HE.out]; intro h; cases h), HG1.out⟩
            · have HE := Lib.hid (mRd_good (f := 4) (k := 1) HM.out hz h1 (by omega))
              have gM : decide (bits .or .i64 m (z % 128 * 128) ≤ (1000000000000 : Int)) = true := by rw [← hg]; simp; omega
              have HG := Lib.hid hg
              clear hz hg eM e
              go_wp2_with fail
              refine (take_one g b off n cap (o + 1) _ (by omega) hcap HCW.out hlt).mono ?_
              rintro e w1 ⟨rfl, hc1, hg1⟩
              have HC1 := Lib.hid hc1
              have HG1 := Lib.hid (grown_both' HGW.out hg1)
              have c1 := cell_grown HG1.out (a := ⟨b, off + (o + 1), none⟩) hbg hc
              have hlb := World.block_lt_of_cell? w1 _ c1
              clear hc hc1 hg1
              go_wp2_with fail
              all_goals go_ret2
              all_goals exact ⟨_, by rw [HE.out]; rfl, (by rw [HE.out]; exact fun _ => ⟨HG.out.symm, HC1.out⟩), HG1.out⟩
        · have HM2 := Lib.hid (mRd_more (f := 4) (k := 1) HM.out hz h1)
          have HG := Lib.hid hg
          clear hz hg
          go_wp2_with fail
          refine (take_one g b off n cap (o + 1) _ (by omega) hcap HCW.out hlt).mono ?_
          rintro e w1 ⟨rfl, hc1, hg1⟩
          have HC1 := Lib.hid hc1
          have HG1 := Lib.hid (grown_both' HGW.out hg1)
          have c1 := cell_grown HG1.out (a := ⟨b, off + (o + 1), none⟩) hbg hc
          have hlb := World.block_lt_of_cell? w1 _ c1
          clear hc hc1 hg1
          go_wp2_with fail
          go_roundw
          case rel => exact ⟨2, grpU m z 1, by omega, by go_num, by rw [HG.out], HM2.out, HC1.out, HG1.out⟩
          case measure => simp [intOf]
      · have HE := Lib.hid (mRd_none (f := 4) (k := 1) HM.out (by rw [HL.out]; omega))
        go_wp2_with fail
        refine (take_none g b off n cap (o + 1) _ (by omega) HCW.out (by omega) (by omega)).mono ?_
        rintro e w1 ⟨rfl, hc1, hg1⟩
        have HG1 := Lib.hid (grown_both' HGW.out hg1)
        clear hc1 hg1
        go_wp2_with fail
        go_ret2
        exact ⟨_, by rw [HE.out]; rfl, (by rw [HE.out]; intro h; cases h), HG1.out⟩
    · by_cases hlt : o + 2 < n
      · obtain ⟨b', off', z, hA, _, _, hz, hc⟩ := rd_int HR.out hlt
        injection hA with hA
        injection hA with hA1 hA2 _
        subst hA1
        subst hA2
        have hz1 := (hu.out z (List.mem_of_getElem? hz)).1
        have hz2 := (hu.out z (List.mem_of_getElem? hz)).2
        have ha := and127u hz1 hz2
        have hg : grpU m z 2 = bits .or .i64 m (z % 128 * 16384) := by unfold grpU; rw [show (128 : Int) ^ 2 = 16384 by rfl]
        by_cases h1 : z < 128
        · by_cases e : z = 0
          · have hg0 : grpU m z 2 = bits .or .i64 m 0 := by rw [hg, e]; rfl
            have g0 : (z == 0) = true := by simpa using e
            by_cases eM : 1000000000000 < grpU m z 2
            · have HE := Lib.hid (mRd_bad (f := 3) (k := 2) HM.out hz h1 (Or.inr eM))
              have gM : decide (bits .or .i64 m 0 ≤ (1000000000000 : Int)) = false := by rw [← hg0]; simp; omega
              subst e
              clear hz hg hg0 eM
              go_wp2_with fail
              refine (take_one g b off n cap (o + 2) _ (by omega) hcap HCW.out hlt).mono ?_
              rintro e w1 ⟨rfl, hc1, hg1⟩
              have HC1 := Lib.hid hc1
              have HG1 := Lib.hid (grown_both' HGW.out hg1)
              have c1 := cell_grown HG1.out (a := ⟨b, off + (o + 2), none⟩) hbg hc
              have hlb := World.block_lt_of_cell? w1 _ c1
              clear hc hc1 hg1
              go_wp2_with fail
              all_goals go_ret2
              all_goals exact ⟨_, by rw [HE.out]; rfl, (by rw [HE.out]; intro h; cases h), HG1.out⟩
            · have gM : decide (bits .or .i64 m 0 ≤ (1000000000000 : Int)) = true := by rw [← hg0]; simp; omega
              have HE := Lib.hid (mRd_bad (f := 3) (k := 2) HM.out hz h1 (Or.inl ⟨e, by omega⟩))
              have HG0 := Lib.hid hg0
              subst e
              clear hz hg hg0 eM
              go_wp2_with fail
              refine (take_one g b off n cap (o + 2) _ (by omega) hcap HCW.out hlt).mono ?_
              rintro e w1 ⟨rfl, hc1, hg1⟩
              have HC1 := Lib.hid hc1
              have HG1 := Lib.hid (grown_both' HGW.out hg1)
              have c1 := cell_grown HG1.out (a := ⟨b, off + (o + 2), none⟩) hbg hc
              have hlb := World.block_lt_of_cell? w1 _ c1
              clear hc hc1 hg1
              go_wp2_with fail
              all_goals go_ret2
              all_goals exact ⟨_, by rw [HE.out]; rfl, (by rw [HE.out]; intro h; cases h), HG1.out⟩
          · have g0 : (z == 0) = false := by simpa using e
            have g0' : (z != 0) = true := by simpa using e
            by_cases eM : 1000000000000 < grpU m z 2
            · have HE := Lib.hid (mRd_bad (f := 3) (k := 2) HM.out hz h1 (Or.inr eM))
              have gM : decide (bits .or .i64 m (z % 128 * 16384) ≤ (1000000000000 : Int)) = false := by rw [← hg]; simp; omega
              clear hz hg eM e
              go_wp2_with fail
              refine (take_one g b off n cap (o + 2) _ (by omega) hcap HCW.out hlt).mono ?_
              rintro e w1 ⟨rfl, hc1, hg1⟩
              have HC1 := Lib.hid hc1
              have HG1 := Lib.hid (grown_both' HGW.out hg1)
              have c1 := cell_grown HG1.out (a := ⟨b, off + (o + 2), none⟩) hbg hc
              have hlb := World.block_lt_of_cell? w1 _ c1
              clear hc hc1 hg1
              go_wp2_with fail
              all_goals go_ret2
              all_goals exact ⟨_, by rw [HE.out]; rfl, (by rw [HE.out]; intro h; cases h), HG1.out⟩
            · have HE := Lib.hid (mRd_good (f := 3) (k := 2) HM.out hz h1 (by omega))
              have gM : decide (bits .or .i64 m (z % 128 * 16384) ≤ (1000000000000 : Int)) = true := by rw [← hg]; simp; omega
              have HG := Lib.hid hg
              clear hz hg eM e
              go_wp2_with fail
              refine (take_one g b off n cap (o + 2) _ (by omega) hcap HCW.out hlt).mono ?_
              rintro e w1 ⟨rfl, hc1, hg1⟩
              have HC1 := Lib.hid hc1
              have HG1 := Lib.hid (grown_both' HGW.out hg1)
              have c1 := cell_grown HG1.out (a := ⟨b, off + (o + 2), none⟩) hbg hc
              have hlb := World.block_lt_of_cell? w1 _ c1
              clear hc hc1 hg1
              go_wp2_with fail
              all_goals go_ret2
              all_goals exact ⟨_, by rw [HE.out]; rfl, (by rw [HE.out]; exact fun _ => ⟨HG.out.symm, HC1.out⟩), HG1.out⟩
        · have HM2 := Lib.hid (mRd_more (f := 3) (k := 2) HM.out hz h1)
          have HG := Lib.hid hg
          clear hz hg
          go_wp2_with fail
          refine (take_one g b off n cap (o + 2) _ (by omega) hcap HCW.out hlt).mono ?_
          rintro e w1 ⟨rfl, hc1, hg1⟩
          have HC1 := Lib.hid hc1
          have HG1 := Lib.hid (grown_both' HGW.out hg1)
          have c1 := cell_grown HG1.out (a := ⟨b, off + (o + 2), none⟩) hbg hc
          have hlb := World.block_lt_of_cell? w1 _ c1
          clear hc hc1 hg1
          go_wp2_with fail
          go_roundw
          case rel => exact ⟨3, grpU m z 2, by omega, by go_num, by rw [HG.out], HM2.out, HC1.out, HG1.out⟩
          case measure => simp [intOf]
      · have HE := Lib.hid (mRd_none (f := 3) (k := 2) HM.out (by rw [HL.out]; omega))
        go_wp2_with fail
        refine (take_none g b off n cap (o + 2) _ (by omega) HCW.out (by omega) (by omega)).mono ?_
        rintro e w1 ⟨rfl, hc1, hg1⟩
        have HG1 := Lib.hid (grown_both' HGW.out hg1)
        clear hc1 hg1
        go_wp2_with fail
        go_ret2
        exact ⟨_, by rw [HE.out]; rfl, (by rw [HE.out]; intro h; cases h), HG1.out⟩
    · by_cases hlt : o + 3 < n
      · obtain ⟨b', off', z, hA, _, _, hz, hc⟩ := rd_int HR.out hlt
        injection hA with hA
        injection hA with hA1 hA2 _
        subst hA1
        subst hA2
        have hz1 := (hu.out z (List.mem_of_getElem? hz)).1
        have hz2 := (hu.out z (List.mem_of_getElem? hz)).2
        have ha := and127u hz1 hz2
        have hg : grpU m z 3 = bits .or .i64 m (z % 128 * 2097152) := by unfold grpU; rw [show (128 : Int) ^ 3 = 2097152 by rfl]
        by_cases h1 : z < 128
        · by_cases e : z = 0
          · have hg0 : grpU m z 3 = bits .or .i64 m 0 := by rw [hg, e]; rfl
            have g0 : (z == 0) = true := by simpa using e
            by_cases eM : 1000000000000 < grpU m z 3
            · have HE := Lib.hid (mRd_bad (f := 2) (k := 3) HM.out hz h1 (Or.inr eM))
              have gM : decide (bits .or .i64 m 0 ≤ (1000000000000 : Int)) = false := by rw [← hg0]; simp; omega
              subst e
              clear hz hg hg0 eM
              go_wp2_with fail
              refine (take_one g b off n cap (o + 3) _ (by omega) hcap HCW.out hlt).mono ?_
              rintro e w1 ⟨rfl, hc1, hg1⟩
              have HC1 := Lib.hid hc1
              have HG1 := Lib.hid (grown_both' HGW.out hg1)
              have c1 := cell_grown HG1.out (a := ⟨b, off + (o + 3), none⟩) hbg hc
              have hlb := World.block_lt_of_cell? w1 _ c1
              clear hc hc1 hg1
              go_wp2_with fail
              all_goals go_ret2
              all_goals exact ⟨_, by rw [HE.out]; rfl, (by rw [HE.out]; intro h; cases h), HG1.out⟩
            · have gM : decide (bits .or .i64 m 0 ≤ (1000000000000 : Int)) = true := by rw [← hg0]; simp; omega
              have HE := Lib.hid (mRd_bad (f := 2) (k := 3) HM.out hz h1 (Or.inl ⟨e, by omega⟩))
              have HG0 := Lib.hid hg0
              subst e
              clear hz hg hg0 eM
              go_wp2_with fail
              refine (take_one g b off n cap (o + 3) _ (by omega) hcap HCW.out hlt).mono ?_
              rintro e w1 ⟨rfl, hc1, hg1⟩
              have HC1 := Lib.hid hc1
              have HG1 := Lib.hid (grown_both' HGW.out hg1)
              have c1 := cell_grown HG1.out (a := ⟨b, off + (o + 3), none⟩) hbg hc
              have hlb := World.block_lt_of_cell? w1 _ c1
              clear hc hc1 hg1
              go_wp2_with fail
              all_goals go_ret2
              all_goals exact ⟨_, by rw [HE.out]; rfl, (by rw [HE.out]; intro h; cases h), HG1.out⟩
          · have g0 : (z == 0) = false := by simpa using e
            have g0' : (z != 0) = true := by simpa using e
            by_cases eM : 1000000000000 < grpU m z 3
            · have HE := Lib.hid (mRd_bad (f := 2) (k := 3) HM.out hz h1 (Or.inr eM))
              have gM : decide (bits .or .i64 m (z % 128 * 2097152) ≤ (1000000000000 : Int)) = false := by rw [← hg]; simp; omega
              clear hz hg eM e
              go_wp2_with fail
              refine (take_one g b off n cap (o + 3) _ (by omega) hcap HCW.out hlt).mono ?_
              rintro e w1 ⟨rfl, hc1, hg1⟩
              have HC1 := Lib.hid hc1
              have HG1 := Lib.hid (grown_both' HGW.out hg1)
              have c1 := cell_grown HG1.out (a := ⟨b, off + (o + 3), none⟩) hbg hc
              have hlb := World.block_lt_of_cell? w1 _ c1
              clear hc hc1 hg1
              go_wp2_with fail
              all_goals go_ret2
              all_goals exact ⟨_, by rw [HE.out]; rfl, (by rw [HE.out]; intro h; cases h), HG1.out⟩
            · have HE := Lib.hid (mRd_good (f := 2) (k := 3) HM.out hz h1 (by omega))
              have gM : decide (bits .or .i64 m (z % 128 * 2097152) ≤ (1000000000000 : Int)) = true := by rw [← hg]; simp; omega
              have HG := Lib.hid hg
              clear hz hg eM e
              go_wp2_with fail
              refine (take_one g b off n cap (o + 3) _ (by omega) hcap HCW.out hlt).mono ?_
              rintro e w1 ⟨rfl, hc1, hg1⟩
              have HC1 := Lib.hid hc1
              have HG1 := Lib.hid (grown_both' HGW.out hg1)
              have c1 := cell_grown HG1.out (a := ⟨b, off + (o + 3), none⟩) hbg hc
              have hlb := World.block_lt_of_cell? w1 _ c1
              clear hc hc1 hg1
              go_wp2_with fail
              all_goals go_ret2
              all_goals exact ⟨_, by rw [HE.out]; rfl, (by rw [HE.out]; exact fun _ => ⟨HG.out.symm, HC1.out⟩), HG1.out⟩
        · have HM2 := Lib.hid (mRd_more (f := 2) (k := 3) HM.out hz h1)
          have HG := Lib.hid hg
          clear hz hg
          go_wp2_with fail
          refine (take_one g b off n cap (o + 3) _ (by omega) hcap HCW.out hlt).mono ?_
          rintro e w1 ⟨rfl, hc1, hg1⟩
          have HC1 := Lib.hid hc1
          have HG1 := Lib.hid (grown_both' HGW.out hg1)
          have c1 := cell_grown HG1.out (a := ⟨b, off + (o + 3), none⟩) hbg hc
          have hlb := World.block_lt_of_cell? w1 _ c1
          clear hc hc1 hg1
          go_wp2_with fail
          go_roundw
          case rel => exact ⟨4, grpU m z 3, by omega, by go_num, by rw [HG.out], HM2.out, HC1.out, HG1.out⟩
          case measure => simp [intOf]
      · have HE := Lib.hid (mRd_none (f := 2) (k := 3) HM.out (by rw [HL.out]; omega))
        go_wp2_with fail
        refine (take_none g b off n cap (o + 3) _ (by omega) HCW.out (by omega) (by omega)).mono ?_
        rintro e w1 ⟨rfl, hc1, hg1⟩
        have HG1 := Lib.hid (grown_both' HGW.out hg1)
        clear hc1 hg1
        go_wp2_with fail
        go_ret2
        exact ⟨_, by rw [HE.out]; rfl, (by rw [HE.out]; intro h; cases h), HG1.out⟩
    · by_cases hlt : o + 4 < n
      · obtain ⟨b', off', z, hA, _, _, hz, hc⟩ := rd_int HR.out hlt
        injection hA with hA
        injection hA with hA1 hA2 _
        subst hA1
        subst hA2
        have hz1 := (hu.out z (List.mem_of_getElem? hz)).1
        have hz2 := (hu.out z (List.mem_of_getElem? hz)).2
        have ha := and127u hz1 hz2
        have hg : grpU m z 4 = bits .or .i64 m (z % 128 * 268435456) := by unfold grpU; rw [show (128 : Int) ^ 4 = 268435456 by rfl]
        by_cases h1 : z < 128
        · by_cases e : z = 0
          · have hg0 : grpU m z 4 = bits .or .i64 m 0 := by rw [hg, e]; rfl
            have g0 : (z == 0) = true := by simpa using e
            by_cases eM : 1000000000000 < grpU m z 4
            · have HE := Lib.hid (mRd_bad (f := 1) (k := 4) HM.out hz h1 (Or.inr eM))
              have gM : decide (bits .or .i64 m 0 ≤ (1000000000000 : Int)) = false := by rw [← hg0]; simp; omega
              subst e
              clear hz hg hg0 eM
              go_wp2_with fail
              refine (take_one g b off n cap (o + 4) _ (by omega) hcap HCW.out hlt).mono ?_
              rintro e w1 ⟨rfl, hc1, hg1⟩
              have HC1 := Lib.hid hc1
              have HG1 := Lib.hid (grown_both' HGW.out hg1)
              have c1 := cell_grown HG1.out (a := ⟨b, off + (o + 4), none⟩) hbg hc
              have hlb := World.block_lt_of_cell? w1 _ c1
              clear hc hc1 hg1
              go_wp2_with fail
              all_goals go_ret2
              all_goals exact ⟨_, by rw [HE.out]; rfl, (by rw [HE.out]; intro h; cases h), HG1.out⟩
            · have gM : decide (bits .or .i64 m 0 ≤ (1000000000000 : Int)) = true := by rw [← hg0]; simp; omega
              have HE := Lib.hid (mRd_bad (f := 1) (k := 4) HM.out hz h1 (Or.inl ⟨e, by omega⟩))
              have HG0 := Lib.hid hg0
              subst e
              clear hz hg hg0 eM
              go_wp2_with fail
              refine (take_one g b off n cap (o + 4) _ (by omega) hcap HCW.out hlt).mono ?_
              rintro e w1 ⟨rfl, hc1, hg1⟩
              have HC1 := Lib.hid hc1
              have HG1 := Lib.hid (grown_both' HGW.out hg1)
              have c1 := cell_grown HG1.out (a := ⟨b, off + (o + 4), none⟩) hbg hc
              have hlb := World.block_lt_of_cell? w1 _ c1
              clear hc hc1 hg1
              go_wp2_with fail
              all_goals go_ret2
              all_goals exact ⟨_, by rw [HE.out]; rfl, (by rw [HE.out]; intro h; cases h), HG1.out⟩
          · have g0 : (z == 0) = false := by simpa using e
            have g0' : (z != 0) = true := by simpa using e
            by_cases eM : 1000000000000 < grpU m z 4
            · have HE := Lib.hid (mRd_bad (f := 1) (k := 4) HM.out hz h1 (Or.inr eM))
              have gM : decide (bits .or .i64 m (z % 128 * 268435456) ≤ (1000000000000 : Int)) = false := by rw [← hg]; simp; omega
              clear hz hg eM e
              go_wp2_with fail
              refine (take_one g b off n cap (o + 4) _ (by omega) hcap HCW.out hlt).mono ?_
              rintro e w1 ⟨rfl, hc1, hg1⟩
              have HC1 := Lib.hid hc1
              have HG1 := Lib.hid (grown_both' HGW.out hg1)
              have c1 := cell_grown HG1.out (a := ⟨b, off + (o + 4), none⟩) hbg hc
              have hlb := World.block_lt_of_cell? w1 _ c1
              clear hc hc1 hg1
              go_wp2_with fail
              all_goals go_ret2
              all_goals exact ⟨_, by rw [HE.out]; rfl, (by rw [HE.out]; intro h; cases h), HG1.out⟩
            · have HE := Lib.hid (mRd_good (f := 1) (k := 4) HM.out hz h1 (by omega))
              have gM : decide (bits .or .i64 m (z % 128 * 268435456) ≤ (1000000000000 : Int)) = true := by rw [← hg]; simp; omega
              have HG := Lib.hid hg
              clear hz hg eM e
              go_wp2_with fail
              refine (take_one g b off n cap (o + 4) _ (by omega) hcap HCW.out hlt).mono ?_
              rintro e w1 ⟨rfl, hc1, hg1⟩
              have HC1 := Lib.hid hc1
              have HG1 := Lib.hid (grown_both' HGW.out hg1)
              have c1 := cell_grown HG1.out (a := ⟨b, off + (o + 4), none⟩) hbg hc
              have hlb := World.block_lt_of_cell? w1 _ c1
              clear hc hc1 hg1
              go_wp2_with fail
              all_goals go_ret2
              all_goals exact ⟨_, by rw [HE.out]; rfl, (by rw [HE.out]; exact fun _ => ⟨HG.out.symm, HC1.out⟩), HG1.out⟩
        · have HM2 := Lib.hid (mRd_more (f := 1) (k := 4) HM.out hz h1)
          have HG := Lib.hid hg
          clear hz hg
          go_wp2_with fail
          refine (take_one g b off n cap (o + 4) _ (by omega) hcap HCW.out hlt).mono ?_
          rintro e w1 ⟨rfl, hc1, hg1⟩
          have HC1 := Lib.hid hc1
          have HG1 := Lib.hid (grown_both' HGW.out hg1)
          have c1 := cell_grown HG1.out (a := ⟨b, off + (o + 4), none⟩) hbg hc
          have hlb := World.block_lt_of_cell? w1 _ c1
          clear hc hc1 hg1
          go_wp2_with fail
          go_roundw
          case rel => exact ⟨5, grpU m z 4, by omega, by go_num, by rw [HG.out], HM2.out, HC1.out, HG1.out⟩
          case measure => simp [intOf]
      · have HE := Lib.hid (mRd_none (f := 1) (k := 4) HM.out (by rw [HL.out]; omega))
        go_wp2_with fail
        refine (take_none g b off n cap (o + 4) _ (by omega) HCW.out (by omega) (by omega)).mono ?_
        rintro e w1 ⟨rfl, hc1, hg1⟩
        have HG1 := Lib.hid (grown_both' HGW.out hg1)
        clear hc1 hg1
        go_wp2_with fail
        go_ret2
        exact ⟨_, by rw [HE.out]; rfl, (by rw [HE.out]; intro h; cases h), HG1.out⟩
    · by_cases hlt : o + 5 < n
      · obtain ⟨b', off', z, hA, _, _, hz, hc⟩ := rd_int HR.out hlt
        injection hA with hA
        injection hA with hA1 hA2 _
        subst hA1
        subst hA2
        have hz1 := (hu.out z (List.mem_of_getElem? hz)).1
        have hz2 := (hu.out z (List.mem_of_getElem? hz)).2
        have ha := and127u hz1 hz2
        have hg : grpU m z 5 = bits .or .i64 m (z % 128 * 34359738368) := by unfold grpU; rw [show (128 : Int) ^ 5 = 34359738368 by rfl]
        by_cases h1 : z < 128
        · by_cases e : z = 0
          · have hg0 : grpU m z 5 = bits .or .i64 m 0 := by rw [hg, e]; rfl
            have g0 : (z == 0) = true := by simpa using e
            by_cases eM : 1000000000000 < grpU m z 5
            · have HE := Lib.hid (mRd_bad (f := 0) (k := 5) HM.out hz h1 (Or.inr eM))
              have gM : decide (bits .or .i64 m 0 ≤ (1000000000000 : Int)) = false := by rw [← hg0]; simp; omega
              subst e
              clear hz hg hg0 eM
              go_wp2_with fail
              refine (take_one g b off n cap (o + 5) _ (by omega) hcap HCW.out hlt).mono ?_
              rintro e w1 ⟨rfl, hc1, hg1⟩
              have HC1 := Lib.hid hc1
              have HG1 := Lib.hid (grown_both' HGW.out hg1)
              have c1 := cell_grown HG1.out (a := ⟨b, off + (o + 5), none⟩) hbg hc
              have hlb := World.block_lt_of_cell? w1 _ c1
              clear hc hc1 hg1
              go_wp2_with fail
              all_goals go_ret2
              all_goals exact ⟨_, by rw [HE.out]; rfl, (by rw [HE.out]; intro h; cases h), HG1.out⟩
            · have gM : decide (bits .or .i64 m 0 ≤ (1000000000000 : Int)) = true := by rw [← hg0]; simp; omega
              have HE := Lib.hid (mRd_bad (f := 0) (k := 5) HM.out hz h1 (Or.inl ⟨e, by omega⟩))
              have HG0 := Lib.hid hg0
              subst e
              clear hz hg hg0 eM
              go_wp2_with fail
              refine (take_one g b off n cap (o + 5) _ (by omega) hcap HCW.out hlt).mono ?_
              rintro e w1 ⟨rfl, hc1, hg1⟩
              have HC1 := Lib.hid hc1
              have HG1 := Lib.hid (grown_both' HGW.out hg1)
              have c1 := cell_grown HG1.out (a := ⟨b, off + (o + 5), none⟩) hbg hc
              have hlb := World.block_lt_of_cell? w1 _ c1
              clear hc hc1 hg1
              go_wp2_with fail
              all_goals go_ret2
              all_goals exact ⟨_, by rw [HE.out]; rfl, (by rw [HE.out]; intro h; cases h), HG1.out⟩
          · have g0 : (z == 0) = false := by simpa using e
            have g0' : (z != 0) = true := by simpa using e
            by_cases eM : 1000000000000 < grpU m z 5
            · have HE := Lib.hid (mRd_bad (f := 0) (k := 5) HM.out hz h1 (Or.inr eM))
              have gM : decide (bits .or .i64 m (z % 128 * 34359738368) ≤ (1000000000000 : Int)) = false := by rw [← hg]; simp; omega
              clear hz hg eM e
              go_wp2_with fail
              refine (take_one g b off n cap (o + 5) _ (by omega) hcap HCW.out hlt).mono ?_
              rintro e w1 ⟨rfl, hc1, hg1⟩
              have HC1 := Lib.hid hc1
              have HG1 := Lib.hid (grown_both' HGW.out hg1)
              have c1 := cell_grown HG1.out (a := ⟨b, off + (o + 5), none⟩) hbg hc
              have hlb := World.block_lt_of_cell? w1 _ c1
              clear hc hc1 hg1
              go_wp2_with fail
              all_goals go_ret2
              all_goals exact ⟨_, by rw [HE.out]; rfl, (by rw [HE.out]; intro h; cases h), HG1.out⟩
            · have HE := Lib.hid (mRd_good (f := 0) (k := 5) HM.out hz h1 (by omega))
              have gM : decide (bits .or .i64 m (z % 128 * 34359738368) ≤ (1000000000000 : Int)) = true := by rw [← hg]; simp; omega
              have HG := Lib.hid hg
              clear hz hg eM e
              go_wp2_with fail
              refine (take_one g b off n cap (o + 5) _ (by omega) hcap HCW.out hlt).mono ?_
              rintro e w1 ⟨rfl, hc1, hg1⟩
              have HC1 := Lib.hid hc1
              have HG1 := Lib.hid (grown_both' HGW.out hg1)
              have c1 := cell_grown HG1.out (a := ⟨b, off + (o + 5), none⟩) hbg hc
              have hlb := World.block_lt_of_cell? w1 _ c1
              clear hc hc1 hg1
              go_wp2_with fail
              all_goals go_ret2
              all_goals exact ⟨_, by rw [HE.out]; rfl, (by rw [HE.out]; exact fun _ => ⟨HG.out.symm, HC1.out⟩), HG1.out⟩
        · have HM2 := Lib.hid (mRd_more (f := 0) (k := 5) HM.out hz h1)
          have HG := Lib.hid hg
          clear hz hg
          go_wp2_with fail
          refine (take_one g b off n cap (o + 5) _ (by omega) hcap HCW.out hlt).mono ?_
          rintro e w1 ⟨rfl, hc1, hg1⟩
          have HC1 := Lib.hid hc1
          have HG1 := Lib.hid (grown_both' HGW.out hg1)
          have c1 := cell_grown HG1.out (a := ⟨b, off + (o + 5), none⟩) hbg hc
          have hlb := World.block_lt_of_cell? w1 _ c1
          clear hc hc1 hg1
          go_wp2_with fail
          go_roundw
          case rel => exact ⟨6, grpU m z 5, by omega, by go_num, by rw [HG.out], HM2.out, HC1.out, HG1.out⟩
          case measure => simp [intOf]
      · have HE := Lib.hid (mRd_none (f := 0) (k := 5) HM.out (by rw [HL.out]; omega))
        go_wp2_with fail
        refine (take_none g b off n cap (o + 5) _ (by omega) HCW.out (by omega) (by omega)).mono ?_
        rintro e w1 ⟨rfl, hc1, hg1⟩
        have HG1 := Lib.hid (grown_both' HGW.out hg1)
        clear hc1 hg1
        go_wp2_with fail
        go_ret2
        exact ⟨_, by rw [HE.out]; rfl, (by rw [HE.out]; intro h; cases h), HG1.out⟩
    · have HE := Lib.hid (show R = noU from HM.out.symm)
      go_wp2_with fail
      go_ret2
      exact ⟨_, by rw [HE.out]; rfl, (by rw [HE.out]; intro h; cases h), HGW.out⟩
end Go.Proofs.Ytblmdjdaiilmmaa
