/- DecodeInts of the model. -/
import Derived.Test.YthipflbjnnplaabDeJ
namespace Go.Proofs.Ythipflbjnnplaab
open Go Go.ChangeShapes Go.WideShapes Go.ChangeAt Go.RowKit Go.Lib
set_option linter.unusedVariables false
set_option linter.unusedSimpArgs false
set_option maxRecDepth 100000
set_option maxHeartbeats 8000000 in
theorem spec_DecodeInts (l0 : List Int) (A0 : Option Addr) (n0 c0 lo0 hi0 : Nat) (a1 a2 : Int) (w : World) (h0 : n0 ≤ 1048576) (r0 : Rd w lo0 hi0 1 A0 n0 (u8s l0)) (p0 : n0 ≤ c0) (b0 : Hid (U8s l0)) (w1 : (Lit.int .i64 a1).wf = true) (w2 : (Lit.int .i64 a2).wf = true) :
    Calls Try.prog 57 #[.slice A0 n0 c0, .int .i64 a1, .int .i64 a2] w (MakesVV 3 1 (mDI l0 a1 a2).xs.length (i64s (mDI l0 a1 a2).xs) (.int .i64 (mDI l0 a1 a2).to) (.bool (mDI l0 a1 a2).ok) w) := by
  have HL := Lib.hid (show l0.length = n0 by simpa using r0.1)
  have HR := Lib.hid r0
  clear r0
  by_cases hm : inR a2 0 100 = true
  · by_cases hin : inR a1 0 n0 = true
    · have CI := Lib.hid (fun W => (by have := spec_in a2 0 100 W; rwa [hm] at this : Calls Try.prog 70 #[.int .i64 a2, .int .i64 0, .int .i64 100] W fun e w' => e = .returned (.bool true) ∧ W = w'))
      have CJ := Lib.hid (fun W => (by have := spec_in a1 0 n0 W; rwa [hin] at this : Calls Try.prog 70 #[.int .i64 a1, .int .i64 0, .int .i64 n0] W fun e w' => e = .returned (.bool true) ∧ W = w'))
      obtain ⟨o, rfl⟩ := Int.eq_ofNat_of_zero_le (inR_true.1 hin).1
      obtain ⟨cnt, rfl⟩ := Int.eq_ofNat_of_zero_le (inR_true.1 hm).1
      have hon : o ≤ n0 := by have := (inR_true.1 hin).2; omega
      have hcnt : cnt ≤ 100 := by have := (inR_true.1 hm).2; omega
      have e : mDI l0 (o : Int) (cnt : Int) = mDec l0 cnt o [] := by unfold mDI; rw [HL.out, if_pos ⟨hm, hin⟩]; rfl
      rw [e]
      clear e
      generalize hD : mDec l0 cnt (o : Int) [] = D
      have HD := Lib.hid hD
      clear hD hin hm w1 w2
      go_enter Try.func57, Try.ntmps57
      go_wp2_with (go_at_call 70; (first | (with_reducible refine Calls.mono (CI.out _) ?_) | (with_reducible refine Calls.mono (CJ.out _) ?_)); rintro e w1 ⟨rfl, rfl⟩)
      go_loopg [1, 9, 10] cnt (fun gg a v i wr => ∃ (j p : Nat) (acc : List Int), j ≤ cnt ∧ cnt - j ≤ gg ∧ a = .int .i64 p ∧ i = .int .i64 j ∧ p ≤ n0 ∧ Hid (wr.ownsRow w.heap.size 3 1 v j (i64s acc)) ∧ Hid (acc.length = j) ∧ Hid (mDec l0 (cnt - j) p acc = D) ∧ Hid (Below w.heap.size w wr))
      case atStart => exact ⟨0, o, [], Nat.zero_le _, by omega, rfl, rfl, hon, Lib.hid (by simpa using World.ownsRow_lit (base := w.heap.size) (e := 3) (size := 1) w #[] 0 (Nat.le_refl _) (by unfold maxLen; omega) rfl), Lib.hid rfl, HD, Lib.hid ((Below.refl _ _).alloc (Nat.le_refl _) _)⟩
      case round =>
        obtain ⟨j, p, acc, hj, hgg, rfl, rfl, hp, HOr, HA, HDr, HB⟩ := hrel
        by_cases hlt : j < cnt
        · have HU := Lib.hid (spec_rdu l0 A0 n0 c0 lo0 hi0 p wr (by omega) (HR.out.new HB.out) b0)
          have hM : mReadU l0 p = mRd l0 p 6 0 0 := by unfold mReadU; rw [if_neg (by omega)]; rfl
          have hF := mReadU_fit l0 p
          have e1 : cnt - j = (cnt - (j + 1)) + 1 := by omega
          have hS := HDr.out
          rw [e1] at hS
          have hok := mDec_ok (m := cnt - (j + 1)) (acc := acc) hM
          have hno := mDec_no (m := cnt - (j + 1)) (acc := acc) hM
          rw [hS] at hok hno
          rw [hM] at hF
          clear hM hS e1
          generalize mRd l0 p 6 0 0 = R at HU hok hno hF
          obtain ⟨rn, rt, rok⟩ := R
          cases rok with
          | false =>
            have HE := Lib.hid (hno rfl)
            clear hok hno hF
            go_wp2_with fail
            refine HU.out.mono ?_
            rintro e w3 ⟨rfl, rfl⟩
            go_wp2_with fail
            go_ret3
            exact ⟨_, _, by rw [HE.out]; rfl, by rw [HE.out]; exact ⟨rfl, fun h => absurd h (by simp [noD])⟩, HB.out.alloc HB.out.size _⟩
          | true =>
            have HE := Lib.hid (hok rfl)
            obtain ⟨f1, f2⟩ := hF rfl
            dsimp only at f1 f2 HE
            obtain ⟨k, rfl⟩ := Int.eq_ofNat_of_zero_le f1
            have hkn : k ≤ n0 := by have := HL.out; omega
            have HS1 := Lib.hid HB.out.size
            clear hok hno hF f1 f2
            go_wp2_with fail
            refine HU.out.mono ?_
            rintro e w3 ⟨rfl, rfl⟩
            go_wp2_with (at_builtin; refine wp_app_lit rfl _ _ _ rfl w.heap.size 3 (.int .i64 0) 1 8 Try.underlying82 info_intD rfl (by decide) _ _ _ rfl HOr.out #[.int .i64 rn] 1 1 _ rfl (by simp) rfl (one_intD _) (by unfold maxLen; omega) (by omega) (by have := HS1.out; first | omega | (simp <;> omega)) ?_; intro v2 w4 ho2 hb2)
            have HO2 := Lib.hid (show w4.ownsRow w.heap.size 3 1 v2 (j + 1) (i64s (acc ++ [rn])) by simpa using ho2)
            have HB2 := Lib.hid (HB.out.trans hb2)
            clear ho2 hb2
            go_wp2_with fail
            go_roundg (cnt - (j + 1))
            case measure => omega
            case rel => exact ⟨j + 1, k, acc ++ [rn], by omega, by omega, rfl, by go_num, hkn, HO2, Lib.hid (by simp [HA.out]), Lib.hid HE.out.symm, HB2⟩
        · obtain rfl : j = cnt := by omega
          have HE := Lib.hid (show D = ⟨acc, p, true⟩ by have := HDr.out; rw [Nat.sub_self] at this; exact this.symm)
          obtain ⟨A1, c1, hv1, hF1⟩ := fr_of_own HOr.out
          have HF1 := Lib.hid hF1
          have HV1 := Lib.hid hv1
          clear hF1 hv1
          go_wp2_with fail
          go_ret3
          rw [HV1.out, HE.out]
          exact ⟨A1, c1, by rw [HA.out]; rfl, by rw [HA.out]; exact HF1.out, HB.out⟩
    · have HE := Lib.hid (show mDI l0 a1 a2 = noD by unfold mDI; rw [HL.out, if_neg (fun h => hin h.2)])
      have hin : inR a1 0 n0 = false := by simpa using hin
      have CI := Lib.hid (fun W => (by have := spec_in a2 0 100 W; rwa [hm] at this : Calls Try.prog 70 #[.int .i64 a2, .int .i64 0, .int .i64 100] W fun e w' => e = .returned (.bool true) ∧ W = w'))
      have CJ := Lib.hid (fun W => (by have := spec_in a1 0 n0 W; rwa [hin] at this : Calls Try.prog 70 #[.int .i64 a1, .int .i64 0, .int .i64 n0] W fun e w' => e = .returned (.bool false) ∧ W = w'))
      clear hin hm
      go_enter Try.func57, Try.ntmps57
      go_wp2_with (go_at_call 70; (first | (with_reducible refine Calls.mono (CI.out _) ?_) | (with_reducible refine Calls.mono (CJ.out _) ?_)); rintro e w1 ⟨rfl, rfl⟩)
      go_ret3
      exact ⟨_, _, by rw [HE.out]; rfl, by rw [HE.out]; exact ⟨rfl, fun h => absurd h (by simp [noD])⟩, (Below.refl _ _).alloc (Nat.le_refl _) _⟩
  · have HE := Lib.hid (show mDI l0 a1 a2 = noD by unfold mDI; rw [if_neg (fun h => hm h.1)])
    have hm : inR a2 0 100 = false := by simpa using hm
    have CI := Lib.hid (fun W => (by have := spec_in a2 0 100 W; rwa [hm] at this : Calls Try.prog 70 #[.int .i64 a2, .int .i64 0, .int .i64 100] W fun e w' => e = .returned (.bool false) ∧ W = w'))
    clear hm
    go_enter Try.func57, Try.ntmps57
    go_wp2_with (go_at_call 70; refine Calls.mono (CI.out _) ?_; rintro e w1 ⟨rfl, rfl⟩)
    go_ret3
    exact ⟨_, _, by rw [HE.out]; rfl, by rw [HE.out]; exact ⟨rfl, fun h => absurd h (by simp [noD])⟩, (Below.refl _ _).alloc (Nat.le_refl _) _⟩
end Go.Proofs.Ythipflbjnnplaab
