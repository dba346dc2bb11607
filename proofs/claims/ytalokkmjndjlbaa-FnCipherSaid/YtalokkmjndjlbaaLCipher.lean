/- The law FnCipher answers true for every argument, and leaves each argument as it was. No condition. -/
import Derived.Test.YtalokkmjndjlbaaFrame
import Derived.Test.YtalokkmjndjlbaaCiph
namespace Go.Proofs.Ytalokkmjndjlbaa.fnCipher
open Go Go.ChangeShapes Go.WideShapes Go.ChangeAt Go.RowKit Go.Lib
open Go.ChangeMaps (open_string)
set_option linter.unusedVariables false

theorem walk (A0 : Option Addr) (n0 c0 : Nat) (w0 : n0 ≤ maxLen) (w : World) (m0 : BytesAt w w.heap.size A0 n0) :
    Calls Try.prog 3 #[.slice A0 n0 c0] w fun e w' => e = .returned (.bool true) ∧ Below w.heap.size w w' := by
  have hn0 : n0 ≤ 9223372036854775807 := w0
  by_cases h : n0 ≤ 1048576
  · have g : decide ((1048576 : Int) < n0) = false := by simp; omega
    have M0 := Lib.hid m0
    clear m0
    go_enter Try.func3, Try.ntmps3
    go_wp2_with fail
    refine (big_any n0 c0 A0 _ w0).mono ?_
    rintro e w1 ⟨rfl, rfl⟩
    rw [g]
    go_wp2_with fail
    refine (drawEnc_any n0 c0 A0 _ (by omega) M0.out).mono ?_
    rintro e w1 ⟨k, A, c, l, wk, rfl, hl, hu, hr, hb⟩
    have WK := Lib.hid wk
    have HU := Lib.hid hu
    have HU1 := Lib.hid (mCry_u8 k 1 l)
    have HU2 := Lib.hid (mCry_u8 k (-1) l)
    have HR := Lib.hid hr
    have HB := Lib.hid hb
    have I1 := Lib.hid (show decide (mCry k (-1) (mCry k 1 l) = l) = true by rw [decide_eq_true_iff]; exact mCry_inv k 1 l hu)
    have I2 := Lib.hid (show decide (mCry k 1 (mCry k (-1) l) = l) = true by rw [decide_eq_true_iff]; exact mCry_inv k (-1) l hu)
    clear wk hu hr hb
    go_wp2_with fail
    refine (enc_n k l A l.length c _ _ _ WK.out (by omega) HR.out HU).mono ?_
    rintro e w2 ⟨A2, c2, rfl, hF2, hb2⟩
    have HF2 := Lib.hid hF2
    have HB2 := Lib.hid hb2
    clear hF2 hb2
    go_wp2_with fail
    refine (dec_n k (mCry k 1 l) A2 l.length c2 _ _ _ WK.out (by omega) HF2.out.rd HU1).mono ?_
    rintro e w3 ⟨A3, c3, rfl, hF3, hb3⟩
    have HF3 := Lib.hid hF3
    have HB3 := Lib.hid (HB2.out.trans (hb3.mono HB2.out.size))
    clear hF3 hb3
    go_wp2_with fail
    refine (sb_byte (mCry k (-1) (mCry k 1 l)) l A3 A l.length l.length c3 c _ _ _ _ _ (by omega) (by omega) HF3.out.rd (HR.out.new HB3.out)).mono ?_
    rintro e w4 ⟨rfl, d4, rfl⟩
    rw [I1.out]
    have HB4 := Lib.hid (below_dN HB3.out d4)
    go_wp2_with fail
    refine (dec_n k l A l.length c _ _ _ WK.out (by omega) (HR.out.new HB4.out) HU).mono ?_
    rintro e w5 ⟨A5, c5, rfl, hF5, hb5⟩
    have HF5 := Lib.hid hF5
    have HB5 := Lib.hid (HB4.out.trans (hb5.mono HB4.out.size))
    clear hF5 hb5
    go_wp2_with fail
    refine (enc_n k (mCry k (-1) l) A5 l.length c5 _ _ _ WK.out (by omega) HF5.out.rd HU2).mono ?_
    rintro e w6 ⟨A6, c6, rfl, hF6, hb6⟩
    have HF6 := Lib.hid hF6
    have HB6 := Lib.hid (HB5.out.trans (hb6.mono HB5.out.size))
    clear hF6 hb6
    go_wp2_with fail
    refine (sb_byte (mCry k 1 (mCry k (-1) l)) l A6 A l.length l.length c6 c _ _ _ _ _ (by omega) (by omega) HF6.out.rd (HR.out.new HB6.out)).mono ?_
    rintro e w7 ⟨rfl, d7, rfl⟩
    rw [I2.out]
    have HB7 := Lib.hid (below_dN HB6.out d7)
    go_wp2_with fail
    refine (enc_n k l A l.length c _ _ _ WK.out (by omega) (HR.out.new HB7.out) HU).mono ?_
    rintro e w8 ⟨A8, c8, rfl, hF8, hb8⟩
    have HB8 := Lib.hid (HB7.out.trans (hb8.mono HB7.out.size))
    clear hF8 hb8
    go_wp2_with fail
    go_ret
    exact ⟨by first | rfl | simp, HB.out.trans (HB8.out.mono HB.out.size)⟩
  · have g : decide ((1048576 : Int) < n0) = true := by simp; omega
    go_enter Try.func3, Try.ntmps3
    go_wp2_with fail
    refine (big_any n0 c0 A0 _ w0).mono ?_
    rintro e w1 ⟨rfl, rfl⟩
    rw [g]
    go_wp2_with fail
    go_ret
    exact ⟨rfl, Below.refl _ _⟩

set_option maxRecDepth 100000 in
theorem lifted (os : Os) (started : os.Started) (H : Type) (enc : TypeId × Value → H) :
    ReturnsInHanded {} Try.checked os 3 .any (Rows.fnCipherSpec.pre6 enc Try.prog Try.f3 Rows.fnCipherRow.domain false) (Rows.fnCipherSpec.post enc Try.prog Try.f3 false true false false) := by
  refine law_lifted Try.func3 (by kernel_rfl) rfl rfl (by kernel_rfl) os started
    (ChangeSpec.witness6 (enc := enc) (C := Try.checked) false ⟨#[], #[.slice none 0 0], []⟩ 8 (by kernel_rfl) (by kernel_rfl) (by kernel_rfl) (by kernel_rfl)) ?_
  intro W base args ds p hval hA hlt
  rw [Try.params3] at hA hval
  obtain ⟨v0, vs0, d0, ds0, p0, q0, hargs, rfl, rfl, h0, r0⟩ := trodAll_cons hA
  obtain ⟨rfl, rfl, rfl⟩ := trodAll_nil r0
  obtain rfl : args = #[v0] := by cases args; simp_all
  obtain ⟨A0, n0, c0, rfl, w0, m0⟩ := open_bytes (hval 0 22 v0 rfl rfl) h0 (fun x hx => hlt x (by simp [hx]))
  exact ⟨⟨rfl, rfl, rfl⟩, walk A0 n0 c0 w0 W m0⟩

theorem over : Rows.fnCipherRow.holds Try.pinned (OpenSpec.ofChange Rows.fnCipherSpec) :=
  OpenClaim.holds_of_wide 3 Try.f3 rfl rfl rfl rfl rfl rfl rfl ⟨rfl, rfl, rfl, rfl, rfl⟩ rfl rfl rfl rfl rfl (by kernel_rfl) Try.func3 (by kernel_rfl)
    (of_decide_eq_true (by kernel_rfl)) (by unfold Func.isWrapper; first | (rw [if_pos (by decide +kernel)]; kernel_rfl) | (rw [if_neg (by decide +kernel)]; exact ⟨rfl, rfl⟩))
    (fun os started H enc _ => lifted os started H enc)

theorem proved : Rows.FnCipherSaid := over
#print axioms proved
end Go.Proofs.Ytalokkmjndjlbaa.fnCipher
