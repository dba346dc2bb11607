/- The law FnByteStrings answers true for every argument, and leaves each argument as it was. No condition. -/
import Derived.Test.YtblmdjdaiilmmaaFrame
import Derived.Test.YtblmdjdaiilmmaaBsA
import Derived.Test.YtblmdjdaiilmmaaUvB
import Derived.Test.YtblmdjdaiilmmaaRdD
import Derived.Test.YtblmdjdaiilmmaaDeJ
namespace Go.Proofs.Ytblmdjdaiilmmaa.fnByteStrings
open Go Go.ChangeShapes Go.WideShapes Go.ChangeAt Go.RowKit Go.Lib
open Go.ChangeMaps (open_string)
set_option linter.unusedVariables false
set_option linter.unusedSimpArgs false
set_option maxRecDepth 100000
theorem mEnc_u8s (l : List Int) : U8s (mEnc l) := by
  have h : ∀ (l b : List Int), U8s b → U8s (l.foldl mAppU b) := by
    intro l
    induction l with
    | nil => intro b hb; exact hb
    | cons x l ih => intro b hb; exact ih _ (mAppU_u8 hb x)
  exact h l [] (fun _ h => by cases h)
set_option maxHeartbeats 16000000 in
theorem walk (A0 : Option Addr) (n0 c0 : Nat) (w0 : n0 ≤ maxLen) (w : World) (m0 : BytesAt w w.heap.size A0 n0) :
    Calls Try.prog 3 #[.slice A0 n0 c0] w fun e w' => e = .returned (.bool true) ∧ Below w.heap.size w w' := by
  have hn0 : n0 ≤ 9223372036854775807 := w0
  by_cases h : n0 ≤ 1048576
  · have g : decide ((1048576 : Int) < n0) = false := by simp; omega
    obtain ⟨a, ha, CAt⟩ := at_det n0 c0 A0 w h m0
    replace CAt := Lib.hid CAt
    have M0 := Lib.hid m0
    clear m0
    go_enter Try.func3, Try.ntmps3
    go_wp2_with fail
    refine (big_any n0 c0 A0 _ w0).mono ?_
    rintro e w1 ⟨rfl, rfl⟩
    rw [g]
    go_wp2_with fail
    refine (drawAB_any n0 c0 A0 _ (by omega) M0.out).mono ?_
    rintro e w1 ⟨A, c, l, A2, c2, d, rfl, hl, hcp, hu, hr, hl2, hcp2, hu2, hr2, hb⟩
    have HB := Lib.hid hb
    have HD := Lib.hid hr2
    have CA := impl_AppendBytes l A l.length c _ _ d A2 d.length c2 _ _ w1 (by omega) hr (Lib.hid hu) (by omega) hr2 (Lib.hid hu2)
    obtain ⟨b1, b2, b3⟩ := mRB_back l d (by omega)
    have b4 := mRB_short l d (by omega)
    have hxl := mAppB_len l d
    have HUx := Lib.hid (show U8s (mAppB l d) from fun z hz => by
      unfold mAppB at hz
      rcases List.mem_append.1 hz with hz | hz
      · exact mAppU_u8 hu _ z hz
      · exact hu2 z hz)
    have WL := Lib.hid (show (Lit.int .i64 (l.length : Int)).wf = true from WalkArith.wf_i64 (by constructor <;> omega))
    have WD := Lib.hid (show (Lit.int .i64 (d.length : Int)).wf = true from WalkArith.wf_i64 (by constructor <;> omega))
    have WE := Lib.hid (show (Lit.int .i64 ((d.length : Int) - 1)).wf = true from WalkArith.wf_i64 (by constructor <;> omega))
    have hwd : IntKind.i64.wrap ((d.length : Int) - 1) = (d.length : Int) - 1 := IntWalk.i64_in _ (by omega)
    have b5 : mRBl (mAppB l d) (l.length : Int) ((d.length : Int) - 1) = [] := by unfold mRBl; rw [b4]; rfl
    have b6 : mRBto (mAppB l d) (l.length : Int) ((d.length : Int) - 1) = 0 := by unfold mRBto; rw [b4]; rfl
    have CR1 := fun (W : World) (A3 : Option Addr) (c3 lo hi : Nat) (h : Rd W lo hi 1 A3 (mAppB l d).length (u8s (mAppB l d))) (hc : (mAppB l d).length ≤ c3) => impl_ReadBytesC (mAppB l d) A3 (mAppB l d).length c3 lo hi (l.length : Int) (d.length : Int) W (by omega) h hc HUx WL.out WD.out
    have CR2 := fun (W : World) (A3 : Option Addr) (c3 lo hi : Nat) (h : Rd W lo hi 1 A3 (mAppB l d).length (u8s (mAppB l d))) (hc : (mAppB l d).length ≤ c3) => impl_ReadBytesC (mAppB l d) A3 (mAppB l d).length c3 lo hi (l.length : Int) ((d.length : Int) - 1) W (by omega) h hc HUx WL.out WE.out
    rw [b1, b2, b3] at CR1
    rw [b4, b5, b6] at CR2
    generalize mAppB l d = x at CA CR1 CR2 hxl
    replace CA := Lib.hid CA
    replace CR1 := Lib.hid CR1
    replace CR2 := Lib.hid CR2
    clear b1 b2 b3 b4 b5 b6 hu hu2 hr hr2 hb HUx WL WD WE hxl
    go_wp2_with fail
    refine CA.out.mono ?_
    rintro e w2 ⟨A3, c3, rfl, hF, hb2⟩
    have HX := Lib.hid hF.rd
    have HC := Lib.hid hF.cap
    have HB2 := Lib.hid (below_trans HB.out hb2 (Nat.le_refl _))
    have HD2 := Lib.hid (HD.out.new hb2)
    clear hF hb2
    go_wp2_with fail
    refine (CR1.out _ _ _ _ _ HX.out HC.out).mono ?_
    rintro e w3 ⟨A4, c4, rfl, hF, hb3⟩
    have HY := Lib.hid hF.rd
    have HX3 := Lib.hid (HX.out.new hb3)
    have HD3 := Lib.hid (HD2.out.new hb3)
    have HB3 := Lib.hid (below_trans HB2.out hb3 (Nat.le_refl _))
    clear hF hb3
    go_wp2_with fail
    refine (CR2.out _ _ _ _ _ HX3.out HC.out).mono ?_
    rintro e w4 ⟨A5, c5, rfl, hF, hb4⟩
    have HY4 := Lib.hid (HY.out.new hb4)
    have HD4 := Lib.hid (HD3.out.new hb4)
    have HB4 := Lib.hid (below_trans HB3.out hb4 (Nat.le_refl _))
    clear hF hb4
    go_wp2_with fail
    refine ((sb_byte d d A4 A2 d.length d.length c4 c2 _ _ _ _ _ (by omega) (by omega) HY4.out HD4.out).mono (fun e w' hq => show Says (.bool true) w4 e w' from by
      obtain ⟨rfl, d4, rfl⟩ := hq
      exact ⟨by simp, below_dN (Below.refl _ _) d4⟩)).mono ?_
    rintro e w5 ⟨rfl, hb5⟩
    have HB5 := Lib.hid (below_trans HB4.out hb5 (Nat.le_refl _))
    clear hb5
    clear HY4 HD4 HB4 HY HX3 HD3 HB3 HX HC HD2 HB2 HD HB CA CR1 CR2
    obtain ⟨m, hm⟩ : ∃ m : Nat, a 0 % 6 = (m : Int) := Int.eq_ofNat_of_zero_le (by omega)
    have hm5 : m ≤ 5 := by omega
    have hmt : Int.tmod (a 0) 6 = (m : Int) := by rw [Int.tmod_eq_emod_of_nonneg (ha 0).1]; exact hm
    have HA := Lib.hid ha
    clear ha hm
    generalize ha0 : a 0 = y0 at hmt
    have HA0 := Lib.hid ha0
    clear ha0
    go_wp2_with fail
    go_loopg [12, 13] m (fun gg v i wr => ∃ (k : Nat) (q : List Nat), k ≤ m ∧ m - k ≤ gg ∧ q.length = k ∧ i = .int .i64 k ∧ Hid (∀ z ∈ q, z ≤ 16581375) ∧ Hid (wr.ownsRow w5.heap.size 3 1 v k (i64s (q.map fun (z : Nat) => (z : Int)))) ∧ Hid (Below w.heap.size w wr) ∧ Hid (w5.heap.size ≤ wr.heap.size))
    case atStart => exact ⟨0, [], Nat.zero_le _, by omega, rfl, rfl, Lib.hid (fun _ h => by cases h), Lib.hid (World.ownsRow_lit w5 #[] 0 (Nat.le_refl _) (by unfold maxLen; omega) rfl), Lib.hid (HB5.out.alloc HB5.out.size _), Lib.hid (by simp)⟩
    case round =>
      obtain ⟨k, q, hk, hg, hq, rfl, HQ, HO, HBr, HSr⟩ := hrel
      have hkm : ∀ j : Nat, j ≤ 3 → IntKind.i64.wrap ((k : Int) + j) = (k : Int) + j := fun j hj => IntWalk.i64_in _ (by omega)
      have C0 := Lib.hid (show Calls Try.prog 20 #[.slice A0 n0 c0, .int .i64 0] wr (Says (.int .i64 y0) wr) by have h := CAt.out wr 0 HBr.out (by omega); rw [HA0.out] at h; exact h)
      have hmm : ∀ x y : Int, 0 ≤ x → x ≤ 255 → 0 ≤ y → y ≤ 255 → 0 ≤ x * y ∧ x * y ≤ 65025 := fun x y h1 h2 h3 h4 => ⟨Int.mul_nonneg h1 h3, by
        have := Int.mul_le_mul h2 h4 h3 (by omega); omega⟩
      have hmm3 : ∀ x y z : Int, 0 ≤ x → x ≤ 255 → 0 ≤ y → y ≤ 255 → 0 ≤ z → z ≤ 255 → 0 ≤ x * y * z ∧ x * y * z ≤ 16581375 := fun x y z h1 h2 h3 h4 h5 h6 => by
        obtain ⟨g1, g2⟩ := hmm x y h1 h2 h3 h4
        exact ⟨Int.mul_nonneg g1 h5, by have := Int.mul_le_mul g2 h6 h5 (by omega); omega⟩
      have C1 := Lib.hid (fun (W : World) (hb : Below w.heap.size w W) => CAt.out W (k + 1) hb (by omega))
      have C2 := Lib.hid (fun (W : World) (hb : Below w.heap.size w W) => CAt.out W (k + 2) hb (by omega))
      have C3 := Lib.hid (fun (W : World) (hb : Below w.heap.size w W) => CAt.out W (k + 3) hb (by omega))
      obtain ⟨p1, p2⟩ := HA.out (k + 1)
      obtain ⟨q1, q2⟩ := HA.out (k + 2)
      obtain ⟨r1, r2⟩ := HA.out (k + 3)
      generalize a (k + 1) = u1 at C1 p1 p2
      generalize a (k + 2) = u2 at C2 q1 q2
      generalize a (k + 3) = u3 at C3 r1 r2
      simp only [Int.natCast_add, Int.natCast_one, Int.cast_ofNat_Int] at C1 C2 C3
      have e1 : IntKind.i64.wrap ((k : Int) + 1) = (k : Int) + 1 := IntWalk.i64_in _ (by omega)
      have e2 : IntKind.i64.wrap ((k : Int) + 2) = (k : Int) + 2 := IntWalk.i64_in _ (by omega)
      have e3 : IntKind.i64.wrap ((k : Int) + 3) = (k : Int) + 3 := IntWalk.i64_in _ (by omega)
      obtain ⟨f1, f2⟩ := hmm u1 u2 p1 p2 q1 q2
      obtain ⟨f3, f4⟩ := hmm3 u1 u2 u3 p1 p2 q1 q2 r1 r2
      have e4 : IntKind.i64.wrap (u1 * u2) = u1 * u2 := IntWalk.i64_in _ (by omega)
      have e5 : IntKind.i64.wrap (u1 * u2 * u3) = u1 * u2 * u3 := IntWalk.i64_in _ (by omega)
      obtain ⟨pr, hpr⟩ := Int.eq_ofNat_of_zero_le f3
      have hpr2 : pr ≤ 16581375 := by omega
      clear hmm hmm3 f1 f2 f3 f4 p1 p2 q1 q2 r1 r2
      by_cases hlt : k < m
      · have E4 := Lib.hid e4
        have E5 := Lib.hid e5
        have HPR := Lib.hid hpr
        clear e4 e5 hpr
        go_wp2_with fail
        refine C0.out.mono ?_
        rintro e v1 ⟨rfl, hv1⟩
        have HV1 := Lib.hid (below_trans HBr.out hv1 (Nat.le_refl _))
        have HO1 := Lib.hid (own_newer HO.out hv1)
        have HS1 := Lib.hid (Nat.le_trans HSr.out hv1.size)
        clear hv1
        go_wp2_with fail
        refine (C1.out _ HV1.out).mono ?_
        rintro e v2 ⟨rfl, hv2⟩
        have HV2 := Lib.hid (below_trans HV1.out hv2 (Nat.le_refl _))
        have HO2 := Lib.hid (own_newer HO1.out hv2)
        have HS2 := Lib.hid (Nat.le_trans HS1.out hv2.size)
        clear hv2
        go_wp2_with fail
        refine (C2.out _ HV2.out).mono ?_
        rintro e v3 ⟨rfl, hv3⟩
        have HV3 := Lib.hid (below_trans HV2.out hv3 (Nat.le_refl _))
        have HO3 := Lib.hid (own_newer HO2.out hv3)
        have HS3 := Lib.hid (Nat.le_trans HS2.out hv3.size)
        clear hv3
        have e4 := E4.out
        go_wp2_with fail
        clear e4
        refine (C3.out _ HV3.out).mono ?_
        rintro e v4 ⟨rfl, hv4⟩
        have HV4 := Lib.hid (below_trans HV3.out hv4 (Nat.le_refl _))
        have HO4 := Lib.hid (own_newer HO3.out hv4)
        have HS4 := Lib.hid (Nat.le_trans HS3.out hv4.size)
        clear hv4
        have e5 : IntKind.i64.wrap (u1 * u2 * u3) = (pr : Int) := by rw [E5.out]; exact HPR.out
        go_wp2_with (at_builtin; refine wp_app_lit rfl _ _ _ rfl w5.heap.size 3 (.int .i64 0) 1 8 Try.underlying30 info_int rfl (by decide) _ _ _ rfl HO4.out #[.int .i64 (pr : Int)] 1 1 _ rfl (by simp) rfl (one_int _) (by unfold maxLen; omega) (by omega) HS4.out ?_; intro z1 v5 ho1 hb1)
        have HO5 := Lib.hid (show v5.ownsRow w5.heap.size 3 1 z1 (k + 1) (i64s ((q ++ [pr]).map fun (z : Nat) => (z : Int))) by simpa [i64s] using ho1)
        have HV5 := Lib.hid (HV4.out.trans (hb1.mono HB5.out.size))
        have HS5 := Lib.hid (Nat.le_trans HS4.out hb1.size)
        clear ho1 hb1
        go_wp2
        go_roundg (m - (k + 1))
        case rel => exact ⟨k + 1, q ++ [pr], by omega, by omega, by simp [hq], by go_num, Lib.hid (fun z hz => by
          rcases List.mem_append.1 hz with h1 | h1
          · exact HQ.out z h1
          · simp only [List.mem_singleton] at h1; omega), HO5.out, HV5.out, HS5.out⟩
        case measure => omega
      · obtain rfl : k = m := by omega
        clear C1 C2 C3 e1 e2 e3 e4 e5 hpr hpr2 hkm
        obtain ⟨Aq, cq, rfl, hF⟩ := fr_of_own HO.out
        have HF := Lib.hid hF.rd
        clear hF HO
        have hq1 : ∀ v ∈ q, v ≤ 1000000000000 := fun v hv => by have := HQ.out v hv; omega
        obtain ⟨d1, d2⟩ := mDI_back q hq1 (by omega)
        have hI := Lib.hid (show I64s (q.map fun (z : Nat) => (z : Int)) from fun z hz => by
          obtain ⟨y, hy, rfl⟩ := List.mem_map.1 hz
          have := hq1 y hy
          omega)
        have hel := mEnc_len (q.map fun (z : Nat) => (z : Int))
        have hls : (q.map fun (z : Nat) => (z : Int)).length = k := by simpa using hq
        have HUe := Lib.hid (mEnc_u8s (q.map fun (z : Nat) => (z : Int)))
        rw [hq] at d1 d2
        have W0 := Lib.hid (show (Lit.int .i64 (0 : Int)).wf = true from WalkArith.wf_i64 (by constructor <;> omega))
        have WL := Lib.hid (show (Lit.int .i64 (k : Int)).wf = true from WalkArith.wf_i64 (by constructor <;> omega))
        have WM := Lib.hid (show (Lit.int .i64 ((k : Int) + 1)).wf = true from WalkArith.wf_i64 (by constructor <;> omega))
        have CE := fun (W : World) (lo hi : Nat) (h : Rd W lo hi 1 Aq k (i64s (q.map fun (z : Nat) => (z : Int)))) => impl_EncodeInts (q.map fun (z : Nat) => (z : Int)) Aq k cq lo hi W (by omega) h hI
        have CD1 := fun (W : World) (A3 : Option Addr) (c3 lo hi : Nat) (h : Rd W lo hi 1 A3 (mEnc (q.map fun (z : Nat) => (z : Int))).length (u8s (mEnc (q.map fun (z : Nat) => (z : Int))))) (hc : (mEnc (q.map fun (z : Nat) => (z : Int))).length ≤ c3) => impl_DecodeIntsC (mEnc (q.map fun (z : Nat) => (z : Int))) A3 _ c3 lo hi 0 (k : Int) W (by omega) h hc HUe W0.out WL.out
        have CD2 := fun (W : World) (A3 : Option Addr) (c3 lo hi : Nat) (h : Rd W lo hi 1 A3 (mEnc (q.map fun (z : Nat) => (z : Int))).length (u8s (mEnc (q.map fun (z : Nat) => (z : Int))))) (hc : (mEnc (q.map fun (z : Nat) => (z : Int))).length ≤ c3) => impl_DecodeIntsC (mEnc (q.map fun (z : Nat) => (z : Int))) A3 _ c3 lo hi 0 ((k : Int) + 1) W (by omega) h hc HUe W0.out WM.out
        simp only [d1, hls] at CD1
        simp only [d2, noD, List.length_nil] at CD2
        clear d1 d2 hq1 HQ W0 WL WM HUe hI
        generalize (q.map fun (z : Nat) => (z : Int)) = ls at CE CD1 CD2 HF hel hls
        generalize mEnc ls = x at CE CD1 CD2 hel
        replace CE := Lib.hid CE
        replace CD1 := Lib.hid CD1
        replace CD2 := Lib.hid CD2
        replace hel : x.length ≤ 35 := by omega
        clear hls hq q
        go_wp2_with fail
        refine C0.out.mono ?_
        rintro e v1 ⟨rfl, hv1⟩
        have HV1 := Lib.hid (below_trans HBr.out hv1 (Nat.le_refl _))
        have HX1 := Lib.hid (HF.out.new hv1)
        clear hv1
        go_wp2_with fail
        refine (CE.out _ _ _ HX1.out).mono ?_
        rintro e v2 ⟨A3, c3, rfl, hF3, hv2⟩
        have HV2 := Lib.hid (below_trans HV1.out hv2 (Nat.le_refl _))
        have HX2 := Lib.hid (HX1.out.new hv2)
        have HE2 := Lib.hid hF3.rd
        have HC3 := Lib.hid hF3.cap
        clear hv2 hF3
        go_wp2_with fail
        refine (CD1.out _ _ _ _ _ HE2.out HC3.out).mono ?_
        rintro e v3 ⟨A4, c4, rfl, hF4, hv3⟩
        have HV3 := Lib.hid (below_trans HV2.out hv3 (Nat.le_refl _))
        have HX3 := Lib.hid (HX2.out.new hv3)
        have HE3 := Lib.hid (HE2.out.new hv3)
        have HM3 := Lib.hid hF4.rd
        clear hv3 hF4
        have e1 : IntKind.i64.wrap ((k : Int) + 1) = (k : Int) + 1 := IntWalk.i64_in _ (by omega)
        go_wp2_with fail
        refine (CD2.out _ _ _ _ _ HE3.out HC3.out).mono ?_
        rintro e v4 ⟨A5, c5, rfl, hF5, hv4⟩
        have HV4 := Lib.hid (below_trans HV3.out hv4 (Nat.le_refl _))
        have HX4 := Lib.hid (HX3.out.new hv4)
        have HM4 := Lib.hid (HM3.out.new hv4)
        clear hv4 hF5
        go_wp2_with fail
        refine ((sb_int ls ls A4 Aq k k c4 cq _ _ _ _ _ (by omega) (by omega) HM4.out HX4.out).mono (fun e w' hq => show Says (.bool true) v4 e w' from by
          obtain ⟨rfl, d4, rfl⟩ := hq
          exact ⟨by simp, below_dN (Below.refl _ _) d4⟩)).mono ?_
        rintro e v5 ⟨rfl, hv5⟩
        have HV5 := Lib.hid (below_trans HV4.out hv5 (Nat.le_refl _))
        clear hv5
        go_wp2_with fail
        go_ret
        exact ⟨rfl, HV5.out⟩
  · have g : decide ((1048576 : Int) < n0) = true := by simp; omega
    go_enter Try.func3, Try.ntmps3
    go_wp2_with fail
    refine (big_any n0 c0 A0 _ w0).mono ?_
    rintro e w1 ⟨rfl, rfl⟩
    rw [g]
    go_wp2_with fail
    go_ret
    exact ⟨rfl, Below.refl _ _⟩

set_option maxRecDepth 100000 in
theorem lifted (os : Os) (started : os.Started) (H : Type) (enc : TypeId × Value → H) :
    ReturnsInHanded {} Try.checked os 3 .any (Rows.fnByteStringsSpec.pre6 enc Try.prog Try.f3 Rows.fnByteStringsRow.domain false) (Rows.fnByteStringsSpec.post enc Try.prog Try.f3 false true false false) := by
  refine law_lifted Try.func3 (by kernel_rfl) rfl rfl (by kernel_rfl) os started
    (ChangeSpec.witness6 (enc := enc) (C := Try.checked) false ⟨#[], #[.slice none 0 0], []⟩ 8 (by kernel_rfl) (by kernel_rfl) (by kernel_rfl) (by kernel_rfl)) ?_
  intro W base args ds p hval hA hlt
  rw [Try.params3] at hA hval
  obtain ⟨v0, vs0, d0, ds0, p0, q0, hargs, rfl, rfl, h0, r0⟩ := trodAll_cons hA
  obtain ⟨rfl, rfl, rfl⟩ := trodAll_nil r0
  obtain rfl : args = #[v0] := by cases args; simp_all
  obtain ⟨A0, n0, c0, rfl, w0, m0⟩ := open_bytes (hval 0 22 v0 rfl rfl) h0 (fun x hx => hlt x (by simp [hx]))
  exact ⟨⟨rfl, rfl, rfl⟩, walk A0 n0 c0 w0 W m0⟩

theorem over : Rows.fnByteStringsRow.holds Try.pinned (OpenSpec.ofChange Rows.fnByteStringsSpec) :=
  OpenClaim.holds_of_wide 3 Try.f3 rfl rfl rfl rfl rfl rfl rfl ⟨rfl, rfl, rfl, rfl, rfl⟩ rfl rfl rfl rfl rfl (by kernel_rfl) Try.func3 (by kernel_rfl)
    (of_decide_eq_true (by kernel_rfl)) (by unfold Func.isWrapper; first | (rw [if_pos (by decide +kernel)]; kernel_rfl) | (rw [if_neg (by decide +kernel)]; exact ⟨rfl, rfl⟩))
    (fun os started H enc _ => lifted os started H enc)

theorem proved : Rows.FnByteStringsSaid := over
#print axioms proved
end Go.Proofs.Ytblmdjdaiilmmaa.fnByteStrings
