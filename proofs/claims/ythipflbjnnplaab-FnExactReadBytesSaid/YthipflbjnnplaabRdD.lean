/- ReadBytes, of the program and of the model: the contracts. -/
import Derived.Test.YthipflbjnnplaabRdC
namespace Go.Proofs.Ythipflbjnnplaab
open Go Go.ChangeShapes Go.WideShapes Go.ChangeAt Go.RowKit Go.Lib
set_option linter.unusedVariables false
set_option linter.unusedSimpArgs false
set_option maxRecDepth 100000
set_option maxHeartbeats 8000000 in
theorem read_bytes (l0 : List Int) (A0 : Option Addr) (n0 c0 lo0 hi0 B : Nat) (a1 m : Int) (w : World) (h0 : n0 ≤ 1048576) (r0 : Rd w lo0 hi0 1 A0 n0 (u8s l0)) (p0 : n0 ≤ c0) (b0 : Hid (U8s l0)) (hB : BoxAt w B 3 #[.int .i64 m]) :
    Calls Try.prog 112 #[.slice A0 n0 c0, .int .i64 a1, .func (.func 113) #[] #[.pointer (some ⟨B, 0, none⟩)]] w (MakesVV 5 1 (mRBl l0 a1 m).length (u8s (mRBl l0 a1 m)) (.int .i64 (mRBto l0 a1 m)) (.bool (mRBok l0 a1 m)) w) := by
  have HL := Lib.hid (show l0.length = n0 by simpa using r0.1)
  by_cases hin : inR a1 0 n0 = true
  · obtain ⟨o, rfl⟩ := Int.eq_ofNat_of_zero_le (inR_true.1 hin).1
    have hon : o ≤ n0 := by have := (inR_true.1 hin).2; omega
    have HCl : Hid (Calls Try.prog 113 #[.pointer (some ⟨w.heap.size, 0, none⟩), .pointer (some ⟨B, 0, none⟩)] (w.alloc (.cells #[.slice A0 n0 c0, .int .i64 o] 209)) (BytesQ l0 o m w.heap.size (w.alloc (.cells #[.slice A0 n0 c0, .int .i64 o] 209)))) := Lib.hid (by
      have HBy : Hid (Calls Try.prog 114 #[.pointer (some ⟨w.heap.size, 0, none⟩), .int .i64 m] (w.alloc (.cells #[.slice A0 n0 c0, .int .i64 o] 209)) (BytesQ l0 o m w.heap.size (w.alloc (.cells #[.slice A0 n0 c0, .int .i64 o] 209)))) := by
        by_cases hz : n0 = 0
        · subst hz
          obtain rfl : o = 0 := by omega
          have HNO : mRBok l0 ((0 : Nat) : Int) m = false := by
            have : mReadU l0 ((0 : Nat) : Int) = noU := by unfold mReadU; rw [if_neg (by omega)]; exact mRd_none (f := 5) rfl (by have := HL.out; omega)
            unfold mRBok
            rw [this]
            rfl
          refine Lib.hid ((bytes_empty w.heap.size c0 A0 m _ (box_new w _ _)).mono ?_)
          rintro e w2 ⟨hg, v, rfl⟩
          exact ⟨hg, Or.inr ⟨HNO, v, rfl⟩⟩
        · obtain ⟨b, off, _, rfl, _, hbl, _, _⟩ := rd_int (r0.old (by decide)) (show 0 < n0 by omega)
          exact Lib.hid (bytes_any l0 b off n0 c0 lo0 hi0 w.heap.size o m _ h0 p0 hon (r0.alloc _) b0 (by omega) (box_new w _ _))
      have q0 : (w.alloc (.cells #[.slice A0 n0 c0, .int .i64 o] 209)).cell? ⟨B, 0, none⟩ = _ := (hB.alloc_ (.cells #[.slice A0 n0 c0, .int .i64 o] 209)).at_ (j := 0) rfl
      generalize w.alloc (.cells #[.slice A0 n0 c0, .int .i64 o] 209) = W at HBy q0 ⊢
      clear r0 hB
      generalize w.heap.size = g at HBy ⊢
      go_enter Try.func113, Try.ntmps113
      go_wp2_with fail
      refine HBy.out.mono ?_
      rintro e w2 ⟨hg, ⟨hok, ⟨A, c, rfl, hF⟩, hs⟩ | ⟨hno, v, rfl⟩⟩
      · have HP := Lib.hid (⟨hg, hok, hF, hs⟩ : _ ∧ _ ∧ _ ∧ _)
        clear hg hok hF hs
        go_wp2_with fail
        go_ret2
        exact ⟨HP.out.1, Or.inl ⟨HP.out.2.1, ⟨A, c, rfl, HP.out.2.2.1⟩, HP.out.2.2.2⟩⟩
      · have HP := Lib.hid (⟨hg, hno⟩ : _ ∧ _)
        clear hg hno
        go_wp2_with fail
        go_ret2
        exact ⟨HP.out.1, Or.inr ⟨HP.out.2, v, rfl⟩⟩)
    clear r0 hB
    go_enter Try.func112, Try.ntmps112
    go_wp2_with (go_at_call 128; refine (impl_in _ _ _ _).mono ?_; rintro e w1 ⟨rfl, rfl⟩)
    refine HCl.out.mono ?_
    rintro e w2 ⟨hg, ⟨hok, ⟨A, c, rfl, hF⟩, s, hs⟩ | ⟨hno, v, rfl⟩⟩
    · have HG := Lib.hid (below_own hg)
      have p1 := hs.at_ (j := 1) (u := .int .i64 (mRBto l0 (o : Int) m)) rfl
      have HF := Lib.hid (hF.mono (lo' := w.heap.size) (by simp) (Nat.le_refl _))
      have HOK := Lib.hid hok
      clear hg hs hF hok
      obtain ⟨T, hT⟩ : ∃ T, mRBto l0 (o : Int) m = T := ⟨_, rfl⟩
      rw [hT] at p1
      have HTT := Lib.hid hT
      clear hT
      go_wp2_with fail
      go_quiet (fail)
      go_wp2_with fail
      go_ret3
      exact ⟨A, c, by rw [HOK.out, HTT.out]; rfl, HF.out.drewN _, below_dN HG.out _⟩
    · have HG := Lib.hid (below_own hg)
      have HNO := Lib.hid hno
      clear hg hno
      have HLe := Lib.hid (show mRBl l0 (o : Int) m = [] by unfold mRBl; rw [if_neg (by rw [HNO.out]; decide)])
      have HTe := Lib.hid (show mRBto l0 (o : Int) m = 0 by unfold mRBto; rw [if_neg (by rw [HNO.out]; decide)])
      go_wp2_with fail
      go_ret3
      exact ⟨none, 0, by rw [HLe.out, HTe.out, HNO.out]; rfl, by rw [HLe.out]; exact ⟨rfl, fun h => absurd h (by simp)⟩, HG.out⟩
  · have hin : inR a1 0 n0 = false := by simpa using hin
    have hM : mReadU l0 a1 = noU := by
      unfold mReadU
      by_cases h : a1 < 0
      · rw [if_pos h]
      · rw [if_neg h]
        refine mRd_none (f := 5) rfl ?_
        rw [Bool.eq_false_iff] at hin
        have : ¬ a1 ≤ n0 := fun h2 => hin (inR_true.2 ⟨by omega, h2⟩)
        rw [HL.out]; omega
    have hO : mRBok l0 a1 m = false := by unfold mRBok; rw [hM]; rfl
    have hL : mRBl l0 a1 m = [] := by unfold mRBl; rw [if_neg (by rw [hO]; decide)]
    have hT : mRBto l0 a1 m = 0 := by unfold mRBto; rw [if_neg (by rw [hO]; decide)]
    rw [hL, hT, hO]
    clear hL hT hO hM r0 hB
    go_enter Try.func112, Try.ntmps112
    go_wp2_with (go_at_call 128; refine (impl_in _ _ _ _).mono ?_; rintro e w1 ⟨rfl, rfl⟩)
    go_ret3
    exact ⟨none, 0, rfl, ⟨rfl, fun h => absurd h (by simp)⟩, Below.refl _ _⟩
set_option maxHeartbeats 8000000 in
theorem impl_ReadBytesC (l0 : List Int) (A0 : Option Addr) (n0 c0 lo0 hi0 : Nat) (a1 a2 : Int) (w : World) (h0 : n0 ≤ 1048576) (r0 : Rd w lo0 hi0 1 A0 n0 (u8s l0)) (p0 : n0 ≤ c0) (b0 : Hid (U8s l0)) (w1 : (Lit.int .i64 a1).wf = true) (w2 : (Lit.int .i64 a2).wf = true) :
    Calls Try.prog 53 #[.slice A0 n0 c0, .int .i64 a1, .int .i64 a2] w (MakesVV 5 1 (mRBl l0 a1 a2).length (u8s (mRBl l0 a1 a2)) (.int .i64 (mRBto l0 a1 a2)) (.bool (mRBok l0 a1 a2)) w) := by
  have hmf : ∀ (fn : Fn) (first cap : Array Value) (w : World), (Instr.makeFunc fn first cap).run Try.prog w = .ok (.func fn first cap) w := fun _ _ _ _ => rfl
  have HC := Lib.hid (read_bytes l0 A0 n0 c0 lo0 hi0 w.heap.size a1 a2 _ h0 (r0.alloc (.cells #[.int .i64 a2] 3)) p0 b0 (box_new w _ _))
  clear r0
  go_enter Try.func53, Try.ntmps53
  go_wp2_with fail
  refine HC.out.mono ?_
  rintro e w2 ⟨A, c, rfl, hF, hb⟩
  have HF := Lib.hid (hF.mono (lo' := w.heap.size) (by simp) (Nat.le_refl _))
  have HB := Lib.hid (((Below.refl w.heap.size w).alloc (Nat.le_refl _) (.cells #[.int .i64 a2] 3)).trans (hb.mono (by simp)))
  clear hF hb
  go_wp2_with fail
  go_ret3
  exact ⟨A, c, rfl, HF.out, HB.out⟩
set_option maxHeartbeats 8000000 in
theorem spec_ReadBytes (l0 : List Int) (A0 : Option Addr) (n0 c0 lo0 hi0 : Nat) (a1 a2 : Int) (w : World) (h0 : n0 ≤ 1048576) (r0 : Rd w lo0 hi0 1 A0 n0 (u8s l0)) (p0 : n0 ≤ c0) (b0 : Hid (U8s l0)) (w1 : (Lit.int .i64 a1).wf = true) (w2 : (Lit.int .i64 a2).wf = true) :
    Calls Try.prog 51 #[.slice A0 n0 c0, .int .i64 a1, .int .i64 a2] w (MakesVV 5 1 (mRBl l0 a1 a2).length (u8s (mRBl l0 a1 a2)) (.int .i64 (mRBto l0 a1 a2)) (.bool (mRBok l0 a1 a2)) w) := by
  have HS := Lib.hid (spec_ReadUvarint l0 A0 n0 c0 lo0 hi0 a1 w h0 r0 p0 b0 w1)
  have HL := Lib.hid (show l0.length = n0 by simpa using r0.1)
  have hF : (mReadU l0 a1).ok = true → 0 ≤ (mReadU l0 a1).n ∧ (mReadU l0 a1).n ≤ 1000000000000 ∧ (mReadU l0 a1).to ≤ l0.length := by
    unfold mReadU
    split
    · intro h; cases h
    · exact mRd_fit l0 _ 6 0 0 (by omega) (by omega)
  have hT : 0 ≤ (mReadU l0 a1).to := by
    unfold mReadU
    split
    · exact Int.le_refl 0
    · exact mRd_to l0 _ 6 0 0
  have hZ : (mReadU l0 a1).ok = true → 0 < n0 := by
    intro h
    rcases Nat.eq_zero_or_pos n0 with hz | hz
    · have : mReadU l0 a1 = noU := by
        unfold mReadU
        split
        · rfl
        · exact mRd_none (f := 5) rfl (by have := HL.out; omega)
      rw [this] at h; cases h
    · exact hz
  obtain ⟨R, hR⟩ : ∃ R, mReadU l0 a1 = R := ⟨_, rfl⟩
  have HO : mRBok l0 a1 a2 = (R.ok && decide (R.n ≤ a2) && decide (R.to + R.n ≤ (l0.length : Int))) := by unfold mRBok; rw [hR]
  have HX : mRBl l0 a1 a2 = if mRBok l0 a1 a2 = true then (l0.drop R.to.toNat).take R.n.toNat else [] := by unfold mRBl; rw [hR]
  have HT : mRBto l0 a1 a2 = if mRBok l0 a1 a2 = true then R.to + R.n else 0 := by unfold mRBto; rw [hR]
  rw [hR] at HS hF hT hZ
  clear hR
  have fail0 : mRBok l0 a1 a2 = false → mRBl l0 a1 a2 = [] ∧ mRBto l0 a1 a2 = 0 := fun h => ⟨by rw [HX, if_neg (by rw [h]; decide)], by rw [HT, if_neg (by rw [h]; decide)]⟩
  obtain ⟨rn, rt, rok⟩ := R
  cases rok with
  | false =>
    have hO : mRBok l0 a1 a2 = false := by rw [HO]; rfl
    rw [(fail0 hO).1, (fail0 hO).2, hO]
    clear HO HX HT fail0 hO hF hT hZ r0
    go_enter Try.func51, Try.ntmps51
    go_wp2_with fail
    refine HS.out.mono ?_
    rintro e w3 ⟨rfl, hb⟩
    have HB := Lib.hid hb
    clear hb
    go_wp2_with fail
    go_ret3
    exact ⟨_, _, rfl, ⟨rfl, fun h => absurd h (by simp)⟩, HB.out.alloc HB.out.size _⟩
  | true =>
    obtain ⟨f0, f1, f2⟩ := hF rfl
    have hn0 := hZ rfl
    dsimp only at f0 f1 f2 hT HO HX HT
    obtain ⟨cnt, rfl⟩ := Int.eq_ofNat_of_zero_le f0
    obtain ⟨k, rfl⟩ := Int.eq_ofNat_of_zero_le hT
    have hkn : k ≤ n0 := by have := HL.out; omega
    have hbig : cnt ≤ 1000000000000 := by omega
    have hws : IntKind.i64.wrap ((n0 : Int) - (k : Int)) = (n0 : Int) - (k : Int) := IntWalk.i64_in _ (by omega)
    clear hF hT f0 f1 f2 hZ
    by_cases h1 : (cnt : Int) ≤ a2
    · have h1b : decide (a2 < (cnt : Int)) = false := by simp; omega
      by_cases h2 : k + cnt ≤ n0
      · have h2b : decide ((n0 : Int) - (k : Int) < (cnt : Int)) = false := by simp; omega
        have hO : mRBok l0 a1 a2 = true := by rw [HO]; simp [h1]; have := HL.out; omega
        have hXS : mRBl l0 a1 a2 = (l0.drop k).take cnt := by rw [HX, if_pos hO]; simp
        obtain ⟨k2, hk2⟩ : ∃ k2, k2 = k + cnt := ⟨_, rfl⟩
        have hTO : mRBto l0 a1 a2 = (k2 : Int) := by rw [HT, if_pos hO, hk2]; simp
        have hXL : ((l0.drop k).take cnt).length = cnt := by simp; have := HL.out; omega
        have hwr : IntKind.i64.wrap ((k : Int) + (cnt : Int)) = (k2 : Int) := by rw [hk2]; have := IntWalk.i64_in ((k : Int) + (cnt : Int)) (by omega); rw [this]; omega
        have q1 : k ≤ k2 := by omega
        have q2 : k2 ≤ c0 := by omega
        have q5 : k2 - k = cnt := by omega
        rw [hO, hXS, hTO, hXL]
        clear HO HX HT fail0 hO hXS hTO
        obtain ⟨b, off, _, rfl, _, hbl, _, _⟩ := rd_int (r0.old (by decide)) hn0
        have HXL := Lib.hid hXL
        clear hXL
        by_cases hz : cnt = 0
        · have HZR := Lib.hid (show ∀ (W : World) (A : Option Addr), Rd W 0 0 1 A (k + cnt - k) (u8s []) from fun W A => ⟨by simp [hz], fun h => absurd h (by omega)⟩)
          have HE := Lib.hid (show (l0.drop k).take cnt = [] by rw [hz]; rfl)
          clear hz
          by_cases hck : c0 - k = 0
          · skip
            go_enter Try.func51, Try.ntmps51
            go_wp2_with fail
            refine HS.out.mono ?_
            rintro e w3 ⟨rfl, hb⟩
            have HB := Lib.hid hb
            have HOw := Lib.hid (World.ownsRow_lit (base := w.heap.size) (e := 5) (size := 1) w3 #[] 0 HB.out.size (by unfold maxLen; omega) rfl)
            clear hb r0
            go_wp2_with (at_builtin; refine wp_app rfl _ _ _ rfl w.heap.size 5 (.int .u8 0) 1 1 Try.underlying75 info_u8 rfl (by decide) _ _ _ rfl HOw.out 0 0 _ (k + cnt - k) _ (u8s []) rfl (HZR.out _ _) (ints_oneCell _ _) (by unfold maxLen; omega) (by omega) (by have := HB.out.size; first | omega | (simp <;> omega)) ?_; intro v1 w4 ho1 hb1 _ _; have HO1 := Lib.hid ho1; have HB1 := Lib.hid ((HB.out.alloc HB.out.size _).trans hb1); clear ho1 hb1)
            obtain ⟨A1, c1, rfl, hF1⟩ := fr_of_own HO1.out
            have HF1 := Lib.hid hF1
            clear hF1
            go_ret3
            exact ⟨A1, c1, by rw [hk2]; simp, by rw [HE.out]; simpa using HF1.out, HB1.out⟩
          · have hck2 : ¬ c0 = k := by omega
            go_enter Try.func51, Try.ntmps51
            go_wp2_with fail
            refine HS.out.mono ?_
            rintro e w3 ⟨rfl, hb⟩
            have HB := Lib.hid hb
            have HOw := Lib.hid (World.ownsRow_lit (base := w.heap.size) (e := 5) (size := 1) w3 #[] 0 HB.out.size (by unfold maxLen; omega) rfl)
            clear hb r0
            go_wp2_with (at_builtin; refine wp_app rfl _ _ _ rfl w.heap.size 5 (.int .u8 0) 1 1 Try.underlying75 info_u8 rfl (by decide) _ _ _ rfl HOw.out 0 0 _ (k + cnt - k) _ (u8s []) rfl (HZR.out _ _) (ints_oneCell _ _) (by unfold maxLen; omega) (by omega) (by have := HB.out.size; first | omega | (simp <;> omega)) ?_; intro v1 w4 ho1 hb1 _ _; have HO1 := Lib.hid ho1; have HB1 := Lib.hid ((HB.out.alloc HB.out.size _).trans hb1); clear ho1 hb1)
            obtain ⟨A1, c1, rfl, hF1⟩ := fr_of_own HO1.out
            have HF1 := Lib.hid hF1
            clear hF1
            go_ret3
            exact ⟨A1, c1, by rw [hk2]; simp, by rw [HE.out]; simpa using HF1.out, HB1.out⟩
        · have q6 : ¬ c0 - k = 0 := by omega
          have HR := Lib.hid (rd_sub r0 h2)
          go_enter Try.func51, Try.ntmps51
          go_wp2_with fail
          refine HS.out.mono ?_
          rintro e w3 ⟨rfl, hb⟩
          have HB := Lib.hid hb
          have HR3 := Lib.hid (show Rd w3 lo0 hi0 1 (some ⟨b, off + k, none⟩) (k + cnt - k) (u8s ((l0.drop k).take cnt)) by rw [Nat.add_sub_cancel_left]; exact HR.out.new hb)
          have HOw := Lib.hid (World.ownsRow_lit (base := w.heap.size) (e := 5) (size := 1) w3 #[] 0 HB.out.size (by unfold maxLen; omega) rfl)
          clear hb r0
          go_wp2_with (at_builtin; refine wp_app rfl _ _ _ rfl w.heap.size 5 (.int .u8 0) 1 1 Try.underlying75 info_u8 rfl (by decide) _ _ _ rfl HOw.out lo0 hi0 (some ⟨b, off + k, none⟩) (k + cnt - k) (c0 - k) (u8s ((l0.drop k).take cnt)) rfl (HR3.out.alloc _) (ints_oneCell _ _) (by unfold maxLen; omega) (by omega) (by have := HB.out.size; first | omega | (simp <;> omega)) ?_; intro v1 w4 ho1 hb1 _ _; have HO1 := Lib.hid ho1; have HB1 := Lib.hid ((HB.out.alloc HB.out.size _).trans hb1); clear ho1 hb1)
          obtain ⟨A1, c1, rfl, hF1⟩ := fr_of_own HO1.out
          have HF1 := Lib.hid hF1
          clear hF1
          go_ret3
          exact ⟨A1, c1, by rw [hk2]; simp, by simpa using HF1.out, HB1.out⟩
      · have h2' : (n0 : Int) - (k : Int) < (cnt : Int) := by omega
        have hO : mRBok l0 a1 a2 = false := by rw [HO]; simp; intro; have := HL.out; omega
        rw [(fail0 hO).1, (fail0 hO).2, hO]
        clear HO HX HT fail0 hO r0 h1 h2
        go_enter Try.func51, Try.ntmps51
        go_wp2_with fail
        refine HS.out.mono ?_
        rintro e w3 ⟨rfl, hb⟩
        have HB := Lib.hid hb
        clear hb
        go_wp2_with fail
        go_ret3
        exact ⟨_, _, rfl, ⟨rfl, fun h => absurd h (by simp)⟩, HB.out.alloc HB.out.size _⟩
    · have h1' : a2 < (cnt : Int) := by omega
      have hO : mRBok l0 a1 a2 = false := by rw [HO]; simp; omega
      rw [(fail0 hO).1, (fail0 hO).2, hO]
      clear HO HX HT fail0 hO r0 h1
      go_enter Try.func51, Try.ntmps51
      go_wp2_with fail
      refine HS.out.mono ?_
      rintro e w3 ⟨rfl, hb⟩
      have HB := Lib.hid hb
      clear hb
      go_wp2_with fail
      go_ret3
      exact ⟨_, _, rfl, ⟨rfl, fun h => absurd h (by simp)⟩, HB.out.alloc HB.out.size _⟩
end Go.Proofs.Ythipflbjnnplaab
