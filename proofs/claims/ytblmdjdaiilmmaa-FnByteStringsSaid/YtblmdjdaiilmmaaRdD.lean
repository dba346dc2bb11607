/- ReadBytes, of the program and of the model: the contracts. -/
import Derived.Test.YtblmdjdaiilmmaaRdC
namespace Go.Proofs.Ytblmdjdaiilmmaa
open Go Go.ChangeShapes Go.WideShapes Go.ChangeAt Go.RowKit Go.Lib
set_option linter.unusedVariables false
set_option linter.unusedSimpArgs false
set_option maxRecDepth 100000
set_option maxHeartbeats 8000000 in
theorem read_bytes (l0 : List Int) (A0 : Option Addr) (n0 c0 lo0 hi0 B : Nat) (a1 m : Int) (w : World) (h0 : n0 ≤ 1048576) (r0 : Rd w lo0 hi0 1 A0 n0 (u8s l0)) (p0 : n0 ≤ c0) (b0 : Hid (U8s l0)) (hB : BoxAt w B 3 #[.int .i64 m]) :
    Calls Try.prog 79 #[.slice A0 n0 c0, .int .i64 a1, .func (.func 80) #[] #[.pointer (some ⟨B, 0, none⟩)]] w (MakesVV 5 1 (mRBl l0 a1 m).length (u8s (mRBl l0 a1 m)) (.int .i64 (mRBto l0 a1 m)) (.bool (mRBok l0 a1 m)) w) := by
  have HL := Lib.hid (show l0.length = n0 by simpa using r0.1)
  by_cases hin : inR a1 0 n0 = true
  · obtain ⟨o, rfl⟩ := Int.eq_ofNat_of_zero_le (inR_true.1 hin).1
    have hon : o ≤ n0 := by have := (inR_true.1 hin).2; omega
    have HCl : Hid (Calls Try.prog 80 #[.pointer (some ⟨w.heap.size, 0, none⟩), .pointer (some ⟨B, 0, none⟩)] (w.alloc (.cells #[.slice A0 n0 c0, .int .i64 o] 211)) (BytesQ l0 o m w.heap.size (w.alloc (.cells #[.slice A0 n0 c0, .int .i64 o] 211)))) := Lib.hid (by
      have HBy : Hid (Calls Try.prog 81 #[.pointer (some ⟨w.heap.size, 0, none⟩), .int .i64 m] (w.alloc (.cells #[.slice A0 n0 c0, .int .i64 o] 211)) (BytesQ l0 o m w.heap.size (w.alloc (.cells #[.slice A0 n0 c0, .int .i64 o] 211)))) := by
        by_cases hz : n0 = 0
        · subst hz
          obtain rfl : o = 0 := by omega
          have HNO : mRBok l0 ((0 : Nat) : Int) m = false := by
            have : mReadU l0 ((0 : Nat) : Int) = noU := by unfold mReadU; rw [if_neg (by omega)]; exact mRd_none (f := 5) rfl (by have := HL.out; omega)
            unfold mRBok
            rw [this]
            rfl
          refine Lib.hid ((bytes_empty w.heap.size c0 A0 m _ (box_new w _ _)).mono ?_)
          rintro e w2 ⟨hg, v, rfl⟩
          exact ⟨hg, Or.inr ⟨HNO, v, rfl⟩⟩
        · obtain ⟨b, off, _, rfl, _, hbl, _, _⟩ := rd_int (r0.old (by decide)) (show 0 < n0 by omega)
          exact Lib.hid (cbytes_any l0 b off n0 c0 lo0 hi0 w.heap.size o m _ h0 p0 hon (r0.alloc _) b0 (by omega) (box_new w _ _))
      have q0 : (w.alloc (.cells #[.slice A0 n0 c0, .int .i64 o] 211)).cell? ⟨B, 0, none⟩ = _ := (hB.alloc_ (.cells #[.slice A0 n0 c0, .int .i64 o] 211)).at_ (j := 0) rfl
      generalize w.alloc (.cells #[.slice A0 n0 c0, .int .i64 o] 211) = W at HBy q0 ⊢
      clear r0 hB
      generalize w.heap.size = g at HBy ⊢
      go_enter Try.func80, Try.ntmps80
      go_wp2_with fail
      refine HBy.out.mono ?_
      rintro e w2 ⟨hg, ⟨hok, ⟨A, c, rfl, hF⟩, hs⟩ | ⟨hno, v, rfl⟩⟩
      · have HP := Lib.hid (⟨hg, hok, hF, hs⟩ : _ ∧ _ ∧ _ ∧ _)
        clear hg hok hF hs
        go_wp2_with fail
        go_ret2
        exact ⟨HP.out.1, Or.inl ⟨HP.out.2.1, ⟨A, c, rfl, HP.out.2.2.1⟩, HP.out.2.2.2⟩⟩
      · have HP := Lib.hid (⟨hg, hno⟩ : _ ∧ _)
        clear hg hno
        go_wp2_with fail
        go_ret2
        exact ⟨HP.out.1, Or.inr ⟨HP.out.2, v, rfl⟩⟩)
    clear r0 hB
    go_enter Try.func79, Try.ntmps79
    go_wp2_with (go_at_call 140; refine (impl_in _ _ _ _).mono ?_; rintro e w1 ⟨rfl, rfl⟩)
    refine HCl.out.mono ?_
    rintro e w2 ⟨hg, ⟨hok, ⟨A, c, rfl, hF⟩, s, hs⟩ | ⟨hno, v, rfl⟩⟩
    · have HG := Lib.hid (below_own hg)
      have p1 := hs.at_ (j := 1) (u := .int .i64 (mRBto l0 (o : Int) m)) rfl
      have HF := Lib.hid (hF.mono (lo' := w.heap.size) (by simp) (Nat.le_refl _))
      have HOK := Lib.hid hok
      clear hg hs hF hok
      obtain ⟨T, hT⟩ : ∃ T, mRBto l0 (o : Int) m = T := ⟨_, rfl⟩
      rw [hT] at p1
      have HTT := Lib.hid hT
      clear hT
      go_wp2_with fail
      go_quiet (fail)
      go_wp2_with fail
      go_ret3
      exact ⟨A, c, by rw [HOK.out, HTT.out]; rfl, HF.out.drewN _, below_dN HG.out _⟩
    · have HG := Lib.hid (below_own hg)
      have HNO := Lib.hid hno
      clear hg hno
      have HLe := Lib.hid (show mRBl l0 (o : Int) m = [] by unfold mRBl; rw [if_neg (by rw [HNO.out]; decide)])
      have HTe := Lib.hid (show mRBto l0 (o : Int) m = 0 by unfold mRBto; rw [if_neg (by rw [HNO.out]; decide)])
      go_wp2_with fail
      go_ret3
      exact ⟨none, 0, by rw [HLe.out, HTe.out, HNO.out]; rfl, by rw [HLe.out]; exact ⟨rfl, fun h => absurd h (by simp)⟩, HG.out⟩
  · have hin : inR a1 0 n0 = false := by simpa using hin
    have hM : mReadU l0 a1 = noU := by
      unfold mReadU
      by_cases h : a1 < 0
      · rw [if_pos h]
      · rw [if_neg h]
        refine mRd_none (f := 5) rfl ?_
        rw [Bool.eq_false_iff] at hin
        have : ¬ a1 ≤ n0 := fun h2 => hin (inR_true.2 ⟨by omega, h2⟩)
        rw [HL.out]; omega
    have hO : mRBok l0 a1 m = false := by unfold mRBok; rw [hM]; rfl
    have hL : mRBl l0 a1 m = [] := by unfold mRBl; rw [if_neg (by rw [hO]; decide)]
    have hT : mRBto l0 a1 m = 0 := by unfold mRBto; rw [if_neg (by rw [hO]; decide)]
    rw [hL, hT, hO]
    clear hL hT hO hM r0 hB
    go_enter Try.func79, Try.ntmps79
    go_wp2_with (go_at_call 140; refine (impl_in _ _ _ _).mono ?_; rintro e w1 ⟨rfl, rfl⟩)
    go_ret3
    exact ⟨none, 0, rfl, ⟨rfl, fun h => absurd h (by simp)⟩, Below.refl _ _⟩
set_option maxHeartbeats 8000000 in
theorem impl_ReadBytesC (l0 : List Int) (A0 : Option Addr) (n0 c0 lo0 hi0 : Nat) (a1 a2 : Int) (w : World) (h0 : n0 ≤ 1048576) (r0 : Rd w lo0 hi0 1 A0 n0 (u8s l0)) (p0 : n0 ≤ c0) (b0 : Hid (U8s l0)) (w1 : (Lit.int .i64 a1).wf = true) (w2 : (Lit.int .i64 a2).wf = true) :
    Calls Try.prog 18 #[.slice A0 n0 c0, .int .i64 a1, .int .i64 a2] w (MakesVV 5 1 (mRBl l0 a1 a2).length (u8s (mRBl l0 a1 a2)) (.int .i64 (mRBto l0 a1 a2)) (.bool (mRBok l0 a1 a2)) w) := by
  have hmf : ∀ (fn : Fn) (first cap : Array Value) (w : World), (Instr.makeFunc fn first cap).run Try.prog w = .ok (.func fn first cap) w := fun _ _ _ _ => rfl
  have HC := Lib.hid (read_bytes l0 A0 n0 c0 lo0 hi0 w.heap.size a1 a2 _ h0 (r0.alloc (.cells #[.int .i64 a2] 3)) p0 b0 (box_new w _ _))
  clear r0
  go_enter Try.func18, Try.ntmps18
  go_wp2_with fail
  refine HC.out.mono ?_
  rintro e w2 ⟨A, c, rfl, hF, hb⟩
  have HF := Lib.hid (hF.mono (lo' := w.heap.size) (by simp) (Nat.le_refl _))
  have HB := Lib.hid (((Below.refl w.heap.size w).alloc (Nat.le_refl _) (.cells #[.int .i64 a2] 3)).trans (hb.mono (by simp)))
  clear hF hb
  go_wp2_with fail
  go_ret3
  exact ⟨A, c, rfl, HF.out, HB.out⟩
end Go.Proofs.Ytblmdjdaiilmmaa
