/- DecodeInts, of the program and of the model: the contracts. -/
import Derived.Test.YtblmdjdaiilmmaaDeI
namespace Go.Proofs.Ytblmdjdaiilmmaa
open Go Go.ChangeShapes Go.WideShapes Go.ChangeAt Go.RowKit Go.Lib
set_option linter.unusedVariables false
set_option linter.unusedSimpArgs false
set_option maxRecDepth 100000
theorem mDec_noD (l : List Int) : ∀ (m : Nat) (o : Int) (acc : List Int), (mDec l m o acc).ok = false → mDec l m o acc = noD := by
  intro m
  induction m with
  | zero => intro o acc h; cases h
  | succ m ih =>
    intro o acc h
    rw [mDec] at h ⊢
    split at h
    · rename_i e
      rw [if_pos e]
      exact ih _ _ h
    · rename_i e
      rw [if_neg e]
theorem mDI_noD (l : List Int) (o c : Int) (h : (mDI l o c).ok = false) : mDI l o c = noD := by
  unfold mDI at h ⊢
  split
  · rename_i e
    rw [if_pos e] at h
    exact mDec_noD _ _ _ _ h
  · rfl
set_option maxHeartbeats 8000000 in
theorem ints_bad (g : Nat) (c : Int) (w : World) (hin : inR c 0 100 = false) :
    Calls Try.prog 84 #[.pointer (some ⟨g, 0, none⟩), .int .i64 c] w (IntsQ noD g w) := by
  have CI := Lib.hid (fun W => (by have := impl_in c 0 100 W; rwa [hin] at this : Calls Try.prog 140 #[.int .i64 c, .int .i64 0, .int .i64 100] W fun e w' => e = .returned (.bool false) ∧ W = w'))
  clear hin
  go_enter Try.func84, Try.ntmps84
  go_wp2_with (go_at_call 140; refine Calls.mono (CI.out _) ?_; rintro e w1 ⟨rfl, rfl⟩)
  go_ret2
  exact ⟨World.grownBy.refl w _, Or.inr ⟨rfl, _, rfl⟩⟩
set_option maxHeartbeats 8000000 in
theorem ints_empty (l : List Int) (hl : l.length = 0) (g cap cnt : Nat) (A : Option Addr) (w : World) (hcnt : cnt ≤ 100) (hc : BoxAt w g 211 #[.slice A 0 cap, .int .i64 0]) :
    Calls Try.prog 84 #[.pointer (some ⟨g, 0, none⟩), .int .i64 cnt] w (IntsQ (mDec l cnt 0 []) g w) := by
  have HC := Lib.hid hc
  have hgl : g < w.heap.size := BoxAt.lt hc
  have hin : inR (cnt : Int) 0 100 = true := inR_true.2 (by omega)
  have CI := Lib.hid (fun W => (by have := impl_in (cnt : Int) 0 100 W; rwa [hin] at this : Calls Try.prog 140 #[.int .i64 cnt, .int .i64 0, .int .i64 100] W fun e w' => e = .returned (.bool true) ∧ W = w'))
  have hM : mReadU l 0 = noU := by
    unfold mReadU
    rw [if_neg (by omega)]
    exact mRd_none (f := 5) rfl (by rw [hl]; omega)
  have HN := Lib.hid (fun (m : Nat) (acc : List Int) => mDec_no (m := m) (acc := acc) hM rfl)
  clear hin hM hc
  go_enter Try.func84, Try.ntmps84
  go_wp2_with (go_at_call 140; refine Calls.mono (CI.out _) ?_; rintro e w1 ⟨rfl, rfl⟩)
  go_loopg [6, 14] cnt (fun gg v i wr => i = .int .i64 0 ∧ Hid (BoxAt wr g 211 #[.slice A 0 cap, .int .i64 0]) ∧ Hid (wr.ownsRow w.heap.size 3 1 v 0 []) ∧ Hid (w.grownBy wr (some g)))
  case atStart => exact ⟨rfl, Lib.hid (BoxAt.alloc_ HC.out _), Lib.hid (by simpa using World.ownsRow_lit (base := w.heap.size) (e := 3) (size := 1) w #[] 0 (Nat.le_refl _) (by unfold maxLen; omega) rfl), Lib.hid (grown_below2 (World.grownBy.refl w _) ((Below.refl _ _).alloc (Nat.le_refl _) _))⟩
  case round =>
    obtain ⟨rfl, HCr, HOr, HG⟩ := hrel
    have HU := Lib.hid (uvarint_empty g cap A wr HCr.out)
    rcases Nat.eq_zero_or_pos cnt with hz | hz
    · subst hz
      obtain ⟨A1, c1, hv1, hF1⟩ := fr_of_own HOr.out
      have HF1 := Lib.hid hF1
      have HV1 := Lib.hid hv1
      clear hF1 hv1
      go_wp2_with fail
      go_ret2
      rw [HV1.out]
      exact ⟨HG.out, Or.inl ⟨rfl, ⟨A1, c1, rfl, HF1.out⟩, _, HCr.out⟩⟩
    · have HE := Lib.hid (show mDec l cnt 0 [] = noD by have := HN.out (cnt - 1) []; rwa [show cnt - 1 + 1 = cnt by omega] at this)
      go_wp2_with fail
      refine HU.out.mono ?_
      rintro e w1 ⟨rfl, hg⟩
      have HG1 := Lib.hid (grown_both' HG.out hg)
      clear hg
      go_wp2_with fail
      go_ret2
      exact ⟨HG1.out, Or.inr ⟨by rw [HE.out]; rfl, _, rfl⟩⟩
set_option maxHeartbeats 8000000 in
theorem read_ints (l0 : List Int) (A0 : Option Addr) (n0 c0 lo0 hi0 B : Nat) (a1 m : Int) (w : World) (h0 : n0 ≤ 1048576) (r0 : Rd w lo0 hi0 1 A0 n0 (u8s l0)) (p0 : n0 ≤ c0) (b0 : Hid (U8s l0)) (hB : BoxAt w B 3 #[.int .i64 m]) :
    Calls Try.prog 82 #[.slice A0 n0 c0, .int .i64 a1, .func (.func 83) #[] #[.pointer (some ⟨B, 0, none⟩)]] w (MakesVV 3 1 (mDI l0 a1 m).xs.length (i64s (mDI l0 a1 m).xs) (.int .i64 (mDI l0 a1 m).to) (.bool (mDI l0 a1 m).ok) w) := by
  have HL := Lib.hid (show l0.length = n0 by simpa using r0.1)
  by_cases hin : inR a1 0 n0 = true
  · obtain ⟨o, rfl⟩ := Int.eq_ofNat_of_zero_le (inR_true.1 hin).1
    have hon : o ≤ n0 := by have := (inR_true.1 hin).2; omega
    have HCl : Hid (Calls Try.prog 83 #[.pointer (some ⟨w.heap.size, 0, none⟩), .pointer (some ⟨B, 0, none⟩)] (w.alloc (.cells #[.slice A0 n0 c0, .int .i64 o] 211)) (IntsQ (mDI l0 o m) w.heap.size (w.alloc (.cells #[.slice A0 n0 c0, .int .i64 o] 211)))) := Lib.hid (by
      have HBy : Hid (Calls Try.prog 84 #[.pointer (some ⟨w.heap.size, 0, none⟩), .int .i64 m] (w.alloc (.cells #[.slice A0 n0 c0, .int .i64 o] 211)) (IntsQ (mDI l0 o m) w.heap.size (w.alloc (.cells #[.slice A0 n0 c0, .int .i64 o] 211)))) := by
        by_cases hm : inR m 0 100 = true
        · have e : mDI l0 (o : Int) m = mDec l0 m.toNat o [] := by unfold mDI; rw [HL.out, if_pos ⟨hm, hin⟩]
          rw [e]
          obtain ⟨cnt, rfl⟩ := Int.eq_ofNat_of_zero_le (inR_true.1 hm).1
          have hcnt : cnt ≤ 100 := by have := (inR_true.1 hm).2; omega
          rw [Int.toNat_natCast]
          by_cases hz : n0 = 0
          · subst hz
            obtain rfl : o = 0 := by omega
            exact Lib.hid (ints_empty l0 HL.out w.heap.size c0 cnt A0 _ hcnt (box_new w _ _))
          · obtain ⟨b, off, _, rfl, _, hbl, _, _⟩ := rd_int (r0.old (by decide)) (show 0 < n0 by omega)
            exact Lib.hid (ints_any l0 b off n0 c0 lo0 hi0 w.heap.size o cnt _ h0 p0 hon hcnt (r0.alloc _) b0 (by omega) (box_new w _ _))
        · have e : mDI l0 (o : Int) m = noD := by unfold mDI; rw [if_neg (fun h => hm h.1)]
          rw [e]
          exact Lib.hid (ints_bad _ m _ (by simpa using hm))
      have q0 : (w.alloc (.cells #[.slice A0 n0 c0, .int .i64 o] 211)).cell? ⟨B, 0, none⟩ = _ := (hB.alloc_ (.cells #[.slice A0 n0 c0, .int .i64 o] 211)).at_ (j := 0) rfl
      generalize w.alloc (.cells #[.slice A0 n0 c0, .int .i64 o] 211) = W at HBy q0 ⊢
      clear r0 hB
      generalize w.heap.size = g at HBy ⊢
      go_enter Try.func83, Try.ntmps83
      go_wp2_with fail
      refine HBy.out.mono ?_
      rintro e w2 ⟨hg, ⟨hok, ⟨A, c, rfl, hF⟩, hs⟩ | ⟨hno, v, rfl⟩⟩
      · have HP := Lib.hid (⟨hg, hok, hF, hs⟩ : _ ∧ _ ∧ _ ∧ _)
        clear hg hok hF hs
        go_wp2_with fail
        go_ret2
        exact ⟨HP.out.1, Or.inl ⟨HP.out.2.1, ⟨A, c, rfl, HP.out.2.2.1⟩, HP.out.2.2.2⟩⟩
      · have HP := Lib.hid (⟨hg, hno⟩ : _ ∧ _)
        clear hg hno
        go_wp2_with fail
        go_ret2
        exact ⟨HP.out.1, Or.inr ⟨HP.out.2, v, rfl⟩⟩)
    clear r0 hB
    go_enter Try.func82, Try.ntmps82
    go_wp2_with (go_at_call 140; refine (impl_in _ _ _ _).mono ?_; rintro e w1 ⟨rfl, rfl⟩)
    refine HCl.out.mono ?_
    rintro e w2 ⟨hg, ⟨hok, ⟨A, c, rfl, hF⟩, s, hs⟩ | ⟨hno, v, rfl⟩⟩
    · have HG := Lib.hid (below_own hg)
      obtain ⟨T, hT⟩ : ∃ T, (mDI l0 (o : Int) m).to = T := ⟨_, rfl⟩
      rw [hT] at hs
      have p1 := hs.at_ (j := 1) (u := .int .i64 T) rfl
      have HF := Lib.hid (hF.mono (lo' := w.heap.size) (by simp) (Nat.le_refl _))
      have HOK := Lib.hid hok
      have HTT := Lib.hid hT
      clear hg hs hF hok hT
      go_wp2_with fail
      go_quiet (fail)
      go_wp2_with fail
      go_ret3
      exact ⟨A, c, by rw [HOK.out, HTT.out]; rfl, HF.out.drewN _, below_dN HG.out _⟩
    · have HG := Lib.hid (below_own hg)
      have HE := Lib.hid (mDI_noD _ _ _ hno)
      clear hg hno
      go_wp2_with fail
      go_ret3
      exact ⟨none, 0, by rw [HE.out]; rfl, by rw [HE.out]; exact ⟨rfl, fun h => absurd h (by simp [noD])⟩, HG.out⟩
  · have HE := Lib.hid (show mDI l0 a1 m = noD by unfold mDI; rw [HL.out, if_neg (fun h => hin h.2)])
    have hin : inR a1 0 n0 = false := by simpa using hin
    clear r0 hB
    go_enter Try.func82, Try.ntmps82
    go_wp2_with (go_at_call 140; refine (impl_in _ _ _ _).mono ?_; rintro e w1 ⟨rfl, rfl⟩)
    go_ret3
    exact ⟨none, 0, by rw [HE.out]; rfl, by rw [HE.out]; exact ⟨rfl, fun h => absurd h (by simp [noD])⟩, Below.refl _ _⟩
set_option maxHeartbeats 8000000 in
theorem impl_DecodeIntsC (l0 : List Int) (A0 : Option Addr) (n0 c0 lo0 hi0 : Nat) (a1 a2 : Int) (w : World) (h0 : n0 ≤ 1048576) (r0 : Rd w lo0 hi0 1 A0 n0 (u8s l0)) (p0 : n0 ≤ c0) (b0 : Hid (U8s l0)) (w1 : (Lit.int .i64 a1).wf = true) (w2 : (Lit.int .i64 a2).wf = true) :
    Calls Try.prog 22 #[.slice A0 n0 c0, .int .i64 a1, .int .i64 a2] w (MakesVV 3 1 (mDI l0 a1 a2).xs.length (i64s (mDI l0 a1 a2).xs) (.int .i64 (mDI l0 a1 a2).to) (.bool (mDI l0 a1 a2).ok) w) := by
  have hmf : ∀ (fn : Fn) (first cap : Array Value) (w : World), (Instr.makeFunc fn first cap).run Try.prog w = .ok (.func fn first cap) w := fun _ _ _ _ => rfl
  have HC := Lib.hid (read_ints l0 A0 n0 c0 lo0 hi0 w.heap.size a1 a2 _ h0 (r0.alloc (.cells #[.int .i64 a2] 3)) p0 b0 (box_new w _ _))
  clear r0
  go_enter Try.func22, Try.ntmps22
  go_wp2_with fail
  refine HC.out.mono ?_
  rintro e w2 ⟨A, c, rfl, hF, hb⟩
  have HF := Lib.hid (hF.mono (lo' := w.heap.size) (by simp) (Nat.le_refl _))
  have HB := Lib.hid (((Below.refl w.heap.size w).alloc (Nat.le_refl _) (.cells #[.int .i64 a2] 3)).trans (hb.mono (by simp)))
  clear hF hb
  go_wp2_with fail
  go_ret3
  exact ⟨A, c, rfl, HF.out, HB.out⟩
end Go.Proofs.Ytblmdjdaiilmmaa
