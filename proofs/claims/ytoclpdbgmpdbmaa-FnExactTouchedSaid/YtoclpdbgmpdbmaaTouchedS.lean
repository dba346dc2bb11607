/- Touched, of the program and of the model. -/
import Derived.Test.YtoclpdbgmpdbmaaTouched
import Derived.Deep.LoopGhost
namespace Go.Proofs.Ytoclpdbgmpdbmaa
open Go Go.ChangeShapes Go.WideShapes Go.ChangeAt Go.RowKit Go.Lib
set_option linter.unusedVariables false
set_option linter.unusedSimpArgs false
set_option maxRecDepth 100000
theorem impl_Touched (l : List TEdit) (A : Option Addr) (n c lo hi : Nat) (a : Int) (w : World) (hn : n ≤ 1048576) (hr : Rd w lo hi 6 A n (cEdit l)) (H : Hid (cEditOk l)) (wf : (Lit.int .i64 a).wf = true) :
    Calls Try.prog 24 #[.slice A n c, .int .i64 a] w (Makes 3 1 (mTouched l a).length (i64s (mTouched l a)) w) :=
  callsIn_wide.1 (touched_in 3 (Nat.le_refl _) l A n c 0 w.heap.size a w (hr.old (by decide)) (Nat.le_refl _) hn)
set_option maxHeartbeats 8000000 in
theorem spec_Touched (l : List TEdit) (A : Option Addr) (n c lo hi : Nat) (a : Int) (w : World) (hn : n ≤ 1048576) (hr : Rd w lo hi 6 A n (cEdit l)) (H : Hid (cEditOk l)) (wf : (Lit.int .i64 a).wf = true) :
    Calls Try.prog 22 #[.slice A n c, .int .i64 a] w (Makes 3 1 (mTouched l a).length (i64s (mTouched l a)) w) := by
  have HL := Lib.hid (rd_len TEdit.len hr (by decide))
  have HR := Lib.hid hr
  clear hr
  rw [show mTouched l a = mAsd (mFm (fun x : TEdit => x.f5 == a) TEdit.f1 l) from rfl]
  go_enter Try.func22, Try.ntmps22
  go_wp2_with fail
  go_loopg [5, 6] n (fun gg v i wr => ∃ (k : Nat) (A : Option Addr) (m c : Nat), k ≤ n ∧ n - k ≤ gg ∧ i = .int .i64 k ∧ v = .slice A m c ∧ m ≤ k ∧ Hid (m = (mAsd (mFm (fun x : TEdit => x.f5 == a) TEdit.f1 (l.take k))).length) ∧ Hid (Fr wr w.heap.size wr.heap.size 3 1 A m c (i64s (mAsd (mFm (fun x : TEdit => x.f5 == a) TEdit.f1 (l.take k))))) ∧ Hid (Below w.heap.size w wr))
  case atStart => exact ⟨0, _, 0, 0, Nat.zero_le _, by omega, rfl, rfl, Nat.le_refl _, Lib.hid rfl, Lib.hid ⟨rfl, fun h => absurd h (by omega)⟩, Lib.hid ((Below.refl _ _).alloc (Nat.le_refl _) _)⟩
  case round =>
    obtain ⟨k, A', m, c', hk, hg, rfl, rfl, hmk, HM, HF, HB⟩ := hrel
    by_cases hlt : k < n
    · obtain ⟨b, off, x, rfl, _, _, hz, hc⟩ := rd_elem TEdit.len (HR.out.new HB.out) HL.out hlt
      have c0 : wr.cell? ⟨b, off + k * 6, none⟩ = _ := hc 0 _ rfl
      have c1 := hc 1 _ rfl
      have c2 := hc 2 _ rfl
      have c3 := hc 3 _ rfl
      have c4 := hc 4 _ rfl
      have c5 := hc 5 _ rfl
      have HS := Lib.hid HB.out.size
      by_cases h0 : (x.f5 == a) = true
      · have HE := Lib.hid (show mAsd (mFm (fun x : TEdit => x.f5 == a) TEdit.f1 (l.take (k + 1))) = mPut x.f1 (mAsd (mFm (fun x : TEdit => x.f5 == a) TEdit.f1 (l.take k))) by rw [fm_yes hz (by simpa using h0), mAsd_snoc])
        generalize mAsd (mFm (fun x : TEdit => x.f5 == a) TEdit.f1 (l.take k)) = L at HE HM HF
        have HN := Lib.hid (mPut_len x.f1 L)
        clear hz hc
        go_wp2_with fail
        refine (spec_l6Put L A' m c' _ _ x.f1 wr (by omega) HF.out.rd HF.out.cap).mono ?_
        rintro e w1 ⟨A2, c2, rfl, h1, h2⟩
        have HF1 := Lib.hid (show Fr w1 w.heap.size w1.heap.size 3 1 A2 (mPut x.f1 L).length c2 (i64s (mAsd (mFm (fun x : TEdit => x.f5 == a) TEdit.f1 (l.take (k + 1))))) by rw [HE.out]; exact h1.mono HS.out (Nat.le_refl _))
        have HB1 := Lib.hid (below_trans HB.out h2 (Nat.le_refl _))
        clear h1 h2
        go_wp2_with fail
        go_roundg (n - (k + 1))
        case measure => omega
        case rel => exact ⟨k + 1, A2, _, c2, by omega, by omega, by go_num, rfl, by have := HN.out; have := HM.out; omega, Lib.hid (by rw [HE.out]), HF1, HB1⟩
      · have h0 : (x.f5 == a) = false := by simpa using h0
        have HE := Lib.hid (show mFm (fun x : TEdit => x.f5 == a) TEdit.f1 (l.take (k + 1)) = mFm (fun x : TEdit => x.f5 == a) TEdit.f1 (l.take k) from fm_no hz (by simpa using h0))
        clear hz hc
        go_wp2_with fail
        go_roundg (n - (k + 1))
        case measure => omega
        case rel => exact ⟨k + 1, A', m, c', by omega, by omega, by go_num, rfl, by omega, Lib.hid (by rw [HE.out]; exact HM.out), Lib.hid (by rw [HE.out]; exact HF.out), HB⟩
    · obtain rfl : k = n := by omega
      have HT := Lib.hid (show l.take k = l from List.take_of_length_le (by rw [HL.out]; omega))
      have HF1 := Lib.hid (show Fr wr w.heap.size wr.heap.size 3 1 A' m c' (i64s (mAsd (mFm (fun x : TEdit => x.f5 == a) TEdit.f1 l))) by have h := HF.out; rw [HT.out] at h; exact h)
      have HN := Lib.hid (show m = (mAsd (mFm (fun x : TEdit => x.f5 == a) TEdit.f1 l)).length by have h := HM.out; rw [HT.out] at h; exact h)
      clear HF HM
      go_wp2_with fail
      go_ret
      refine ⟨A', c', ?_, ?_, HB.out⟩
      · rw [← HN.out]; rfl
      · rw [← HN.out]; exact HF1.out
end Go.Proofs.Ytoclpdbgmpdbmaa
