/- ownersOf, OwnersRead, OwnersSent: whose steps of a kind they are, ascending. -/
import Derived.Test.YtoclpdbgmpdbmaaFm
import Derived.Test.YtoclpdbgmpdbmaaAreOps2
import Derived.Test.YtoclpdbgmpdbmaaTOp
import Derived.Deep.LoopGhost
namespace Go.Proofs.Ytoclpdbgmpdbmaa
open Go Go.ChangeShapes Go.WideShapes Go.ChangeAt Go.RowKit Go.Lib
set_option linter.unusedVariables false
set_option linter.unusedSimpArgs false
set_option maxRecDepth 100000
def mOwners (l : List TOp) (a : Int) : List Int := if mAreOps l = true then mAsc (mFm (fun x : TOp => x.f0 == a) TOp.f2 l) else []
theorem mOwners_len (l : List TOp) (a : Int) : (mOwners l a).length ≤ l.length := by
  unfold mOwners
  split
  · exact Nat.le_trans (mAsc_len _) fm_len
  · simp
theorem fr_nil {w : World} {lo hi size : Nat} {E : TypeId} {c : Nat} {A : Option Addr} : Fr w lo hi E size A 0 c [] := ⟨by simp, fun h => absurd h (by omega)⟩
set_option maxHeartbeats 8000000 in
theorem impl_ownersOf (l : List TOp) (A : Option Addr) (n c lo hi : Nat) (a : Int) (w : World) (hn : n ≤ 1048576) (hr : Rd w lo hi 4 A n (cOp l)) (hcap : n ≤ c) (H : Hid (cOpOk l)) :
    Calls Try.prog 87 #[.slice A n c, .int .i64 a] w (Makes 3 1 (mOwners l a).length (i64s (mOwners l a)) w) := by
  have HL := Lib.hid (rd_len TOp.len hr (by decide))
  have CQ := impl_AreOpsC l A n c lo hi (w.alloc (.cells #[] 3)) hn (hr.alloc _) hcap H
  have HR := Lib.hid hr
  have HB0 := Lib.hid ((Below.refl w.heap.size w).alloc (Nat.le_refl _) (.cells #[] 3))
  have HOz := Lib.hid (World.ownsRow_lit (e := 3) (size := 1) w #[] 0 (Nat.le_refl _) (by unfold maxLen; omega) rfl)
  clear hr
  cases hq : mAreOps l with
  | false =>
    rw [hq] at CQ
    replace CQ := Lib.hid CQ
    rw [show mOwners l a = [] by unfold mOwners; rw [hq]; rfl]
    clear hq
    go_enter Try.func87, Try.ntmps87
    go_wp2_with fail
    refine CQ.out.mono ?_
    rintro e w1 ⟨rfl, hb⟩
    have HB := Lib.hid (below_trans HB0.out hb (by simp))
    clear hb
    go_wp2_with fail
    go_ret
    exact ⟨_, _, rfl, fr_nil, HB.out⟩
  | true =>
    rw [hq] at CQ
    replace CQ := Lib.hid CQ
    rw [show mOwners l a = mAsc (mFm (fun x : TOp => x.f0 == a) TOp.f2 l) by unfold mOwners; rw [hq]; rfl]
    clear hq
    go_enter Try.func87, Try.ntmps87
    go_wp2_with fail
    refine CQ.out.mono ?_
    rintro e w1 ⟨rfl, hb⟩
    replace HOz := Lib.hid (own_newer HOz.out hb)
    replace HB0 := Lib.hid (below_trans HB0.out hb (by simp))
    clear hb
    go_wp2_with fail
    go_loopg [5, 15] n (fun gg v i wr => ∃ (k m : Nat), k ≤ n ∧ n - k ≤ gg ∧ i = .int .i64 k ∧ m ≤ k ∧ Hid (m = (mFm (fun x : TOp => x.f0 == a) TOp.f2 (l.take k)).length) ∧ Hid (wr.ownsRow w.heap.size 3 1 v m (i64s (mFm (fun x : TOp => x.f0 == a) TOp.f2 (l.take k)))) ∧ Hid (Below w.heap.size w wr))
    case atStart => exact ⟨0, 0, Nat.zero_le _, by omega, rfl, Nat.le_refl _, Lib.hid rfl, HOz, HB0⟩
    case round =>
      obtain ⟨k, m, hk, hg, rfl, hmk, HM, HO, HB⟩ := hrel
      by_cases hlt : k < n
      · obtain ⟨b, off, x, rfl, _, _, hz, hc⟩ := rd_elem TOp.len (HR.out.new HB.out) HL.out hlt
        have c0 : wr.cell? ⟨b, off + k * 4, none⟩ = _ := hc 0 _ rfl
        have c1 := hc 1 _ rfl
        have c2 := hc 2 _ rfl
        have c3 := hc 3 _ rfl
        have HS0 := Lib.hid HB.out.size
        replace HO := Lib.hid (HO.out.alloc (.cells #[.int .i64 x.f0, .int .i64 x.f1, .int .i64 x.f2, .int .i64 x.f3] 125))
        have HB0 := Lib.hid (HB.out.alloc HS0.out (.cells #[.int .i64 x.f0, .int .i64 x.f1, .int .i64 x.f2, .int .i64 x.f3] 125))
        have HS := Lib.hid HB0.out.size
        by_cases h0 : (x.f0 == a) = true
        · have HE := Lib.hid (show mFm (fun x : TOp => x.f0 == a) TOp.f2 (l.take (k + 1)) = mFm (fun x : TOp => x.f0 == a) TOp.f2 (l.take k) ++ [x.f2] from fm_yes hz (by simpa using h0))
          generalize mFm (fun x : TOp => x.f0 == a) TOp.f2 (l.take k) = L at HE HM HO
          clear hz hc
          go_wp2_with (at_builtin; refine wp_app_lit rfl _ _ _ rfl w.heap.size 3 (.int .i64 0) 1 8 Try.underlying24 info_int rfl (by decide) _ _ _ rfl HO.out #[.int .i64 x.f2] 1 1 _ rfl (by simp) rfl (one_int _) (by unfold maxLen; omega) (by omega) (by have := HS.out; simp at this ⊢; omega) ?_; intro v1 w2 ho1 hb1)
          have HO1 := Lib.hid (show w2.ownsRow w.heap.size 3 1 v1 (m + 1) (i64s (mFm (fun x : TOp => x.f0 == a) TOp.f2 (l.take (k + 1)))) by rw [HE.out]; simpa [i64s] using ho1)
          have HB1 := Lib.hid (HB0.out.trans hb1)
          clear ho1 hb1
          go_wp2_with fail
          go_roundg (n - (k + 1))
          case measure => omega
          case rel => exact ⟨k + 1, m + 1, by omega, by omega, by go_num, by omega, Lib.hid (by rw [HE.out]; have := HM.out; simp; omega), HO1, HB1⟩
        · have h0 : (x.f0 == a) = false := by simpa using h0
          have HE := Lib.hid (show mFm (fun x : TOp => x.f0 == a) TOp.f2 (l.take (k + 1)) = mFm (fun x : TOp => x.f0 == a) TOp.f2 (l.take k) from fm_no hz (by simpa using h0))
          clear hz hc
          go_wp2_with fail
          go_roundg (n - (k + 1))
          case measure => omega
          case rel => exact ⟨k + 1, m, by omega, by omega, by go_num, by omega, Lib.hid (by rw [HE.out]; exact HM.out), Lib.hid (by rw [HE.out]; exact HO.out), HB0⟩
      · obtain rfl : k = n := by omega
        have HT := Lib.hid (show l.take k = l from List.take_of_length_le (by rw [HL.out]; omega))
        obtain ⟨Aq, cq, rfl, hF⟩ := fr_of_own HO.out
        rw [HT.out] at hF
        have CA := Lib.hid (ascending_any _ Aq m cq _ _ wr (by omega) hF)
        have HS := Lib.hid HB.out.size
        clear hF
        go_wp2_with fail
        refine CA.out.mono ?_
        rintro e w1 ⟨rfl, h1, h2⟩
        have HF := Lib.hid (h1.mono (Nat.le_refl _) h2.size)
        have HB1 := Lib.hid (HB.out.trans (h2.below (.inl (Nat.le_refl _)) HS.out))
        clear h1 h2
        go_wp2_with fail
        go_ret
        exact ⟨_, _, rfl, HF.out, HB1.out⟩

set_option maxHeartbeats 8000000 in
theorem spec_l27Owners (l : List TOp) (A : Option Addr) (n c lo hi : Nat) (a : Int) (w : World) (hn : n ≤ 1048576) (hr : Rd w lo hi 4 A n (cOp l)) (hcap : n ≤ c) (H : Hid (cOpOk l)) :
    Calls Try.prog 85 #[.slice A n c, .int .i64 a] w (Makes 3 1 (mOwners l a).length (i64s (mOwners l a)) w) := by
  have HL := Lib.hid (rd_len TOp.len hr (by decide))
  have HQ := Lib.hid (fun (W : World) (h : Rd W lo hi 4 A n (cOp l)) => spec_AreOps l A n c lo hi W hn h hcap H)
  have HR := Lib.hid hr
  clear hr
  cases hq : mAreOps l with
  | false =>
    rw [hq] at HQ
    rw [show mOwners l a = [] by unfold mOwners; rw [hq]; rfl]
    clear hq
    go_enter Try.func85, Try.ntmps85
    by_cases h0 : 0 < n
    · go_wp2_with fail
      refine wp_loop_rounds 1 ?_
      rw [rounds_succ]
      go_wp2_with fail
      refine (HQ.out _ (HR.out.alloc _)).mono ?_
      rintro e w1 ⟨rfl, hb⟩
      have HB := Lib.hid (below_trans ((Below.refl w.heap.size w).alloc (Nat.le_refl _) (.cells #[] 3)) hb (by simp))
      clear hb
      go_wp2_with fail
      go_ret
      exact ⟨_, _, rfl, fr_nil, HB.out⟩
    · obtain rfl : n = 0 := by omega
      go_wp2_with fail
      refine wp_loop_rounds 1 ?_
      rw [rounds_succ]
      go_wp2_with fail
      go_ret
      exact ⟨_, _, rfl, fr_nil, (Below.refl w.heap.size w).alloc (Nat.le_refl _) _⟩
  | true =>
    rw [hq] at HQ
    rw [show mOwners l a = mAsc (mFm (fun x : TOp => x.f0 == a) TOp.f2 l) by unfold mOwners; rw [hq]; rfl]
    clear hq
    go_enter Try.func85, Try.ntmps85
    go_wp2_with fail
    go_loopg [5, 6] n (fun gg v i wr => ∃ (k : Nat) (A : Option Addr) (m c : Nat), k ≤ n ∧ n - k ≤ gg ∧ i = .int .i64 k ∧ v = .slice A m c ∧ m ≤ k ∧ Hid (m = (mAsc (mFm (fun x : TOp => x.f0 == a) TOp.f2 (l.take k))).length) ∧ Hid (Fr wr w.heap.size wr.heap.size 3 1 A m c (i64s (mAsc (mFm (fun x : TOp => x.f0 == a) TOp.f2 (l.take k))))) ∧ Hid (Below w.heap.size w wr))
    case atStart => exact ⟨0, _, 0, 0, Nat.zero_le _, by omega, rfl, rfl, Nat.le_refl _, Lib.hid rfl, Lib.hid ⟨rfl, fun h => absurd h (by omega)⟩, Lib.hid ((Below.refl _ _).alloc (Nat.le_refl _) _)⟩
    case round =>
      obtain ⟨k, A', m, c', hk, hg, rfl, rfl, hmk, HM, HF, HB⟩ := hrel
      by_cases hlt : k < n
      · obtain ⟨b, off, x, rfl, _, _, hz, hc⟩ := rd_elem TOp.len (HR.out.new HB.out) HL.out hlt
        have c0 : wr.cell? ⟨b, off + k * 4, none⟩ = _ := hc 0 _ rfl
        have c1 := hc 1 _ rfl
        have c2 := hc 2 _ rfl
        have c3 := hc 3 _ rfl
        have hlq : b < wr.heap.size := World.block_lt_of_cell? _ _ c0
        have HQ1 := Lib.hid (HQ.out wr (HR.out.new HB.out))
        by_cases h0 : (x.f0 == a) = true
        · have HE := Lib.hid (show mAsc (mFm (fun x : TOp => x.f0 == a) TOp.f2 (l.take (k + 1))) = mPut x.f2 (mAsc (mFm (fun x : TOp => x.f0 == a) TOp.f2 (l.take k))) by rw [fm_yes hz (by simpa using h0), mAsc_snoc])
          generalize mAsc (mFm (fun x : TOp => x.f0 == a) TOp.f2 (l.take k)) = L at HE HM HF
          have HN := Lib.hid (mPut_len x.f2 L)
          clear hz hc
          go_wp2_with fail
          refine HQ1.out.mono ?_
          rintro e wq ⟨rfl, hbq⟩
          obtain ⟨hcq, hfq⟩ := bcell hbq
          have hsq := hbq.size
          have HFq := Lib.hid ((HF.out.new hbq).mono (Nat.le_refl _) hbq.size)
          have HBq := Lib.hid (below_trans HB.out hbq (Nat.le_refl _))
          have HS := Lib.hid HBq.out.size
          clear hbq
          go_wp2_with fail
          refine (spec_l6Put L A' m c' _ _ x.f2 wq (by omega) HFq.out.rd HFq.out.cap).mono ?_
          rintro e w1 ⟨A2, c2, rfl, h1, h2⟩
          have HF1 := Lib.hid (show Fr w1 w.heap.size w1.heap.size 3 1 A2 (mPut x.f2 L).length c2 (i64s (mAsc (mFm (fun x : TOp => x.f0 == a) TOp.f2 (l.take (k + 1))))) by rw [HE.out]; exact h1.mono HS.out (Nat.le_refl _))
          have HB1 := Lib.hid (below_trans HBq.out h2 (Nat.le_refl _))
          clear h1 h2
          go_wp2_with fail
          go_roundg (n - (k + 1))
          case measure => omega
          case rel => exact ⟨k + 1, A2, _, c2, by omega, by omega, by go_num, rfl, by have := HN.out; have := HM.out; omega, Lib.hid (by rw [HE.out]), HF1, HB1⟩
        · have h0 : (x.f0 == a) = false := by simpa using h0
          have HE := Lib.hid (show mFm (fun x : TOp => x.f0 == a) TOp.f2 (l.take (k + 1)) = mFm (fun x : TOp => x.f0 == a) TOp.f2 (l.take k) from fm_no hz (by simpa using h0))
          clear hz hc
          go_wp2_with fail
          refine HQ1.out.mono ?_
          rintro e wq ⟨rfl, hbq⟩
          obtain ⟨hcq, hfq⟩ := bcell hbq
          have hsq := hbq.size
          have HFq := Lib.hid ((HF.out.new hbq).mono (Nat.le_refl _) hbq.size)
          have HBq := Lib.hid (below_trans HB.out hbq (Nat.le_refl _))
          have HS := Lib.hid HBq.out.size
          clear hbq
          go_wp2_with fail
          go_roundg (n - (k + 1))
          case measure => omega
          case rel => exact ⟨k + 1, A', m, c', by omega, by omega, by go_num, rfl, by omega, Lib.hid (by rw [HE.out]; exact HM.out), Lib.hid (by rw [HE.out]; exact HFq.out), HBq⟩
      · obtain rfl : k = n := by omega
        have HT := Lib.hid (show l.take k = l from List.take_of_length_le (by rw [HL.out]; omega))
        have HF1 := Lib.hid (show Fr wr w.heap.size wr.heap.size 3 1 A' m c' (i64s (mAsc (mFm (fun x : TOp => x.f0 == a) TOp.f2 l))) by have h := HF.out; rw [HT.out] at h; exact h)
        have HN := Lib.hid (show m = (mAsc (mFm (fun x : TOp => x.f0 == a) TOp.f2 l)).length by have h := HM.out; rw [HT.out] at h; exact h)
        clear HF HM
        go_wp2_with fail
        go_ret
        refine ⟨A', c', ?_, ?_, HB.out⟩
        · rw [← HN.out]; rfl
        · rw [← HN.out]; exact HF1.out


theorem impl_OwnersReadC (l : List TOp) (A : Option Addr) (n c lo hi : Nat) (w : World) (hn : n ≤ 1048576) (hr : Rd w lo hi 4 A n (cOp l)) (hcap : n ≤ c) (H : Hid (cOpOk l)) :
    Calls Try.prog 36 #[.slice A n c] w (Makes 3 1 (mOwners l 1).length (i64s (mOwners l 1)) w) := by
  have C0 := Lib.hid (impl_ownersOf l A n c lo hi 1 w hn hr hcap H)
  go_enter Try.func36, Try.ntmps36
  go_wp2_with fail
  refine C0.out.mono ?_
  rintro e w1 ⟨A1, c1, rfl, h1, h2⟩
  have H1 := Lib.hid h1
  have H2 := Lib.hid h2
  clear h1 h2
  go_wp2_with fail
  go_ret
  exact ⟨_, _, rfl, H1.out, H2.out⟩
theorem spec_OwnersRead (l : List TOp) (A : Option Addr) (n c lo hi : Nat) (w : World) (hn : n ≤ 1048576) (hr : Rd w lo hi 4 A n (cOp l)) (hcap : n ≤ c) (H : Hid (cOpOk l)) :
    Calls Try.prog 34 #[.slice A n c] w (Makes 3 1 (mOwners l 1).length (i64s (mOwners l 1)) w) := by
  have C0 := Lib.hid (spec_l27Owners l A n c lo hi 1 w hn hr hcap H)
  go_enter Try.func34, Try.ntmps34
  go_wp2_with fail
  refine C0.out.mono ?_
  rintro e w1 ⟨A1, c1, rfl, h1, h2⟩
  have H1 := Lib.hid h1
  have H2 := Lib.hid h2
  clear h1 h2
  go_wp2_with fail
  go_ret
  exact ⟨_, _, rfl, H1.out, H2.out⟩

theorem impl_OwnersSentC (l : List TOp) (A : Option Addr) (n c lo hi : Nat) (w : World) (hn : n ≤ 1048576) (hr : Rd w lo hi 4 A n (cOp l)) (hcap : n ≤ c) (H : Hid (cOpOk l)) :
    Calls Try.prog 40 #[.slice A n c] w (Makes 3 1 (mOwners l 5).length (i64s (mOwners l 5)) w) := by
  have C0 := Lib.hid (impl_ownersOf l A n c lo hi 5 w hn hr hcap H)
  go_enter Try.func40, Try.ntmps40
  go_wp2_with fail
  refine C0.out.mono ?_
  rintro e w1 ⟨A1, c1, rfl, h1, h2⟩
  have H1 := Lib.hid h1
  have H2 := Lib.hid h2
  clear h1 h2
  go_wp2_with fail
  go_ret
  exact ⟨_, _, rfl, H1.out, H2.out⟩
theorem spec_OwnersSent (l : List TOp) (A : Option Addr) (n c lo hi : Nat) (w : World) (hn : n ≤ 1048576) (hr : Rd w lo hi 4 A n (cOp l)) (hcap : n ≤ c) (H : Hid (cOpOk l)) :
    Calls Try.prog 39 #[.slice A n c] w (Makes 3 1 (mOwners l 5).length (i64s (mOwners l 5)) w) := by
  have C0 := Lib.hid (spec_l27Owners l A n c lo hi 5 w hn hr hcap H)
  go_enter Try.func39, Try.ntmps39
  go_wp2_with fail
  refine C0.out.mono ?_
  rintro e w1 ⟨A1, c1, rfl, h1, h2⟩
  have H1 := Lib.hid h1
  have H2 := Lib.hid h2
  clear h1 h2
  go_wp2_with fail
  go_ret
  exact ⟨_, _, rfl, H1.out, H2.out⟩
end Go.Proofs.Ytoclpdbgmpdbmaa
