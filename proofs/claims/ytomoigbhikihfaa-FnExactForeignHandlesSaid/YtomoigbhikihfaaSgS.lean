/- What a world sees, in the model: l7Has, l7Sees, SeenBy. -/
import Derived.Test.YtomoigbhikihfaaSgM
import Derived.Test.YtomoigbhikihfaaSlI
import Derived.Test.YtomoigbhikihfaaENode
import Derived.Deep.RegionHeld3
import Derived.Deep.LoopGhost
namespace Go.Proofs.Ytomoigbhikihfaa
open Go Go.ChangeShapes Go.WideShapes Go.ChangeAt Go.RowKit Go.Lib
set_option linter.unusedVariables false
set_option linter.unusedSimpArgs false
set_option maxRecDepth 100000

theorem has_hit {l : List Int} {k : Nat} {z : Int} (hz : l[k]? = some z) : l.contains z = true := by
  rw [List.contains_iff_mem]; exact List.mem_of_getElem? hz
theorem has_next {l : List Int} {k : Nat} {z a : Int} (h : (l.take k).contains a = false) (hz : l[k]? = some z) (e : z ≠ a) : (l.take (k + 1)).contains a = false := by
  rw [List.take_add_one, hz, Option.toList_some]
  simp only [List.contains_eq_mem, decide_eq_false_iff_not, List.mem_append, List.mem_singleton] at h ⊢
  rintro (h1 | h1)
  · exact h h1
  · exact e h1.symm
theorem spec_l7Has (l : List Int) (A : Option Addr) (n c lo hi : Nat) (a : Int) (X : Bool) (w : World) (hn : n ≤ 1048576) (hr : Rd w lo hi 1 A n (i64s l)) (hX : Hid (l.contains a = X)) :
    Calls Try.prog 61 #[.slice A n c, .int .i64 a] w (Says (.bool X) w) := by
  have HR := Lib.hid hr
  have HL := Lib.hid (show l.length = n by simpa using hr.1)
  clear hr
  refine says_of_same ?_
  go_enter Try.func61, Try.ntmps61
  go_wp2_with fail
  go_loop [5] (fun i => ∃ k : Nat, k ≤ n ∧ i = .int .i64 k ∧ Hid ((l.take k).contains a = false)) (fun i => n - (intOf i).toNat)
  case atStart => exact ⟨0, Nat.zero_le _, rfl, Lib.hid (by simp)⟩
  case round =>
    obtain ⟨k, hk, rfl, HN⟩ := hrel
    by_cases hlt : k < n
    · obtain ⟨b, off, z, rfl, _, _, hz, hc⟩ := rd_int HR.out hlt
      by_cases e : z = a
      · have g : (z == a) = true := by simpa using e
        have HE := Lib.hid (show X = true by rw [← hX.out, ← e]; exact has_hit hz)
        clear hz e
        go_wp2_with fail
        go_ret
        exact ⟨by rw [HE.out]; rfl, rfl⟩
      · have g : (z == a) = false := by simpa using e
        have HE := Lib.hid (has_next HN.out hz e)
        clear hz e
        go_wp2_with fail
        go_round
        case rel => exact ⟨k + 1, by omega, by go_num, HE⟩
        case measure => simp [intOf]; omega
    · obtain rfl : k = n := by omega
      have HE := Lib.hid (show X = false by rw [← hX.out]; have h := HN.out; rwa [List.take_of_length_le (by rw [HL.out]; omega)] at h)
      go_wp2_with fail
      go_ret
      exact ⟨by rw [HE.out]; rfl, rfl⟩
set_option maxHeartbeats 4000000 in
theorem spec_l7Sees (l : List TNode) (A : Option Addr) (n c lo hi : Nat) (h : List Int) (A1 : Option Addr) (n1 c1 lo1 hi1 : Nat) (b : Int) (i : Nat) (w : World) (hn : n ≤ 1048576) (hr : Rd w lo hi 5 A n (cNode l)) (hcap : n ≤ c)
    (hn1 : n1 ≤ 1048576) (hr1 : Rd w lo1 hi1 1 A1 n1 (i64s h)) (hi0 : i < n) :
    Calls Try.prog 41 #[.slice A n c, .slice A1 n1 c1, .int .i64 b, .int .i64 (i : Int)] w (Says (.bool (mSees l h b i)) w) := by
  have HR := Lib.hid hr
  have HL := Lib.hid (rd_len TNode.len hr (by decide))
  have HR1 := Lib.hid hr1
  clear hr hr1
  generalize hS : mSees l h b i = S
  have HS := Lib.hid hS
  clear hS
  go_enter Try.func41, Try.ntmps41
  go_wp2_with fail
  go_loopw [3] (fun v wr => ∃ kI : Int, v = .int .i64 kI ∧ -1 ≤ kI ∧ kI ≤ i ∧ Hid (upF l h b (kI + 1).toNat kI = S) ∧ Below w.heap.size w wr) (fun v _ => (intOf v + 1).toNat)
  case atStart => exact ⟨i, rfl, by omega, by omega, Lib.hid (by rw [← HS.out]; rfl), Below.refl _ _⟩
  case round =>
    obtain ⟨kI, rfl, hk1, hk2, HU, hb⟩ := hrel
    have HB := Lib.hid hb
    have HRw := Lib.hid (HR.out.new hb)
    have HRh := Lib.hid (HR1.out.new hb)
    clear hb
    by_cases hk0 : 0 ≤ kI
    · obtain ⟨k, rfl⟩ := Int.eq_ofNat_of_zero_le hk0
      have hlt : k < n := by omega
      obtain ⟨bb, off, x, rfl, _, _, hz, hc⟩ := rd_elem TNode.len HRw.out HL.out hlt
      have c0 : wr.cell? ⟨bb, off + k * 5, none⟩ = _ := hc 0 _ rfl
      have c1' := hc 1 _ rfl
      have c2 := hc 2 _ rfl
      have c4 := hc 4 _ rfl
      have hbl : bb < wr.heap.size := World.block_lt_of_cell? wr _ c0
      have HZ := Lib.hid hz
      have hkc : k ≤ c := by omega
      have hc0 : ¬ c = 0 := by omega
      have HP := Lib.hid (take_rd (c := c) HRw.out (k := k) (by omega) HL.out)
      clear hz hc
      cases hh : h.contains x.f2 with
      | true =>
        by_cases e : x.f4 = b
        · have g : (x.f4 != b) = false := by simpa using e
          have HK := Lib.hid (show blk h b x = false by unfold blk; rw [g, Bool.and_false])
          have HM := Lib.hid (show upF l h b (mNodeOf (l.take k) x.f1 + 1).toNat (mNodeOf (l.take k) x.f1) = S by rw [upF_go HZ.out HK.out]; exact HU.out)
          have HH := Lib.hid hh
          clear e hh
          go_wp2_with fail
          refine (spec_l7Has h A1 n1 c1 lo1 hi1 x.f2 true _ hn1 HRh.out HH).mono ?_
          rintro e1 w1 ⟨rfl, hb1⟩
          obtain ⟨hc1, hf1⟩ := bcell hb1
          have HB1 := Lib.hid (below_trans HB.out hb1 (Nat.le_refl _))
          have HP1 := Lib.hid (HP.out.new hb1)
          have hbl1 : bb < w1.heap.size := by have := hb1.size; omega
          have d1 : w1.cell? ⟨bb, off + k * 5 + 1, none⟩ = some (.int .i64 x.f1) := by rw [hc1 _ _ hbl]; exact c1'
          have d4 : w1.cell? ⟨bb, off + k * 5 + 4, none⟩ = some (.int .i64 x.f4) := by rw [hc1 _ _ hbl]; exact c4
          clear hb1 hc1 hf1
          go_wp2_with fail
          go_quiet ((go_at_call 45; exact Calls.quiet_of_same ((spec_NodeOf' (l.take k) _ k c lo hi x.f1 _ (by omega) (HP1.out.drewN _)).mono fun _ _ ⟨a, b⟩ => ⟨a, b.symm⟩)))
          go_wp2_with fail
          go_roundw
          case rel => exact ⟨_, rfl, mNodeOf_ge _ _, by have := mNodeOf_lt l k x.f1; omega, HM, by first | exact below_dN HB1.out _ | exact HB1.out⟩
          case measure => have := mNodeOf_lt l k x.f1; have := mNodeOf_ge (l.take k) x.f1; simp [intOf]; omega
        · have g : (x.f4 != b) = true := by simpa using e
          have HE := Lib.hid (show S = false by rw [← HU.out]; exact upF_hid (f := k) HZ.out (by unfold blk; rw [hh, g]; rfl))
          have HH := Lib.hid hh
          clear e hh
          go_wp2_with fail
          refine (spec_l7Has h A1 n1 c1 lo1 hi1 x.f2 true _ hn1 HRh.out HH).mono ?_
          rintro e1 w1 ⟨rfl, hb1⟩
          obtain ⟨hc1, hf1⟩ := bcell hb1
          have HB1 := Lib.hid (below_trans HB.out hb1 (Nat.le_refl _))
          have d4 : w1.cell? ⟨bb, off + k * 5 + 4, none⟩ = some (.int .i64 x.f4) := by rw [hc1 _ _ hbl]; exact c4
          clear hb1 hc1 hf1
          go_wp2_with fail
          go_ret
          exact ⟨by rw [HE.out]; rfl, HB1.out⟩
      | false =>
        have HK := Lib.hid (show blk h b x = false by unfold blk; rw [hh, Bool.false_and])
        have HM := Lib.hid (show upF l h b (mNodeOf (l.take k) x.f1 + 1).toNat (mNodeOf (l.take k) x.f1) = S by rw [upF_go HZ.out HK.out]; exact HU.out)
        have HH := Lib.hid hh
        clear hh
        go_wp2_with fail
        refine (spec_l7Has h A1 n1 c1 lo1 hi1 x.f2 false _ hn1 HRh.out HH).mono ?_
        rintro e1 w1 ⟨rfl, hb1⟩
        obtain ⟨hc1, hf1⟩ := bcell hb1
        have HB1 := Lib.hid (below_trans HB.out hb1 (Nat.le_refl _))
        have HP1 := Lib.hid (HP.out.new hb1)
        have hbl1 : bb < w1.heap.size := by have := hb1.size; omega
        have d1 : w1.cell? ⟨bb, off + k * 5 + 1, none⟩ = some (.int .i64 x.f1) := by rw [hc1 _ _ hbl]; exact c1'
        clear hb1 hc1 hf1
        go_wp2_with fail
        go_quiet ((go_at_call 45; exact Calls.quiet_of_same ((spec_NodeOf' (l.take k) _ k c lo hi x.f1 _ (by omega) (HP1.out.drewN _)).mono fun _ _ ⟨a, b⟩ => ⟨a, b.symm⟩)))
        go_wp2_with fail
        go_roundw
        case rel => exact ⟨_, rfl, mNodeOf_ge _ _, by have := mNodeOf_lt l k x.f1; omega, HM, by first | exact below_dN HB1.out _ | exact HB1.out⟩
        case measure => have := mNodeOf_lt l k x.f1; have := mNodeOf_ge (l.take k) x.f1; simp [intOf]; omega
    · have hk0' : kI = -1 := by omega
      subst hk0'
      have HE := Lib.hid (show S = true by rw [← HU.out]; exact upF_neg (by decide))
      go_wp2_with fail
      go_ret
      exact ⟨by rw [HE.out]; rfl, HB.out⟩
set_option maxHeartbeats 4000000 in
theorem spec_SeenBy (l0 : List TNode) (A0 : Option Addr) (n0 c0 lo0 hi0 : Nat) (l1 : List Int) (A1 : Option Addr) (n1 c1 lo1 hi1 : Nat) (a2 : Int) (w : World) (h0 : n0 ≤ 1048576) (r0 : Rd w lo0 hi0 5 A0 n0 (cNode l0)) (p0 : n0 ≤ c0) (b0 : Hid (cNodeOk l0))
    (h1 : n1 ≤ 1048576) (r1 : Rd w lo1 hi1 1 A1 n1 (i64s l1)) (p1 : n1 ≤ c1) (b1 : Hid (I64s l1)) (w2 : (Lit.int .i64 a2).wf = true) :
    Calls Try.prog 13 #[.slice A0 n0 c0, .slice A1 n1 c1, .int .i64 a2] w (Makes 54 5 (mSeen l0 l1 a2).length (cNode (mSeen l0 l1 a2)) w) := by
  have HR := Lib.hid r0
  have HL := Lib.hid (rd_len TNode.len r0 (by decide))
  have HR1 := Lib.hid r1
  clear r0 r1 w2
  by_cases hd : mIsDoc l0 = true
  · have HD := Lib.hid hd
    have HE := Lib.hid (show mSeen l0 l1 a2 = seenTo l0 l1 a2 n0 by unfold mSeen; rw [if_pos hd, HL.out])
    have HN := Lib.hid (show ∀ k, (seenTo l0 l1 a2 k).length ≤ k from seenTo_len)
    clear hd
    go_enter Try.func13, Try.ntmps13
    go_wp2_with fail
    go_loopg [7, 8] n0 (fun gg v i wr => ∃ k : Nat, k ≤ n0 ∧ n0 - k ≤ gg ∧ i = .int .i64 k ∧ Hid (wr.ownsRow w.heap.size 54 5 v (seenTo l0 l1 a2 k).length (cNode (seenTo l0 l1 a2 k))) ∧ Hid (Below w.heap.size w wr))
    case atStart => exact ⟨0, Nat.zero_le _, by omega, rfl, Lib.hid (World.ownsRow_lit w #[] 0 (Nat.le_refl _) (by unfold maxLen; omega) rfl), Lib.hid ((Below.refl _ _).alloc (Nat.le_refl _) _)⟩
    case round =>
      obtain ⟨k, hk, hg, rfl, HO, HB⟩ := hrel
      have HRw := Lib.hid (HR.out.new HB.out)
      by_cases hlt : k < n0
      · obtain ⟨b, off, x, hA, _, _, hz, hc⟩ := rd_elem TNode.len HRw.out HL.out hlt
        have HZ := Lib.hid hz
        have HA := Lib.hid hA
        clear hz hc hA
        go_wp2_with fail
        refine (spec_IsDocument' l0 A0 n0 c0 lo0 hi0 _ (by omega) p0 HRw.out).mono ?_
        rintro e1 w1 ⟨rfl, hb1⟩
        rw [HD.out]
        have HB1 := Lib.hid (below_trans HB.out hb1 (Nat.le_refl _))
        have HO1 := Lib.hid (own_newer HO.out hb1)
        clear hb1
        go_wp2_with fail
        refine (spec_l7Sees l0 A0 n0 c0 lo0 hi0 l1 A1 n1 c1 lo1 hi1 a2 k _ h0 (HR.out.new HB1.out) p0 h1 (HR1.out.new HB1.out) hlt).mono ?_
        rintro e2 w2 ⟨rfl, hb2⟩
        have HB2 := Lib.hid (below_trans HB1.out hb2 (Nat.le_refl _))
        have HO2 := Lib.hid (own_newer HO1.out hb2)
        clear hb2 HB1 HO1
        obtain rfl := HA.out
        obtain ⟨b', off', x', hA, _, _, hz, hc⟩ := rd_elem TNode.len (HR.out.new HB2.out) HL.out hlt
        injection hA with hA
        injection hA with hA1 hA2 _
        subst hA1
        subst hA2
        have hxx : x = x' := Option.some.inj (HZ.out.symm.trans hz)
        subst hxx
        have k0 : w2.cell? ⟨b, off + k * 5, none⟩ = _ := hc 0 _ rfl
        have k1 := hc 1 _ rfl
        have k2 := hc 2 _ rfl
        have k3 := hc 3 _ rfl
        have k4 := hc 4 _ rfl
        have HS := Lib.hid HB2.out.size
        clear hz hc HB HO HRw
        cases hs : mSees l0 l1 a2 k with
        | true =>
          have H2 := Lib.hid (seenTo_some HZ.out hs)
          clear hs
          go_wp2_with (at_builtin; refine wp_app_lit rfl _ _ _ rfl w.heap.size 54 (.agg #[.int .i64 0, .int .i64 0, .int .i64 0, .int .i64 0, .int .i64 0]) 5 40 Try.underlying25 (by kernel_rfl) rfl (by decide) _ _ _ rfl HO2.out #[.int .i64 x.f0, .int .i64 x.f1, .int .i64 x.f2, .int .i64 x.f3, .int .i64 x.f4] 1 1 _ rfl (by simp) rfl (by intro u hu; simp at hu; rcases hu with rfl | rfl | rfl | rfl | rfl <;> rfl) (by have := HN.out k; unfold maxLen; omega) (by have := HN.out k; omega) (by have := HS.out; omega) ?_; intro v1 w3 ho1 hb3)
          have HO3 := Lib.hid (show w3.ownsRow w.heap.size 54 5 v1 (seenTo l0 l1 a2 (k + 1)).length (cNode (seenTo l0 l1 a2 (k + 1))) by rw [H2.out]; simpa [cNode, List.flatMap_append, TNode.cells] using ho1)
          have HB3 := Lib.hid (HB2.out.trans hb3)
          clear ho1 hb3
          go_wp2_with fail
          go_roundg (n0 - (k + 1))
          case measure => omega
          case rel => exact ⟨k + 1, by omega, by omega, by go_num, HO3, HB3⟩
        | false =>
          have H2 := Lib.hid (seenTo_none HZ.out hs)
          clear hs
          go_wp2_with fail
          go_roundg (n0 - (k + 1))
          case measure => omega
          case rel => exact ⟨k + 1, by omega, by omega, by go_num, by rw [H2.out]; exact HO2, HB2⟩
      · obtain rfl : k = n0 := by omega
        go_wp2_with fail
        go_ret
        rw [HE.out]
        exact makes_of_own HO.out HB.out
  · have hd : mIsDoc l0 = false := by simpa using hd
    have HE := Lib.hid (show mSeen l0 l1 a2 = [] by unfold mSeen; rw [hd]; rfl)
    have HD := Lib.hid hd
    clear hd
    go_enter Try.func13, Try.ntmps13
    go_wp2_with fail
    go_loopg [7, 8] 0 (fun gg v i wr => i = .int .i64 0 ∧ Hid (wr.ownsRow w.heap.size 54 5 v 0 []) ∧ Hid (Below w.heap.size w wr))
    case atStart => exact ⟨rfl, Lib.hid (World.ownsRow_lit w #[] 0 (Nat.le_refl _) (by unfold maxLen; omega) rfl), Lib.hid ((Below.refl _ _).alloc (Nat.le_refl _) _)⟩
    case round =>
      obtain ⟨rfl, HO, HB⟩ := hrel
      have HRw := Lib.hid (HR.out.new HB.out)
      by_cases hlt : 0 < n0
      · go_wp2_with fail
        refine (spec_IsDocument' l0 A0 n0 c0 lo0 hi0 _ (by omega) p0 HRw.out).mono ?_
        rintro e1 w1 ⟨rfl, hb1⟩
        rw [HD.out]
        have HB1 := Lib.hid (below_trans HB.out hb1 (Nat.le_refl _))
        have HO1 := Lib.hid (own_newer HO.out hb1)
        clear hb1
        go_wp2_with fail
        go_ret
        rw [HE.out]
        exact makes_of_own HO1.out HB1.out
      · go_wp2_with fail
        go_ret
        rw [HE.out]
        exact makes_of_own HO.out HB.out
end Go.Proofs.Ytomoigbhikihfaa
