/- Chapter 8 in the model. -/
import Derived.Test.YtomoigbhikihfaaHdB
import Derived.Deep.RegionHeld3
import Derived.Deep.LoopGhost
namespace Go.Proofs.Ytomoigbhikihfaa
open Go Go.ChangeShapes Go.WideShapes Go.ChangeAt Go.RowKit Go.Lib
set_option linter.unusedVariables false
set_option linter.unusedSimpArgs false
set_option maxRecDepth 100000
theorem ownz_newer {w w' : World} {base size n : Nat} {e : TypeId} {v : Value} {xs : List Value} (h : OwnZ w base e size v n xs) (hb : Below w.heap.size w w') : OwnZ w' base e size v n xs := h.imp (fun h => own_newer h hb) id
set_option maxHeartbeats 8000000 in
theorem spec_HandlesFor (l0 : List TNode) (A0 : Option Addr) (n0 c0 lo0 hi0 : Nat) (l1 : List Int) (A1 : Option Addr) (n1 c1 lo1 hi1 : Nat) (a2 : Int) (a3 : Int) (w : World) (h0 : n0 ≤ 1048576) (r0 : Rd w lo0 hi0 5 A0 n0 (cNode l0)) (p0 : n0 ≤ c0) (b0 : Hid (cNodeOk l0)) (h1 : n1 ≤ 1048576) (r1 : Rd w lo1 hi1 1 A1 n1 (i64s l1)) (p1 : n1 ≤ c1) (b1 : Hid (I64s l1)) (w2 : (Lit.int .i64 a2).wf = true) (w3 : (Lit.int .i64 a3).wf = true) :
    Calls Try.prog 31 #[.slice A0 n0 c0, .slice A1 n1 c1, .int .i64 a2, .int .i64 a3] w (Makes 3 1 (mHds l0 l1 a2 a3).length (i64s (mHds l0 l1 a2 a3)) w) := by
  have CH := Lib.hid (fun (id : Int) W hid => spec_HandleOf a2 a3 id W w2 w3 hid)
  have HOv := Lib.hid (World.ownsRow_lit (e := 3) (size := 1) w #[] 0 (Nat.le_refl _) (by unfold maxLen; omega) rfl)
  have HBv := Lib.hid ((Below.refl w.heap.size w).alloc (Nat.le_refl _) (.cells #[] 3))
  have hmn : (mSeen l0 l1 a3).length ≤ n0 := by have := mSeen_len l0 l1 a3; have := rd_len TNode.len r0 (by decide); omega
  have CS := Lib.hid (spec_SeenBy l0 A0 n0 c0 lo0 hi0 l1 A1 n1 c1 lo1 hi1 a3 (w.alloc (.cells #[] 3)) h0 (r0.alloc _) p0 b0 h1 (r1.alloc _) p1 b1 w3)
  have HOK := Lib.hid (mSeen_ok (h := l1) (b := a3) b0.out)
  obtain ⟨m, hm⟩ : ∃ m, m = (mSeen l0 l1 a3).length := ⟨_, rfl⟩
  rw [← hm] at CS hmn
  have HLm := Lib.hid hm.symm
  have HE := Lib.hid (show mHds l0 l1 a2 a3 = hds (mSeen l0 l1 a3) a2 a3 m by unfold mHds hds; rw [List.take_of_length_le (by rw [HLm.out]; exact Nat.le_refl _)])
  clear r0 r1 w2 w3 hm
  go_enter Try.func31, Try.ntmps31
  go_wp2_with fail
  refine CS.out.mono ?_
  rintro e1 u1 ⟨A, c, rfl, hF, hb1⟩
  have HF := Lib.hid hF.rd
  have HB1 := Lib.hid (below_trans HBv.out hb1 (by simp))
  have HW1 : Hid (w.heap.size ≤ u1.heap.size) := Lib.hid HB1.out.size
  clear hF hb1 CS HOv HBv
  go_wp2_with fail
  go_loopw [9, 11] (fun v i wr => ∃ k : Nat, i = .int .i64 k ∧ k ≤ m ∧ Hid (OwnZ wr u1.heap.size 3 1 v (hds (mSeen l0 l1 a3) a2 a3 k).length (i64s (hds (mSeen l0 l1 a3) a2 a3 k))) ∧ Hid (Below u1.heap.size u1 wr)) (fun _ i _ => m - (intOf i).toNat)
  case atStart => exact ⟨0, rfl, Nat.zero_le _, Lib.hid (.inr ⟨rfl, rfl, _, rfl⟩), Lib.hid (Below.refl _ _)⟩
  case round =>
    obtain ⟨k, rfl, hk, HO, HB⟩ := hrel
    have HRr := Lib.hid (HF.out.new HB.out)
    by_cases hlt : k < m
    · obtain ⟨b, off, x, rfl, _, _, hz, hc⟩ := rd_elem TNode.len HRr.out HLm.out hlt
      have c0' : wr.cell? ⟨b, off + k * 5, none⟩ = _ := hc 0 _ rfl
      have WX := Lib.hid (node_wf HOK.out hz).1
      have HCC := Lib.hid (CH.out x.f0 wr WX.out)
      have H2 := Lib.hid (hds_snoc a2 a3 hz)
      have HKN := Lib.hid (hds_len (mSeen l0 l1 a3) a2 a3 k)
      clear hz hc
      generalize mHandle a2 a3 x.f0 = q at H2 HCC
      go_wp2_with (first | (go_at_call 56; refine HCC.out.mono ?_; rintro e2 u2 ⟨rfl, hb2⟩; have HB2 := Lib.hid (below_trans HB.out hb2 (Nat.le_refl _)); have HO2 := Lib.hid (ownz_newer HO.out hb2); clear hb2) | (at_builtin; refine wp_appz_lit rfl _ _ _ rfl u1.heap.size 3 (.int .i64 0) 1 8 Try.underlying23 info_int rfl (by decide) _ _ _ rfl HO2.out #[.int .i64 q] 1 1 _ rfl (by simp) rfl (one_int _) (by have := HKN.out; unfold maxLen; omega) (by have := HKN.out; omega) HB2.out.size ?_; intro v1 u3 ho3 hb3))
      have HO3 := Lib.hid (show OwnZ u3 u1.heap.size 3 1 v1 (hds (mSeen l0 l1 a3) a2 a3 (k + 1)).length (i64s (hds (mSeen l0 l1 a3) a2 a3 (k + 1))) by rw [H2.out]; simpa using ho3)
      have HB3 := Lib.hid (HB2.out.trans hb3)
      clear ho3 hb3 HCC
      go_wp2_with fail
      go_roundw
      case rel => exact ⟨k + 1, by go_num, by omega, HO3, HB3⟩
      case measure => simp [intOf]; omega
    · obtain rfl : k = m := by omega
      obtain ⟨Aq, cq, rfl, hFq⟩ := fr_of_ownz HO.out
      have HFq := Lib.hid (hFq.mono (show w.heap.size ≤ u1.heap.size from HW1.out) (Nat.le_refl _))
      clear hFq
      generalize hgl : (hds (mSeen l0 l1 a3) a2 a3 k).length = gl at HFq ⊢
      have HGL := Lib.hid hgl
      clear hgl
      go_wp2_with fail
      go_ret
      rw [HE.out, HGL.out]
      exact ⟨_, _, rfl, HFq.out, HB1.out.trans (HB.out.mono HW1.out)⟩
set_option maxHeartbeats 8000000 in
theorem spec_ResolveHandle (l0 : List TNode) (A0 : Option Addr) (n0 c0 lo0 hi0 : Nat) (l1 : List Int) (A1 : Option Addr) (n1 c1 lo1 hi1 : Nat) (a2 : Int) (a3 : Int) (a4 : Int) (w : World) (h0 : n0 ≤ 1048576) (r0 : Rd w lo0 hi0 5 A0 n0 (cNode l0)) (p0 : n0 ≤ c0) (b0 : Hid (cNodeOk l0)) (h1 : n1 ≤ 1048576) (r1 : Rd w lo1 hi1 1 A1 n1 (i64s l1)) (p1 : n1 ≤ c1) (b1 : Hid (I64s l1)) (w2 : (Lit.int .i64 a2).wf = true) (w3 : (Lit.int .i64 a3).wf = true) (w4 : (Lit.int .i64 a4).wf = true) :
    Calls Try.prog 34 #[.slice A0 n0 c0, .slice A1 n1 c1, .int .i64 a2, .int .i64 a3, .int .i64 a4] w (Says (.int .i64 (mRes l0 l1 a2 a3 a4)) w) := by
  have CH := Lib.hid (fun (id : Int) W hid => spec_HandleOf a2 a3 id W w2 w3 hid)
  have hmn : (mSeen l0 l1 a3).length ≤ n0 := by have := mSeen_len l0 l1 a3; have := rd_len TNode.len r0 (by decide); omega
  have CS := Lib.hid (spec_SeenBy l0 A0 n0 c0 lo0 hi0 l1 A1 n1 c1 lo1 hi1 a3 w h0 r0 p0 b0 h1 r1 p1 b1 w3)
  have HOK := Lib.hid (mSeen_ok (h := l1) (b := a3) b0.out)
  obtain ⟨m, hm⟩ : ∃ m, m = (mSeen l0 l1 a3).length := ⟨_, rfl⟩
  rw [← hm] at CS hmn
  have HLm := Lib.hid hm.symm
  have HE : Hid (mRes l0 l1 a2 a3 a4 = match mFind (mSeen l0 l1 a3) a2 a3 a4 with | some x => x.f0 | none => -1) := Lib.hid rfl
  generalize mRes l0 l1 a2 a3 a4 = R at HE ⊢
  clear r0 r1 w2 w3 w4 hm
  by_cases g1 : 1 ≤ a4
  · have g : decide (1 ≤ a4) = true := by simpa using g1
    have HFD := Lib.hid (show mFind (mSeen l0 l1 a3) a2 a3 a4 = (mSeen l0 l1 a3).find? (hits a2 a3 a4) by unfold mFind; rw [if_neg (by omega)])
    clear g1
    go_enter Try.func34, Try.ntmps34
    go_wp2_with fail
    refine CS.out.mono ?_
    rintro e1 u1 ⟨A, c, rfl, hF, hb1⟩
    have HF := Lib.hid hF.rd
    have HB1 := Lib.hid hb1
    clear hF hb1 CS
    go_wp2_with fail
    go_loopw [12] (fun i wr => ∃ k : Nat, i = .int .i64 k ∧ k ≤ m ∧ Hid (((mSeen l0 l1 a3).take k).find? (hits a2 a3 a4) = none) ∧ Hid (Below u1.heap.size u1 wr)) (fun i _ => m - (intOf i).toNat)
    case atStart => exact ⟨0, rfl, Nat.zero_le _, Lib.hid rfl, Lib.hid (Below.refl _ _)⟩
    case round =>
      obtain ⟨k, rfl, hk, HT, HB⟩ := hrel
      have HRr := Lib.hid (HF.out.new HB.out)
      have HBw := Lib.hid (below_trans HB1.out HB.out (Nat.le_refl _))
      by_cases hlt : k < m
      · obtain ⟨b, off, x, rfl, _, _, hz, hc⟩ := rd_elem TNode.len HRr.out HLm.out hlt
        have c0' : wr.cell? ⟨b, off + k * 5, none⟩ = _ := hc 0 _ rfl
        have hbl : b < wr.heap.size := World.block_lt_of_cell? wr _ c0'
        have HZ := Lib.hid hz
        have WX := Lib.hid (node_wf HOK.out hz).1
        have HCC := Lib.hid (CH.out x.f0 wr WX.out)
        clear hz hc
        generalize hq : mHandle a2 a3 x.f0 = q at HCC
        by_cases e : q = a4
        · have g2 : (q == a4) = true := by simpa using e
          have HE2 := Lib.hid (show R = x.f0 by rw [HE.out, HFD.out, find_hit HT.out HZ.out (show hits a2 a3 a4 x = true by unfold hits; rw [hq]; exact g2)])
          clear hq e
          go_wp2_with fail
          refine HCC.out.mono ?_
          rintro e2 u2 ⟨rfl, hb2⟩
          have HB2 := Lib.hid (below_trans HBw.out hb2 (Nat.le_refl _))
          have d0 := cell_nw hb2 c0'
          clear hb2 HCC
          go_wp2_with fail
          go_ret
          exact ⟨by rw [HE2.out]; rfl, HB2.out⟩
        · have g2 : (q == a4) = false := by simpa using e
          have HE2 := Lib.hid (find_none_step HT.out HZ.out (show hits a2 a3 a4 x = false by unfold hits; rw [hq]; exact g2))
          clear hq e
          go_wp2_with fail
          refine HCC.out.mono ?_
          rintro e2 u2 ⟨rfl, hb2⟩
          have HB2 := Lib.hid (below_trans HB.out hb2 (Nat.le_refl _))
          clear hb2 HCC
          go_wp2_with fail
          go_roundw
          case rel => exact ⟨k + 1, by go_num, by omega, HE2, HB2⟩
          case measure => simp [intOf]; omega
      · obtain rfl : k = m := by omega
        have HE2 := Lib.hid (show R = -1 by rw [HE.out, HFD.out]; have h := HT.out; rw [List.take_of_length_le (by rw [HLm.out]; exact Nat.le_refl _)] at h; rw [h])
        go_wp2_with fail
        go_ret
        exact ⟨by rw [HE2.out]; rfl, HBw.out⟩
  · have g : decide (1 ≤ a4) = false := by simpa using g1
    have HE2 := Lib.hid (show R = -1 by rw [HE.out]; unfold mFind; rw [if_pos (by omega)])
    clear g1
    go_enter Try.func34, Try.ntmps34
    go_wp2_with fail
    refine CS.out.mono ?_
    rintro e1 u1 ⟨A, c, rfl, hF, hb1⟩
    have HB1 := Lib.hid hb1
    clear hF hb1 CS
    go_wp2_with fail
    go_loopw [12] (fun i wr => i = .int .i64 0 ∧ wr = u1) (fun _ _ => 0)
    case atStart => exact ⟨rfl, rfl⟩
    case round =>
      obtain ⟨rfl, rfl⟩ := hrel
      by_cases hm0 : 0 < m
      · go_wp2_with fail
        go_ret
        exact ⟨by rw [HE2.out]; rfl, HB1.out⟩
      · go_wp2_with fail
        go_ret
        exact ⟨by rw [HE2.out]; rfl, HB1.out⟩
set_option maxHeartbeats 8000000 in
theorem spec_EditByHandle (l0 : List TNode) (A0 : Option Addr) (n0 c0 lo0 hi0 : Nat) (l1 : List Int) (A1 : Option Addr) (n1 c1 lo1 hi1 : Nat) (a2 : Int) (a3 : Int) (a4 : Int) (a5 : Int) (w : World) (h0 : n0 ≤ 1048576) (r0 : Rd w lo0 hi0 5 A0 n0 (cNode l0)) (p0 : n0 ≤ c0) (b0 : Hid (cNodeOk l0)) (h1 : n1 ≤ 1048576) (r1 : Rd w lo1 hi1 1 A1 n1 (i64s l1)) (p1 : n1 ≤ c1) (b1 : Hid (I64s l1)) (w2 : (Lit.int .i64 a2).wf = true) (w3 : (Lit.int .i64 a3).wf = true) (w4 : (Lit.int .i64 a4).wf = true) (w5 : (Lit.int .i64 a5).wf = true) :
    Calls Try.prog 36 #[.slice A0 n0 c0, .slice A1 n1 c1, .int .i64 a2, .int .i64 a3, .int .i64 a4, .int .i64 a5] w (MakesV 54 5 (mEBH l0 l1 a2 a3 a4 a5).length (cNode (mEBH l0 l1 a2 a3 a4 a5)) (.bool (mEBHok l0 l1 a2 a3 a4 a5)) w) := by
  have HR0 := Lib.hid r0
  have HR1 := Lib.hid r1
  have HL0 := Lib.hid (rd_len TNode.len r0 (by decide))
  have HC := Lib.hid (spec_ResolveHandle l0 A0 n0 c0 lo0 hi0 l1 A1 n1 c1 lo1 hi1 a2 a5 a3 w h0 r0 p0 b0 h1 r1 p1 b1 w2 w5 w3)
  clear r0 r1
  go_enter Try.func36, Try.ntmps36
  cases hf : mFind (mSeen l0 l1 a5) a2 a5 a3 with
  | some x =>
    have HG := Lib.hid (show mEBH l0 l1 a2 a3 a4 a5 = mGuard l0 l1 (eTx x.f0 a4 a5) by unfold mEBH; rw [hf])
    have HO := Lib.hid (show mEBHok l0 l1 a2 a3 a4 a5 = mGuardOk l0 l1 (eTx x.f0 a4 a5) by unfold mEBHok; rw [hf])
    have hfit : Hid (TEdit.fit (eTx x.f0 a4 a5)) := Lib.hid (eTx_fit b0.out hf w4 w5)
    have CG := Lib.hid (fun W (hW : Below w.heap.size w W) => show Calls Try.prog 29 #[.slice A0 n0 c0, .slice A1 n1 c1, .agg #[.int .i64 3, .int .i64 x.f0, .int .i64 0, .int .i64 0, .int .i64 a4, .int .i64 a5]] W _ from spec_GuardEdit l0 A0 n0 c0 lo0 hi0 l1 A1 n1 c1 lo1 hi1 (eTx x.f0 a4 a5) W h0 (HR0.out.new hW) p0 b0 h1 (HR1.out.new hW) p1 b1 hfit)
    have hx0 := (find_mem hf).2
    obtain ⟨gl, hgl⟩ : ∃ gl, gl = (mGuard l0 l1 (eTx x.f0 a4 a5)).length := ⟨_, rfl⟩
    obtain ⟨go, hgo⟩ : ∃ go, go = mGuardOk l0 l1 (eTx x.f0 a4 a5) := ⟨_, rfl⟩
    rw [← hgl, ← hgo] at CG
    have HGL := Lib.hid hgl
    have HGO := Lib.hid hgo
    clear hgl hgo
    have HRS := Lib.hid (show mRes l0 l1 a2 a5 a3 = x.f0 by unfold mRes; rw [hf])
    rw [HRS.out] at HC
    clear hf
    go_wp2_with fail
    refine HC.out.mono ?_
    rintro e2 u2 ⟨rfl, hb2⟩
    have HB2 := Lib.hid hb2
    clear hb2 HC
    go_wp2_with fail
    refine (CG.out _ HB2.out).mono ?_
    rintro e3 u3 ⟨A', c', rfl, hF3, hb3⟩
    have HB3 := Lib.hid (below_trans HB2.out hb3 (Nat.le_refl _))
    have HF3 := Lib.hid (hF3.mono (show w.heap.size ≤ u2.heap.size from HB2.out.size) (Nat.le_refl _))
    clear hF3 hb3 CG
    go_wp2_with fail
    go_ret2
    rw [HG.out, HO.out, ← HGL.out, ← HGO.out]
    exact ⟨_, _, rfl, HF3.out, HB3.out⟩
  | none =>
    have HG := Lib.hid (show mEBH l0 l1 a2 a3 a4 a5 = l0 by unfold mEBH; rw [hf])
    have HO := Lib.hid (show mEBHok l0 l1 a2 a3 a4 a5 = false by unfold mEBHok; rw [hf])
    have HRS := Lib.hid (show mRes l0 l1 a2 a5 a3 = -1 by unfold mRes; rw [hf])
    rw [HRS.out] at HC
    clear hf
    go_wp2_with fail
    refine HC.out.mono ?_
    rintro e2 u2 ⟨rfl, hb2⟩
    have HB2 := Lib.hid hb2
    clear hb2 HC
    go_wp2_with fail
    refine (l5_copy l0 A0 n0 c0 lo0 hi0 _ h0 (HR0.out.new HB2.out)).mono ?_
    rintro e3 u3 ⟨v, rfl, ho, hb3⟩
    obtain ⟨A', c', rfl, hF3⟩ := fr_of_own ho
    have HB3 := Lib.hid (below_trans HB2.out hb3 (Nat.le_refl _))
    have HF3 := Lib.hid (hF3.mono (show w.heap.size ≤ u2.heap.size from HB2.out.size) (Nat.le_refl _))
    clear hF3 hb3
    go_wp2_with fail
    go_ret2
    rw [HG.out, HO.out, HL0.out]
    exact ⟨_, _, rfl, HF3.out, HB3.out⟩
set_option maxHeartbeats 8000000 in
theorem spec_ForeignHandles (l0 : List TNode) (A0 : Option Addr) (n0 c0 lo0 hi0 : Nat) (l1 : List Int) (A1 : Option Addr) (n1 c1 lo1 hi1 : Nat) (a2 : Int) (a3 : Int) (l4 : List Int) (A4 : Option Addr) (n4 c4 lo4 hi4 : Nat) (w : World) (h0 : n0 ≤ 1048576) (r0 : Rd w lo0 hi0 5 A0 n0 (cNode l0)) (p0 : n0 ≤ c0) (b0 : Hid (cNodeOk l0)) (h1 : n1 ≤ 1048576) (r1 : Rd w lo1 hi1 1 A1 n1 (i64s l1)) (p1 : n1 ≤ c1) (b1 : Hid (I64s l1)) (w2 : (Lit.int .i64 a2).wf = true) (w3 : (Lit.int .i64 a3).wf = true) (h4 : n4 ≤ 1048576) (r4 : Rd w lo4 hi4 1 A4 n4 (i64s l4)) (p4 : n4 ≤ c4) (b4 : Hid (I64s l4)) :
    Calls Try.prog 38 #[.slice A0 n0 c0, .slice A1 n1 c1, .int .i64 a2, .int .i64 a3, .slice A4 n4 c4] w (Says (.int .i64 (mFor l0 l1 a2 a3 l4)) w) := by
  have HR4 := Lib.hid r4
  have HR0 := Lib.hid r0
  have HR1 := Lib.hid r1
  have HL4 := Lib.hid (show l4.length = n4 by simpa using r4.1)
  generalize hP : (fun z => !(mFind (mSeen l0 l1 a3) a2 a3 z).isSome) = P
  have HP := Lib.hid hP
  have HE := Lib.hid (show mFor l0 l1 a2 a3 l4 = ((l4.filter P).length : Int) by unfold mFor; rw [hP])
  clear hP r0 r1 r4
  go_enter Try.func38, Try.ntmps38
  go_wp2_with fail
  go_loopw [11, 12] (fun q i wr => ∃ k : Nat, i = .int .i64 k ∧ k ≤ n4 ∧ q = .int .i64 (((l4.take k).filter P).length : Int) ∧ Hid (Below w.heap.size w wr)) (fun _ i _ => n4 - (intOf i).toNat)
  case atStart => exact ⟨0, rfl, Nat.zero_le _, rfl, Lib.hid (Below.refl _ _)⟩
  case round =>
    obtain ⟨k, rfl, hk, rfl, HB⟩ := hrel
    have HR4r := Lib.hid (HR4.out.new HB.out)
    have HKL := Lib.hid (Nat.le_trans (List.length_filter_le P (l4.take k)) (List.length_take_le _ _))
    by_cases hlt : k < n4
    · obtain ⟨b, off, z, rfl, _, _, hz, hc⟩ := rd_int HR4r.out hlt
      have WZ := Lib.hid (show (Lit.int .i64 z).wf = true from WalkArith.wf_i64 (b4.out z (List.mem_of_getElem? hz)))
      have HSn := Lib.hid (filter_sn P hz)
      have HPz := Lib.hid (show P z = !(mFind (mSeen l0 l1 a3) a2 a3 z).isSome by rw [← HP.out])
      have HC := Lib.hid (spec_ResolveHandle l0 A0 n0 c0 lo0 hi0 l1 A1 n1 c1 lo1 hi1 a2 a3 z wr h0 (HR0.out.new HB.out) p0 b0 h1 (HR1.out.new HB.out) p1 b1 w2 w3 WZ.out)
      have HMR : Hid (mRes l0 l1 a2 a3 z = match mFind (mSeen l0 l1 a3) a2 a3 z with | some x => x.f0 | none => -1) := Lib.hid rfl
      have HX0 := Lib.hid (fun x (h : mFind (mSeen l0 l1 a3) a2 a3 z = some x) => (find_mem h).2)
      generalize mRes l0 l1 a2 a3 z = r at HC HMR
      obtain ⟨y, hyy⟩ : ∃ y, y = ((l4.take k).filter P).length := ⟨_, rfl⟩
      have HYY := Lib.hid hyy
      have hy : y ≤ 1048576 := by have := HKL.out; omega
      rw [← hyy]
      clear hyy hz
      cases hf : mFind (mSeen l0 l1 a3) a2 a3 z with
      | some x =>
        have HRR := Lib.hid (show r = x.f0 by rw [HMR.out, hf])
        have H2 := Lib.hid (show (y : Int) = (((l4.take (k + 1)).filter P).length : Int) by rw [HSn.out, if_neg (by rw [HPz.out, hf]; simp), HYY.out])
        have hx0 := HX0.out x hf
        rw [HRR.out] at HC
        clear hf
        go_wp2_with fail
        refine HC.out.mono ?_
        rintro e2 u2 ⟨rfl, hb2⟩
        have HB2 := Lib.hid (below_trans HB.out hb2 (Nat.le_refl _))
        clear hb2 HC
        go_wp2_with fail
        go_roundw
        case rel => exact ⟨k + 1, by go_num, by omega, by rw [← H2.out], HB2⟩
        case measure => simp [intOf]; omega
      | none =>
        have HRR := Lib.hid (show r = -1 by rw [HMR.out, hf])
        have H2 := Lib.hid (show (y : Int) + 1 = (((l4.take (k + 1)).filter P).length : Int) by rw [HSn.out, if_pos (by rw [HPz.out, hf]; simp), List.length_append, HYY.out]; simp)
        rw [HRR.out] at HC
        clear hf
        go_wp2_with fail
        refine HC.out.mono ?_
        rintro e2 u2 ⟨rfl, hb2⟩
        have HB2 := Lib.hid (below_trans HB.out hb2 (Nat.le_refl _))
        clear hb2 HC
        go_wp2_with fail
        go_roundw
        case rel => exact ⟨k + 1, by go_num, by omega, by rw [← H2.out], HB2⟩
        case measure => simp [intOf]; omega
    · obtain rfl : k = n4 := by omega
      have H2 := Lib.hid (show ((l4.take k).filter P).length = (l4.filter P).length by rw [List.take_of_length_le (by rw [HL4.out]; exact Nat.le_refl _)])
      generalize ((l4.take k).filter P).length = y at H2 ⊢
      go_wp2_with fail
      go_ret
      exact ⟨by rw [HE.out, ← H2.out]; rfl, HB.out⟩
end Go.Proofs.Ytomoigbhikihfaa
