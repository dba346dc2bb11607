/- RulesLeft, of the program and of the model. No condition of its own. -/
import Derived.Test.YtfhoemgpilpapaaVis
import Derived.Test.YtfhoemgpilpapaaHoR
import Derived.Test.YtfhoemgpilpapaaMaxMin
import Derived.Deep.LoopGhost
import Derived.Deep.RegionHeld3
namespace Go.Proofs.Ytfhoemgpilpapaa
open Go Go.ChangeShapes Go.WideShapes Go.ChangeAt Go.RowKit Go.Lib
set_option linter.unusedVariables false
set_option linter.unusedSimpArgs false
set_option maxRecDepth 100000
set_option maxHeartbeats 4000000
set_option maxHeartbeats 8000000 in
theorem cnt_Rul (lb : Array Value) (bF bP P : Nat) (z c0 : Int) (b : Bool) (W : World) (hF : BoxAt W bF 91 #[.func (.func 65) #[] lb]) (hP : BoxAt W bP 90 #[.pointer (some ⟨P, 0, none⟩)]) (hC : BoxAt W P 3 #[.int .i64 c0]) (h0 : 0 ≤ c0) (h1 : c0 ≤ 4294967296)
    (hcall : Calls Try.prog 65 (#[.int .i64 z] ++ lb) W (Says (.bool b) W)) :
    Calls Try.prog 120 #[.int .i64 z, .pointer (some ⟨bF, 0, none⟩), .pointer (some ⟨bP, 0, none⟩)] W (fun e w' => e = .returned (.tuple #[]) ∧ BoxAt w' P 3 #[.int .i64 (if b then c0 + 1 else c0)] ∧ Chg P (P + 1) W w') := by
  have f0 : W.cell? ⟨bF, 0, none⟩ = _ := hF.at_ rfl
  have HP := Lib.hid hP
  have HC := Lib.hid hC
  replace hcall := Lib.hid hcall
  clear hF hP hC
  cases b
  · go_enter Try.func120, Try.ntmps120
    go_wp2_with (go_at_call 65; refine hcall.out.mono ?_; rintro e w1 ⟨rfl, hb1⟩; (have HP1 := Lib.hid (HP.out.new hb1)); (have HC1 := Lib.hid (HC.out.new hb1)); (have HB1 := Lib.hid (chg_of_new (lo := P) (hi := P + 1) hb1)); (have p0 := HP1.out.at_ (j := 0) rfl); (have q0 := HC1.out.at_ (j := 0) rfl); (have g0 := HC1.out.free 0); clear hb1 f0)
    exact bodyPost_end (v := .tuple #[]) (by simp [results, Try.results120, go_sem]) rfl ⟨rfl, HC1.out, HB1.out⟩
  · go_enter Try.func120, Try.ntmps120
    go_wp2_with (go_at_call 65; refine hcall.out.mono ?_; rintro e w1 ⟨rfl, hb1⟩; (have HP1 := Lib.hid (HP.out.new hb1)); (have HC1 := Lib.hid (HC.out.new hb1)); (have HB1 := Lib.hid (chg_of_new (lo := P) (hi := P + 1) hb1)); (have p0 := HP1.out.at_ (j := 0) rfl); (have q0 := HC1.out.at_ (j := 0) rfl); (have g0 := HC1.out.free 0); clear hb1 f0)
    exact bodyPost_end (v := .tuple #[]) (by simp [results, Try.results120, go_sem]) rfl ⟨rfl, (by simpa using box_putV HC1.out 0 (.int .i64 (c0 + 1))), HB1.out.set_ (.inl ⟨Nat.le_refl _, Nat.lt_succ_self _⟩) _⟩
theorem holders_Rul (x : DBrowser) (m : MBrowser) (lo hi : Nat) (w : World) (hd : x.dat = m) (hz : m.sz ≤ 1048576) (hok : m.ok) (hr : x.rd w lo hi) :
    Calls Try.prog 50 #[.agg #[.int .i64 x.p0, .slice x.A1 x.n1 x.c1, .slice x.A2 x.n2 x.c2, .slice x.A3 x.n3 x.c3, .slice x.A4 x.n4 x.c4, .slice x.A5 x.n5 x.c5, .slice x.A6 x.n6 x.c6, .int .i64 x.p7], .int .i64 2] w (Makes 3 1 (m.l5.map fun x => x.f0).length (i64s (m.l5.map fun x => x.f0)) w) := by
  subst hd
  have hzs := hz
  rw [hr.sz] at hz
  have hz' : x.n1 + x.n2 + x.n3 + x.n4 + x.n5 + x.n6 ≤ 1048576 := by omega
  have hlen := hr.len.2.2.2.2.1
  have HC := Lib.hid (fun W h => map_rule x.l5 x.A5 x.n5 x.c5 lo hi W (by omega) h)
  have HR := Lib.hid hr.2.2.2.2.1.2
  have HLn : (x.dat.l5.map fun x => x.f0).length = x.n5 := by rw [List.length_map]; exact hlen
  rw [HLn]
  clear HLn
  change Calls _ _ _ _ (Makes 3 1 x.n5 (i64s (x.l5.map fun x => x.f0)) w)
  generalize (x.l5.map fun x => x.f0) = L at HC ⊢
  clear hr hz hzs hok hlen
  go_enter Try.func50, Try.ntmps50
  go_wp2_with fail
  refine (HC.out _ (HR.out.new ((Below.refl _ _).alloc (Nat.le_refl _) _))).mono ?_
  rintro e w1 ⟨A1, c1, rfl, hf1, hb1⟩
  have HB1 := Lib.hid (below_trans ((Below.refl _ _).alloc (Nat.le_refl _) _) hb1 (by simp))
  have HF1 := Lib.hid (hf1.mono (lo' := w.heap.size) (by simp) (Nat.le_refl _))
  clear hb1 hf1
  go_wp2_with fail
  go_ret
  exact ⟨_, _, rfl, HF1.out, HB1.out⟩
set_option maxHeartbeats 8000000 in
theorem visit_Rul (x : DBrowser) (m : MBrowser) (lo hi : Nat) (lb : Array Value) (p : Int → Bool) (bF bP P : Nat) (w : World) (hd : x.dat = m) (hz : m.sz ≤ 1048576) (hok : m.ok) (hr : x.rd w lo hi) (hiP : hi ≤ P) (hbF : bF ≠ P) (hbP : bP ≠ P)
    (hF : BoxAt w bF 91 #[.func (.func 65) #[] lb]) (hP : BoxAt w bP 90 #[.pointer (some ⟨P, 0, none⟩)]) (hC : BoxAt w P 3 #[.int .i64 0])
    (hcall : ∀ W z, Chg P (P + 1) w W → Calls Try.prog 65 (#[.int .i64 z] ++ lb) W (Says (.bool (p z)) W)) :
    Calls Try.prog 63 #[.agg #[.int .i64 x.p0, .slice x.A1 x.n1 x.c1, .slice x.A2 x.n2 x.c2, .slice x.A3 x.n3 x.c3, .slice x.A4 x.n4 x.c4, .slice x.A5 x.n5 x.c5, .slice x.A6 x.n6 x.c6, .int .i64 x.p7], .agg #[.nilFunc, .nilFunc, .func (.func 120) #[] #[.pointer (some ⟨bF, 0, none⟩), .pointer (some ⟨bP, 0, none⟩)], .nilFunc, .nilFunc]] w (fun e w' => e = .returned (.tuple #[]) ∧ BoxAt w' P 3 #[.int .i64 (((m.l5.map fun x => x.f0).filter p).length : Int)] ∧ Chg P (P + 1) w w') := by
  have HH := fun W h => holders_Rul x m lo hi W hd hz hok h
  have hnl : (m.l5.map fun x => x.f0).length ≤ 1048576 := by rw [List.length_map]; simp only [MBrowser.sz] at hz; omega
  generalize (m.l5.map fun x => x.f0) = L at HH hnl ⊢
  replace HH := Lib.hid HH
  have HR := Lib.hid hr
  have HFF := Lib.hid hF
  have HPP := Lib.hid hP
  have HCC := Lib.hid hC
  have hPl := hC.lt
  have hFl := hF.lt
  have hQl := hP.lt
  have HK := Lib.hid hcall
  clear hr hF hP hC hcall hz hok hd
  have HW2 := Lib.hid (show Chg P (P + 1) w ((w.alloc (.cells #[.int .i64 x.p0, .slice x.A1 x.n1 x.c1, .slice x.A2 x.n2 x.c2, .slice x.A3 x.n3 x.c3, .slice x.A4 x.n4 x.c4, .slice x.A5 x.n5 x.c5, .slice x.A6 x.n6 x.c6, .int .i64 x.p7] 40)).alloc (.cells #[.nilFunc, .nilFunc, .func (.func 120) #[] #[.pointer (some ⟨bF, 0, none⟩), .pointer (some ⟨bP, 0, none⟩)], .nilFunc, .nilFunc] 93)) from ((Chg.refl _ _ _).alloc _).alloc _)
  have KB0 := Lib.hid (show BoxAt ((w.alloc (.cells #[.int .i64 x.p0, .slice x.A1 x.n1 x.c1, .slice x.A2 x.n2 x.c2, .slice x.A3 x.n3 x.c3, .slice x.A4 x.n4 x.c4, .slice x.A5 x.n5 x.c5, .slice x.A6 x.n6 x.c6, .int .i64 x.p7] 40)).alloc (.cells #[.nilFunc, .nilFunc, .func (.func 120) #[] #[.pointer (some ⟨bF, 0, none⟩), .pointer (some ⟨bP, 0, none⟩)], .nilFunc, .nilFunc] 93)) w.heap.size 40 #[.int .i64 x.p0, .slice x.A1 x.n1 x.c1, .slice x.A2 x.n2 x.c2, .slice x.A3 x.n3 x.c3, .slice x.A4 x.n4 x.c4, .slice x.A5 x.n5 x.c5, .slice x.A6 x.n6 x.c6, .int .i64 x.p7] from (box_new w 40 #[.int .i64 x.p0, .slice x.A1 x.n1 x.c1, .slice x.A2 x.n2 x.c2, .slice x.A3 x.n3 x.c3, .slice x.A4 x.n4 x.c4, .slice x.A5 x.n5 x.c5, .slice x.A6 x.n6 x.c6, .int .i64 x.p7]).alloc_ _)
  have HC0 := Lib.hid (show BoxAt ((w.alloc (.cells #[.int .i64 x.p0, .slice x.A1 x.n1 x.c1, .slice x.A2 x.n2 x.c2, .slice x.A3 x.n3 x.c3, .slice x.A4 x.n4 x.c4, .slice x.A5 x.n5 x.c5, .slice x.A6 x.n6 x.c6, .int .i64 x.p7] 40)).alloc (.cells #[.nilFunc, .nilFunc, .func (.func 120) #[] #[.pointer (some ⟨bF, 0, none⟩), .pointer (some ⟨bP, 0, none⟩)], .nilFunc, .nilFunc] 93)) P 3 #[.int .i64 0] from (HCC.out.alloc_ _).alloc_ _)
  have i0 : ∀ W : World, (Instr.index 93 (.agg #[.nilFunc, .nilFunc, .func (.func 120) #[] #[.pointer (some ⟨bF, 0, none⟩), .pointer (some ⟨bP, 0, none⟩)], .nilFunc, .nilFunc]) (.int .i64 0)).run Try.prog W = .ok (.nilFunc) W := fun _ => by kernel_rfl
  have i1 : ∀ W : World, (Instr.index 93 (.agg #[.nilFunc, .nilFunc, .func (.func 120) #[] #[.pointer (some ⟨bF, 0, none⟩), .pointer (some ⟨bP, 0, none⟩)], .nilFunc, .nilFunc]) (.int .i64 1)).run Try.prog W = .ok (.nilFunc) W := fun _ => by kernel_rfl
  have i2 : ∀ W : World, (Instr.index 93 (.agg #[.nilFunc, .nilFunc, .func (.func 120) #[] #[.pointer (some ⟨bF, 0, none⟩), .pointer (some ⟨bP, 0, none⟩)], .nilFunc, .nilFunc]) (.int .i64 2)).run Try.prog W = .ok (.func (.func 120) #[] #[.pointer (some ⟨bF, 0, none⟩), .pointer (some ⟨bP, 0, none⟩)]) W := fun _ => by kernel_rfl
  have i3 : ∀ W : World, (Instr.index 93 (.agg #[.nilFunc, .nilFunc, .func (.func 120) #[] #[.pointer (some ⟨bF, 0, none⟩), .pointer (some ⟨bP, 0, none⟩)], .nilFunc, .nilFunc]) (.int .i64 3)).run Try.prog W = .ok (.nilFunc) W := fun _ => by kernel_rfl
  have i4 : ∀ W : World, (Instr.index 93 (.agg #[.nilFunc, .nilFunc, .func (.func 120) #[] #[.pointer (some ⟨bF, 0, none⟩), .pointer (some ⟨bP, 0, none⟩)], .nilFunc, .nilFunc]) (.int .i64 4)).run Try.prog W = .ok (.nilFunc) W := fun _ => by kernel_rfl
  have n0 : ∀ W : World, (binOp .eql 88 .nilFunc .nilFunc).run Try.prog W = .ok (.bool true) W := fun _ => by kernel_rfl
  have n1 : ∀ W : World, (binOp .eql 88 (.func (.func 120) #[] #[.pointer (some ⟨bF, 0, none⟩), .pointer (some ⟨bP, 0, none⟩)]) .nilFunc).run Try.prog W = .ok (.bool false) W := fun _ => by kernel_rfl
  go_enter Try.func63, Try.ntmps63
  go_wp2_with fail
  generalize ((w.alloc (.cells #[.int .i64 x.p0, .slice x.A1 x.n1 x.c1, .slice x.A2 x.n2 x.c2, .slice x.A3 x.n3 x.c3, .slice x.A4 x.n4 x.c4, .slice x.A5 x.n5 x.c5, .slice x.A6 x.n6 x.c6, .int .i64 x.p7] 40)).alloc (.cells #[.nilFunc, .nilFunc, .func (.func 120) #[] #[.pointer (some ⟨bF, 0, none⟩), .pointer (some ⟨bP, 0, none⟩)], .nilFunc, .nilFunc] 93)) = w2 at HW2 KB0 HC0 ⊢
  go_loopg [9] 5 (fun gg i wr => ∃ k : Nat, k ≤ 5 ∧ 5 - k ≤ gg ∧ i = .int .i64 k ∧ Hid (Chg P (P + 1) w2 wr) ∧ Hid (BoxAt wr P 3 #[.int .i64 (if k ≤ 2 then 0 else ((L.filter p).length : Int))]))
  case atStart => exact ⟨0, Nat.zero_le _, by omega, rfl, Lib.hid (Chg.refl _ _ _), HC0⟩
  case round =>
    obtain ⟨k, hk, hg, rfl, HX, HC⟩ := hrel
    obtain rfl | rfl | rfl | rfl | rfl | rfl : k = 0 ∨ k = 1 ∨ k = 2 ∨ k = 3 ∨ k = 4 ∨ k = 5 := by omega
    · skip
      go_wp2_with fail
      go_roundg (5 - 1)
      case measure => omega
      case rel => exact ⟨1, by omega, by omega, rfl, HX, HC⟩
    · skip
      go_wp2_with fail
      go_roundg (5 - 2)
      case measure => omega
      case rel => exact ⟨2, by omega, by omega, rfl, HX, HC⟩
    · skip
      have KB := Lib.hid (KB0.out.chg HX.out (by omega))
      have HRk := Lib.hid ((HR.out.chg HW2.out (by omega)).chg HX.out (by omega))
      have HFk := Lib.hid ((HFF.out.chg HW2.out (by omega)).chg HX.out (by omega))
      have HPk := Lib.hid ((HPP.out.chg HW2.out (by omega)).chg HX.out (by omega))
      have HCk := Lib.hid (show BoxAt wr P 3 #[.int .i64 0] from HC.out)
      have k0 : wr.cell? ⟨w.heap.size, 0, none⟩ = some (.int .i64 x.p0) := KB.out.at_ rfl
      have k1 : wr.cell? ⟨w.heap.size, 1, none⟩ = some (.slice x.A1 x.n1 x.c1) := KB.out.at_ rfl
      have k2 : wr.cell? ⟨w.heap.size, 2, none⟩ = some (.slice x.A2 x.n2 x.c2) := KB.out.at_ rfl
      have k3 : wr.cell? ⟨w.heap.size, 3, none⟩ = some (.slice x.A3 x.n3 x.c3) := KB.out.at_ rfl
      have k4 : wr.cell? ⟨w.heap.size, 4, none⟩ = some (.slice x.A4 x.n4 x.c4) := KB.out.at_ rfl
      have k5 : wr.cell? ⟨w.heap.size, 5, none⟩ = some (.slice x.A5 x.n5 x.c5) := KB.out.at_ rfl
      have k6 : wr.cell? ⟨w.heap.size, 6, none⟩ = some (.slice x.A6 x.n6 x.c6) := KB.out.at_ rfl
      have k7 : wr.cell? ⟨w.heap.size, 7, none⟩ = some (.int .i64 x.p7) := KB.out.at_ rfl
      go_wp2_with fail
      refine (HH.out _ HRk.out).mono ?_
      rintro e w3 ⟨A1, c1, rfl, hf1, hb1⟩
      have HRow := Lib.hid hf1.rd
      have HX3 := Lib.hid (HX.out.new hb1)
      have HF3 := Lib.hid (HFk.out.new hb1)
      have HP3 := Lib.hid (HPk.out.new hb1)
      have HC3 := Lib.hid (HCk.out.new hb1)
      have hlow : P < wr.heap.size := HCk.out.lt
      clear hb1 hf1 k0 k1 k2 k3 k4 k5 k6 k7 HCk HFk HPk HC HX
      go_wp2_with fail
      go_loopg [19] L.length (fun gg i wq => ∃ j : Nat, j ≤ L.length ∧ L.length - j ≤ gg ∧ i = .int .i64 j ∧ Hid (Chg P (P + 1) w3 wq) ∧ Hid (BoxAt wq P 3 #[.int .i64 (((L.take j).filter p).length : Int)]))
      case atStart => exact ⟨0, Nat.zero_le _, by omega, rfl, Lib.hid (Chg.refl _ _ _), HC3⟩
      case round =>
        obtain ⟨j, hj, hgj, rfl, HY, HD⟩ := hrel
        by_cases hlt : j < L.length
        · obtain ⟨b, off, z, rfl, _, _, hzz, hc⟩ := rd_int (HRow.out.chg HY.out (by omega)) hlt
          have c0 : wr.cell? ⟨b, off + j, none⟩ = some (.int .i64 z) := hc
          have HE := Lib.hid (filter_sn p hzz)
          have hle : ((L.take j).filter p).length ≤ 1048576 := Nat.le_trans (List.length_filter_le _ _) (by rw [List.length_take]; omega)
          have CC := Lib.hid (cnt_Rul lb bF bP P z (((L.take j).filter p).length : Int) (p z) wr (HF3.out.chg HY.out (by omega)) (HP3.out.chg HY.out (by omega)) HD.out (by omega) (by omega) (HK.out wr z (HW2.out.trans (HX3.out.trans HY.out))))
          have HN := Lib.hid (show (((L.take (j + 1)).filter p).length : Int) = if p z then (((L.take j).filter p).length : Int) + 1 else (((L.take j).filter p).length : Int) by
            rw [HE.out]
            cases p z <;> simp)
          clear hzz hc HE
          generalize hcnt : (((L.take j).filter p).length : Int) = cc at CC HN
          clear hcnt hle
          go_wp2_with fail
          refine CC.out.mono ?_
          rintro e w4 ⟨rfl, hC4, hX4⟩
          have HC4 := Lib.hid hC4
          have HX4 := Lib.hid (HY.out.trans hX4)
          clear hC4 hX4 c0
          go_wp2_with fail
          go_roundg (L.length - (j + 1))
          case measure => omega
          case rel => exact ⟨j + 1, by omega, by omega, by go_num, HX4, by rw [HN.out]; exact HC4⟩
        · obtain rfl : j = L.length := by omega
          have HD2 := Lib.hid (show BoxAt wr P 3 #[.int .i64 ((L.filter p).length : Int)] by have := HD.out; rwa [List.take_of_length_le (Nat.le_refl _)] at this)
          have HX5 := Lib.hid (HX3.out.trans HY.out)
          go_wp2_with fail
          go_roundg (5 - 3)
          case measure => omega
          case rel => exact ⟨3, by omega, by omega, rfl, HX5, HD2⟩
    · skip
      go_wp2_with fail
      go_roundg (5 - 4)
      case measure => omega
      case rel => exact ⟨4, by omega, by omega, rfl, HX, HC⟩
    · skip
      go_wp2_with fail
      go_roundg (5 - 5)
      case measure => omega
      case rel => exact ⟨5, by omega, by omega, rfl, HX, HC⟩
    · skip
      go_wp2_with fail
      exact bodyPost_end (v := .tuple #[]) (by simp [results, Try.results63, go_sem]) rfl ⟨rfl, HC.out, HW2.out.trans HX.out⟩
def mRulesLeft (m : MBrowser) : Int := mMax 0 (20 - (m.l5.length : Int))
set_option maxHeartbeats 4000000 in
theorem impl_anyone (z : Int) (w : World) : Calls Try.prog 65 #[.int .i64 z] w (Says (.bool true) w) := by
  go_enter Try.func65, Try.ntmps65
  go_wp2_with fail
  go_ret
  exact ⟨rfl, Below.refl _ _⟩
theorem mMax_sw (a b : Int) : mMax a b = mMax b a := by unfold mMax; split <;> split <;> omega
set_option maxHeartbeats 8000000 in
theorem impl_RulesLeft (x : DBrowser) (m : MBrowser) (lo hi : Nat) (w : World) (hd : x.dat = m) (hz : m.sz ≤ 1048576) (hok : m.ok) (hr : x.rd w lo hi) :
    Calls Try.prog 23 #[.agg #[.int .i64 x.p0, .slice x.A1 x.n1 x.c1, .slice x.A2 x.n2 x.c2, .slice x.A3 x.n3 x.c3, .slice x.A4 x.n4 x.c4, .slice x.A5 x.n5 x.c5, .slice x.A6 x.n6 x.c6, .int .i64 x.p7]] w (Says (.int .i64 (mRulesLeft m)) w) := by
  have HV := fun (W : World) bF bP P h1 h2 h3 h4 h5 h6 h7 h8 => visit_Rul x m 0 w.heap.size #[] (fun _ => true) bF bP P W hd hz hok h1 h2 h3 h4 h5 h6 h7 h8
  have hN : (((m.l5.map fun x => x.f0).filter fun _ => true).length : Int) = (m.l5.length : Int) := by rw [List.filter_eq_self.2 (fun _ _ => rfl), List.length_map]
  have hn : (m.l5.length : Int) ≤ 1048576 := by simp only [MBrowser.sz] at hz; omega
  rw [hN] at HV
  have HM := fun W => impl_Max (20 - (m.l5.length : Int)) 0 W
  unfold mRulesLeft
  rw [mMax_sw]
  generalize mMax (20 - (m.l5.length : Int)) 0 = r at HM ⊢
  have hn0 : 0 ≤ (m.l5.length : Int) := by omega
  generalize (m.l5.length : Int) = n at HV hn HM hn0
  replace HV := Lib.hid HV
  replace HM := Lib.hid HM
  have HR := Lib.hid hr.old
  clear hr hz hok hd hN
  go_enter Try.func23, Try.ntmps23
  go_wp2_with fail
  have KB0 := box_new w 40 #[.int .i64 x.p0, .slice x.A1 x.n1 x.c1, .slice x.A2 x.n2 x.c2, .slice x.A3 x.n3 x.c3, .slice x.A4 x.n4 x.c4, .slice x.A5 x.n5 x.c5, .slice x.A6 x.n6 x.c6, .int .i64 x.p7]
  have KC0 : BoxAt ((w.alloc (.cells #[.int .i64 x.p0, .slice x.A1 x.n1 x.c1, .slice x.A2 x.n2 x.c2, .slice x.A3 x.n3 x.c3, .slice x.A4 x.n4 x.c4, .slice x.A5 x.n5 x.c5, .slice x.A6 x.n6 x.c6, .int .i64 x.p7] 40)).alloc (.cells #[.int .i64 0] 3)) (w.heap.size + 1) 3 #[.int .i64 0] := by simpa using box_new (w.alloc (.cells #[.int .i64 x.p0, .slice x.A1 x.n1 x.c1, .slice x.A2 x.n2 x.c2, .slice x.A3 x.n3 x.c3, .slice x.A4 x.n4 x.c4, .slice x.A5 x.n5 x.c5, .slice x.A6 x.n6 x.c6, .int .i64 x.p7] 40)) 3 #[.int .i64 0]
  replace KB0 := Lib.hid (KB0.alloc_ (.cells #[.int .i64 0] 3))
  replace KC0 := Lib.hid KC0
  have HR2 := Lib.hid ((HR.out.alloc (.cells #[.int .i64 x.p0, .slice x.A1 x.n1 x.c1, .slice x.A2 x.n2 x.c2, .slice x.A3 x.n3 x.c3, .slice x.A4 x.n4 x.c4, .slice x.A5 x.n5 x.c5, .slice x.A6 x.n6 x.c6, .int .i64 x.p7] 40)).alloc (.cells #[.int .i64 0] 3))
  have HB0 := Lib.hid (show Below w.heap.size w ((w.alloc (.cells #[.int .i64 x.p0, .slice x.A1 x.n1 x.c1, .slice x.A2 x.n2 x.c2, .slice x.A3 x.n3 x.c3, .slice x.A4 x.n4 x.c4, .slice x.A5 x.n5 x.c5, .slice x.A6 x.n6 x.c6, .int .i64 x.p7] 40)).alloc (.cells #[.int .i64 0] 3)) from ((Below.refl w.heap.size w).alloc (Nat.le_refl _) _).alloc (by simp) _)
  have hs0 : w.heap.size + 2 = ((w.alloc (.cells #[.int .i64 x.p0, .slice x.A1 x.n1 x.c1, .slice x.A2 x.n2 x.c2, .slice x.A3 x.n3 x.c3, .slice x.A4 x.n4 x.c4, .slice x.A5 x.n5 x.c5, .slice x.A6 x.n6 x.c6, .int .i64 x.p7] 40)).alloc (.cells #[.int .i64 0] 3)).heap.size := by simp
  generalize hwl : ((w.alloc (.cells #[.int .i64 x.p0, .slice x.A1 x.n1 x.c1, .slice x.A2 x.n2 x.c2, .slice x.A3 x.n3 x.c3, .slice x.A4 x.n4 x.c4, .slice x.A5 x.n5 x.c5, .slice x.A6 x.n6 x.c6, .int .i64 x.p7] 40)).alloc (.cells #[.int .i64 0] 3)) = wl at KB0 KC0 HR2 HB0 hs0 ⊢
  clear hwl
  replace KB0 := Lib.hid KB0.out.drw
  replace KC0 := Lib.hid KC0.out.drw
  replace HR2 := Lib.hid HR2.out.drw
  replace HB0 := Lib.hid HB0.out.drew
  have hs1 : w.heap.size + 2 = wl.drew.heap.size := hs0
  have KF := Lib.hid (show BoxAt ((wl.drew.alloc (.cells #[.pointer (some ⟨w.heap.size + 1, 0, none⟩)] 90)).alloc (.cells #[.func (.func 65) #[] #[]] 91)) (wl.drew.heap.size + 1) 91 #[.func (.func 65) #[] #[]] by simpa using box_new (wl.drew.alloc (.cells #[.pointer (some ⟨w.heap.size + 1, 0, none⟩)] 90)) 91 #[.func (.func 65) #[] #[]])
  have KP := Lib.hid (show BoxAt ((wl.drew.alloc (.cells #[.pointer (some ⟨w.heap.size + 1, 0, none⟩)] 90)).alloc (.cells #[.func (.func 65) #[] #[]] 91)) wl.drew.heap.size 90 #[.pointer (some ⟨w.heap.size + 1, 0, none⟩)] from (box_new _ _ _).alloc_ _)
  go_region_held3 (fun w' => w'.cell? ⟨w.heap.size, 0, none⟩ = some (.int .i64 x.p0) ∧ w'.cell? ⟨w.heap.size, 1, none⟩ = some (.slice x.A1 x.n1 x.c1) ∧ w'.cell? ⟨w.heap.size, 2, none⟩ = some (.slice x.A2 x.n2 x.c2) ∧ w'.cell? ⟨w.heap.size, 3, none⟩ = some (.slice x.A3 x.n3 x.c3) ∧ w'.cell? ⟨w.heap.size, 4, none⟩ = some (.slice x.A4 x.n4 x.c4) ∧ w'.cell? ⟨w.heap.size, 5, none⟩ = some (.slice x.A5 x.n5 x.c5) ∧ w'.cell? ⟨w.heap.size, 6, none⟩ = some (.slice x.A6 x.n6 x.c6) ∧ w'.cell? ⟨w.heap.size, 7, none⟩ = some (.int .i64 x.p7))
    (exact ⟨KB0.out.at_ rfl, KB0.out.at_ rfl, KB0.out.at_ rfl, KB0.out.at_ rfl, KB0.out.at_ rfl, KB0.out.at_ rfl, KB0.out.at_ rfl, KB0.out.at_ rfl⟩)
    (first
      | (go_at_call 64; (fail_if_success (have hx := B1)); refine Calls.mono (impl_counter (w.heap.size + 1) (.func 65) #[] _) ?_; rintro e w1 ⟨rfl, hw1⟩; (have B1 := hw1); (subst hw1); (replace KB0 := Lib.hid ((KB0.out.alloc_ (.cells #[.pointer (some ⟨w.heap.size + 1, 0, none⟩)] 90)).alloc_ (.cells #[.func (.func 65) #[] #[]] 91))))
      | (go_at_call 63; (fail_if_success (have hx := B2)); refine Calls.mono (HV.out _ (wl.drew.heap.size + 1) wl.drew.heap.size (w.heap.size + 1) ((HR2.out.alloc _).alloc _) (by omega) (by omega) (by omega) KF.out KP.out ((KC0.out.alloc_ _).alloc_ _) (fun W z _ => impl_anyone z W)) ?_; rintro e w2 ⟨rfl, hC2, B2⟩; (replace KB0 := Lib.hid (KB0.out.chg B2 (by omega)))))
  have HB2 := Lib.hid (show Below w.heap.size w w2 from ((HB0.out.alloc (by omega) _).alloc (by simp <;> omega) _).trans (B2.below (.inl (by omega)) (by simp <;> omega)))
  have q0 := hC2.at_ (j := 0) rfl
  clear B2 hC2
  go_wp2_with fail
  refine (HM.out _).mono ?_
  rintro e w3 ⟨rfl, hb3⟩
  have HB3 := Lib.hid (below_trans HB2.out hb3 (Nat.le_refl _))
  clear hb3 q0
  go_wp2_with fail
  go_ret
  exact ⟨rfl, HB3.out⟩
set_option maxHeartbeats 8000000 in
theorem spec_RulesLeft (x : DBrowser) (m : MBrowser) (lo hi : Nat) (w : World) (hd : x.dat = m) (hz : m.sz ≤ 1048576) (hok : m.ok) (hr : x.rd w lo hi) :
    Calls Try.prog 22 #[.agg #[.int .i64 x.p0, .slice x.A1 x.n1 x.c1, .slice x.A2 x.n2 x.c2, .slice x.A3 x.n3 x.c3, .slice x.A4 x.n4 x.c4, .slice x.A5 x.n5 x.c5, .slice x.A6 x.n6 x.c6, .int .i64 x.p7]] w (Says (.int .i64 (mRulesLeft m)) w) := by
  subst hd
  have hzs := hz
  rw [hr.sz] at hz
  have hz' : x.n1 + x.n2 + x.n3 + x.n4 + x.n5 + x.n6 ≤ 1048576 := by omega
  have hl := hr.len.2.2.2.2.1
  have HM := fun W => spec_Max 0 (20 - (x.n5 : Int)) W
  have he : mRulesLeft x.dat = mMax 0 (20 - (x.n5 : Int)) := by simp only [mRulesLeft, DBrowser.dat]; rw [hl]
  rw [he]
  generalize mMax 0 (20 - (x.n5 : Int)) = r at HM ⊢
  replace HM := Lib.hid HM
  clear hr hz hzs hok hl he
  go_enter Try.func22, Try.ntmps22
  go_wp2_with fail
  refine (HM.out _).mono ?_
  rintro e w3 ⟨rfl, hb3⟩
  have HB3 := Lib.hid (below_trans ((Below.refl w.heap.size w).alloc (Nat.le_refl _) _) hb3 (by simp))
  clear hb3
  go_wp2_with fail
  go_ret
  exact ⟨rfl, HB3.out⟩

end Go.Proofs.Ytfhoemgpilpapaa
