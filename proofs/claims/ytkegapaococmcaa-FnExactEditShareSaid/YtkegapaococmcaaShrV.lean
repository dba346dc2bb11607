/- visit at the edits. No condition of its own. -/
import Derived.Test.YtkegapaococmcaaVis
import Derived.Test.YtkegapaococmcaaHold4
import Derived.Deep.LoopGhost
import Derived.Deep.RegionHeld3
namespace Go.Proofs.Ytkegapaococmcaa
open Go Go.ChangeShapes Go.WideShapes Go.ChangeAt Go.RowKit Go.Lib
set_option linter.unusedVariables false
set_option linter.unusedSimpArgs false
set_option maxRecDepth 100000
set_option maxHeartbeats 4000000
set_option maxHeartbeats 8000000 in
theorem cnt_Gst (lb : Array Value) (bF bP P : Nat) (z c0 : Int) (b : Bool) (W : World) (hF : BoxAt W bF 73 #[.func (.func 30) #[] lb]) (hP : BoxAt W bP 77 #[.pointer (some ⟨P, 0, none⟩)]) (hC : BoxAt W P 3 #[.int .i64 c0]) (h0 : 0 ≤ c0) (h1 : c0 ≤ 4294967296)
    (hcall : Calls Try.prog 30 (#[.int .i64 z] ++ lb) W (Says (.bool b) W)) :
    Calls Try.prog 55 #[.int .i64 z, .pointer (some ⟨bF, 0, none⟩), .pointer (some ⟨bP, 0, none⟩)] W (fun e w' => e = .returned (.tuple #[]) ∧ BoxAt w' P 3 #[.int .i64 (if b then c0 + 1 else c0)] ∧ Chg P (P + 1) W w') := by
  have f0 : W.cell? ⟨bF, 0, none⟩ = _ := hF.at_ rfl
  have HP := Lib.hid hP
  have HC := Lib.hid hC
  replace hcall := Lib.hid hcall
  clear hF hP hC
  cases b
  · go_enter Try.func55, Try.ntmps55
    go_wp2_with (go_at_call 30; refine hcall.out.mono ?_; rintro e w1 ⟨rfl, hb1⟩; (have HP1 := Lib.hid (HP.out.new hb1)); (have HC1 := Lib.hid (HC.out.new hb1)); (have HB1 := Lib.hid (chg_of_new (lo := P) (hi := P + 1) hb1)); (have p0 := HP1.out.at_ (j := 0) rfl); (have q0 := HC1.out.at_ (j := 0) rfl); (have g0 := HC1.out.free 0); clear hb1 f0)
    exact bodyPost_end (v := .tuple #[]) (by simp [results, Try.results55, go_sem]) rfl ⟨rfl, HC1.out, HB1.out⟩
  · go_enter Try.func55, Try.ntmps55
    go_wp2_with (go_at_call 30; refine hcall.out.mono ?_; rintro e w1 ⟨rfl, hb1⟩; (have HP1 := Lib.hid (HP.out.new hb1)); (have HC1 := Lib.hid (HC.out.new hb1)); (have HB1 := Lib.hid (chg_of_new (lo := P) (hi := P + 1) hb1)); (have p0 := HP1.out.at_ (j := 0) rfl); (have q0 := HC1.out.at_ (j := 0) rfl); (have g0 := HC1.out.free 0); clear hb1 f0)
    exact bodyPost_end (v := .tuple #[]) (by simp [results, Try.results55, go_sem]) rfl ⟨rfl, (by simpa using box_putV HC1.out 0 (.int .i64 (c0 + 1))), HB1.out.set_ (.inl ⟨Nat.le_refl _, Nat.lt_succ_self _⟩) _⟩
set_option maxHeartbeats 8000000 in
theorem cnt_All (lb : Array Value) (bF bP P : Nat) (z c0 : Int) (b : Bool) (W : World) (hF : BoxAt W bF 73 #[.func (.func 33) #[] lb]) (hP : BoxAt W bP 77 #[.pointer (some ⟨P, 0, none⟩)]) (hC : BoxAt W P 3 #[.int .i64 c0]) (h0 : 0 ≤ c0) (h1 : c0 ≤ 4294967296)
    (hcall : Calls Try.prog 33 (#[.int .i64 z] ++ lb) W (Says (.bool b) W)) :
    Calls Try.prog 55 #[.int .i64 z, .pointer (some ⟨bF, 0, none⟩), .pointer (some ⟨bP, 0, none⟩)] W (fun e w' => e = .returned (.tuple #[]) ∧ BoxAt w' P 3 #[.int .i64 (if b then c0 + 1 else c0)] ∧ Chg P (P + 1) W w') := by
  have f0 : W.cell? ⟨bF, 0, none⟩ = _ := hF.at_ rfl
  have HP := Lib.hid hP
  have HC := Lib.hid hC
  replace hcall := Lib.hid hcall
  clear hF hP hC
  cases b
  · go_enter Try.func55, Try.ntmps55
    go_wp2_with (go_at_call 33; refine hcall.out.mono ?_; rintro e w1 ⟨rfl, hb1⟩; (have HP1 := Lib.hid (HP.out.new hb1)); (have HC1 := Lib.hid (HC.out.new hb1)); (have HB1 := Lib.hid (chg_of_new (lo := P) (hi := P + 1) hb1)); (have p0 := HP1.out.at_ (j := 0) rfl); (have q0 := HC1.out.at_ (j := 0) rfl); (have g0 := HC1.out.free 0); clear hb1 f0)
    exact bodyPost_end (v := .tuple #[]) (by simp [results, Try.results55, go_sem]) rfl ⟨rfl, HC1.out, HB1.out⟩
  · go_enter Try.func55, Try.ntmps55
    go_wp2_with (go_at_call 33; refine hcall.out.mono ?_; rintro e w1 ⟨rfl, hb1⟩; (have HP1 := Lib.hid (HP.out.new hb1)); (have HC1 := Lib.hid (HC.out.new hb1)); (have HB1 := Lib.hid (chg_of_new (lo := P) (hi := P + 1) hb1)); (have p0 := HP1.out.at_ (j := 0) rfl); (have q0 := HC1.out.at_ (j := 0) rfl); (have g0 := HC1.out.free 0); clear hb1 f0)
    exact bodyPost_end (v := .tuple #[]) (by simp [results, Try.results55, go_sem]) rfl ⟨rfl, (by simpa using box_putV HC1.out 0 (.int .i64 (c0 + 1))), HB1.out.set_ (.inl ⟨Nat.le_refl _, Nat.lt_succ_self _⟩) _⟩
set_option maxHeartbeats 8000000 in
theorem visit_Gst (x : DBrowser) (m : MBrowser) (lo hi : Nat) (lb : Array Value) (p : Int → Bool) (bF bP P : Nat) (w : World) (hd : x.dat = m) (hz : m.sz ≤ 1048576) (hok : m.ok) (hr : x.rd w lo hi) (hiP : hi ≤ P) (hbF : bF ≠ P) (hbP : bP ≠ P)
    (hF : BoxAt w bF 73 #[.func (.func 30) #[] lb]) (hP : BoxAt w bP 77 #[.pointer (some ⟨P, 0, none⟩)]) (hC : BoxAt w P 3 #[.int .i64 0])
    (hcall : ∀ W z, Chg P (P + 1) w W → Calls Try.prog 30 (#[.int .i64 z] ++ lb) W (Says (.bool (p z)) W)) :
    Calls Try.prog 31 #[.agg #[.int .i64 x.p0, .slice x.A1 x.n1 x.c1, .slice x.A2 x.n2 x.c2, .slice x.A3 x.n3 x.c3, .slice x.A4 x.n4 x.c4, .slice x.A5 x.n5 x.c5, .slice x.A6 x.n6 x.c6, .int .i64 x.p7], .agg #[.nilFunc, .nilFunc, .nilFunc, .nilFunc, .func (.func 55) #[] #[.pointer (some ⟨bF, 0, none⟩), .pointer (some ⟨bP, 0, none⟩)]]] w (fun e w' => e = .returned (.tuple #[]) ∧ BoxAt w' P 3 #[.int .i64 (((m.l1.flatMap fun t => t.l2.map fun e => e.f5).filter p).length : Int)] ∧ Chg P (P + 1) w w') := by
  have HH := fun W h => holders_4 x m lo hi W hd hz hok h
  have hnl : (m.l1.flatMap fun t => t.l2.map fun e => e.f5).length ≤ 1048576 := Nat.le_trans (authm_len m.l1) (by simp only [MBrowser.sz] at hz; omega)
  generalize (m.l1.flatMap fun t => t.l2.map fun e => e.f5) = L at HH hnl ⊢
  replace HH := Lib.hid HH
  have HR := Lib.hid hr
  have HFF := Lib.hid hF
  have HPP := Lib.hid hP
  have HCC := Lib.hid hC
  have hPl := hC.lt
  have hFl := hF.lt
  have hQl := hP.lt
  have HK := Lib.hid hcall
  clear hr hF hP hC hcall hz hok hd
  have HW2 := Lib.hid (show Chg P (P + 1) w ((w.alloc (.cells #[.int .i64 x.p0, .slice x.A1 x.n1 x.c1, .slice x.A2 x.n2 x.c2, .slice x.A3 x.n3 x.c3, .slice x.A4 x.n4 x.c4, .slice x.A5 x.n5 x.c5, .slice x.A6 x.n6 x.c6, .int .i64 x.p7] 40)).alloc (.cells #[.nilFunc, .nilFunc, .nilFunc, .nilFunc, .func (.func 55) #[] #[.pointer (some ⟨bF, 0, none⟩), .pointer (some ⟨bP, 0, none⟩)]] 79)) from ((Chg.refl _ _ _).alloc _).alloc _)
  have KB0 := Lib.hid (show BoxAt ((w.alloc (.cells #[.int .i64 x.p0, .slice x.A1 x.n1 x.c1, .slice x.A2 x.n2 x.c2, .slice x.A3 x.n3 x.c3, .slice x.A4 x.n4 x.c4, .slice x.A5 x.n5 x.c5, .slice x.A6 x.n6 x.c6, .int .i64 x.p7] 40)).alloc (.cells #[.nilFunc, .nilFunc, .nilFunc, .nilFunc, .func (.func 55) #[] #[.pointer (some ⟨bF, 0, none⟩), .pointer (some ⟨bP, 0, none⟩)]] 79)) w.heap.size 40 #[.int .i64 x.p0, .slice x.A1 x.n1 x.c1, .slice x.A2 x.n2 x.c2, .slice x.A3 x.n3 x.c3, .slice x.A4 x.n4 x.c4, .slice x.A5 x.n5 x.c5, .slice x.A6 x.n6 x.c6, .int .i64 x.p7] from (box_new w 40 #[.int .i64 x.p0, .slice x.A1 x.n1 x.c1, .slice x.A2 x.n2 x.c2, .slice x.A3 x.n3 x.c3, .slice x.A4 x.n4 x.c4, .slice x.A5 x.n5 x.c5, .slice x.A6 x.n6 x.c6, .int .i64 x.p7]).alloc_ _)
  have HC0 := Lib.hid (show BoxAt ((w.alloc (.cells #[.int .i64 x.p0, .slice x.A1 x.n1 x.c1, .slice x.A2 x.n2 x.c2, .slice x.A3 x.n3 x.c3, .slice x.A4 x.n4 x.c4, .slice x.A5 x.n5 x.c5, .slice x.A6 x.n6 x.c6, .int .i64 x.p7] 40)).alloc (.cells #[.nilFunc, .nilFunc, .nilFunc, .nilFunc, .func (.func 55) #[] #[.pointer (some ⟨bF, 0, none⟩), .pointer (some ⟨bP, 0, none⟩)]] 79)) P 3 #[.int .i64 0] from (HCC.out.alloc_ _).alloc_ _)
  have i0 : ∀ W : World, (Instr.index 79 (.agg #[.nilFunc, .nilFunc, .nilFunc, .nilFunc, .func (.func 55) #[] #[.pointer (some ⟨bF, 0, none⟩), .pointer (some ⟨bP, 0, none⟩)]]) (.int .i64 0)).run Try.prog W = .ok (.nilFunc) W := fun _ => by kernel_rfl
  have i1 : ∀ W : World, (Instr.index 79 (.agg #[.nilFunc, .nilFunc, .nilFunc, .nilFunc, .func (.func 55) #[] #[.pointer (some ⟨bF, 0, none⟩), .pointer (some ⟨bP, 0, none⟩)]]) (.int .i64 1)).run Try.prog W = .ok (.nilFunc) W := fun _ => by kernel_rfl
  have i2 : ∀ W : World, (Instr.index 79 (.agg #[.nilFunc, .nilFunc, .nilFunc, .nilFunc, .func (.func 55) #[] #[.pointer (some ⟨bF, 0, none⟩), .pointer (some ⟨bP, 0, none⟩)]]) (.int .i64 2)).run Try.prog W = .ok (.nilFunc) W := fun _ => by kernel_rfl
  have i3 : ∀ W : World, (Instr.index 79 (.agg #[.nilFunc, .nilFunc, .nilFunc, .nilFunc, .func (.func 55) #[] #[.pointer (some ⟨bF, 0, none⟩), .pointer (some ⟨bP, 0, none⟩)]]) (.int .i64 3)).run Try.prog W = .ok (.nilFunc) W := fun _ => by kernel_rfl
  have i4 : ∀ W : World, (Instr.index 79 (.agg #[.nilFunc, .nilFunc, .nilFunc, .nilFunc, .func (.func 55) #[] #[.pointer (some ⟨bF, 0, none⟩), .pointer (some ⟨bP, 0, none⟩)]]) (.int .i64 4)).run Try.prog W = .ok (.func (.func 55) #[] #[.pointer (some ⟨bF, 0, none⟩), .pointer (some ⟨bP, 0, none⟩)]) W := fun _ => by kernel_rfl
  have n0 : ∀ W : World, (binOp .eql 75 .nilFunc .nilFunc).run Try.prog W = .ok (.bool true) W := fun _ => by kernel_rfl
  have n1 : ∀ W : World, (binOp .eql 75 (.func (.func 55) #[] #[.pointer (some ⟨bF, 0, none⟩), .pointer (some ⟨bP, 0, none⟩)]) .nilFunc).run Try.prog W = .ok (.bool false) W := fun _ => by kernel_rfl
  go_enter Try.func31, Try.ntmps31
  go_wp2_with fail
  generalize ((w.alloc (.cells #[.int .i64 x.p0, .slice x.A1 x.n1 x.c1, .slice x.A2 x.n2 x.c2, .slice x.A3 x.n3 x.c3, .slice x.A4 x.n4 x.c4, .slice x.A5 x.n5 x.c5, .slice x.A6 x.n6 x.c6, .int .i64 x.p7] 40)).alloc (.cells #[.nilFunc, .nilFunc, .nilFunc, .nilFunc, .func (.func 55) #[] #[.pointer (some ⟨bF, 0, none⟩), .pointer (some ⟨bP, 0, none⟩)]] 79)) = w2 at HW2 KB0 HC0 ⊢
  go_loopg [9] 5 (fun gg i wr => ∃ k : Nat, k ≤ 5 ∧ 5 - k ≤ gg ∧ i = .int .i64 k ∧ Hid (Chg P (P + 1) w2 wr) ∧ Hid (BoxAt wr P 3 #[.int .i64 (if k ≤ 4 then 0 else ((L.filter p).length : Int))]))
  case atStart => exact ⟨0, Nat.zero_le _, by omega, rfl, Lib.hid (Chg.refl _ _ _), HC0⟩
  case round =>
    obtain ⟨k, hk, hg, rfl, HX, HC⟩ := hrel
    obtain rfl | rfl | rfl | rfl | rfl | rfl : k = 0 ∨ k = 1 ∨ k = 2 ∨ k = 3 ∨ k = 4 ∨ k = 5 := by omega
    · skip
      go_wp2_with fail
      go_roundg (5 - 1)
      case measure => omega
      case rel => exact ⟨1, by omega, by omega, rfl, HX, HC⟩
    · skip
      go_wp2_with fail
      go_roundg (5 - 2)
      case measure => omega
      case rel => exact ⟨2, by omega, by omega, rfl, HX, HC⟩
    · skip
      go_wp2_with fail
      go_roundg (5 - 3)
      case measure => omega
      case rel => exact ⟨3, by omega, by omega, rfl, HX, HC⟩
    · skip
      go_wp2_with fail
      go_roundg (5 - 4)
      case measure => omega
      case rel => exact ⟨4, by omega, by omega, rfl, HX, HC⟩
    · skip
      have KB := Lib.hid (KB0.out.chg HX.out (by omega))
      have HRk := Lib.hid ((HR.out.chg HW2.out (by omega)).chg HX.out (by omega))
      have HFk := Lib.hid ((HFF.out.chg HW2.out (by omega)).chg HX.out (by omega))
      have HPk := Lib.hid ((HPP.out.chg HW2.out (by omega)).chg HX.out (by omega))
      have HCk := Lib.hid (show BoxAt wr P 3 #[.int .i64 0] from HC.out)
      have k0 : wr.cell? ⟨w.heap.size, 0, none⟩ = some (.int .i64 x.p0) := KB.out.at_ rfl
      have k1 : wr.cell? ⟨w.heap.size, 1, none⟩ = some (.slice x.A1 x.n1 x.c1) := KB.out.at_ rfl
      have k2 : wr.cell? ⟨w.heap.size, 2, none⟩ = some (.slice x.A2 x.n2 x.c2) := KB.out.at_ rfl
      have k3 : wr.cell? ⟨w.heap.size, 3, none⟩ = some (.slice x.A3 x.n3 x.c3) := KB.out.at_ rfl
      have k4 : wr.cell? ⟨w.heap.size, 4, none⟩ = some (.slice x.A4 x.n4 x.c4) := KB.out.at_ rfl
      have k5 : wr.cell? ⟨w.heap.size, 5, none⟩ = some (.slice x.A5 x.n5 x.c5) := KB.out.at_ rfl
      have k6 : wr.cell? ⟨w.heap.size, 6, none⟩ = some (.slice x.A6 x.n6 x.c6) := KB.out.at_ rfl
      have k7 : wr.cell? ⟨w.heap.size, 7, none⟩ = some (.int .i64 x.p7) := KB.out.at_ rfl
      go_wp2_with fail
      refine (HH.out _ HRk.out).mono ?_
      rintro e w3 ⟨A1, c1, rfl, hf1, hb1⟩
      have HRow := Lib.hid hf1.rd
      have HX3 := Lib.hid (HX.out.new hb1)
      have HF3 := Lib.hid (HFk.out.new hb1)
      have HP3 := Lib.hid (HPk.out.new hb1)
      have HC3 := Lib.hid (HCk.out.new hb1)
      have hlow : P < wr.heap.size := HCk.out.lt
      clear hb1 hf1 k0 k1 k2 k3 k4 k5 k6 k7 HCk HFk HPk HC HX
      go_wp2_with fail
      go_loopg [19] L.length (fun gg i wq => ∃ j : Nat, j ≤ L.length ∧ L.length - j ≤ gg ∧ i = .int .i64 j ∧ Hid (Chg P (P + 1) w3 wq) ∧ Hid (BoxAt wq P 3 #[.int .i64 (((L.take j).filter p).length : Int)]))
      case atStart => exact ⟨0, Nat.zero_le _, by omega, rfl, Lib.hid (Chg.refl _ _ _), HC3⟩
      case round =>
        obtain ⟨j, hj, hgj, rfl, HY, HD⟩ := hrel
        by_cases hlt : j < L.length
        · obtain ⟨b, off, z, rfl, _, _, hzz, hc⟩ := rd_int (HRow.out.chg HY.out (by omega)) hlt
          have c0 : wr.cell? ⟨b, off + j, none⟩ = some (.int .i64 z) := hc
          have HE := Lib.hid (filter_sn p hzz)
          have hle : ((L.take j).filter p).length ≤ 1048576 := Nat.le_trans (List.length_filter_le _ _) (by rw [List.length_take]; omega)
          have CC := Lib.hid (cnt_Gst lb bF bP P z (((L.take j).filter p).length : Int) (p z) wr (HF3.out.chg HY.out (by omega)) (HP3.out.chg HY.out (by omega)) HD.out (by omega) (by omega) (HK.out wr z (HW2.out.trans (HX3.out.trans HY.out))))
          have HN := Lib.hid (show (((L.take (j + 1)).filter p).length : Int) = if p z then (((L.take j).filter p).length : Int) + 1 else (((L.take j).filter p).length : Int) by
            rw [HE.out]
            cases p z <;> simp)
          clear hzz hc HE
          generalize hcnt : (((L.take j).filter p).length : Int) = cc at CC HN
          clear hcnt hle
          go_wp2_with fail
          refine CC.out.mono ?_
          rintro e w4 ⟨rfl, hC4, hX4⟩
          have HC4 := Lib.hid hC4
          have HX4 := Lib.hid (HY.out.trans hX4)
          clear hC4 hX4 c0
          go_wp2_with fail
          go_roundg (L.length - (j + 1))
          case measure => omega
          case rel => exact ⟨j + 1, by omega, by omega, by go_num, HX4, by rw [HN.out]; exact HC4⟩
        · obtain rfl : j = L.length := by omega
          have HD2 := Lib.hid (show BoxAt wr P 3 #[.int .i64 ((L.filter p).length : Int)] by have := HD.out; rwa [List.take_of_length_le (Nat.le_refl _)] at this)
          have HX5 := Lib.hid (HX3.out.trans HY.out)
          go_wp2_with fail
          go_roundg (5 - 5)
          case measure => omega
          case rel => exact ⟨5, by omega, by omega, rfl, HX5, HD2⟩
    · skip
      go_wp2_with fail
      exact bodyPost_end (v := .tuple #[]) (by simp [results, Try.results31, go_sem]) rfl ⟨rfl, HC.out, HW2.out.trans HX.out⟩
set_option maxHeartbeats 8000000 in
theorem visit_All (x : DBrowser) (m : MBrowser) (lo hi : Nat) (lb : Array Value) (p : Int → Bool) (bF bP P : Nat) (w : World) (hd : x.dat = m) (hz : m.sz ≤ 1048576) (hok : m.ok) (hr : x.rd w lo hi) (hiP : hi ≤ P) (hbF : bF ≠ P) (hbP : bP ≠ P)
    (hF : BoxAt w bF 73 #[.func (.func 33) #[] lb]) (hP : BoxAt w bP 77 #[.pointer (some ⟨P, 0, none⟩)]) (hC : BoxAt w P 3 #[.int .i64 0])
    (hcall : ∀ W z, Chg P (P + 1) w W → Calls Try.prog 33 (#[.int .i64 z] ++ lb) W (Says (.bool (p z)) W)) :
    Calls Try.prog 31 #[.agg #[.int .i64 x.p0, .slice x.A1 x.n1 x.c1, .slice x.A2 x.n2 x.c2, .slice x.A3 x.n3 x.c3, .slice x.A4 x.n4 x.c4, .slice x.A5 x.n5 x.c5, .slice x.A6 x.n6 x.c6, .int .i64 x.p7], .agg #[.nilFunc, .nilFunc, .nilFunc, .nilFunc, .func (.func 55) #[] #[.pointer (some ⟨bF, 0, none⟩), .pointer (some ⟨bP, 0, none⟩)]]] w (fun e w' => e = .returned (.tuple #[]) ∧ BoxAt w' P 3 #[.int .i64 (((m.l1.flatMap fun t => t.l2.map fun e => e.f5).filter p).length : Int)] ∧ Chg P (P + 1) w w') := by
  have HH := fun W h => holders_4 x m lo hi W hd hz hok h
  have hnl : (m.l1.flatMap fun t => t.l2.map fun e => e.f5).length ≤ 1048576 := Nat.le_trans (authm_len m.l1) (by simp only [MBrowser.sz] at hz; omega)
  generalize (m.l1.flatMap fun t => t.l2.map fun e => e.f5) = L at HH hnl ⊢
  replace HH := Lib.hid HH
  have HR := Lib.hid hr
  have HFF := Lib.hid hF
  have HPP := Lib.hid hP
  have HCC := Lib.hid hC
  have hPl := hC.lt
  have hFl := hF.lt
  have hQl := hP.lt
  have HK := Lib.hid hcall
  clear hr hF hP hC hcall hz hok hd
  have HW2 := Lib.hid (show Chg P (P + 1) w ((w.alloc (.cells #[.int .i64 x.p0, .slice x.A1 x.n1 x.c1, .slice x.A2 x.n2 x.c2, .slice x.A3 x.n3 x.c3, .slice x.A4 x.n4 x.c4, .slice x.A5 x.n5 x.c5, .slice x.A6 x.n6 x.c6, .int .i64 x.p7] 40)).alloc (.cells #[.nilFunc, .nilFunc, .nilFunc, .nilFunc, .func (.func 55) #[] #[.pointer (some ⟨bF, 0, none⟩), .pointer (some ⟨bP, 0, none⟩)]] 79)) from ((Chg.refl _ _ _).alloc _).alloc _)
  have KB0 := Lib.hid (show BoxAt ((w.alloc (.cells #[.int .i64 x.p0, .slice x.A1 x.n1 x.c1, .slice x.A2 x.n2 x.c2, .slice x.A3 x.n3 x.c3, .slice x.A4 x.n4 x.c4, .slice x.A5 x.n5 x.c5, .slice x.A6 x.n6 x.c6, .int .i64 x.p7] 40)).alloc (.cells #[.nilFunc, .nilFunc, .nilFunc, .nilFunc, .func (.func 55) #[] #[.pointer (some ⟨bF, 0, none⟩), .pointer (some ⟨bP, 0, none⟩)]] 79)) w.heap.size 40 #[.int .i64 x.p0, .slice x.A1 x.n1 x.c1, .slice x.A2 x.n2 x.c2, .slice x.A3 x.n3 x.c3, .slice x.A4 x.n4 x.c4, .slice x.A5 x.n5 x.c5, .slice x.A6 x.n6 x.c6, .int .i64 x.p7] from (box_new w 40 #[.int .i64 x.p0, .slice x.A1 x.n1 x.c1, .slice x.A2 x.n2 x.c2, .slice x.A3 x.n3 x.c3, .slice x.A4 x.n4 x.c4, .slice x.A5 x.n5 x.c5, .slice x.A6 x.n6 x.c6, .int .i64 x.p7]).alloc_ _)
  have HC0 := Lib.hid (show BoxAt ((w.alloc (.cells #[.int .i64 x.p0, .slice x.A1 x.n1 x.c1, .slice x.A2 x.n2 x.c2, .slice x.A3 x.n3 x.c3, .slice x.A4 x.n4 x.c4, .slice x.A5 x.n5 x.c5, .slice x.A6 x.n6 x.c6, .int .i64 x.p7] 40)).alloc (.cells #[.nilFunc, .nilFunc, .nilFunc, .nilFunc, .func (.func 55) #[] #[.pointer (some ⟨bF, 0, none⟩), .pointer (some ⟨bP, 0, none⟩)]] 79)) P 3 #[.int .i64 0] from (HCC.out.alloc_ _).alloc_ _)
  have i0 : ∀ W : World, (Instr.index 79 (.agg #[.nilFunc, .nilFunc, .nilFunc, .nilFunc, .func (.func 55) #[] #[.pointer (some ⟨bF, 0, none⟩), .pointer (some ⟨bP, 0, none⟩)]]) (.int .i64 0)).run Try.prog W = .ok (.nilFunc) W := fun _ => by kernel_rfl
  have i1 : ∀ W : World, (Instr.index 79 (.agg #[.nilFunc, .nilFunc, .nilFunc, .nilFunc, .func (.func 55) #[] #[.pointer (some ⟨bF, 0, none⟩), .pointer (some ⟨bP, 0, none⟩)]]) (.int .i64 1)).run Try.prog W = .ok (.nilFunc) W := fun _ => by kernel_rfl
  have i2 : ∀ W : World, (Instr.index 79 (.agg #[.nilFunc, .nilFunc, .nilFunc, .nilFunc, .func (.func 55) #[] #[.pointer (some ⟨bF, 0, none⟩), .pointer (some ⟨bP, 0, none⟩)]]) (.int .i64 2)).run Try.prog W = .ok (.nilFunc) W := fun _ => by kernel_rfl
  have i3 : ∀ W : World, (Instr.index 79 (.agg #[.nilFunc, .nilFunc, .nilFunc, .nilFunc, .func (.func 55) #[] #[.pointer (some ⟨bF, 0, none⟩), .pointer (some ⟨bP, 0, none⟩)]]) (.int .i64 3)).run Try.prog W = .ok (.nilFunc) W := fun _ => by kernel_rfl
  have i4 : ∀ W : World, (Instr.index 79 (.agg #[.nilFunc, .nilFunc, .nilFunc, .nilFunc, .func (.func 55) #[] #[.pointer (some ⟨bF, 0, none⟩), .pointer (some ⟨bP, 0, none⟩)]]) (.int .i64 4)).run Try.prog W = .ok (.func (.func 55) #[] #[.pointer (some ⟨bF, 0, none⟩), .pointer (some ⟨bP, 0, none⟩)]) W := fun _ => by kernel_rfl
  have n0 : ∀ W : World, (binOp .eql 75 .nilFunc .nilFunc).run Try.prog W = .ok (.bool true) W := fun _ => by kernel_rfl
  have n1 : ∀ W : World, (binOp .eql 75 (.func (.func 55) #[] #[.pointer (some ⟨bF, 0, none⟩), .pointer (some ⟨bP, 0, none⟩)]) .nilFunc).run Try.prog W = .ok (.bool false) W := fun _ => by kernel_rfl
  go_enter Try.func31, Try.ntmps31
  go_wp2_with fail
  generalize ((w.alloc (.cells #[.int .i64 x.p0, .slice x.A1 x.n1 x.c1, .slice x.A2 x.n2 x.c2, .slice x.A3 x.n3 x.c3, .slice x.A4 x.n4 x.c4, .slice x.A5 x.n5 x.c5, .slice x.A6 x.n6 x.c6, .int .i64 x.p7] 40)).alloc (.cells #[.nilFunc, .nilFunc, .nilFunc, .nilFunc, .func (.func 55) #[] #[.pointer (some ⟨bF, 0, none⟩), .pointer (some ⟨bP, 0, none⟩)]] 79)) = w2 at HW2 KB0 HC0 ⊢
  go_loopg [9] 5 (fun gg i wr => ∃ k : Nat, k ≤ 5 ∧ 5 - k ≤ gg ∧ i = .int .i64 k ∧ Hid (Chg P (P + 1) w2 wr) ∧ Hid (BoxAt wr P 3 #[.int .i64 (if k ≤ 4 then 0 else ((L.filter p).length : Int))]))
  case atStart => exact ⟨0, Nat.zero_le _, by omega, rfl, Lib.hid (Chg.refl _ _ _), HC0⟩
  case round =>
    obtain ⟨k, hk, hg, rfl, HX, HC⟩ := hrel
    obtain rfl | rfl | rfl | rfl | rfl | rfl : k = 0 ∨ k = 1 ∨ k = 2 ∨ k = 3 ∨ k = 4 ∨ k = 5 := by omega
    · skip
      go_wp2_with fail
      go_roundg (5 - 1)
      case measure => omega
      case rel => exact ⟨1, by omega, by omega, rfl, HX, HC⟩
    · skip
      go_wp2_with fail
      go_roundg (5 - 2)
      case measure => omega
      case rel => exact ⟨2, by omega, by omega, rfl, HX, HC⟩
    · skip
      go_wp2_with fail
      go_roundg (5 - 3)
      case measure => omega
      case rel => exact ⟨3, by omega, by omega, rfl, HX, HC⟩
    · skip
      go_wp2_with fail
      go_roundg (5 - 4)
      case measure => omega
      case rel => exact ⟨4, by omega, by omega, rfl, HX, HC⟩
    · skip
      have KB := Lib.hid (KB0.out.chg HX.out (by omega))
      have HRk := Lib.hid ((HR.out.chg HW2.out (by omega)).chg HX.out (by omega))
      have HFk := Lib.hid ((HFF.out.chg HW2.out (by omega)).chg HX.out (by omega))
      have HPk := Lib.hid ((HPP.out.chg HW2.out (by omega)).chg HX.out (by omega))
      have HCk := Lib.hid (show BoxAt wr P 3 #[.int .i64 0] from HC.out)
      have k0 : wr.cell? ⟨w.heap.size, 0, none⟩ = some (.int .i64 x.p0) := KB.out.at_ rfl
      have k1 : wr.cell? ⟨w.heap.size, 1, none⟩ = some (.slice x.A1 x.n1 x.c1) := KB.out.at_ rfl
      have k2 : wr.cell? ⟨w.heap.size, 2, none⟩ = some (.slice x.A2 x.n2 x.c2) := KB.out.at_ rfl
      have k3 : wr.cell? ⟨w.heap.size, 3, none⟩ = some (.slice x.A3 x.n3 x.c3) := KB.out.at_ rfl
      have k4 : wr.cell? ⟨w.heap.size, 4, none⟩ = some (.slice x.A4 x.n4 x.c4) := KB.out.at_ rfl
      have k5 : wr.cell? ⟨w.heap.size, 5, none⟩ = some (.slice x.A5 x.n5 x.c5) := KB.out.at_ rfl
      have k6 : wr.cell? ⟨w.heap.size, 6, none⟩ = some (.slice x.A6 x.n6 x.c6) := KB.out.at_ rfl
      have k7 : wr.cell? ⟨w.heap.size, 7, none⟩ = some (.int .i64 x.p7) := KB.out.at_ rfl
      go_wp2_with fail
      refine (HH.out _ HRk.out).mono ?_
      rintro e w3 ⟨A1, c1, rfl, hf1, hb1⟩
      have HRow := Lib.hid hf1.rd
      have HX3 := Lib.hid (HX.out.new hb1)
      have HF3 := Lib.hid (HFk.out.new hb1)
      have HP3 := Lib.hid (HPk.out.new hb1)
      have HC3 := Lib.hid (HCk.out.new hb1)
      have hlow : P < wr.heap.size := HCk.out.lt
      clear hb1 hf1 k0 k1 k2 k3 k4 k5 k6 k7 HCk HFk HPk HC HX
      go_wp2_with fail
      go_loopg [19] L.length (fun gg i wq => ∃ j : Nat, j ≤ L.length ∧ L.length - j ≤ gg ∧ i = .int .i64 j ∧ Hid (Chg P (P + 1) w3 wq) ∧ Hid (BoxAt wq P 3 #[.int .i64 (((L.take j).filter p).length : Int)]))
      case atStart => exact ⟨0, Nat.zero_le _, by omega, rfl, Lib.hid (Chg.refl _ _ _), HC3⟩
      case round =>
        obtain ⟨j, hj, hgj, rfl, HY, HD⟩ := hrel
        by_cases hlt : j < L.length
        · obtain ⟨b, off, z, rfl, _, _, hzz, hc⟩ := rd_int (HRow.out.chg HY.out (by omega)) hlt
          have c0 : wr.cell? ⟨b, off + j, none⟩ = some (.int .i64 z) := hc
          have HE := Lib.hid (filter_sn p hzz)
          have hle : ((L.take j).filter p).length ≤ 1048576 := Nat.le_trans (List.length_filter_le _ _) (by rw [List.length_take]; omega)
          have CC := Lib.hid (cnt_All lb bF bP P z (((L.take j).filter p).length : Int) (p z) wr (HF3.out.chg HY.out (by omega)) (HP3.out.chg HY.out (by omega)) HD.out (by omega) (by omega) (HK.out wr z (HW2.out.trans (HX3.out.trans HY.out))))
          have HN := Lib.hid (show (((L.take (j + 1)).filter p).length : Int) = if p z then (((L.take j).filter p).length : Int) + 1 else (((L.take j).filter p).length : Int) by
            rw [HE.out]
            cases p z <;> simp)
          clear hzz hc HE
          generalize hcnt : (((L.take j).filter p).length : Int) = cc at CC HN
          clear hcnt hle
          go_wp2_with fail
          refine CC.out.mono ?_
          rintro e w4 ⟨rfl, hC4, hX4⟩
          have HC4 := Lib.hid hC4
          have HX4 := Lib.hid (HY.out.trans hX4)
          clear hC4 hX4 c0
          go_wp2_with fail
          go_roundg (L.length - (j + 1))
          case measure => omega
          case rel => exact ⟨j + 1, by omega, by omega, by go_num, HX4, by rw [HN.out]; exact HC4⟩
        · obtain rfl : j = L.length := by omega
          have HD2 := Lib.hid (show BoxAt wr P 3 #[.int .i64 ((L.filter p).length : Int)] by have := HD.out; rwa [List.take_of_length_le (Nat.le_refl _)] at this)
          have HX5 := Lib.hid (HX3.out.trans HY.out)
          go_wp2_with fail
          go_roundg (5 - 5)
          case measure => omega
          case rel => exact ⟨5, by omega, by omega, rfl, HX5, HD2⟩
    · skip
      go_wp2_with fail
      exact bodyPost_end (v := .tuple #[]) (by simp [results, Try.results31, go_sem]) rfl ⟨rfl, HC.out, HW2.out.trans HX.out⟩

end Go.Proofs.Ytkegapaococmcaa
