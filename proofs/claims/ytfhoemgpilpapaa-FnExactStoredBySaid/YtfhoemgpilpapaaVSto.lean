/- StoredBy, of the program and of the model. No condition of its own. -/
import Derived.Test.YtfhoemgpilpapaaVis
import Derived.Test.YtfhoemgpilpapaaHoS
import Derived.Test.YtfhoemgpilpapaaStB
import Derived.Deep.LoopGhost
import Derived.Deep.RegionHeld3
namespace Go.Proofs.Ytfhoemgpilpapaa
open Go Go.ChangeShapes Go.WideShapes Go.ChangeAt Go.RowKit Go.Lib
set_option linter.unusedVariables false
set_option linter.unusedSimpArgs false
set_option maxRecDepth 100000
set_option maxHeartbeats 4000000
set_option maxHeartbeats 8000000 in
theorem spec_l30EntriesV (l : List TStored) (A : Option Addr) (n c lo hi : Nat) (a1 : Int) (w : World) (hn : n ≤ 1048576) (hr : Rd w lo hi 4 A n (cStored l)) (H : Hid (cStoredOk l)) (wfa1 : (Lit.int .i64 a1).wf = true) :
    Calls Try.prog 67 #[.slice A n c, .int .i64 a1] w (Makes 142 4 (l.filter fun x => x.f0 == a1).length (cStored (l.filter fun x => x.f0 == a1)) w) := by
  have HL := Lib.hid (rd_len TStored.len hr (by decide))
  have HR := Lib.hid hr
  clear hr wfa1
  generalize hP : (fun x : TStored => x.f0 == a1) = P
  have HP := Lib.hid hP
  clear hP
  go_enter Try.func67, Try.ntmps67
  go_wp2_with fail
  go_loopg [5, 6] n (fun gg v i wr => ∃ k : Nat, k ≤ n ∧ n - k ≤ gg ∧ i = .int .i64 k ∧ Hid (wr.ownsRow w.heap.size 142 4 v ((l.take k).filter P).length (cStored ((l.take k).filter P))) ∧ Hid (Below w.heap.size w wr))
  case atStart => exact ⟨0, Nat.zero_le _, by omega, rfl, Lib.hid (World.ownsRow_lit w #[] 0 (Nat.le_refl _) (by unfold maxLen; omega) rfl), Lib.hid ((Below.refl _ _).alloc (Nat.le_refl _) _)⟩
  case round =>
    obtain ⟨k, hk, hg, rfl, HO, HB⟩ := hrel
    by_cases hlt : k < n
    · obtain ⟨b, off, x, rfl, _, _, hz, hc⟩ := rd_elem TStored.len (HR.out.new HB.out) HL.out hlt
      have c0 : wr.cell? ⟨b, off + k * 4, none⟩ = _ := hc 0 _ rfl
      have c1 := hc 1 _ rfl
      have c2 := hc 2 _ rfl
      have c3 := hc 3 _ rfl
      have hbl : b < wr.heap.size := World.block_lt_of_cell? _ _ c0
      have HE := Lib.hid (filter_sn P hz)
      have HN := Lib.hid (Nat.le_trans (List.length_filter_le P (l.take k)) (List.length_take_le _ _))
      have HPx := Lib.hid (show (x.f0 == a1) = P x by rw [← HP.out])
      clear hz hc
      by_cases h0 : (x.f0 == a1) = true
      · skip
        have H2 := Lib.hid (by have := HE.out; rwa [if_pos (by rw [← HPx.out]; simp [h0])] at this)
        clear HE HPx
        have HS := Lib.hid HB.out.size
        go_wp2_with (at_builtin; refine wp_app_lit rfl _ _ _ rfl w.heap.size 142 (.agg #[.int .i64 0, .int .i64 0, .int .i64 0, .int .i64 0]) 4 32 Try.underlying38 infoStored rfl (by decide) _ _ _ rfl HO.out #[.int .i64 x.f0, .int .i64 x.f1, .int .i64 x.f2, .int .i64 x.f3] 1 1 _ rfl (by simp) rfl (onesStored x) (by have := HN.out; unfold maxLen; omega) (by have := HN.out; omega) (by have := HS.out; omega) ?_; intro v1 w2 ho1 hb2)
        have HO2 := Lib.hid (show w2.ownsRow w.heap.size 142 4 v1 ((l.take (k + 1)).filter P).length (cStored ((l.take (k + 1)).filter P)) by rw [H2.out]; simpa [cStored, List.flatMap_append, TStored.cells] using ho1)
        have HB2 := Lib.hid (HB.out.trans hb2)
        clear ho1 hb2
        go_wp2_with fail
        go_roundg (n - (k + 1))
        case measure => omega
        case rel => exact ⟨k + 1, by omega, by omega, by go_num, HO2, HB2⟩
      · have h0 : (x.f0 == a1) = false := by simpa using h0
        have H2 := Lib.hid (by have := HE.out; rwa [if_neg (by rw [← HPx.out]; simp [h0])] at this)
        clear HE HPx
        go_wp2_with fail
        have HS := Lib.hid HB.out.size
        go_roundg (n - (k + 1))
        case measure => omega
        case rel => exact ⟨k + 1, by omega, by omega, by go_num, by rw [H2.out]; exact HO, HB⟩
    · obtain rfl : k = n := by omega
      have HO2 := Lib.hid (show wr.ownsRow w.heap.size _ _ _ (l.filter P).length (cStored (l.filter P)) by have := HO.out; rwa [List.take_of_length_le (by rw [HL.out]; omega)] at this)
      clear HO
      go_wp2_with fail
      go_ret
      exact makes_of_own HO2.out HB.out

set_option maxHeartbeats 8000000 in
theorem cnt_Sto (lb : Array Value) (bF bP P : Nat) (z c0 : Int) (b : Bool) (W : World) (hF : BoxAt W bF 91 #[.func (.func 68) #[] lb]) (hP : BoxAt W bP 90 #[.pointer (some ⟨P, 0, none⟩)]) (hC : BoxAt W P 3 #[.int .i64 c0]) (h0 : 0 ≤ c0) (h1 : c0 ≤ 4294967296)
    (hcall : Calls Try.prog 68 (#[.int .i64 z] ++ lb) W (Says (.bool b) W)) :
    Calls Try.prog 120 #[.int .i64 z, .pointer (some ⟨bF, 0, none⟩), .pointer (some ⟨bP, 0, none⟩)] W (fun e w' => e = .returned (.tuple #[]) ∧ BoxAt w' P 3 #[.int .i64 (if b then c0 + 1 else c0)] ∧ Chg P (P + 1) W w') := by
  have f0 : W.cell? ⟨bF, 0, none⟩ = _ := hF.at_ rfl
  have HP := Lib.hid hP
  have HC := Lib.hid hC
  replace hcall := Lib.hid hcall
  clear hF hP hC
  cases b
  · go_enter Try.func120, Try.ntmps120
    go_wp2_with (go_at_call 68; refine hcall.out.mono ?_; rintro e w1 ⟨rfl, hb1⟩; (have HP1 := Lib.hid (HP.out.new hb1)); (have HC1 := Lib.hid (HC.out.new hb1)); (have HB1 := Lib.hid (chg_of_new (lo := P) (hi := P + 1) hb1)); (have p0 := HP1.out.at_ (j := 0) rfl); (have q0 := HC1.out.at_ (j := 0) rfl); (have g0 := HC1.out.free 0); clear hb1 f0)
    exact bodyPost_end (v := .tuple #[]) (by simp [results, Try.results120, go_sem]) rfl ⟨rfl, HC1.out, HB1.out⟩
  · go_enter Try.func120, Try.ntmps120
    go_wp2_with (go_at_call 68; refine hcall.out.mono ?_; rintro e w1 ⟨rfl, hb1⟩; (have HP1 := Lib.hid (HP.out.new hb1)); (have HC1 := Lib.hid (HC.out.new hb1)); (have HB1 := Lib.hid (chg_of_new (lo := P) (hi := P + 1) hb1)); (have p0 := HP1.out.at_ (j := 0) rfl); (have q0 := HC1.out.at_ (j := 0) rfl); (have g0 := HC1.out.free 0); clear hb1 f0)
    exact bodyPost_end (v := .tuple #[]) (by simp [results, Try.results120, go_sem]) rfl ⟨rfl, (by simpa using box_putV HC1.out 0 (.int .i64 (c0 + 1))), HB1.out.set_ (.inl ⟨Nat.le_refl _, Nat.lt_succ_self _⟩) _⟩
theorem holders_Sto (x : DBrowser) (m : MBrowser) (lo hi : Nat) (w : World) (hd : x.dat = m) (hz : m.sz ≤ 1048576) (hok : m.ok) (hr : x.rd w lo hi) :
    Calls Try.prog 50 #[.agg #[.int .i64 x.p0, .slice x.A1 x.n1 x.c1, .slice x.A2 x.n2 x.c2, .slice x.A3 x.n3 x.c3, .slice x.A4 x.n4 x.c4, .slice x.A5 x.n5 x.c5, .slice x.A6 x.n6 x.c6, .int .i64 x.p7], .int .i64 3] w (Makes 3 1 (m.l6.map fun x => x.f0).length (i64s (m.l6.map fun x => x.f0)) w) := by
  subst hd
  have hzs := hz
  rw [hr.sz] at hz
  have hz' : x.n1 + x.n2 + x.n3 + x.n4 + x.n5 + x.n6 ≤ 1048576 := by omega
  have hlen := hr.len.2.2.2.2.2
  have HC := Lib.hid (fun W h => map_stored x.l6 x.A6 x.n6 x.c6 lo hi W (by omega) h)
  have HR := Lib.hid hr.2.2.2.2.2.2
  have HLn : (x.dat.l6.map fun x => x.f0).length = x.n6 := by rw [List.length_map]; exact hlen
  rw [HLn]
  clear HLn
  change Calls _ _ _ _ (Makes 3 1 x.n6 (i64s (x.l6.map fun x => x.f0)) w)
  generalize (x.l6.map fun x => x.f0) = L at HC ⊢
  clear hr hz hzs hok hlen
  go_enter Try.func50, Try.ntmps50
  go_wp2_with fail
  refine (HC.out _ (HR.out.new ((Below.refl _ _).alloc (Nat.le_refl _) _))).mono ?_
  rintro e w1 ⟨A1, c1, rfl, hf1, hb1⟩
  have HB1 := Lib.hid (below_trans ((Below.refl _ _).alloc (Nat.le_refl _) _) hb1 (by simp))
  have HF1 := Lib.hid (hf1.mono (lo' := w.heap.size) (by simp) (Nat.le_refl _))
  clear hb1 hf1
  go_wp2_with fail
  go_ret
  exact ⟨_, _, rfl, HF1.out, HB1.out⟩
set_option maxHeartbeats 8000000 in
theorem visit_Sto (x : DBrowser) (m : MBrowser) (lo hi : Nat) (lb : Array Value) (p : Int → Bool) (bF bP P : Nat) (w : World) (hd : x.dat = m) (hz : m.sz ≤ 1048576) (hok : m.ok) (hr : x.rd w lo hi) (hiP : hi ≤ P) (hbF : bF ≠ P) (hbP : bP ≠ P)
    (hF : BoxAt w bF 91 #[.func (.func 68) #[] lb]) (hP : BoxAt w bP 90 #[.pointer (some ⟨P, 0, none⟩)]) (hC : BoxAt w P 3 #[.int .i64 0])
    (hcall : ∀ W z, Chg P (P + 1) w W → Calls Try.prog 68 (#[.int .i64 z] ++ lb) W (Says (.bool (p z)) W)) :
    Calls Try.prog 63 #[.agg #[.int .i64 x.p0, .slice x.A1 x.n1 x.c1, .slice x.A2 x.n2 x.c2, .slice x.A3 x.n3 x.c3, .slice x.A4 x.n4 x.c4, .slice x.A5 x.n5 x.c5, .slice x.A6 x.n6 x.c6, .int .i64 x.p7], .agg #[.nilFunc, .nilFunc, .nilFunc, .func (.func 120) #[] #[.pointer (some ⟨bF, 0, none⟩), .pointer (some ⟨bP, 0, none⟩)], .nilFunc]] w (fun e w' => e = .returned (.tuple #[]) ∧ BoxAt w' P 3 #[.int .i64 (((m.l6.map fun x => x.f0).filter p).length : Int)] ∧ Chg P (P + 1) w w') := by
  have HH := fun W h => holders_Sto x m lo hi W hd hz hok h
  have hnl : (m.l6.map fun x => x.f0).length ≤ 1048576 := by rw [List.length_map]; simp only [MBrowser.sz] at hz; omega
  generalize (m.l6.map fun x => x.f0) = L at HH hnl ⊢
  replace HH := Lib.hid HH
  have HR := Lib.hid hr
  have HFF := Lib.hid hF
  have HPP := Lib.hid hP
  have HCC := Lib.hid hC
  have hPl := hC.lt
  have hFl := hF.lt
  have hQl := hP.lt
  have HK := Lib.hid hcall
  clear hr hF hP hC hcall hz hok hd
  have HW2 := Lib.hid (show Chg P (P + 1) w ((w.alloc (.cells #[.int .i64 x.p0, .slice x.A1 x.n1 x.c1, .slice x.A2 x.n2 x.c2, .slice x.A3 x.n3 x.c3, .slice x.A4 x.n4 x.c4, .slice x.A5 x.n5 x.c5, .slice x.A6 x.n6 x.c6, .int .i64 x.p7] 40)).alloc (.cells #[.nilFunc, .nilFunc, .nilFunc, .func (.func 120) #[] #[.pointer (some ⟨bF, 0, none⟩), .pointer (some ⟨bP, 0, none⟩)], .nilFunc] 93)) from ((Chg.refl _ _ _).alloc _).alloc _)
  have KB0 := Lib.hid (show BoxAt ((w.alloc (.cells #[.int .i64 x.p0, .slice x.A1 x.n1 x.c1, .slice x.A2 x.n2 x.c2, .slice x.A3 x.n3 x.c3, .slice x.A4 x.n4 x.c4, .slice x.A5 x.n5 x.c5, .slice x.A6 x.n6 x.c6, .int .i64 x.p7] 40)).alloc (.cells #[.nilFunc, .nilFunc, .nilFunc, .func (.func 120) #[] #[.pointer (some ⟨bF, 0, none⟩), .pointer (some ⟨bP, 0, none⟩)], .nilFunc] 93)) w.heap.size 40 #[.int .i64 x.p0, .slice x.A1 x.n1 x.c1, .slice x.A2 x.n2 x.c2, .slice x.A3 x.n3 x.c3, .slice x.A4 x.n4 x.c4, .slice x.A5 x.n5 x.c5, .slice x.A6 x.n6 x.c6, .int .i64 x.p7] from (box_new w 40 #[.int .i64 x.p0, .slice x.A1 x.n1 x.c1, .slice x.A2 x.n2 x.c2, .slice x.A3 x.n3 x.c3, .slice x.A4 x.n4 x.c4, .slice x.A5 x.n5 x.c5, .slice x.A6 x.n6 x.c6, .int .i64 x.p7]).alloc_ _)
  have HC0 := Lib.hid (show BoxAt ((w.alloc (.cells #[.int .i64 x.p0, .slice x.A1 x.n1 x.c1, .slice x.A2 x.n2 x.c2, .slice x.A3 x.n3 x.c3, .slice x.A4 x.n4 x.c4, .slice x.A5 x.n5 x.c5, .slice x.A6 x.n6 x.c6, .int .i64 x.p7] 40)).alloc (.cells #[.nilFunc, .nilFunc, .nilFunc, .func (.func 120) #[] #[.pointer (some ⟨bF, 0, none⟩), .pointer (some ⟨bP, 0, none⟩)], .nilFunc] 93)) P 3 #[.int .i64 0] from (HCC.out.alloc_ _).alloc_ _)
  have i0 : ∀ W : World, (Instr.index 93 (.agg #[.nilFunc, .nilFunc, .nilFunc, .func (.func 120) #[] #[.pointer (some ⟨bF, 0, none⟩), .pointer (some ⟨bP, 0, none⟩)], .nilFunc]) (.int .i64 0)).run Try.prog W = .ok (.nilFunc) W := fun _ => by kernel_rfl
  have i1 : ∀ W : World, (Instr.index 93 (.agg #[.nilFunc, .nilFunc, .nilFunc, .func (.func 120) #[] #[.pointer (some ⟨bF, 0, none⟩), .pointer (some ⟨bP, 0, none⟩)], .nilFunc]) (.int .i64 1)).run Try.prog W = .ok (.nilFunc) W := fun _ => by kernel_rfl
  have i2 : ∀ W : World, (Instr.index 93 (.agg #[.nilFunc, .nilFunc, .nilFunc, .func (.func 120) #[] #[.pointer (some ⟨bF, 0, none⟩), .pointer (some ⟨bP, 0, none⟩)], .nilFunc]) (.int .i64 2)).run Try.prog W = .ok (.nilFunc) W := fun _ => by kernel_rfl
  have i3 : ∀ W : World, (Instr.index 93 (.agg #[.nilFunc, .nilFunc, .nilFunc, .func (.func 120) #[] #[.pointer (some ⟨bF, 0, none⟩), .pointer (some ⟨bP, 0, none⟩)], .nilFunc]) (.int .i64 3)).run Try.prog W = .ok (.func (.func 120) #[] #[.pointer (some ⟨bF, 0, none⟩), .pointer (some ⟨bP, 0, none⟩)]) W := fun _ => by kernel_rfl
  have i4 : ∀ W : World, (Instr.index 93 (.agg #[.nilFunc, .nilFunc, .nilFunc, .func (.func 120) #[] #[.pointer (some ⟨bF, 0, none⟩), .pointer (some ⟨bP, 0, none⟩)], .nilFunc]) (.int .i64 4)).run Try.prog W = .ok (.nilFunc) W := fun _ => by kernel_rfl
  have n0 : ∀ W : World, (binOp .eql 88 .nilFunc .nilFunc).run Try.prog W = .ok (.bool true) W := fun _ => by kernel_rfl
  have n1 : ∀ W : World, (binOp .eql 88 (.func (.func 120) #[] #[.pointer (some ⟨bF, 0, none⟩), .pointer (some ⟨bP, 0, none⟩)]) .nilFunc).run Try.prog W = .ok (.bool false) W := fun _ => by kernel_rfl
  go_enter Try.func63, Try.ntmps63
  go_wp2_with fail
  generalize ((w.alloc (.cells #[.int .i64 x.p0, .slice x.A1 x.n1 x.c1, .slice x.A2 x.n2 x.c2, .slice x.A3 x.n3 x.c3, .slice x.A4 x.n4 x.c4, .slice x.A5 x.n5 x.c5, .slice x.A6 x.n6 x.c6, .int .i64 x.p7] 40)).alloc (.cells #[.nilFunc, .nilFunc, .nilFunc, .func (.func 120) #[] #[.pointer (some ⟨bF, 0, none⟩), .pointer (some ⟨bP, 0, none⟩)], .nilFunc] 93)) = w2 at HW2 KB0 HC0 ⊢
  go_loopg [9] 5 (fun gg i wr => ∃ k : Nat, k ≤ 5 ∧ 5 - k ≤ gg ∧ i = .int .i64 k ∧ Hid (Chg P (P + 1) w2 wr) ∧ Hid (BoxAt wr P 3 #[.int .i64 (if k ≤ 3 then 0 else ((L.filter p).length : Int))]))
  case atStart => exact ⟨0, Nat.zero_le _, by omega, rfl, Lib.hid (Chg.refl _ _ _), HC0⟩
  case round =>
    obtain ⟨k, hk, hg, rfl, HX, HC⟩ := hrel
    obtain rfl | rfl | rfl | rfl | rfl | rfl : k = 0 ∨ k = 1 ∨ k = 2 ∨ k = 3 ∨ k = 4 ∨ k = 5 := by omega
    · skip
      go_wp2_with fail
      go_roundg (5 - 1)
      case measure => omega
      case rel => exact ⟨1, by omega, by omega, rfl, HX, HC⟩
    · skip
      go_wp2_with fail
      go_roundg (5 - 2)
      case measure => omega
      case rel => exact ⟨2, by omega, by omega, rfl, HX, HC⟩
    · skip
      go_wp2_with fail
      go_roundg (5 - 3)
      case measure => omega
      case rel => exact ⟨3, by omega, by omega, rfl, HX, HC⟩
    · skip
      have KB := Lib.hid (KB0.out.chg HX.out (by omega))
      have HRk := Lib.hid ((HR.out.chg HW2.out (by omega)).chg HX.out (by omega))
      have HFk := Lib.hid ((HFF.out.chg HW2.out (by omega)).chg HX.out (by omega))
      have HPk := Lib.hid ((HPP.out.chg HW2.out (by omega)).chg HX.out (by omega))
      have HCk := Lib.hid (show BoxAt wr P 3 #[.int .i64 0] from HC.out)
      have k0 : wr.cell? ⟨w.heap.size, 0, none⟩ = some (.int .i64 x.p0) := KB.out.at_ rfl
      have k1 : wr.cell? ⟨w.heap.size, 1, none⟩ = some (.slice x.A1 x.n1 x.c1) := KB.out.at_ rfl
      have k2 : wr.cell? ⟨w.heap.size, 2, none⟩ = some (.slice x.A2 x.n2 x.c2) := KB.out.at_ rfl
      have k3 : wr.cell? ⟨w.heap.size, 3, none⟩ = some (.slice x.A3 x.n3 x.c3) := KB.out.at_ rfl
      have k4 : wr.cell? ⟨w.heap.size, 4, none⟩ = some (.slice x.A4 x.n4 x.c4) := KB.out.at_ rfl
      have k5 : wr.cell? ⟨w.heap.size, 5, none⟩ = some (.slice x.A5 x.n5 x.c5) := KB.out.at_ rfl
      have k6 : wr.cell? ⟨w.heap.size, 6, none⟩ = some (.slice x.A6 x.n6 x.c6) := KB.out.at_ rfl
      have k7 : wr.cell? ⟨w.heap.size, 7, none⟩ = some (.int .i64 x.p7) := KB.out.at_ rfl
      go_wp2_with fail
      refine (HH.out _ HRk.out).mono ?_
      rintro e w3 ⟨A1, c1, rfl, hf1, hb1⟩
      have HRow := Lib.hid hf1.rd
      have HX3 := Lib.hid (HX.out.new hb1)
      have HF3 := Lib.hid (HFk.out.new hb1)
      have HP3 := Lib.hid (HPk.out.new hb1)
      have HC3 := Lib.hid (HCk.out.new hb1)
      have hlow : P < wr.heap.size := HCk.out.lt
      clear hb1 hf1 k0 k1 k2 k3 k4 k5 k6 k7 HCk HFk HPk HC HX
      go_wp2_with fail
      go_loopg [19] L.length (fun gg i wq => ∃ j : Nat, j ≤ L.length ∧ L.length - j ≤ gg ∧ i = .int .i64 j ∧ Hid (Chg P (P + 1) w3 wq) ∧ Hid (BoxAt wq P 3 #[.int .i64 (((L.take j).filter p).length : Int)]))
      case atStart => exact ⟨0, Nat.zero_le _, by omega, rfl, Lib.hid (Chg.refl _ _ _), HC3⟩
      case round =>
        obtain ⟨j, hj, hgj, rfl, HY, HD⟩ := hrel
        by_cases hlt : j < L.length
        · obtain ⟨b, off, z, rfl, _, _, hzz, hc⟩ := rd_int (HRow.out.chg HY.out (by omega)) hlt
          have c0 : wr.cell? ⟨b, off + j, none⟩ = some (.int .i64 z) := hc
          have HE := Lib.hid (filter_sn p hzz)
          have hle : ((L.take j).filter p).length ≤ 1048576 := Nat.le_trans (List.length_filter_le _ _) (by rw [List.length_take]; omega)
          have CC := Lib.hid (cnt_Sto lb bF bP P z (((L.take j).filter p).length : Int) (p z) wr (HF3.out.chg HY.out (by omega)) (HP3.out.chg HY.out (by omega)) HD.out (by omega) (by omega) (HK.out wr z (HW2.out.trans (HX3.out.trans HY.out))))
          have HN := Lib.hid (show (((L.take (j + 1)).filter p).length : Int) = if p z then (((L.take j).filter p).length : Int) + 1 else (((L.take j).filter p).length : Int) by
            rw [HE.out]
            cases p z <;> simp)
          clear hzz hc HE
          generalize hcnt : (((L.take j).filter p).length : Int) = cc at CC HN
          clear hcnt hle
          go_wp2_with fail
          refine CC.out.mono ?_
          rintro e w4 ⟨rfl, hC4, hX4⟩
          have HC4 := Lib.hid hC4
          have HX4 := Lib.hid (HY.out.trans hX4)
          clear hC4 hX4 c0
          go_wp2_with fail
          go_roundg (L.length - (j + 1))
          case measure => omega
          case rel => exact ⟨j + 1, by omega, by omega, by go_num, HX4, by rw [HN.out]; exact HC4⟩
        · obtain rfl : j = L.length := by omega
          have HD2 := Lib.hid (show BoxAt wr P 3 #[.int .i64 ((L.filter p).length : Int)] by have := HD.out; rwa [List.take_of_length_le (Nat.le_refl _)] at this)
          have HX5 := Lib.hid (HX3.out.trans HY.out)
          go_wp2_with fail
          go_roundg (5 - 4)
          case measure => omega
          case rel => exact ⟨4, by omega, by omega, rfl, HX5, HD2⟩
    · skip
      go_wp2_with fail
      go_roundg (5 - 5)
      case measure => omega
      case rel => exact ⟨5, by omega, by omega, rfl, HX, HC⟩
    · skip
      go_wp2_with fail
      exact bodyPost_end (v := .tuple #[]) (by simp [results, Try.results63, go_sem]) rfl ⟨rfl, HC.out, HW2.out.trans HX.out⟩
def mStoredBy (m : MBrowser) (a : Int) : Int := ((m.l6.filter fun x => x.f0 == a).length : Int)
theorem mStoredBy_map (l : List TStored) (a : Int) : (((l.map fun x => x.f0).filter fun z => z == a).length : Int) = ((l.filter fun x => x.f0 == a).length : Int) := by
  rw [List.filter_map, List.length_map]; rfl
set_option maxHeartbeats 4000000 in
theorem impl_sto1 (z a : Int) (bE : Nat) (w : World) (h : BoxAt w bE 3 #[.int .i64 a]) : Calls Try.prog 68 #[.int .i64 z, .pointer (some ⟨bE, 0, none⟩)] w (Says (.bool (z == a)) w) := by
  have h0 : w.cell? ⟨bE, 0, none⟩ = some (.int .i64 a) := h.at_ rfl
  clear h
  go_enter Try.func68, Try.ntmps68
  go_wp2_with fail
  go_ret
  exact ⟨rfl, Below.refl _ _⟩
set_option maxHeartbeats 8000000 in
theorem impl_StoredBy (x : DBrowser) (m : MBrowser) (lo hi : Nat) (a : Int) (w : World) (hd : x.dat = m) (hz : m.sz ≤ 1048576) (hok : m.ok) (hr : x.rd w lo hi) (wfa : (Lit.int .i64 a).wf = true) :
    Calls Try.prog 25 #[.agg #[.int .i64 x.p0, .slice x.A1 x.n1 x.c1, .slice x.A2 x.n2 x.c2, .slice x.A3 x.n3 x.c3, .slice x.A4 x.n4 x.c4, .slice x.A5 x.n5 x.c5, .slice x.A6 x.n6 x.c6, .int .i64 x.p7], .int .i64 a] w (Says (.int .i64 (mStoredBy m a)) w) := by
  clear wfa
  have hmf : ∀ (fn : Fn) (first cap : Array Value) (w : World), (Instr.makeFunc fn first cap).run Try.prog w = .ok (.func fn first cap) w := fun _ _ _ _ => rfl
  have HV := fun (W : World) bF bP P h1 h2 h3 h4 h5 h6 h7 h8 => visit_Sto x m 0 w.heap.size #[.pointer (some ⟨w.heap.size + 1, 0, none⟩)] (fun z => z == a) bF bP P W hd hz hok h1 h2 h3 h4 h5 h6 h7 h8
  rw [mStoredBy_map] at HV
  unfold mStoredBy
  generalize ((m.l6.filter fun x => x.f0 == a).length : Int) = n at HV ⊢
  replace HV := Lib.hid HV
  have HR := Lib.hid hr.old
  clear hr hz hok hd
  go_enter Try.func25, Try.ntmps25
  go_wp2_with fail
  have KB0 := box_new w 40 #[.int .i64 x.p0, .slice x.A1 x.n1 x.c1, .slice x.A2 x.n2 x.c2, .slice x.A3 x.n3 x.c3, .slice x.A4 x.n4 x.c4, .slice x.A5 x.n5 x.c5, .slice x.A6 x.n6 x.c6, .int .i64 x.p7]
  have KE0 : BoxAt ((w.alloc (.cells #[.int .i64 x.p0, .slice x.A1 x.n1 x.c1, .slice x.A2 x.n2 x.c2, .slice x.A3 x.n3 x.c3, .slice x.A4 x.n4 x.c4, .slice x.A5 x.n5 x.c5, .slice x.A6 x.n6 x.c6, .int .i64 x.p7] 40)).alloc (.cells #[.int .i64 a] 3)) (w.heap.size + 1) 3 #[.int .i64 a] := by simpa using box_new (w.alloc (.cells #[.int .i64 x.p0, .slice x.A1 x.n1 x.c1, .slice x.A2 x.n2 x.c2, .slice x.A3 x.n3 x.c3, .slice x.A4 x.n4 x.c4, .slice x.A5 x.n5 x.c5, .slice x.A6 x.n6 x.c6, .int .i64 x.p7] 40)) 3 #[.int .i64 a]
  have KC0 : BoxAt (((w.alloc (.cells #[.int .i64 x.p0, .slice x.A1 x.n1 x.c1, .slice x.A2 x.n2 x.c2, .slice x.A3 x.n3 x.c3, .slice x.A4 x.n4 x.c4, .slice x.A5 x.n5 x.c5, .slice x.A6 x.n6 x.c6, .int .i64 x.p7] 40)).alloc (.cells #[.int .i64 a] 3)).alloc (.cells #[.int .i64 0] 3)) (w.heap.size + 1 + 1) 3 #[.int .i64 0] := by simpa using box_new ((w.alloc (.cells #[.int .i64 x.p0, .slice x.A1 x.n1 x.c1, .slice x.A2 x.n2 x.c2, .slice x.A3 x.n3 x.c3, .slice x.A4 x.n4 x.c4, .slice x.A5 x.n5 x.c5, .slice x.A6 x.n6 x.c6, .int .i64 x.p7] 40)).alloc (.cells #[.int .i64 a] 3)) 3 #[.int .i64 0]
  replace KB0 := Lib.hid ((KB0.alloc_ (.cells #[.int .i64 a] 3)).alloc_ (.cells #[.int .i64 0] 3))
  replace KE0 := Lib.hid (KE0.alloc_ (.cells #[.int .i64 0] 3))
  replace KC0 := Lib.hid KC0
  have HR2 := Lib.hid (((HR.out.alloc (.cells #[.int .i64 x.p0, .slice x.A1 x.n1 x.c1, .slice x.A2 x.n2 x.c2, .slice x.A3 x.n3 x.c3, .slice x.A4 x.n4 x.c4, .slice x.A5 x.n5 x.c5, .slice x.A6 x.n6 x.c6, .int .i64 x.p7] 40)).alloc (.cells #[.int .i64 a] 3)).alloc (.cells #[.int .i64 0] 3))
  have HB0 := Lib.hid (show Below w.heap.size w (((w.alloc (.cells #[.int .i64 x.p0, .slice x.A1 x.n1 x.c1, .slice x.A2 x.n2 x.c2, .slice x.A3 x.n3 x.c3, .slice x.A4 x.n4 x.c4, .slice x.A5 x.n5 x.c5, .slice x.A6 x.n6 x.c6, .int .i64 x.p7] 40)).alloc (.cells #[.int .i64 a] 3)).alloc (.cells #[.int .i64 0] 3)) from (((Below.refl w.heap.size w).alloc (Nat.le_refl _) _).alloc (by simp) _).alloc (by simp <;> omega) _)
  have hs0 : w.heap.size + 3 = (((w.alloc (.cells #[.int .i64 x.p0, .slice x.A1 x.n1 x.c1, .slice x.A2 x.n2 x.c2, .slice x.A3 x.n3 x.c3, .slice x.A4 x.n4 x.c4, .slice x.A5 x.n5 x.c5, .slice x.A6 x.n6 x.c6, .int .i64 x.p7] 40)).alloc (.cells #[.int .i64 a] 3)).alloc (.cells #[.int .i64 0] 3)).heap.size := by simp
  generalize hwl : (((w.alloc (.cells #[.int .i64 x.p0, .slice x.A1 x.n1 x.c1, .slice x.A2 x.n2 x.c2, .slice x.A3 x.n3 x.c3, .slice x.A4 x.n4 x.c4, .slice x.A5 x.n5 x.c5, .slice x.A6 x.n6 x.c6, .int .i64 x.p7] 40)).alloc (.cells #[.int .i64 a] 3)).alloc (.cells #[.int .i64 0] 3)) = wl at KB0 KE0 KC0 HR2 HB0 hs0 ⊢
  clear hwl
  replace KB0 := Lib.hid KB0.out.drw
  replace KE0 := Lib.hid KE0.out.drw
  replace KC0 := Lib.hid KC0.out.drw
  replace HR2 := Lib.hid HR2.out.drw
  replace HB0 := Lib.hid HB0.out.drew
  have hs1 : w.heap.size + 3 = wl.drew.heap.size := hs0
  have KF := Lib.hid (show BoxAt ((wl.drew.alloc (.cells #[.pointer (some ⟨w.heap.size + 1 + 1, 0, none⟩)] 90)).alloc (.cells #[.func (.func 68) #[] #[.pointer (some ⟨w.heap.size + 1, 0, none⟩)]] 91)) (wl.drew.heap.size + 1) 91 #[.func (.func 68) #[] #[.pointer (some ⟨w.heap.size + 1, 0, none⟩)]] by simpa using box_new (wl.drew.alloc (.cells #[.pointer (some ⟨w.heap.size + 1 + 1, 0, none⟩)] 90)) 91 #[.func (.func 68) #[] #[.pointer (some ⟨w.heap.size + 1, 0, none⟩)]])
  have KP := Lib.hid (show BoxAt ((wl.drew.alloc (.cells #[.pointer (some ⟨w.heap.size + 1 + 1, 0, none⟩)] 90)).alloc (.cells #[.func (.func 68) #[] #[.pointer (some ⟨w.heap.size + 1, 0, none⟩)]] 91)) wl.drew.heap.size 90 #[.pointer (some ⟨w.heap.size + 1 + 1, 0, none⟩)] from (box_new _ _ _).alloc_ _)
  have KE1 := Lib.hid (show BoxAt ((wl.drew.alloc (.cells #[.pointer (some ⟨w.heap.size + 1 + 1, 0, none⟩)] 90)).alloc (.cells #[.func (.func 68) #[] #[.pointer (some ⟨w.heap.size + 1, 0, none⟩)]] 91)) (w.heap.size + 1) 3 #[.int .i64 a] from (KE0.out.alloc_ _).alloc_ _)
  go_region_held3 (fun w' => w'.cell? ⟨w.heap.size, 0, none⟩ = some (.int .i64 x.p0) ∧ w'.cell? ⟨w.heap.size, 1, none⟩ = some (.slice x.A1 x.n1 x.c1) ∧ w'.cell? ⟨w.heap.size, 2, none⟩ = some (.slice x.A2 x.n2 x.c2) ∧ w'.cell? ⟨w.heap.size, 3, none⟩ = some (.slice x.A3 x.n3 x.c3) ∧ w'.cell? ⟨w.heap.size, 4, none⟩ = some (.slice x.A4 x.n4 x.c4) ∧ w'.cell? ⟨w.heap.size, 5, none⟩ = some (.slice x.A5 x.n5 x.c5) ∧ w'.cell? ⟨w.heap.size, 6, none⟩ = some (.slice x.A6 x.n6 x.c6) ∧ w'.cell? ⟨w.heap.size, 7, none⟩ = some (.int .i64 x.p7))
    (exact ⟨KB0.out.at_ rfl, KB0.out.at_ rfl, KB0.out.at_ rfl, KB0.out.at_ rfl, KB0.out.at_ rfl, KB0.out.at_ rfl, KB0.out.at_ rfl, KB0.out.at_ rfl⟩)
    (first
      | (go_at_call 64; (fail_if_success (have hx := B1)); refine Calls.mono (impl_counter (w.heap.size + 1 + 1) (.func 68) #[.pointer (some ⟨w.heap.size + 1, 0, none⟩)] _) ?_; rintro e w1 ⟨rfl, hw1⟩; (have B1 := hw1); (subst hw1); (replace KB0 := Lib.hid ((KB0.out.alloc_ (.cells #[.pointer (some ⟨w.heap.size + 1 + 1, 0, none⟩)] 90)).alloc_ (.cells #[.func (.func 68) #[] #[.pointer (some ⟨w.heap.size + 1, 0, none⟩)]] 91))))
      | (go_at_call 63; (fail_if_success (have hx := B2)); refine Calls.mono (HV.out _ (wl.drew.heap.size + 1) wl.drew.heap.size (w.heap.size + 1 + 1) ((HR2.out.alloc _).alloc _) (by omega) (by omega) (by omega) KF.out KP.out ((KC0.out.alloc_ _).alloc_ _) (fun W z hX => impl_sto1 z a _ W (KE1.out.chg hX (by omega)))) ?_; rintro e w2 ⟨rfl, hC2, B2⟩; (replace KB0 := Lib.hid (KB0.out.chg B2 (by omega)))))
  have HB2 := Lib.hid (show Below w.heap.size w w2 from ((HB0.out.alloc (by omega) _).alloc (by simp <;> omega) _).trans (B2.below (.inl (by omega)) (by simp <;> omega)))
  have q0 := hC2.at_ (j := 0) rfl
  clear B2 hC2
  go_wp2_with fail
  go_ret
  exact ⟨rfl, HB2.out⟩
set_option maxHeartbeats 8000000 in
theorem spec_StoredBy (x : DBrowser) (m : MBrowser) (lo hi : Nat) (a : Int) (w : World) (hd : x.dat = m) (hz : m.sz ≤ 1048576) (hok : m.ok) (hr : x.rd w lo hi) (wfa : (Lit.int .i64 a).wf = true) :
    Calls Try.prog 24 #[.agg #[.int .i64 x.p0, .slice x.A1 x.n1 x.c1, .slice x.A2 x.n2 x.c2, .slice x.A3 x.n3 x.c3, .slice x.A4 x.n4 x.c4, .slice x.A5 x.n5 x.c5, .slice x.A6 x.n6 x.c6, .int .i64 x.p7], .int .i64 a] w (Says (.int .i64 (mStoredBy m a)) w) := by
  subst hd
  have hzs := hz
  rw [hr.sz] at hz
  have hz' : x.n1 + x.n2 + x.n3 + x.n4 + x.n5 + x.n6 ≤ 1048576 := by omega
  have hl := hr.len.2.2.2.2.2
  have HE := fun W h => spec_l30EntriesV x.l6 x.A6 x.n6 x.c6 lo hi a W (by omega) h hok.2.2.2.2.2.2.1 wfa
  have HR := Lib.hid hr.2.2.2.2.2.2
  have hle : (x.l6.filter fun x => x.f0 == a).length ≤ 1048576 := Nat.le_trans (List.length_filter_le _ _) (by omega)
  change Calls _ _ _ _ (Says (.int .i64 ((x.l6.filter fun x => x.f0 == a).length : Int)) w)
  generalize (x.l6.filter fun x => x.f0 == a) = L at HE hle ⊢
  replace HE := Lib.hid HE
  clear hr hz hzs hok hl wfa
  go_enter Try.func24, Try.ntmps24
  go_wp2_with fail
  refine (HE.out _ (HR.out.alloc _)).mono ?_
  rintro e w3 ⟨A1, c1, rfl, hf3, hb3⟩
  have HB3 := Lib.hid (below_trans ((Below.refl w.heap.size w).alloc (Nat.le_refl _) _) hb3 (by simp))
  clear hb3 hf3
  go_wp2_with fail
  go_ret
  exact ⟨rfl, HB3.out⟩

end Go.Proofs.Ytfhoemgpilpapaa
