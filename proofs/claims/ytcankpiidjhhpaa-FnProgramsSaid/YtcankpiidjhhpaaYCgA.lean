/- CgA, what is needed of it. -/
import Derived.Test.YtcankpiidjhhpaaYGd
import Derived.Test.YtcankpiidjhhpaaYGc
import Derived.Test.YtcankpiidjhhpaaYGb
import Derived.Deep.Cut
import Derived.Deep.LoopGhost
import Derived.Deep.RegionHeld3
namespace Go.Proofs.Ytcankpiidjhhpaa
open Go Go.ChangeShapes Go.WideShapes Go.ChangeAt Go.RowKit Go.Lib
set_option linter.unusedVariables false
set_option linter.unusedSimpArgs false
set_option maxRecDepth 100000
theorem dr_put_boxC {w : World} {b : Nat} {t : TypeId} {cs : Array Value} (h : BoxAt w b t cs) (j : Nat) (v : Value) : BoxAt (w.setCell ⟨b, j, none⟩ v) b t (cs.setIfInBounds j v) := by
  unfold BoxAt at h ⊢
  simp [World.setCell, Array.getElem?_modify, h]
theorem dr_put_farC {w : World} {b b' j : Nat} {t : TypeId} {cs : Array Value} {v : Value} (h : BoxAt w b t cs) (hne : b ≠ b') : BoxAt (w.setCell ⟨b', j, none⟩ v) b t cs :=
  (Below.heap_setCell w ⟨b', j, none⟩ v b hne).trans h
theorem cargo_zero : (Try.zeroCells84 : Array Value) = cargoC (fun _ _ => false) 0 false := by rfl
theorem cargo_one (b : Int) (v : Bool) : cargoC (diag 0) b v = cargoC (fun _ _ => false) b v := cargo_ext b v fun i j _ _ => by simp [diag]
theorem cargo_lit (b : Int) (v : Bool) : ((Try.zeroCells84.setIfInBounds 100 (.int .i64 b)).setIfInBounds 101 (.bool v)) = cargoC (diag 0) b v := by
  rw [cargo_one]
  rw [cargo_zero]
  simp only [cargoC, cargoL]
  rfl
set_option maxHeartbeats 32000000 in
theorem impl_newCargo (l : List TFlow) (A : Option Addr) (n c lo hi : Nat) (e x : Int) (w : World) (hn : n ≤ 1048576) (hr : Rd w lo hi 3 A n (cFlow l)) (H : Hid (cFlowOk l)) :
    Calls Try.prog 52 #[.slice A n c, .int .i64 e, .int .i64 x] w (Says (.agg (cargoC (opnG l e) (if mIsLabel x then x else 0) (mIsLabel x))) w) := by
  have HL := Lib.hid (rd_len TFlow.len hr (by decide))
  have HRW := Lib.hid hr
  have HR0 := Lib.hid (show BoxAt (w.alloc (.cells Try.zeroCells84 84)) w.heap.size 84 Try.zeroCells84 from box_new w 84 Try.zeroCells84)
  have HB := Lib.hid ((Below.refl w.heap.size w).alloc (Nat.le_refl _) (.cells Try.zeroCells84 84))
  have CM := Lib.hid (fun W => impl_maskOf x W)
  generalize (if mIsLabel x then x else 0) = b at CM ⊢
  generalize mIsLabel x = v at CM ⊢
  clear hr
  go_enter Try.func52, Try.ntmps52
  go_wp2_with fail
  refine Calls.mono (CM.out _) ?_
  rintro e1 w1 ⟨rfl, hb1⟩
  replace HR0 := Lib.hid (HR0.out.new hb1)
  replace HB := Lib.hid (below_trans HB.out hb1 (by simp))
  have s1 : w.heap.size < w1.heap.size := HR0.out.lt
  clear hb1
  obtain ⟨w2, hx⟩ : ∃ X, X = World.setRow (w1.alloc (.cells Try.zeroCells84 84)) w1.heap.size ((Try.zeroCells84.setIfInBounds 100 (.int .i64 b)).setIfInBounds 101 (.bool v)) := ⟨_, rfl⟩
  have HX2 := Lib.hid hx
  have OLD := Lib.hid (box_new w1 84 Try.zeroCells84)
  have KC := Lib.hid (show BoxAt w2 w1.heap.size 84 ((Try.zeroCells84.setIfInBounds 100 (.int .i64 b)).setIfInBounds 101 (.bool v)) by rw [hx]; exact box_row OLD.out)
  replace HR0 := Lib.hid (show BoxAt w2 w.heap.size 84 Try.zeroCells84 by rw [hx]; exact box_far (HR0.out.alloc_ _) (by omega))
  replace HB := Lib.hid (show Below w.heap.size w w2 by rw [hx]; exact below_setRow (HB.out.alloc (by omega) _) (by omega) _)
  rw [cargo_lit] at KC
  clear hx
  go_wp2_with (refine wpList_store_row rfl 84 _ _ rfl w1.heap.size ((Try.zeroCells84.setIfInBounds 100 (.int .i64 b)).setIfInBounds 101 (.bool v)) rfl rfl 84 _ OLD.out (by kernel_rfl) (by kernel_rfl) (by kernel_rfl) ?_; rw [← HX2.out]; clear HX2 OLD)
  go_loopg [14] 10 (fun gg i wr => ∃ k : Nat, k ≤ 10 ∧ 10 - k ≤ gg ∧ i = .int .i64 k ∧ Hid (BoxAt wr w1.heap.size 84 (cargoC (diag k) b v)) ∧ Hid (BoxAt wr w.heap.size 84 Try.zeroCells84) ∧ Hid (Below w.heap.size w wr))
  case atStart => exact ⟨0, by omega, by omega, rfl, KC, HR0, HB⟩
  case round =>
    clear KC HR0 HB
    obtain ⟨k, hk, hg, rfl, KC, R0, HB⟩ := hrel
    have lKC : w1.heap.size < wr.heap.size := KC.out.lt
    by_cases hlt : k < 10
    · have hlti : (k : Int) < 10 := by omega
      have e0 := KC.out.at_ (cargo_get (diag k) b v hlt hlt)
      have f0 := KC.out.free (k * 10 + k)
      go_wp2_with fail
      go_roundg (10 - (k + 1))
      case measure => omega
      case rel => exact ⟨k + 1, by omega, by omega, by go_num, Lib.hid (by have := dr_put_boxC KC.out (k * 10 + k) (.bool true); rw [cargo_set _ _ _ hlt hlt, congrFun (congrFun (diag_step k hlt) b) v] at this; exact this), Lib.hid (dr_put_farC R0.out (by omega)), Lib.hid (HB.out.setCell (by show w.heap.size ≤ w1.heap.size; omega) _)⟩
    · obtain rfl : k = 10 := by omega
      have KD := Lib.hid (show BoxAt wr w1.heap.size 84 (cargoC (opnG (l.take 0) e) b v) by have := KC.out; rw [congrFun (congrFun (diag_all e) b) v] at this; simpa using this)
      clear KC hlt hk hg
      go_wp2_with fail
      go_loopg [26] n (fun gg i wr => ∃ k : Nat, k ≤ n ∧ n - k ≤ gg ∧ i = .int .i64 k ∧ Hid (BoxAt wr w1.heap.size 84 (cargoC (opnG (l.take k) e) b v)) ∧ Hid (BoxAt wr w.heap.size 84 Try.zeroCells84) ∧ Hid (Below w.heap.size w wr))
      case atStart => exact ⟨0, Nat.zero_le _, by omega, rfl, KD, R0, HB⟩
      case round =>
        clear KD R0 HB lKC
        obtain ⟨k, hk, hg, rfl, KC, R0, HB⟩ := hrel
        have lKC : w1.heap.size < wr.heap.size := KC.out.lt
        by_cases hlt : k < n
        · have hlti : (k : Int) < (n : Int) := by omega
          obtain ⟨b1, off, z, rfl, _, _, hz, hcc⟩ := rd_elem TFlow.len (HRW.out.new HB.out) HL.out hlt
          have e0 := hcc 0 _ rfl
          have e1 := hcc 1 _ rfl
          have e2 := hcc 2 _ rfl
          simp only [Nat.add_zero] at e0
          clear hcc
          have HZ := Lib.hid hz
          clear hz
          obtain ⟨x3, hx⟩ : ∃ X, X = World.setRow (wr.alloc (.cells #[.int .i64 0, .int .i64 0, .int .i64 0] 87)) wr.heap.size #[.int .i64 z.f0, .int .i64 z.f1, .int .i64 z.f2] := ⟨_, rfl⟩
          have HX3 := Lib.hid hx
          have OLD := Lib.hid (box_new wr 87 #[.int .i64 0, .int .i64 0, .int .i64 0])
          have KF := Lib.hid (show BoxAt x3 wr.heap.size 87 #[.int .i64 z.f0, .int .i64 z.f1, .int .i64 z.f2] by rw [hx]; exact box_row OLD.out)
          replace KC := Lib.hid (show BoxAt x3 w1.heap.size 84 (cargoC (opnG (l.take k) e) b v) by rw [hx]; exact box_far (KC.out.alloc_ _) (by omega))
          replace R0 := Lib.hid (show BoxAt x3 w.heap.size 84 Try.zeroCells84 by rw [hx]; exact box_far (R0.out.alloc_ _) (by omega))
          replace HB := Lib.hid (show Below w.heap.size w x3 by rw [hx]; exact below_setRow (HB.out.alloc (by omega) _) (by omega) _)
          clear hx
          have k0 := KF.out.at_ (j := 0) rfl
          have k1 := KF.out.at_ (j := 1) rfl
          have k2 := KF.out.at_ (j := 2) rfl
          obtain ⟨q, hq⟩ : ∃ q, mIsFlow z = q := ⟨_, rfl⟩
          have CF := Lib.hid (fun W => hq ▸ impl_IsFlow z W : ∀ W, Calls Try.prog 68 #[.agg #[.int .i64 z.f0, .int .i64 z.f1, .int .i64 z.f2]] W (Says (.bool q) W))
          have HQ := Lib.hid hq
          clear hq
          go_wp2_with (refine wpList_store_row rfl 87 _ _ rfl wr.heap.size #[.int .i64 z.f0, .int .i64 z.f1, .int .i64 z.f2] rfl rfl 87 _ OLD.out (by kernel_rfl) (by kernel_rfl) (by kernel_rfl) ?_; rw [← HX3.out]; clear HX3 OLD)
          refine Calls.mono (CF.out _) ?_
          rintro e3 w4 ⟨rfl, hb4⟩
          clear k0 k1 k2 e0 e1 e2 CF
          replace KF := Lib.hid (KF.out.new hb4)
          replace KC := Lib.hid (KC.out.new hb4)
          replace R0 := Lib.hid (R0.out.new hb4)
          replace HB := Lib.hid (below_trans HB.out hb4 (Nat.le_refl _))
          have lKF : wr.heap.size < w4.heap.size := KF.out.lt
          clear hb4
          have k0 := KF.out.at_ (j := 0) rfl
          cases q with
          | false =>
            go_wp2_with fail
            clear k0
            go_roundg (n - (k + 1))
            case measure => omega
            case rel => exact ⟨k + 1, by omega, by omega, by go_num, Lib.hid (by rw [congrFun (congrFun (opn_no HZ.out (e := e) (by rw [HQ.out]; rfl)) b) v]; exact KC.out), R0, HB⟩
          | true =>
            obtain ⟨q2, hq2⟩ : ∃ q, (z.f0 == e) = q := ⟨_, rfl⟩
            cases q2 with
            | false =>
              have HY := Lib.hid (show (mIsFlow z && z.f0 == e) = false by rw [HQ.out, hq2]; rfl)
              go_wp2_with fail
              clear k0 hq2
              go_roundg (n - (k + 1))
              case measure => omega
              case rel => exact ⟨k + 1, by omega, by omega, by go_num, Lib.hid (by rw [congrFun (congrFun (opn_no HZ.out HY.out) b) v]; exact KC.out), R0, HB⟩
            | true =>
              have HY := Lib.hid (show (mIsFlow z && z.f0 == e) = true by rw [HQ.out, hq2]; rfl)
              obtain ⟨x, y, hfx, hfy, hxl, hyl⟩ := flow_bd HQ.out
              have HFX := Lib.hid hfx
              have HFY := Lib.hid hfy
              rw [hfx, hfy] at KF
              clear hfx hfy
              go_upto_region 11 with fail
              try simp only [Act.put]
              clear k0 hq2
              have GC := KC.out.drw
              have hxi : (x : Int) < 10 := by omega
              have hyi : (y : Int) < 10 := by omega
              refine wp_region_held_drew (S := fun w' => BoxAt w' wr.heap.size 87 #[.int .i64 z.f0, .int .i64 (x : Int), .int .i64 (y : Int)] ∧ BoxAt w' w.heap.size 84 Try.zeroCells84 ∧ Below w.heap.size w w') (by kernel_rfl) ?_ (fun hHeld => ?_)
              · exact ⟨KF.out.drw, R0.out.drw, HB.out.drew⟩
              refine wpAnyH_take (i := 0) (oi := ⟨some 38, _, _, _, _, _⟩) (v := ?_) rfl (by kernel_rfl) (by kernel_rfl) (by kernel_rfl) (fun _ _ _ h => h) (Or.inl ⟨by kernel_rfl, ?_⟩) hHeld ?_
              rotate_left
              focus (intro W hS; skip; clear hS; first | (go_simp; done) | (go_simp; with_reducible rfl))
              try simp only [Act.put, List.setIfInBounds_toArray, List.set_cons_zero, List.set_cons_succ]
              refine wpAnyH_take (i := 1) (oi := ⟨some 39, _, _, _, _, _⟩) (v := ?_) rfl (by kernel_rfl) (by kernel_rfl) (by kernel_rfl) (fun _ _ _ h => h) (Or.inl ⟨by kernel_rfl, ?_⟩) hHeld ?_
              rotate_left
              focus (intro W hS; have c0_0 := (hS.1).at_ (j := 0) rfl; have c0_1 := (hS.1).at_ (j := 1) rfl; have c0_2 := (hS.1).at_ (j := 2) rfl; clear hS; first | (go_simp; done) | (go_simp; with_reducible rfl))
              try simp only [Act.put, List.setIfInBounds_toArray, List.set_cons_zero, List.set_cons_succ]
              refine wpAnyH_take (i := 2) (oi := ⟨some 40, _, _, _, _, _⟩) (v := ?_) rfl (by kernel_rfl) (by kernel_rfl) (by kernel_rfl) (fun _ _ _ h => h) (Or.inl ⟨by kernel_rfl, ?_⟩) hHeld ?_
              rotate_left
              focus (intro W hS; skip; clear hS; first | (go_simp; done) | (go_simp; with_reducible rfl))
              try simp only [Act.put, List.setIfInBounds_toArray, List.set_cons_zero, List.set_cons_succ]
              refine wpAnyH_take (i := 3) (oi := ⟨some 41, _, _, _, _, _⟩) (v := ?_) rfl (by kernel_rfl) (by kernel_rfl) (by kernel_rfl) (fun _ _ _ h => h) (Or.inl ⟨by kernel_rfl, ?_⟩) hHeld ?_
              rotate_left
              focus (intro W hS; have c0_0 := (hS.1).at_ (j := 0) rfl; have c0_1 := (hS.1).at_ (j := 1) rfl; have c0_2 := (hS.1).at_ (j := 2) rfl; clear hS; first | (go_simp; done) | (go_simp; with_reducible rfl))
              try simp only [Act.put, List.setIfInBounds_toArray, List.set_cons_zero, List.set_cons_succ]
              refine wpAnyH_take (i := 4) (oi := ⟨some 42, _, _, _, _, _⟩) (v := ?_) rfl (by kernel_rfl) (by kernel_rfl) (by kernel_rfl) (fun _ _ _ h => h) (Or.inl ⟨by kernel_rfl, ?_⟩) hHeld ?_
              rotate_left
              focus (intro W hS; skip; clear hS; first | (go_simp; done) | (go_simp; with_reducible rfl))
              try simp only [Act.put, List.setIfInBounds_toArray, List.set_cons_zero, List.set_cons_succ]
              refine wpAnyH_take (i := 5) (oi := ⟨some 43, _, _, _, _, _⟩) (v := ?_) rfl (by kernel_rfl) (by kernel_rfl) (by kernel_rfl) (fun _ _ _ h => h) (Or.inl ⟨by kernel_rfl, ?_⟩) hHeld ?_
              rotate_left
              focus (intro W hS; skip; clear hS; first | (go_simp; done) | (go_simp; with_reducible rfl))
              try simp only [Act.put, List.setIfInBounds_toArray, List.set_cons_zero, List.set_cons_succ]
              refine wpAnyH_take (i := 6) (oi := ⟨some 44, _, _, _, _, _⟩) (v := ?_) rfl (by kernel_rfl) (by kernel_rfl) (by kernel_rfl) (fun _ _ _ h => h) (Or.inl ⟨by kernel_rfl, ?_⟩) hHeld ?_
              rotate_left
              focus (intro W hS; skip; clear hS; first | (go_simp; done) | (go_simp; with_reducible rfl))
              try simp only [Act.put, List.setIfInBounds_toArray, List.set_cons_zero, List.set_cons_succ]
              refine wpAnyH_take (i := 7) (oi := ⟨some 45, _, _, _, _, _⟩) (v := ?_) rfl (by kernel_rfl) (by kernel_rfl) (by kernel_rfl) (fun _ _ _ h => h) (Or.inl ⟨by kernel_rfl, ?_⟩) hHeld ?_
              rotate_left
              focus (intro W hS; skip; clear hS; first | (go_simp; done) | (go_simp; with_reducible rfl))
              try simp only [Act.put, List.setIfInBounds_toArray, List.set_cons_zero, List.set_cons_succ]
              refine wpAnyH_ready (rs := [8]) (by kernel_rfl) (by simp) ?_
              refine AllReadyH.cons (o := ⟨none, _, _, _, _, _⟩) rfl (fun K hK => ?_) AllReadyH.nil
              have hcl := GC.at_ (cargo_get (opnG (l.take k) e) b v hxl hyl)
              have hfr := GC.free (x * 10 + y)
              go_simp
              clear hcl hfr
              have GF := dr_put_boxC GC (x * 10 + y) (.bool true)
              refine hK.out _ _ ⟨dr_put_farC hHeld.1 (by omega), dr_put_farC hHeld.2.1 (by omega), hHeld.2.2.setCell (by show w.heap.size ≤ w1.heap.size; omega) _⟩ (fun hHeld' => ?_)
              clear hK K hHeld; have hHeld := hHeld'; clear hHeld'
              try simp only [Act.put, List.setIfInBounds_toArray, List.set_cons_zero, List.set_cons_succ]
              refine wpAnyH_done (by kernel_rfl) ?_ _
              rw [cargo_set _ _ _ hxl hyl, congrFun (congrFun (opn_yes HZ.out HY.out HFX.out HFY.out) b) v] at GF
              have HKC := Lib.hid GF
              have R0X := Lib.hid hHeld.2.1
              have HBX := Lib.hid hHeld.2.2
              clear GF hHeld
              go_wp2_with fail
              go_roundg (n - (k + 1))
              case measure => omega
              case rel => exact ⟨k + 1, by omega, by omega, by go_num, HKC, R0X, HBX⟩
        · obtain rfl : k = n := by omega
          have hfin : ¬ ((k : Int) < (k : Int)) := by omega
          have KE := Lib.hid (show BoxAt wr w1.heap.size 84 (cargoC (opnG l e) b v) by have := KC.out; rw [← HL.out, List.take_length] at this; exact this)
          clear KC
          obtain ⟨x9, hx⟩ : ∃ X, X = World.setRow wr w.heap.size (cargoC (opnG l e) b v) := ⟨_, rfl⟩
          have HX9 := Lib.hid hx
          have HB9 := Lib.hid (show Below w.heap.size w x9 by rw [hx]; exact below_setRow HB.out (Nat.le_refl _) _)
          have R9 := Lib.hid (show BoxAt x9 w.heap.size 84 (cargoC (opnG l e) b v) by rw [hx]; exact box_row R0.out)
          clear hx
          go_wp2_with (first | (refine wpList_load_row rfl 84 _ rfl w1.heap.size rfl 84 (cargoC (opnG l e) b v) (0, 0) _ KE.out Try.underlying84 rfl (by rw [cargo_size]; kernel_rfl) ?_) | (refine wpList_store_row rfl 84 _ _ rfl w.heap.size (cargoC (opnG l e) b v) rfl rfl 84 _ R0.out (by rw [cargo_size]; kernel_rfl) (by rw [cargo_size]; kernel_rfl) (cargo_ones _ _ _) ?_; rw [← HX9.out]; clear HX9))
          have hL := run_loadVar_row (P := Try.prog) x9 w.heap.size 84 84 (cargoC (opnG l e) b v) (0, 0) _ R9.out Try.underlying84 rfl (by rw [cargo_size]; kernel_rfl)
          exact bodyPost_ret (v := .agg (cargoC (opnG l e) b v)) (by simp [results, Try.results52, Sem.run_bind, Sem.run_pure, asAddr, hL]) rfl ⟨rfl, HB9.out⟩
end Go.Proofs.Ytcankpiidjhhpaa
