/- What depends on an owner is forgotten; SameSent of the program. -/
import Derived.Test.YtcankpiidjhhpaaSmM
import Derived.Test.YtcankpiidjhhpaaMask
import Derived.Handy
import Derived.Deep.LoopGhost
import Derived.Deep.RegionHeld3
import Derived.Outline
import Derived.RegionTactic
import Derived.Deep.RegionLaw
import Derived.Deep.Cut
import Derived.Defers
namespace Go.Proofs.Ytcankpiidjhhpaa
open Go Go.ChangeShapes Go.WideShapes Go.ChangeAt Go.RowKit Go.Lib
set_option linter.unusedVariables false
set_option linter.unusedSimpArgs false
set_option maxRecDepth 100000
set_option maxHeartbeats 4000000 in
theorem impl_hasN (b : Int) (v : Bool) (o : Int) (ho : inR o 1 9 = false) (w : World) :
    Calls Try.prog 62 #[.agg #[.int .i64 b, .bool v], .int .i64 o] w (Says (.bool false) w) := by
  have CI := Lib.hid (fun W => Calls.mono (impl_in o 1 9 W) (R' := Says (.bool false) W) (by rintro e w1 ⟨rfl, rfl⟩; exact ⟨by rw [ho], Below.refl _ _⟩))
  go_enter Try.func62, Try.ntmps62
  go_upto_region 1 with fail
  refine wp_region_held_drew (S := fun w' => Below w.heap.size w w') (by kernel_rfl) ?_ (fun hHeld => ?_)
  · exact ((Below.refl _ _).alloc (Nat.le_refl _) _).drew
  refine wpAnyH_take (i := 0) (oi := ⟨some 5, _, _, _, _, _⟩) (v := ?_) rfl (by kernel_rfl) (by kernel_rfl) (by kernel_rfl) (fun _ _ _ h => h) (Or.inl ⟨by kernel_rfl, ?_⟩) hHeld ?_
  rotate_left
  focus (intro W hS; skip; clear hS; first | (go_simp; done) | (go_simp; with_reducible rfl))
  try simp only [Act.put, List.setIfInBounds_toArray, List.set_cons_zero, List.set_cons_succ]
  refine wpAnyH_ready (rs := [1]) (by kernel_rfl) (by simp) ?_
  refine AllReadyH.cons (o := ⟨some 6, _, _, _, _, _⟩) rfl (fun K hK => ?_) AllReadyH.nil
  go_simp
  refine Calls.mono (CI.out _) ?_
  rintro e x1 ⟨rfl, hb1⟩
  refine hK.out _ _ (below_trans hHeld hb1 (Nat.le_refl _)) (fun hHeld' => ?_)
  clear hK K hHeld hb1
  have hHeld := hHeld'
  clear hHeld'
  try simp only [Act.put, List.setIfInBounds_toArray, List.set_cons_zero, List.set_cons_succ]
  refine wpAnyH_take (i := 2) (oi := ⟨some 7, _, _, _, _, _⟩) (v := ?_) rfl (by kernel_rfl) (by kernel_rfl) (by kernel_rfl) (fun _ _ _ h => h) (Or.inl ⟨by kernel_rfl, ?_⟩) hHeld ?_
  rotate_left
  focus (intro W hS; skip; clear hS; first | (go_simp; done) | (go_simp; with_reducible rfl))
  try simp only [Act.put, List.setIfInBounds_toArray, List.set_cons_zero, List.set_cons_succ]
  refine wpAnyH_take (i := 3) (oi := ⟨some 8, _, _, _, _, _⟩) (v := undef) rfl (by kernel_rfl) (by kernel_rfl) (by kernel_rfl) (fun _ _ _ h => h) (Or.inr ⟨by kernel_rfl, rfl⟩) hHeld ?_
  try simp only [Act.put, List.setIfInBounds_toArray, List.set_cons_zero, List.set_cons_succ]
  refine wpAnyH_take (i := 4) (oi := ⟨some 9, _, _, _, _, _⟩) (v := undef) rfl (by kernel_rfl) (by kernel_rfl) (by kernel_rfl) (fun _ _ _ h => h) (Or.inr ⟨by kernel_rfl, rfl⟩) hHeld ?_
  try simp only [Act.put, List.setIfInBounds_toArray, List.set_cons_zero, List.set_cons_succ]
  refine wpAnyH_take (i := 5) (oi := ⟨some 10, _, _, _, _, _⟩) (v := undef) rfl (by kernel_rfl) (by kernel_rfl) (by kernel_rfl) (fun _ _ _ h => h) (Or.inr ⟨by kernel_rfl, rfl⟩) hHeld ?_
  try simp only [Act.put, List.setIfInBounds_toArray, List.set_cons_zero, List.set_cons_succ]
  refine wpAnyH_take (i := 6) (oi := ⟨some 11, _, _, _, _, _⟩) (v := undef) rfl (by kernel_rfl) (by kernel_rfl) (by kernel_rfl) (fun _ _ _ h => h) (Or.inr ⟨by kernel_rfl, rfl⟩) hHeld ?_
  try simp only [Act.put, List.setIfInBounds_toArray, List.set_cons_zero, List.set_cons_succ]
  refine wpAnyH_take (i := 7) (oi := ⟨some 12, _, _, _, _, _⟩) (v := undef) rfl (by kernel_rfl) (by kernel_rfl) (by kernel_rfl) (fun _ _ _ h => h) (Or.inr ⟨by kernel_rfl, rfl⟩) hHeld ?_
  try simp only [Act.put, List.setIfInBounds_toArray, List.set_cons_zero, List.set_cons_succ]
  refine wpAnyH_take (i := 8) (oi := ⟨some 13, _, _, _, _, _⟩) (v := undef) rfl (by kernel_rfl) (by kernel_rfl) (by kernel_rfl) (fun _ _ _ h => h) (Or.inr ⟨by kernel_rfl, rfl⟩) hHeld ?_
  try simp only [Act.put, List.setIfInBounds_toArray, List.set_cons_zero, List.set_cons_succ]
  refine wpAnyH_take (i := 9) (oi := ⟨some 14, _, _, _, _, _⟩) (v := ?_) rfl (by kernel_rfl) (by kernel_rfl) (by kernel_rfl) (fun _ _ _ h => h) (Or.inl ⟨by kernel_rfl, ?_⟩) hHeld ?_
  rotate_left
  focus (intro W hS; skip; clear hS; first | (go_simp; done) | (go_simp; with_reducible rfl))
  try simp only [Act.put, List.setIfInBounds_toArray, List.set_cons_zero, List.set_cons_succ]
  refine wpAnyH_take (i := 10) (oi := ⟨some 4, _, _, _, _, _⟩) (v := ?_) rfl (by kernel_rfl) (by kernel_rfl) (by kernel_rfl) (fun _ _ _ h => h) (Or.inl ⟨by kernel_rfl, ?_⟩) hHeld ?_
  rotate_left
  focus (intro W hS; skip; clear hS; first | (go_simp; done) | (go_simp; with_reducible rfl))
  try simp only [Act.put, List.setIfInBounds_toArray, List.set_cons_zero, List.set_cons_succ]
  refine wpAnyH_done (by kernel_rfl) ?_ _
  go_wp2_with fail
  go_ret
  exact ⟨rfl, hHeld⟩
theorem has_all (o x : Int) (w : World) :
    Calls Try.prog 62 #[.agg #[.int .i64 (if mIsLabel x then x else 0), .bool (mIsLabel x)], .int .i64 o] w (Says (.bool (mMk o x)) w) := by
  rw [mMk_eq]
  cases ho : inR o 1 9 with
  | false => exact impl_hasN _ _ o ho w
  | true =>
    rw [Bool.true_and]
    obtain ⟨k, rfl⟩ : ∃ k : Nat, o = (k : Int) := ⟨o.toNat, by simp [inR] at ho; omega⟩
    have h1 : 1 ≤ k ∧ k ≤ 9 := by simp [inR] at ho; omega
    have h2 : 0 ≤ (if mIsLabel x then x else 0) ∧ (if mIsLabel x then x else 0) ≤ 1022 := by
      split
      · rename_i h; simp [mIsLabel, inR] at h; omega
      · omega
    exact impl_has _ _ w k h1.1 h1.2 h2.1 h2.2
set_option maxHeartbeats 4000000 in
theorem impl_marks (o : Int) (s : TSent) (w : World) :
    Calls Try.prog 92 #[.int .i64 o, .agg #[.int .i64 s.f0, .int .i64 s.f1, .int .i64 s.f2]] w (Says (.bool (mMk o s.f2)) w) := by
  have CM := Lib.hid (fun W => impl_maskOf s.f2 W)
  have CH := Lib.hid (fun W => has_all o s.f2 W)
  generalize mMk o s.f2 = q at CH ⊢
  generalize mIsLabel s.f2 = lb at CM CH
  generalize (if lb = true then s.f2 else 0) = z at CM CH
  go_enter Try.func92, Try.ntmps92
  go_wp2_with fail
  refine Calls.mono (CM.out _) ?_
  rintro e w1 ⟨rfl, hb1⟩
  have HB := Lib.hid (below_trans ((Below.refl w.heap.size w).alloc (Nat.le_refl _) _) hb1 (Nat.le_refl _))
  clear hb1
  go_wp2_with fail
  refine Calls.mono (CH.out _) ?_
  rintro e w2 ⟨rfl, hb2⟩
  have HB2 := Lib.hid (below_trans HB.out hb2 (Nat.le_refl _))
  clear hb2 HB
  go_wp2_with fail
  go_ret
  exact ⟨rfl, HB2.out⟩
set_option maxHeartbeats 4000000 in
theorem impl_forget (o : Int) (l : List TSent) (A : Option Addr) (n c lo hi : Nat) (w : World) (hn : n ≤ 1048576) (hF : Fr w lo hi 47 3 A n c (cSent l)) :
    Calls Try.prog 91 #[.slice A n c, .func (.func 92) #[.int .i64 o] #[]] w fun e w' => e = .returned (.tuple #[]) ∧ Fr w' lo hi 47 3 A n c (cSent (l.map (fgt o))) ∧ Chg lo hi w w' := by
  have HL := Lib.hid (rd_len TSent.len hF.rd (by decide))
  have HF0 := Lib.hid hF
  clear hF
  go_enter Try.func91, Try.ntmps91
  go_wp2_with fail
  go_loopg [8] n (fun gg i wr => ∃ k : Nat, k ≤ n ∧ n - k ≤ gg ∧ i = .int .i64 k ∧ Hid (Fr wr lo hi 47 3 A n c (cSent (fg o l k))) ∧ Hid (Chg lo hi w wr))
  case atStart => exact ⟨0, Nat.zero_le _, by omega, rfl, Lib.hid (by rw [fg_zero]; exact HF0.out), Lib.hid (Chg.refl _ _ _)⟩
  case round =>
    obtain ⟨k, hk, hg, rfl, HF, HC⟩ := hrel
    by_cases hlt : k < n
    · obtain ⟨g, cap, rfl, hlo, hhi, hnc, rfl, hcm, f, hrow, hf⟩ := HF.out.row (by omega)
      obtain ⟨b, off, x, e, _, _, hz, hc⟩ := rd_elem TSent.len HF.out.rd ((fg_len o l k).trans HL.out) hlt
      cases e
      have HZ := Lib.hid ((fg_get o (by rw [HL.out]; exact hlt)).symm.trans hz)
      have c0 : wr.cell? ⟨g, k * 3, none⟩ = some (.int .i64 x.f0) := by have := hc 0 _ rfl; simpa using this
      have c1 : wr.cell? ⟨g, k * 3 + 1, none⟩ = some (.int .i64 x.f1) := by have := hc 1 _ rfl; simpa using this
      have c2 : wr.cell? ⟨g, k * 3 + 2, none⟩ = some (.int .i64 x.f2) := by have := hc 2 _ rfl; simpa using this
      have hsz := hrow.lt
      have HLO := Lib.hid hlo
      have HHI := Lib.hid hhi
      have HN := Lib.hid hnc
      clear hrow hf hc hz hlo hhi hnc hcm
      go_wp2_with fail
      cases hq : mMk o x.f2
      · have HQ := Lib.hid hq
        have CM := Lib.hid (fun W => hq ▸ impl_marks o x W)
        clear hq
        refine Calls.mono (CM.out _) ?_
        rintro e w1 ⟨rfl, hb1⟩
        have HB := Lib.hid (below_trans ((Below.refl wr.heap.size wr).alloc (Nat.le_refl _) _) hb1 (Nat.le_refl _))
        clear hb1 CM
        go_wp2_with fail
        go_roundg (n - (k + 1))
        case measure => omega
        case rel => exact ⟨k + 1, by omega, by omega, by go_num, Lib.hid (by rw [fg_same o HZ.out HQ.out]; exact HF.out.new HB.out), Lib.hid (HC.out.trans (chg_of_new HB.out))⟩
      · have HQ := Lib.hid hq
        have CM := Lib.hid (fun W => hq ▸ impl_marks o x W)
        clear hq
        refine Calls.mono (CM.out _) ?_
        rintro e w1 ⟨rfl, hb1⟩
        have HB := Lib.hid (below_trans ((Below.refl wr.heap.size wr).alloc (Nat.le_refl _) _) hb1 (Nat.le_refl _))
        clear hb1 CM c0 c1 c2
        have HF1 := Lib.hid (HF.out.new HB.out)
        have HS := Lib.hid HB.out.size
        obtain ⟨g', cap, e, _, _, hnc, rfl, _, f, hrow, _⟩ := HF1.out.row (by omega)
        cases e
        have d1 := hrow.cell (i := k * 3 + 1) (by omega)
        have d2 := hrow.frozen (k * 3 + 1)
        have hsz1 := hrow.lt
        clear hrow
        go_wp2_with fail
        go_roundg (n - (k + 1))
        case measure => omega
        case rel => exact ⟨k + 1, by omega, by omega, by go_num, Lib.hid (by rw [← fg_mark o HZ.out HQ.out]; exact fr_setc HF1.out (by omega) _), Lib.hid ((HC.out.trans (chg_of_new HB.out)).set_ (.inl ⟨HLO.out, HHI.out⟩) _)⟩
    · obtain rfl : k = n := by omega
      go_wp2_with fail
      go_end0
      exact ⟨rfl, by rw [← fg_full o l k (by rw [HL.out]; exact Nat.le_refl _)]; exact HF.out, HC.out⟩
set_option maxHeartbeats 4000000 in
theorem same_defer (l0 l1 : List TSent) (A0 A1 : Option Addr) (n0 n1 c0 c1 lo0 hi0 lo1 hi1 B0 Ba Bb : Nat) (v : Value) (u : FrameMode) (w : World) (h0 : n0 ≤ 1048576) (h1 : n1 ≤ 1048576) (r0 : Rd w lo0 hi0 3 A0 n0 (cSent l0)) (r1 : Rd w lo1 hi1 3 A1 n1 (cSent l1)) (b0 : Hid (cSentOk l0)) (b1 : Hid (cSentOk l1))
    (x0 : BoxAt w B0 4 #[v]) (xa : BoxAt w Ba 41 #[.slice A0 n0 c0]) (xb : BoxAt w Bb 41 #[.slice A1 n1 c1]) :
    CallsD Try.prog 90 #[.pointer (some ⟨Ba, 0, none⟩), .pointer (some ⟨Bb, 0, none⟩), .pointer (some ⟨B0, 0, none⟩)] u w fun e u' w' => u' = u ∧ (e = .returned (.tuple #[]) ∧ BoxAt w' B0 4 #[.bool (decide (l0 = l1))] ∧ Chg B0 (B0 + 1) w w') := by
  have CE := Lib.hid (impl_EqualSent l0 A0 n0 c0 lo0 hi0 l1 A1 n1 c1 lo1 hi1 w h0 r0 b0 h1 r1 b1)
  generalize decide (l0 = l1) = q at CE ⊢
  have ca := xa.at_ (j := 0) rfl
  have cb := xb.at_ (j := 0) rfl
  have X0 := Lib.hid x0
  clear r0 r1 b0 b1 x0 xa xb h0 h1
  go_enter_d Try.func90, Try.ntmps90
  go_wp2_with fail
  refine Calls.mono CE.out ?_
  rintro e w1 ⟨rfl, hb1⟩
  have X1 := Lib.hid (X0.out.new hb1)
  have HB := Lib.hid hb1
  have k0 := X1.out.at_ (j := 0) rfl
  have kf := X1.out.free 0
  clear hb1 ca cb
  go_wp2_with fail
  go_end0
  exact ⟨rfl, box_cellM X1.out, (chg_of_new HB.out).set_ (p := ⟨B0, 0, none⟩) (.inl ⟨Nat.le_refl B0, Nat.lt_succ_self B0⟩) _⟩
set_option maxHeartbeats 4000000 in
theorem impl_SameSent (l0 : List TSent) (A0 : Option Addr) (n0 c0 lo0 hi0 : Nat) (l1 : List TSent) (A1 : Option Addr) (n1 c1 lo1 hi1 : Nat) (a2 : Int) (w : World) (h0 : n0 ≤ 1048576) (r0 : Rd w lo0 hi0 3 A0 n0 (cSent l0)) (b0 : Hid (cSentOk l0)) (h1 : n1 ≤ 1048576) (r1 : Rd w lo1 hi1 3 A1 n1 (cSent l1)) (b1 : Hid (cSentOk l1)) (w2 : (Lit.int .i64 a2).wf = true) :
    Calls Try.prog 44 #[.slice A0 n0 c0, .slice A1 n1 c1, .int .i64 a2] w (Says (.bool (mSame a2 l0 l1)) w) := by
  have hmf : ∀ (fn : Fn) (first cap : Array Value) (w : World), (Instr.makeFunc fn first cap).run Try.prog w = .ok (.func fn first cap) w := fun _ _ _ _ => rfl
  have HC0 := Lib.hid (fun W (hb : Below w.heap.size w W) => clone_Sent l0 A0 n0 c0 lo0 hi0 W h0 (r0.new hb))
  have HC1 := Lib.hid (fun W (hb : Below w.heap.size w W) => clone_Sent l1 A1 n1 c1 lo1 hi1 W h1 (r1.new hb))
  have E0 := Lib.hid (show cSentOk (l0.map (fgt a2)) from fun x hx => by obtain ⟨y, hy, rfl⟩ := List.mem_map.1 hx; exact fgt_fit a2 (b0.out y hy))
  have E1 := Lib.hid (show cSentOk (l1.map (fgt a2)) from fun x hx => by obtain ⟨y, hy, rfl⟩ := List.mem_map.1 hx; exact fgt_fit a2 (b1.out y hy))
  rw [← mSame_eq]
  have H0 := Lib.hid h0
  have H1 := Lib.hid h1
  clear h0 h1 r0 r1 b0 b1 w2
  go_enter_defers Try.func44, Try.ntmps44
  go_wp2_with fail
  have HB0 := Lib.hid ((Below.refl w.heap.size w).alloc (Nat.le_refl _) (.cells #[.bool false] 4))
  refine Calls.mono (HC0.out _ HB0.out) ?_
  rintro e w1 ⟨v1, rfl, ho1, hb1⟩
  obtain ⟨A0', c0', rfl, hF⟩ := fr_of_own ho1
  have HF0 := Lib.hid hF
  have HB1 := Lib.hid (below_trans HB0.out hb1 (by simp))
  have X0 := Lib.hid ((box_new w 4 #[.bool false]).new hb1)
  clear hF ho1 hb1
  go_wp2_with fail
  refine Calls.mono (HC1.out _ HB1.out) ?_
  rintro e w2 ⟨v2, rfl, ho2, hb2⟩
  obtain ⟨A1', c1', rfl, hF⟩ := fr_of_own ho2
  have HF1 := Lib.hid hF
  have HG0 := Lib.hid (HF0.out.new hb2)
  have HB2 := Lib.hid (below_trans HB1.out hb2 (Nat.le_refl _))
  have XX0 := Lib.hid (X0.out.new hb2)
  have HS := Lib.hid hb2.size
  have hsz := X0.out.lt
  clear hF ho2 hb2
  go_wp2_with fail
  have hW := ((Below.refl w2.heap.size w2).alloc (Nat.le_refl _) (.cells #[.slice A0' n0 c0'] 41)).alloc (by simp) (.cells #[.slice A1' n1 c1'] 41)
  have XA := (box_new w2 41 #[.slice A0' n0 c0']).alloc_ (.cells #[.slice A1' n1 c1'] 41)
  have XB := box_new (w2.alloc (.cells #[.slice A0' n0 c0'] 41)) 41 #[.slice A1' n1 c1']
  rw [show (w2.alloc (.cells #[.slice A0' n0 c0'] 41)).heap.size = w2.heap.size + 1 from by simp] at XB
  generalize (w2.alloc (.cells #[.slice A0' n0 c0'] 41)).alloc (.cells #[.slice A1' n1 c1'] 41) = W at hW XA XB ⊢
  have hs1 : (w.alloc (.cells #[.bool false] 4)).heap.size = w.heap.size + 1 := by simp
  have hsB := HB1.out.size
  have HS' := HS.out
  refine Calls.mono (impl_forget a2 l0 A0' n0 c0' _ _ W H0.out (HG0.out.new hW)) ?_
  rintro e w3 ⟨rfl, hF3, hc3⟩
  have G0 := Lib.hid hF3
  have G1 := Lib.hid ((HF1.out.new hW).chg hc3 (.inr (.inl (Nat.le_refl _))))
  have YA := Lib.hid (XA.chg hc3 (by omega))
  have YB := Lib.hid (XB.chg hc3 (by omega))
  have Y0 := Lib.hid ((XX0.out.new hW).chg hc3 (by omega))
  have HB3 := Lib.hid ((HB2.out.trans (hW.mono (Nat.le_of_lt XX0.out.lt))).trans (hc3.below (B := w.heap.size) (.inl (by omega)) (by have := hW.size; have := XX0.out.lt; omega)))
  have hlt := XX0.out.lt
  clear hF3 hc3 XA XB hW HG0 HF0 HF1 XX0 X0
  have kb := YB.out.at_ (j := 0) rfl
  go_wp2_with fail
  refine Calls.mono (impl_forget a2 l1 A1' n1 c1' _ _ w3 H1.out G1.out) ?_
  rintro e w4 ⟨rfl, hF4, hc4⟩
  have L1 := Lib.hid hF4
  have L0 := Lib.hid (G0.out.chg hc4 (.inl (Nat.le_refl _)))
  have ZA := Lib.hid (YA.out.chg hc4 (by omega))
  have ZB := Lib.hid (YB.out.chg hc4 (by omega))
  have Z0 := Lib.hid (Y0.out.chg hc4 (by omega))
  have HB4 := Lib.hid (HB3.out.trans (hc4.below (B := w.heap.size) (.inl (by omega)) (by have := Y0.out.lt; omega)))
  clear hF4 hc4 kb YA YB Y0 G0 G1
  have k0 := Z0.out.at_ (j := 0) rfl
  have kf := Z0.out.free 0
  go_wp2_with fail
  have hc5 := (Chg.refl w.heap.size (w.heap.size + 1) w4).set_ (p := ⟨w.heap.size, 0, none⟩) (.inl ⟨Nat.le_refl w.heap.size, Nat.lt_succ_self w.heap.size⟩) (.bool false)
  refine leaves_cons (f := 90) (args := #[.pointer (some ⟨w2.heap.size, 0, none⟩), .pointer (some ⟨w2.heap.size + 1, 0, none⟩), .pointer (some ⟨w.heap.size, 0, none⟩)]) (by simp) (by simp [go_sem]) ?_
  refine (same_defer (l0.map (fgt a2)) (l1.map (fgt a2)) A0' A1' n0 n1 c0' c1' _ _ _ _ w.heap.size w2.heap.size (w2.heap.size + 1) (.bool false) .returning _ H0.out H1.out (L0.out.chg hc5 (.inr (.inl (by omega)))).rd (L1.out.chg hc5 (.inr (.inl (by omega)))).rd E0 E1 (box_cellM Z0.out) (ZA.out.chg hc5 (by omega)) (ZB.out.chg hc5 (by omega))).mono ?_
  rintro e u' w5 ⟨rfl, rfl, hx, hc⟩
  have k5 := hx.at_ (j := 0) rfl
  have HB5 : Below w.heap.size w w5 := (HB4.out.setCell (p := ⟨w.heap.size, 0, none⟩) (Nat.le_refl _) (.bool false)).trans (hc.below (B := w.heap.size) (.inl (Nat.le_refl _)) (by have := HB4.out.size; simpa [World.setCell] using this))
  exact ⟨_, by simp [results, Try.results44, go_sem, k5], rfl, HB5⟩
end Go.Proofs.Ytcankpiidjhhpaa
