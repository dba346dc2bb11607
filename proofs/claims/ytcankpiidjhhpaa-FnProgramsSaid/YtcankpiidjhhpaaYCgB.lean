/- CgB, what is needed of it. -/
import Derived.Test.YtcankpiidjhhpaaYCgA
import Derived.Test.YtcankpiidjhhpaaYGc
import Derived.Test.YtcankpiidjhhpaaYGb
import Derived.Deep.Cut
import Derived.Deep.LoopGhost
import Derived.Deep.RegionHeld3
namespace Go.Proofs.Ytcankpiidjhhpaa
open Go Go.ChangeShapes Go.WideShapes Go.ChangeAt Go.RowKit Go.Lib
set_option linter.unusedVariables false
set_option linter.unusedSimpArgs false
set_option maxRecDepth 100000
theorem impl_has0 (b : Int) (v : Bool) (w : World) :
    Calls Try.prog 62 #[.agg #[.int .i64 b, .bool v], .int .i64 0] w (Says (.bool false) w) := by
  have CI := Lib.hid (fun W => Calls.mono (impl_in 0 1 9 W) (R' := Says (.bool false) W) (by rintro e w1 ⟨rfl, rfl⟩; exact ⟨rfl, Below.refl _ _⟩))
  go_enter Try.func62, Try.ntmps62
  go_upto_region 1 with fail
  refine wp_region_held_drew (S := fun w' => Below w.heap.size w w') (by kernel_rfl) ?_ (fun hHeld => ?_)
  · exact ((Below.refl _ _).alloc (Nat.le_refl _) _).drew
  refine wpAnyH_take (i := 0) (oi := ⟨some 5, _, _, _, _, _⟩) (v := ?_) rfl (by kernel_rfl) (by kernel_rfl) (by kernel_rfl) (fun _ _ _ h => h) (Or.inl ⟨by kernel_rfl, ?_⟩) hHeld ?_
  rotate_left
  focus (intro W hS; skip; clear hS; first | (go_simp; done) | (go_simp; with_reducible rfl))
  try simp only [Act.put, List.setIfInBounds_toArray, List.set_cons_zero, List.set_cons_succ]
  refine wpAnyH_ready (rs := [1]) (by kernel_rfl) (by simp) ?_
  refine AllReadyH.cons (o := ⟨some 6, _, _, _, _, _⟩) rfl (fun K hK => ?_) AllReadyH.nil
  go_simp
  refine Calls.mono (CI.out _) ?_
  rintro e x1 ⟨rfl, hb1⟩
  refine hK.out _ _ (below_trans hHeld hb1 (Nat.le_refl _)) (fun hHeld' => ?_)
  clear hK K hHeld hb1
  have hHeld := hHeld'
  clear hHeld'
  try simp only [Act.put, List.setIfInBounds_toArray, List.set_cons_zero, List.set_cons_succ]
  refine wpAnyH_take (i := 2) (oi := ⟨some 7, _, _, _, _, _⟩) (v := ?_) rfl (by kernel_rfl) (by kernel_rfl) (by kernel_rfl) (fun _ _ _ h => h) (Or.inl ⟨by kernel_rfl, ?_⟩) hHeld ?_
  rotate_left
  focus (intro W hS; skip; clear hS; first | (go_simp; done) | (go_simp; with_reducible rfl))
  try simp only [Act.put, List.setIfInBounds_toArray, List.set_cons_zero, List.set_cons_succ]
  refine wpAnyH_take (i := 3) (oi := ⟨some 8, _, _, _, _, _⟩) (v := undef) rfl (by kernel_rfl) (by kernel_rfl) (by kernel_rfl) (fun _ _ _ h => h) (Or.inr ⟨by kernel_rfl, rfl⟩) hHeld ?_
  try simp only [Act.put, List.setIfInBounds_toArray, List.set_cons_zero, List.set_cons_succ]
  refine wpAnyH_take (i := 4) (oi := ⟨some 9, _, _, _, _, _⟩) (v := undef) rfl (by kernel_rfl) (by kernel_rfl) (by kernel_rfl) (fun _ _ _ h => h) (Or.inr ⟨by kernel_rfl, rfl⟩) hHeld ?_
  try simp only [Act.put, List.setIfInBounds_toArray, List.set_cons_zero, List.set_cons_succ]
  refine wpAnyH_take (i := 5) (oi := ⟨some 10, _, _, _, _, _⟩) (v := undef) rfl (by kernel_rfl) (by kernel_rfl) (by kernel_rfl) (fun _ _ _ h => h) (Or.inr ⟨by kernel_rfl, rfl⟩) hHeld ?_
  try simp only [Act.put, List.setIfInBounds_toArray, List.set_cons_zero, List.set_cons_succ]
  refine wpAnyH_take (i := 6) (oi := ⟨some 11, _, _, _, _, _⟩) (v := undef) rfl (by kernel_rfl) (by kernel_rfl) (by kernel_rfl) (fun _ _ _ h => h) (Or.inr ⟨by kernel_rfl, rfl⟩) hHeld ?_
  try simp only [Act.put, List.setIfInBounds_toArray, List.set_cons_zero, List.set_cons_succ]
  refine wpAnyH_take (i := 7) (oi := ⟨some 12, _, _, _, _, _⟩) (v := undef) rfl (by kernel_rfl) (by kernel_rfl) (by kernel_rfl) (fun _ _ _ h => h) (Or.inr ⟨by kernel_rfl, rfl⟩) hHeld ?_
  try simp only [Act.put, List.setIfInBounds_toArray, List.set_cons_zero, List.set_cons_succ]
  refine wpAnyH_take (i := 8) (oi := ⟨some 13, _, _, _, _, _⟩) (v := undef) rfl (by kernel_rfl) (by kernel_rfl) (by kernel_rfl) (fun _ _ _ h => h) (Or.inr ⟨by kernel_rfl, rfl⟩) hHeld ?_
  try simp only [Act.put, List.setIfInBounds_toArray, List.set_cons_zero, List.set_cons_succ]
  refine wpAnyH_take (i := 9) (oi := ⟨some 14, _, _, _, _, _⟩) (v := ?_) rfl (by kernel_rfl) (by kernel_rfl) (by kernel_rfl) (fun _ _ _ h => h) (Or.inl ⟨by kernel_rfl, ?_⟩) hHeld ?_
  rotate_left
  focus (intro W hS; skip; clear hS; first | (go_simp; done) | (go_simp; with_reducible rfl))
  try simp only [Act.put, List.setIfInBounds_toArray, List.set_cons_zero, List.set_cons_succ]
  refine wpAnyH_take (i := 10) (oi := ⟨some 4, _, _, _, _, _⟩) (v := ?_) rfl (by kernel_rfl) (by kernel_rfl) (by kernel_rfl) (fun _ _ _ h => h) (Or.inl ⟨by kernel_rfl, ?_⟩) hHeld ?_
  rotate_left
  focus (intro W hS; skip; clear hS; first | (go_simp; done) | (go_simp; with_reducible rfl))
  try simp only [Act.put, List.setIfInBounds_toArray, List.set_cons_zero, List.set_cons_succ]
  refine wpAnyH_done (by kernel_rfl) ?_ _
  go_wp2_with fail
  go_ret
  exact ⟨rfl, hHeld⟩
theorem has_any (b : Int) (v : Bool) (w : World) (k : Nat) (hk : k < 10) (h0 : 0 ≤ b) (h1 : b ≤ 1022) :
    Calls Try.prog 62 #[.agg #[.int .i64 b, .bool v], .int .i64 (k : Int)] w (Says (.bool (decide (1 ≤ k) && mHas b k)) w) := by
  by_cases hz : 1 ≤ k
  · rw [decide_eq_true hz, Bool.true_and]
    exact impl_has b v w k hz (by omega) h0 h1
  · obtain rfl : k = 0 := by omega
    exact impl_has0 b v w
theorem goes_take {P : Nat → Nat → Bool} {b : Int} {t k : Nat} (h : ((List.range k).all fun k => !(decide (1 ≤ k) && mHas b k) || P k t) = true) (hk : (!(decide (1 ≤ k) && mHas b k) || P k t) = true) : ((List.range (k + 1)).all fun k => !(decide (1 ≤ k) && mHas b k) || P k t) = true := by
  rw [List.range_succ, List.all_append, h]; simpa using hk
theorem goes_not {P : Nat → Nat → Bool} {b : Int} {t k : Nat} (hk : k < 10) (h : (!(decide (1 ≤ k) && mHas b k) || P k t) = false) : ((List.range 10).all fun k => !(decide (1 ≤ k) && mHas b k) || P k t) = false := by
  rw [Bool.eq_false_iff]
  intro h'
  rw [List.all_eq_true] at h'
  rw [h' k (List.mem_range.2 hk)] at h
  cases h
set_option maxHeartbeats 32000000 in
theorem impl_mayGo (P : Nat → Nat → Bool) (b : Int) (v : Bool) (t : Int) (w : World) (h0 : 0 ≤ b) (h1 : b ≤ 1022) :
    Calls Try.prog 53 #[.agg (cargoC P b v), .int .i64 t] w (Says (.bool (goes P b v t)) w) := by
  have KC := Lib.hid (box_new w 84 (cargoC P b v))
  have HB := Lib.hid ((Below.refl w.heap.size w).alloc (Nat.le_refl _) (.cells (cargoC P b v) 84))
  have q0 := KC.out.at_ (cargo_bits P b v).1
  have q1 := KC.out.at_ (cargo_bits P b v).2
  unfold goes
  have CI := Lib.hid (fun W => impl_in t 1 9 W)
  cases v with
  | false =>
    go_enter Try.func53, Try.ntmps53
    go_wp2_with fail
    go_ret
    exact ⟨rfl, HB.out⟩
  | true =>
    obtain ⟨q, hq⟩ : ∃ q, inR t 1 9 = q := ⟨_, rfl⟩
    rw [hq] at CI ⊢
    cases q with
    | false =>
      clear hq
      go_enter Try.func53, Try.ntmps53
      go_wp2_with fail
      refine Calls.mono (CI.out _) ?_
      rintro e w1 ⟨rfl, rfl⟩
      go_wp2_with fail
      go_ret
      exact ⟨rfl, HB.out⟩
    | true =>
      have ht := inR_true.1 hq
      obtain ⟨tt, rfl⟩ := Int.eq_ofNat_of_zero_le (show 0 ≤ t by omega)
      have htl : tt < 10 := by omega
      rw [Int.toNat_natCast]
      simp only [Bool.true_and]
      clear hq ht
      go_enter Try.func53, Try.ntmps53
      go_wp2_with fail
      refine Calls.mono (CI.out _) ?_
      rintro e w1 ⟨rfl, rfl⟩
      clear q0 q1
      go_wp2_with fail
      go_loopg [15] 10 (fun gg i wr => ∃ k : Nat, k ≤ 10 ∧ 10 - k ≤ gg ∧ i = .int .i64 k ∧ Hid (((List.range k).all fun k => !(decide (1 ≤ k) && mHas b k) || P k tt) = true) ∧ Hid (BoxAt wr w.heap.size 84 (cargoC P b true)) ∧ Hid (Below w.heap.size w wr))
      case atStart => exact ⟨0, by omega, by omega, rfl, Lib.hid rfl, KC, HB⟩
      case round =>
        clear KC HB
        obtain ⟨k, hk, hg, rfl, HA, KC, HB⟩ := hrel
        have lKC : w.heap.size < wr.heap.size := KC.out.lt
        by_cases hlt : k < 10
        · have hlti : (k : Int) < 10 := by omega
          have q0 := KC.out.at_ (cargo_bits P b true).1
          have q1 := KC.out.at_ (cargo_bits P b true).2
          obtain ⟨h, hh⟩ : ∃ h, (decide (1 ≤ k) && mHas b k) = h := ⟨_, rfl⟩
          have CH := Lib.hid (fun W => hh ▸ has_any b true W k hlt h0 h1 : ∀ W, Calls Try.prog 62 #[.agg #[.int .i64 b, .bool true], .int .i64 (k : Int)] W (Says (.bool h) W))
          have HH := Lib.hid hh
          clear hh
          go_wp2_with fail
          refine Calls.mono (CH.out _) ?_
          rintro e w2 ⟨rfl, hb2⟩
          clear q0 q1 CH
          replace KC := Lib.hid (KC.out.new hb2)
          replace HB := Lib.hid (below_trans HB.out hb2 (Nat.le_refl _))
          clear hb2
          cases h with
          | false =>
            go_wp2_with fail
            go_roundg (10 - (k + 1))
            case measure => omega
            case rel => exact ⟨k + 1, by omega, by omega, by go_num, Lib.hid (goes_take HA.out (by rw [HH.out]; rfl)), KC, HB⟩
          | true =>
            obtain ⟨p, hp⟩ : ∃ p, P k tt = p := ⟨_, rfl⟩
            have c0 := KC.out.at_ (cargo_get P b true hlt htl)
            rw [hp] at c0
            have HP := Lib.hid hp
            clear hp
            have htli : (tt : Int) < 10 := by omega
            cases p with
            | false =>
              have HN := Lib.hid (goes_not (P := P) (b := b) (t := tt) hlt (by rw [HH.out, HP.out]; rfl))
              go_wp2_with fail
              go_ret
              exact ⟨by rw [HN.out]; rfl, HB.out⟩
            | true =>
              go_wp2_with fail
              clear c0
              go_roundg (10 - (k + 1))
              case measure => omega
              case rel => exact ⟨k + 1, by omega, by omega, by go_num, Lib.hid (goes_take HA.out (by rw [HP.out]; simp)), KC, HB⟩
        · obtain rfl : k = 10 := by omega
          go_wp2_with fail
          go_ret
          exact ⟨by rw [HA.out]; rfl, HB.out⟩
set_option maxHeartbeats 8000000 in
theorem impl_MayFlow (l : List TFlow) (A : Option Addr) (n c lo hi : Nat) (e x t : Int) (w : World) (hn : n ≤ 1048576) (hr : Rd w lo hi 3 A n (cFlow l)) (H : Hid (cFlowOk l)) :
    Calls Try.prog 9 #[.slice A n c, .int .i64 e, .int .i64 x, .int .i64 t] w (Says (.bool (mMayF l e x t)) w) := by
  have C0 := Lib.hid (impl_newCargo l A n c lo hi e x w hn hr H)
  have hb : 0 ≤ (if mIsLabel x then x else 0) ∧ (if mIsLabel x then x else 0) ≤ 1022 := by
    cases h : mIsLabel x
    · simp
    · simp only [mIsLabel, Bool.and_eq_true] at h
      have := inR_true.1 h.1
      simp; omega
  rw [← goes_may]
  generalize (if mIsLabel x then x else 0) = b at C0 hb ⊢
  generalize mIsLabel x = v at C0 ⊢
  have C1 := Lib.hid (fun W => impl_mayGo (opnG l e) b v t W hb.1 hb.2)
  clear hb
  generalize goes (opnG l e) b v t = r at C1 ⊢
  generalize cargoC (opnG l e) b v = G at C0 C1
  go_enter Try.func9, Try.ntmps9
  go_wp2_with fail
  refine Calls.mono C0.out ?_
  rintro e1 w1 ⟨rfl, hb1⟩
  have HB := Lib.hid hb1
  clear hb1
  go_wp2_with fail
  refine Calls.mono (C1.out _) ?_
  rintro e2 w2 ⟨rfl, hb2⟩
  have HB2 := Lib.hid (below_trans HB.out hb2 (Nat.le_refl _))
  clear hb2
  go_wp2_with fail
  go_ret
  exact ⟨rfl, HB2.out⟩
end Go.Proofs.Ytcankpiidjhhpaa
