/- McL, what is needed of it. -/
import Derived.Test.YtcankpiidjhhpaaYMcRLa
import Derived.Test.YtcankpiidjhhpaaYMcSe
import Derived.Test.YtcankpiidjhhpaaYAppO
import Derived.Test.YtcankpiidjhhpaaYGc
import Derived.Deep.RegionHeld3
import Derived.Deep.LoopGhost
namespace Go.Proofs.Ytcankpiidjhhpaa
open Go Go.ChangeShapes Go.WideShapes Go.ChangeAt Go.RowKit Go.Lib
set_option linter.unusedVariables false
set_option linter.unusedSimpArgs false
set_option maxRecDepth 100000

theorem fr_nilL {w : World} {lo hi size : Nat} {E : TypeId} {c : Nat} {A : Option Addr} : Fr w lo hi E size A 0 c [] := ⟨by simp, fun h => absurd h (by omega)⟩
theorem mcell_of_box {w : World} {g : Nat} {sv : Value} (h : BoxAt w g 104 #[.slice none 0 0, sv, .int .i64 0, .int .i64 0, .int .i64 0, .int .i64 0, .int .i64 0, .int .i64 0, .int .i64 0, .int .i64 0, .int .i64 0, .int .i64 0, .int .i64 0, .int .i64 0]) : MCell w g none 0 0 sv (List.replicate 6 0) (List.replicate 6 0) := by
  refine ⟨_, h, rfl, fun i hi => ?_⟩
  obtain rfl | rfl | rfl | rfl | rfl | rfl | rfl | rfl | rfl | rfl | rfl | rfl | rfl | rfl : i = 0 ∨ i = 1 ∨ i = 2 ∨ i = 3 ∨ i = 4 ∨ i = 5 ∨ i = 6 ∨ i = 7 ∨ i = 8 ∨ i = 9 ∨ i = 10 ∨ i = 11 ∨ i = 12 ∨ i = 13 := by omega
  all_goals rfl
theorem six {l : List Int} (h : l.length = 6) : l = [l.getD 0 0, l.getD 1 0, l.getD 2 0, l.getD 3 0, l.getD 4 0, l.getD 5 0] := by
  match l, h with
  | [a, b, c, d, e, f], _ => rfl
theorem clo_La (t0 z y : Int) (w : World) : Calls Try.prog 77 #[.int .i64 t0, .agg #[.int .i64 z, .int .i64 y]] w (fun e w' => e = .returned (.tuple #[]) ∧ Below w.heap.size w w') := by
  go_enter Try.func77, Try.ntmps77
  go_wp2_with fail
  refine bodyPost_end (v := .tuple #[]) (by simp [results, Try.results77, go_sem]) rfl ?_
  exact ⟨rfl, (Below.refl _ _).alloc (Nat.le_refl _) _⟩
set_option maxHeartbeats 8000000 in
theorem impl_LabelsAfterC (l : List TOp) (A : Option Addr) (n c lo hi : Nat) (w : World) (hn : n ≤ 1048576) (hr : Rd w lo hi 4 A n (cOp l)) (hcap : n ≤ c) (H : Hid (cOpOk l)) :
    Calls Try.prog 23 #[.slice A n c] w (Makes 3 1 (mLAft l).length (i64s (mLAft l)) w) := by
  have HR := Lib.hid hr
  clear hr
  have hmf : ∀ (fn : Fn) (first cap : Array Value) (w : World), (Instr.makeFunc fn first cap).run Try.prog w = .ok (.func fn first cap) w := fun _ _ _ _ => rfl
  have HL := Lib.hid (rd_len TOp.len HR.out (by decide))
  obtain ⟨Q, HQ⟩ : ∃ Q, Hid (mLAft l = Q) := ⟨_, Lib.hid rfl⟩
  rw [HQ.out]
  go_enter Try.func23, Try.ntmps23
  have KG0 := Lib.hid (show BoxAt ((w.alloc (.cells #[] 3)).alloc (.cells #[.slice none 0 0, .nilFunc, .int .i64 0, .int .i64 0, .int .i64 0, .int .i64 0, .int .i64 0, .int .i64 0, .int .i64 0, .int .i64 0, .int .i64 0, .int .i64 0, .int .i64 0, .int .i64 0] 104)) (w.heap.size + 1) 104 #[.slice none 0 0, .nilFunc, .int .i64 0, .int .i64 0, .int .i64 0, .int .i64 0, .int .i64 0, .int .i64 0, .int .i64 0, .int .i64 0, .int .i64 0, .int .i64 0, .int .i64 0, .int .i64 0] by simpa using box_new (w.alloc (.cells #[] 3)) 104 #[.slice none 0 0, .nilFunc, .int .i64 0, .int .i64 0, .int .i64 0, .int .i64 0, .int .i64 0, .int .i64 0, .int .i64 0, .int .i64 0, .int .i64 0, .int .i64 0, .int .i64 0, .int .i64 0])
  have HB0 := Lib.hid (((Below.refl w.heap.size w).alloc (Nat.le_refl _) (.cells #[] 3)).alloc (by simp) (.cells #[.slice none 0 0, .nilFunc, .int .i64 0, .int .i64 0, .int .i64 0, .int .i64 0, .int .i64 0, .int .i64 0, .int .i64 0, .int .i64 0, .int .i64 0, .int .i64 0, .int .i64 0, .int .i64 0] 104))
  have HE0 := Lib.hid ((box_new w 3 #[]).alloc_ (.cells #[.slice none 0 0, .nilFunc, .int .i64 0, .int .i64 0, .int .i64 0, .int .i64 0, .int .i64 0, .int .i64 0, .int .i64 0, .int .i64 0, .int .i64 0, .int .i64 0, .int .i64 0, .int .i64 0] 104))
  go_wp2_with (refine wpList_store_row rfl 104 _ _ rfl (w.heap.size + 1) #[.slice none 0 0, (.func (.func 77) #[] #[]), .int .i64 0, .int .i64 0, .int .i64 0, .int .i64 0, .int .i64 0, .int .i64 0, .int .i64 0, .int .i64 0, .int .i64 0, .int .i64 0, .int .i64 0, .int .i64 0] rfl rfl 104 _ KG0.out (by kernel_rfl) (by kernel_rfl) (by kernel_rfl) ?_; have KG1 := Lib.hid (box_row (cs := #[.slice none 0 0, (.func (.func 77) #[] #[]), .int .i64 0, .int .i64 0, .int .i64 0, .int .i64 0, .int .i64 0, .int .i64 0, .int .i64 0, .int .i64 0, .int .i64 0, .int .i64 0, .int .i64 0, .int .i64 0]) KG0.out); have HB1 := Lib.hid (below_setRow HB0.out (show w.heap.size ≤ w.heap.size + 1 by omega) #[.slice none 0 0, (.func (.func 77) #[] #[]), .int .i64 0, .int .i64 0, .int .i64 0, .int .i64 0, .int .i64 0, .int .i64 0, .int .i64 0, .int .i64 0, .int .i64 0, .int .i64 0, .int .i64 0, .int .i64 0]); have HE1 := Lib.hid (box_far (cs := #[.slice none 0 0, (.func (.func 77) #[] #[]), .int .i64 0, .int .i64 0, .int .i64 0, .int .i64 0, .int .i64 0, .int .i64 0, .int .i64 0, .int .i64 0, .int .i64 0, .int .i64 0, .int .i64 0, .int .i64 0]) (g := w.heap.size + 1) HE0.out (by omega)); have hs1 : w.heap.size + 1 < (World.setRow ((w.alloc (.cells #[] 3)).alloc (.cells #[.slice none 0 0, .nilFunc, .int .i64 0, .int .i64 0, .int .i64 0, .int .i64 0, .int .i64 0, .int .i64 0, .int .i64 0, .int .i64 0, .int .i64 0, .int .i64 0, .int .i64 0, .int .i64 0] 104)) (w.heap.size + 1) #[.slice none 0 0, (.func (.func 77) #[] #[]), .int .i64 0, .int .i64 0, .int .i64 0, .int .i64 0, .int .i64 0, .int .i64 0, .int .i64 0, .int .i64 0, .int .i64 0, .int .i64 0, .int .i64 0, .int .i64 0]).heap.size := (by simp); clear KG0 HB0 HE0; generalize World.setRow ((w.alloc (.cells #[] 3)).alloc (.cells #[.slice none 0 0, .nilFunc, .int .i64 0, .int .i64 0, .int .i64 0, .int .i64 0, .int .i64 0, .int .i64 0, .int .i64 0, .int .i64 0, .int .i64 0, .int .i64 0, .int .i64 0, .int .i64 0] 104)) (w.heap.size + 1) #[.slice none 0 0, (.func (.func 77) #[] #[]), .int .i64 0, .int .i64 0, .int .i64 0, .int .i64 0, .int .i64 0, .int .i64 0, .int .i64 0, .int .i64 0, .int .i64 0, .int .i64 0, .int .i64 0, .int .i64 0] = w1 at KG1 HB1 HE1 hs1 ⊢)
  have hM := mcell_of_box KG1.out
  refine (mc_Run_La l A n c 0 w.heap.size [] none 0 0 0 0 (w.heap.size + 1) w.heap.size w.heap.size (w.heap.size + 2) 3 #[] (fun _ W => BoxAt W w.heap.size 3 #[]) w1 (by decide) (by simpa [i64s] using (Rd.empty (w := w1) (lo := 0) (hi := 0) (size := 1) (A := none))) (Lib.hid (fun z hz => by cases hz)) (Nat.zero_le _) hn ((HR.out.old (by decide)).below HB1.out (Nat.le_refl _)) (Nat.le_refl _) hcap H (by omega) (Nat.le_refl _) (by omega) (by omega) (by omega) (by decide) (by decide) hM HE1.out (fun _ _ _ h1 h2 => h1.chg h2 (by omega)) (fun s W t0 z y hR0 _ _ _ _ hb => (clo_La t0 z y W).mono (fun e W' h => by obtain ⟨rfl, hb2⟩ := h; exact ⟨rfl, hR0.new hb2, chgT_newLa hb2⟩))).mono ?_
  rintro e w2 ⟨rfl, hM2, hE2, hb2⟩
  have HO2 := Lib.hid (own_of_box (size := 1) hE2 (Nat.le_refl w.heap.size))
  clear hE2 HE1
  have HB2 := Lib.hid (HB1.out.trans hb2)
  have HM2 := Lib.hid hM2
  clear hM hM2 hb2 KG1 HB1
  cases hA : mAreOps l with
  | false =>
    rw [hA] at HM2
    obtain rfl : Q = [] := by rw [← HQ.out]; unfold mLAft; rw [hA]; rfl
    clear HM2
    go_wp2_with fail
    go_ret
    exact ⟨_, _, rfl, fr_nilL, HB2.out⟩
  | true =>
    rw [hA, if_pos rfl] at HM2
    have HQ2 := Lib.hid (show Q = (mMc [] l).b by rw [← HQ.out]; unfold mLAft; rw [hA]; rfl)
    have hok := mMc_ok (vals := []) (show l.all mOp = true by simp only [mAreOps, Bool.and_eq_true] at hA; exact hA.2) l.length
    rw [List.take_length] at hok
    have HLb := Lib.hid hok.2.1
    have HSx := Lib.hid (six hok.2.1)
    generalize (mMc [] l).v = V at HM2
    generalize (mMc [] l).b = L at HM2 HLb HSx HQ2
    clear hok hA
    obtain ⟨v0, ev0⟩ : ∃ z, Hid (V.getD 0 0 = z) := ⟨_, Lib.hid rfl⟩
    obtain ⟨b0, eb0⟩ : ∃ z, Hid (L.getD 0 0 = z) := ⟨_, Lib.hid rfl⟩
    have m2 : w2.cell? ⟨w.heap.size + 1, 2, none⟩ = some (.int .i64 v0) := by rw [← ev0.out]; exact HM2.out.val (k := 0) (by decide)
    have m3 : w2.cell? ⟨w.heap.size + 1, 3, none⟩ = some (.int .i64 b0) := by rw [← eb0.out]; exact HM2.out.lab (k := 0) (by decide)
    obtain ⟨v1, ev1⟩ : ∃ z, Hid (V.getD 1 0 = z) := ⟨_, Lib.hid rfl⟩
    obtain ⟨b1, eb1⟩ : ∃ z, Hid (L.getD 1 0 = z) := ⟨_, Lib.hid rfl⟩
    have m4 : w2.cell? ⟨w.heap.size + 1, 4, none⟩ = some (.int .i64 v1) := by rw [← ev1.out]; exact HM2.out.val (k := 1) (by decide)
    have m5 : w2.cell? ⟨w.heap.size + 1, 5, none⟩ = some (.int .i64 b1) := by rw [← eb1.out]; exact HM2.out.lab (k := 1) (by decide)
    obtain ⟨v2, ev2⟩ : ∃ z, Hid (V.getD 2 0 = z) := ⟨_, Lib.hid rfl⟩
    obtain ⟨b2, eb2⟩ : ∃ z, Hid (L.getD 2 0 = z) := ⟨_, Lib.hid rfl⟩
    have m6 : w2.cell? ⟨w.heap.size + 1, 6, none⟩ = some (.int .i64 v2) := by rw [← ev2.out]; exact HM2.out.val (k := 2) (by decide)
    have m7 : w2.cell? ⟨w.heap.size + 1, 7, none⟩ = some (.int .i64 b2) := by rw [← eb2.out]; exact HM2.out.lab (k := 2) (by decide)
    obtain ⟨v3, ev3⟩ : ∃ z, Hid (V.getD 3 0 = z) := ⟨_, Lib.hid rfl⟩
    obtain ⟨b3, eb3⟩ : ∃ z, Hid (L.getD 3 0 = z) := ⟨_, Lib.hid rfl⟩
    have m8 : w2.cell? ⟨w.heap.size + 1, 8, none⟩ = some (.int .i64 v3) := by rw [← ev3.out]; exact HM2.out.val (k := 3) (by decide)
    have m9 : w2.cell? ⟨w.heap.size + 1, 9, none⟩ = some (.int .i64 b3) := by rw [← eb3.out]; exact HM2.out.lab (k := 3) (by decide)
    obtain ⟨v4, ev4⟩ : ∃ z, Hid (V.getD 4 0 = z) := ⟨_, Lib.hid rfl⟩
    obtain ⟨b4, eb4⟩ : ∃ z, Hid (L.getD 4 0 = z) := ⟨_, Lib.hid rfl⟩
    have m10 : w2.cell? ⟨w.heap.size + 1, 10, none⟩ = some (.int .i64 v4) := by rw [← ev4.out]; exact HM2.out.val (k := 4) (by decide)
    have m11 : w2.cell? ⟨w.heap.size + 1, 11, none⟩ = some (.int .i64 b4) := by rw [← eb4.out]; exact HM2.out.lab (k := 4) (by decide)
    obtain ⟨v5, ev5⟩ : ∃ z, Hid (V.getD 5 0 = z) := ⟨_, Lib.hid rfl⟩
    obtain ⟨b5, eb5⟩ : ∃ z, Hid (L.getD 5 0 = z) := ⟨_, Lib.hid rfl⟩
    have m12 : w2.cell? ⟨w.heap.size + 1, 12, none⟩ = some (.int .i64 v5) := by rw [← ev5.out]; exact HM2.out.val (k := 5) (by decide)
    have m13 : w2.cell? ⟨w.heap.size + 1, 13, none⟩ = some (.int .i64 b5) := by rw [← eb5.out]; exact HM2.out.lab (k := 5) (by decide)
    have hSix : Hid (L = [b0, b1, b2, b3, b4, b5]) := Lib.hid (by rw [← eb0.out, ← eb1.out, ← eb2.out, ← eb3.out, ← eb4.out, ← eb5.out]; exact HSx.out)
    have ix0 : ∀ W, (Instr.index 102 (.agg #[.int .i64 v0, .int .i64 b0, .int .i64 v1, .int .i64 b1, .int .i64 v2, .int .i64 b2, .int .i64 v3, .int .i64 b3, .int .i64 v4, .int .i64 b4, .int .i64 v5, .int .i64 b5]) (.int .i64 0)).run Try.prog W = .ok (.agg #[.int .i64 v0, .int .i64 b0]) W := fun _ => by kernel_rfl
    have ix1 : ∀ W, (Instr.index 102 (.agg #[.int .i64 v0, .int .i64 b0, .int .i64 v1, .int .i64 b1, .int .i64 v2, .int .i64 b2, .int .i64 v3, .int .i64 b3, .int .i64 v4, .int .i64 b4, .int .i64 v5, .int .i64 b5]) (.int .i64 1)).run Try.prog W = .ok (.agg #[.int .i64 v1, .int .i64 b1]) W := fun _ => by kernel_rfl
    have ix2 : ∀ W, (Instr.index 102 (.agg #[.int .i64 v0, .int .i64 b0, .int .i64 v1, .int .i64 b1, .int .i64 v2, .int .i64 b2, .int .i64 v3, .int .i64 b3, .int .i64 v4, .int .i64 b4, .int .i64 v5, .int .i64 b5]) (.int .i64 2)).run Try.prog W = .ok (.agg #[.int .i64 v2, .int .i64 b2]) W := fun _ => by kernel_rfl
    have ix3 : ∀ W, (Instr.index 102 (.agg #[.int .i64 v0, .int .i64 b0, .int .i64 v1, .int .i64 b1, .int .i64 v2, .int .i64 b2, .int .i64 v3, .int .i64 b3, .int .i64 v4, .int .i64 b4, .int .i64 v5, .int .i64 b5]) (.int .i64 3)).run Try.prog W = .ok (.agg #[.int .i64 v3, .int .i64 b3]) W := fun _ => by kernel_rfl
    have ix4 : ∀ W, (Instr.index 102 (.agg #[.int .i64 v0, .int .i64 b0, .int .i64 v1, .int .i64 b1, .int .i64 v2, .int .i64 b2, .int .i64 v3, .int .i64 b3, .int .i64 v4, .int .i64 b4, .int .i64 v5, .int .i64 b5]) (.int .i64 4)).run Try.prog W = .ok (.agg #[.int .i64 v4, .int .i64 b4]) W := fun _ => by kernel_rfl
    have ix5 : ∀ W, (Instr.index 102 (.agg #[.int .i64 v0, .int .i64 b0, .int .i64 v1, .int .i64 b1, .int .i64 v2, .int .i64 b2, .int .i64 v3, .int .i64 b3, .int .i64 v4, .int .i64 b4, .int .i64 v5, .int .i64 b5]) (.int .i64 5)).run Try.prog W = .ok (.agg #[.int .i64 v5, .int .i64 b5]) W := fun _ => by kernel_rfl
    go_wp2_with fail
    go_loopg [3, 15] 6 (fun gg v i wr => ∃ k : Nat, k ≤ 6 ∧ 6 - k ≤ gg ∧ i = .int .i64 k ∧ Hid (wr.ownsRow w.heap.size 3 1 v k (i64s (L.take k))) ∧ Hid (Below w.heap.size w wr))
    case atStart => exact ⟨0, Nat.zero_le _, by omega, rfl, Lib.hid (by simpa [i64s] using HO2.out), HB2⟩
    case round =>
      obtain ⟨k, hk, hg, rfl, HO, HB⟩ := hrel
      by_cases hlt : k < 6
      · have hsw := Lib.hid HB.out.size
        obtain rfl | rfl | rfl | rfl | rfl | rfl : k = 0 ∨ k = 1 ∨ k = 2 ∨ k = 3 ∨ k = 4 ∨ k = 5 := by omega
        · replace HO := Lib.hid (own_newer HO.out ((Below.refl _ _).alloc (Nat.le_refl _) (.cells #[.int .i64 v0, .int .i64 b0] 100)))
          go_wp2_with (at_builtin; refine wp_app_lit rfl _ _ _ rfl w.heap.size 3 (.int .i64 0) 1 8 Try.underlying29 info_intC rfl (by decide) _ _ _ rfl HO.out #[.int .i64 b0] 1 1 _ rfl (by simp) rfl (one_intC _) (by unfold maxLen; omega) (by omega) (by have := hsw.out; simp; omega) ?_; intro v1 w3 ho1 hb1)
          have HO1 := Lib.hid (show w3.ownsRow w.heap.size 3 1 v1 (0 + 1) (i64s (L.take (0 + 1))) by
            rw [hSix.out]
            rw [hSix.out] at ho1
            simpa [i64s] using ho1)
          have HB3 := Lib.hid ((HB.out.alloc hsw.out _).trans hb1)
          clear ho1 hb1 HO
          go_wp2_with fail
          go_roundg (6 - (0 + 1))
          case measure => omega
          case rel => exact ⟨0 + 1, by omega, by omega, by go_num, HO1, HB3⟩
        · replace HO := Lib.hid (own_newer HO.out ((Below.refl _ _).alloc (Nat.le_refl _) (.cells #[.int .i64 v1, .int .i64 b1] 100)))
          go_wp2_with (at_builtin; refine wp_app_lit rfl _ _ _ rfl w.heap.size 3 (.int .i64 0) 1 8 Try.underlying29 info_intC rfl (by decide) _ _ _ rfl HO.out #[.int .i64 b1] 1 1 _ rfl (by simp) rfl (one_intC _) (by unfold maxLen; omega) (by omega) (by have := hsw.out; simp; omega) ?_; intro v1 w3 ho1 hb1)
          have HO1 := Lib.hid (show w3.ownsRow w.heap.size 3 1 v1 (1 + 1) (i64s (L.take (1 + 1))) by
            rw [hSix.out]
            rw [hSix.out] at ho1
            simpa [i64s] using ho1)
          have HB3 := Lib.hid ((HB.out.alloc hsw.out _).trans hb1)
          clear ho1 hb1 HO
          go_wp2_with fail
          go_roundg (6 - (1 + 1))
          case measure => omega
          case rel => exact ⟨1 + 1, by omega, by omega, by go_num, HO1, HB3⟩
        · replace HO := Lib.hid (own_newer HO.out ((Below.refl _ _).alloc (Nat.le_refl _) (.cells #[.int .i64 v2, .int .i64 b2] 100)))
          go_wp2_with (at_builtin; refine wp_app_lit rfl _ _ _ rfl w.heap.size 3 (.int .i64 0) 1 8 Try.underlying29 info_intC rfl (by decide) _ _ _ rfl HO.out #[.int .i64 b2] 1 1 _ rfl (by simp) rfl (one_intC _) (by unfold maxLen; omega) (by omega) (by have := hsw.out; simp; omega) ?_; intro v1 w3 ho1 hb1)
          have HO1 := Lib.hid (show w3.ownsRow w.heap.size 3 1 v1 (2 + 1) (i64s (L.take (2 + 1))) by
            rw [hSix.out]
            rw [hSix.out] at ho1
            simpa [i64s] using ho1)
          have HB3 := Lib.hid ((HB.out.alloc hsw.out _).trans hb1)
          clear ho1 hb1 HO
          go_wp2_with fail
          go_roundg (6 - (2 + 1))
          case measure => omega
          case rel => exact ⟨2 + 1, by omega, by omega, by go_num, HO1, HB3⟩
        · replace HO := Lib.hid (own_newer HO.out ((Below.refl _ _).alloc (Nat.le_refl _) (.cells #[.int .i64 v3, .int .i64 b3] 100)))
          go_wp2_with (at_builtin; refine wp_app_lit rfl _ _ _ rfl w.heap.size 3 (.int .i64 0) 1 8 Try.underlying29 info_intC rfl (by decide) _ _ _ rfl HO.out #[.int .i64 b3] 1 1 _ rfl (by simp) rfl (one_intC _) (by unfold maxLen; omega) (by omega) (by have := hsw.out; simp; omega) ?_; intro v1 w3 ho1 hb1)
          have HO1 := Lib.hid (show w3.ownsRow w.heap.size 3 1 v1 (3 + 1) (i64s (L.take (3 + 1))) by
            rw [hSix.out]
            rw [hSix.out] at ho1
            simpa [i64s] using ho1)
          have HB3 := Lib.hid ((HB.out.alloc hsw.out _).trans hb1)
          clear ho1 hb1 HO
          go_wp2_with fail
          go_roundg (6 - (3 + 1))
          case measure => omega
          case rel => exact ⟨3 + 1, by omega, by omega, by go_num, HO1, HB3⟩
        · replace HO := Lib.hid (own_newer HO.out ((Below.refl _ _).alloc (Nat.le_refl _) (.cells #[.int .i64 v4, .int .i64 b4] 100)))
          go_wp2_with (at_builtin; refine wp_app_lit rfl _ _ _ rfl w.heap.size 3 (.int .i64 0) 1 8 Try.underlying29 info_intC rfl (by decide) _ _ _ rfl HO.out #[.int .i64 b4] 1 1 _ rfl (by simp) rfl (one_intC _) (by unfold maxLen; omega) (by omega) (by have := hsw.out; simp; omega) ?_; intro v1 w3 ho1 hb1)
          have HO1 := Lib.hid (show w3.ownsRow w.heap.size 3 1 v1 (4 + 1) (i64s (L.take (4 + 1))) by
            rw [hSix.out]
            rw [hSix.out] at ho1
            simpa [i64s] using ho1)
          have HB3 := Lib.hid ((HB.out.alloc hsw.out _).trans hb1)
          clear ho1 hb1 HO
          go_wp2_with fail
          go_roundg (6 - (4 + 1))
          case measure => omega
          case rel => exact ⟨4 + 1, by omega, by omega, by go_num, HO1, HB3⟩
        · replace HO := Lib.hid (own_newer HO.out ((Below.refl _ _).alloc (Nat.le_refl _) (.cells #[.int .i64 v5, .int .i64 b5] 100)))
          go_wp2_with (at_builtin; refine wp_app_lit rfl _ _ _ rfl w.heap.size 3 (.int .i64 0) 1 8 Try.underlying29 info_intC rfl (by decide) _ _ _ rfl HO.out #[.int .i64 b5] 1 1 _ rfl (by simp) rfl (one_intC _) (by unfold maxLen; omega) (by omega) (by have := hsw.out; simp; omega) ?_; intro v1 w3 ho1 hb1)
          have HO1 := Lib.hid (show w3.ownsRow w.heap.size 3 1 v1 (5 + 1) (i64s (L.take (5 + 1))) by
            rw [hSix.out]
            rw [hSix.out] at ho1
            simpa [i64s] using ho1)
          have HB3 := Lib.hid ((HB.out.alloc hsw.out _).trans hb1)
          clear ho1 hb1 HO
          go_wp2_with fail
          go_roundg (6 - (5 + 1))
          case measure => omega
          case rel => exact ⟨5 + 1, by omega, by omega, by go_num, HO1, HB3⟩
      · obtain rfl : k = 6 := by omega
        rw [List.take_of_length_le (by rw [HLb.out]; omega)] at HO
        obtain ⟨A2, c2, rfl, hF⟩ := fr_of_own HO.out
        have HF := Lib.hid hF
        clear hF HO
        go_wp2_with fail
        go_ret
        exact ⟨_, _, by rw [HQ2.out, HLb.out]; rfl, by rw [HQ2.out, HLb.out]; exact HF.out, HB.out⟩
end Go.Proofs.Ytcankpiidjhhpaa
