/- PackageInts of the model. No condition but the length. -/
import Derived.Test.YtmelfgimhilhbaaGreatDoorPkI
import Derived.Test.YtmelfgimhilhbaaGreatDoorIsPackS
import Derived.Test.YtmelfgimhilhbaaGreatDoorApp0
import Derived.Test.YtmelfgimhilhbaaGreatDoorAppO
import Derived.Deep.RegionHeld3
namespace Go.Proofs.YtmelfgimhilhbaaGreatDoor
open Go Go.ChangeShapes Go.WideShapes Go.ChangeAt Go.RowKit Go.Lib
set_option linter.unusedVariables false
set_option linter.unusedSimpArgs false
set_option maxRecDepth 100000
theorem pk_boxp {w : World} {g : Nat} {t : TypeId} {cs : Array Value} (h : BoxAt w g t cs) (n : Nat) (hn : cs.size = n) : Rd w g (g + 1) 1 (some ⟨g, 0, none⟩) n cs.toList :=
  ⟨by simpa using hn, fun _ => ⟨g, 0, rfl, Nat.le_refl _, by omega, fun j u hu => by rw [Nat.zero_add]; exact h.at_ (by simpa using hu)⟩⟩
theorem ones_i64s (us : Array Value) (h : us.toList.all (fun u => u.oneCell') = true) : ∀ u ∈ us.toList, u.oneCell' = true := fun u hu => List.all_eq_true.1 h u hu
set_option maxHeartbeats 32000000 in
theorem spec_PackageInts (p0 p1 p2 : Int) (l3 : List TGrant) (A3 : Option Addr) (n3 c3 lo3 hi3 : Nat) (l4 : List TFlow) (A4 : Option Addr) (n4 c4 lo4 hi4 : Nat) (l5 : List TRule) (A5 : Option Addr) (n5 c5 lo5 hi5 : Nat) (l6 : List TOp) (A6 : Option Addr) (n6 c6 lo6 hi6 : Nat) (p7 : Int) (w : World) (h3 : n3 ≤ 1048576) (r3 : Rd w lo3 hi3 7 A3 n3 (cGrant l3)) (k3 : n3 ≤ c3) (b3 : Hid (cGrantOk l3)) (h4 : n4 ≤ 1048576) (r4 : Rd w lo4 hi4 3 A4 n4 (cFlow l4)) (k4 : n4 ≤ c4) (b4 : Hid (cFlowOk l4)) (h5 : n5 ≤ 1048576) (r5 : Rd w lo5 hi5 8 A5 n5 (cRule l5)) (k5 : n5 ≤ c5) (b5 : Hid (cRuleOk l5)) (h6 : n6 ≤ 1048576) (r6 : Rd w lo6 hi6 4 A6 n6 (cOp l6)) (k6 : n6 ≤ c6) (b6 : Hid (cOpOk l6)) :
    Calls Tryz.prog 42 #[.agg #[.int .i64 p0, .int .i64 p1, .int .i64 p2, .slice A3 n3 c3, .slice A4 n4 c4, .slice A5 n5 c5, .slice A6 n6 c6, .int .i64 p7]] w (Makes 3 1 (mPInts p0 p1 p2 l3 l4 l5 l6).length (i64s (mPInts p0 p1 p2 l3 l4 l5 l6)) w) := by
  have KB0 := Lib.hid (box_new w 39 #[.int .i64 p0, .int .i64 p1, .int .i64 p2, .slice A3 n3 c3, .slice A4 n4 c4, .slice A5 n5 c5, .slice A6 n6 c6, .int .i64 p7])
  have HB0 := Lib.hid ((Below.refl w.heap.size w).alloc (Nat.le_refl _) (.cells #[.int .i64 p0, .int .i64 p1, .int .i64 p2, .slice A3 n3 c3, .slice A4 n4 c4, .slice A5 n5 c5, .slice A6 n6 c6, .int .i64 p7] 39))
  have CQ := Lib.hid (spec_IsPackage p0 p1 p2 l3 A3 n3 c3 lo3 hi3 l4 A4 n4 c4 lo4 hi4 l5 A5 n5 c5 lo5 hi5 l6 A6 n6 c6 lo6 hi6 p7 (w.alloc (.cells #[.int .i64 p0, .int .i64 p1, .int .i64 p2, .slice A3 n3 c3, .slice A4 n4 c4, .slice A5 n5 c5, .slice A6 n6 c6, .int .i64 p7] 39)) h3 (r3.alloc _) k3 b3 h4 (r4.alloc _) k4 b4 h5 (r5.alloc _) k5 b5 h6 (r6.alloc _) k6 b6)
  have HL3 := Lib.hid (rd_len TGrant.len r3 (by decide))
  have RA3 := Lib.hid (r3.alloc (.cells #[.int .i64 p0, .int .i64 p1, .int .i64 p2, .slice A3 n3 c3, .slice A4 n4 c4, .slice A5 n5 c5, .slice A6 n6 c6, .int .i64 p7] 39))
  have HL4 := Lib.hid (rd_len TFlow.len r4 (by decide))
  have RA4 := Lib.hid (r4.alloc (.cells #[.int .i64 p0, .int .i64 p1, .int .i64 p2, .slice A3 n3 c3, .slice A4 n4 c4, .slice A5 n5 c5, .slice A6 n6 c6, .int .i64 p7] 39))
  have HL5 := Lib.hid (rd_len TRule.len r5 (by decide))
  have RA5 := Lib.hid (r5.alloc (.cells #[.int .i64 p0, .int .i64 p1, .int .i64 p2, .slice A3 n3 c3, .slice A4 n4 c4, .slice A5 n5 c5, .slice A6 n6 c6, .int .i64 p7] 39))
  have HL6 := Lib.hid (rd_len TOp.len r6 (by decide))
  have RA6 := Lib.hid (r6.alloc (.cells #[.int .i64 p0, .int .i64 p1, .int .i64 p2, .slice A3 n3 c3, .slice A4 n4 c4, .slice A5 n5 c5, .slice A6 n6 c6, .int .i64 p7] 39))
  clear r3 r4 r5 r6
  cases hq : mIsPack p0 p1 p2 l3 l4 l5 l6 with
  | false =>
    rw [hq] at CQ
    have HE := Lib.hid (show mPInts p0 p1 p2 l3 l4 l5 l6 = [] by unfold mPInts; rw [if_neg (by rw [hq]; decide)])
    clear hq
    go_enter Tryz.func42, Tryz.ntmps42
    go_wp2_with fail
    refine CQ.out.mono ?_
    rintro e w1 ⟨rfl, hb⟩
    have HB1 := Lib.hid (below_trans HB0.out hb (by simp))
    have hs0 := HB1.out.size
    have HO1 := Lib.hid (show (w1.alloc (.cells #[] 3)).ownsRow w.heap.size 3 1 (.slice (some ⟨w1.heap.size, 0, none⟩) 0 0) 0 (i64s []) from World.ownsRow_lit w1 #[] 0 hs0 (by unfold maxLen; omega) rfl)
    clear hb CQ
    go_wp2_with fail
    go_ret
    rw [HE.out]
    exact makes_of_own HO1.out (HB1.out.alloc hs0 _)
  | true =>
    rw [hq] at CQ
    have HE := Lib.hid (show mPInts p0 p1 p2 l3 l4 l5 l6 = mAll p0 p1 p2 l3 l4 l5 l6 by unfold mPInts; rw [if_pos hq])
    clear hq
    go_enter Tryz.func42, Tryz.ntmps42
    go_wp2_with fail
    refine CQ.out.mono ?_
    rintro e w1 ⟨rfl, hb⟩
    have HB1 := Lib.hid (below_trans HB0.out hb (by simp))
    have KB := Lib.hid (KB0.out.new hb)
    have hs1 : w.heap.size + 1 ≤ w1.heap.size := by have := hb.size; simpa using this
    have hs0 := HB1.out.size
    have R3 := Lib.hid (RA3.out.new hb)
    have R4 := Lib.hid (RA4.out.new hb)
    have R5 := Lib.hid (RA5.out.new hb)
    have R6 := Lib.hid (RA6.out.new hb)
    clear hb CQ KB0 HB0
    have k0 := KB.out.at_ (j := 0) rfl
    have k1 := KB.out.at_ (j := 1) rfl
    have k2 := KB.out.at_ (j := 2) rfl
    have k3 := KB.out.at_ (j := 3) rfl
    have k4 := KB.out.at_ (j := 4) rfl
    have k5 := KB.out.at_ (j := 5) rfl
    have k6 := KB.out.at_ (j := 6) rfl
    have k7 := KB.out.at_ (j := 7) rfl
    have hkl := KB.out.lt
    obtain ⟨P0, HP0⟩ : ∃ P, Hid ([p0, p1, p2, (n3 : Int)] = P) := ⟨_, Lib.hid rfl⟩
    have NP0 := Lib.hid (show 4 = P0.length by rw [← HP0.out]; rfl)
    have RP0 := Lib.hid (show (w1.alloc (.cells #[.int .i64 p0, .int .i64 p1, .int .i64 p2, .int .i64 n3] 3)).ownsRow w1.heap.size 3 1 (.slice (some ⟨w1.heap.size, 0, none⟩) 4 4) 4 (i64s P0) by rw [← HP0.out]; exact World.ownsRow_lit w1 #[.int .i64 p0, .int .i64 p1, .int .i64 p2, .int .i64 n3] 4 (Nat.le_refl _) (by unfold maxLen; omega) rfl)
    have KP0 := Lib.hid (KB.out.alloc_ (.cells #[.int .i64 p0, .int .i64 p1, .int .i64 p2, .int .i64 n3] 3))
    have BP0 := Lib.hid ((Below.refl w1.heap.size w1).alloc (Nat.le_refl _) (.cells #[.int .i64 p0, .int .i64 p1, .int .i64 p2, .int .i64 n3] 3))
    go_wp2_with fail
    clear k0 k1 k2 k3 k4 k5 k6 k7 hkl KB
    go_loopg [3, 4] n3 (fun gg v i wr => ∃ (k nn : Nat) (X : List Int), k ≤ n3 ∧ n3 - k ≤ gg ∧ i = .int .i64 k ∧ nn ≤ 4 + k * 6 ∧ Hid (X = P0 ++ (l3.take k).flatMap iG ∧ nn = X.length) ∧ Hid (wr.ownsRow w1.heap.size 3 1 v nn (i64s X)) ∧ Hid (BoxAt wr w.heap.size 39 #[.int .i64 p0, .int .i64 p1, .int .i64 p2, .slice A3 n3 c3, .slice A4 n4 c4, .slice A5 n5 c5, .slice A6 n6 c6, .int .i64 p7]) ∧ Hid (Below w1.heap.size w1 wr))
    case atStart => exact ⟨0, _, P0, Nat.zero_le _, by omega, rfl, by omega, Lib.hid ⟨by simp, NP0.out⟩, RP0, KP0, BP0⟩
    case round =>
      clear RP0 KP0 BP0
      obtain ⟨k, nn, X, hk, hg, rfl, hnn, HX, HO, KB, HB⟩ := hrel
      by_cases hlt : k < n3
      · obtain ⟨b, off, x, rfl, _, _, hz, hc⟩ := rd_elem TGrant.len (R3.out.new HB.out) HL3.out hlt
        have HX1 := Lib.hid (show X ++ iG x = P0 ++ (l3.take (k + 1)).flatMap iG by rw [flat_one_more hz, HX.out.1, List.append_assoc])
        obtain ⟨f0, f1, f2, f3, f4, f5, f6⟩ := x
        cases f6
        · skip
          have c0 : wr.cell? ⟨b, off + k * 7, none⟩ = _ := hc 0 _ rfl
          have c1 := hc 1 _ rfl
          have c2 := hc 2 _ rfl
          have c3 := hc 3 _ rfl
          have c4 := hc 4 _ rfl
          have c5 := hc 5 _ rfl
          have c6 := hc 6 _ rfl
          have HS := Lib.hid HB.out.size
          have HB1 := Lib.hid (HB.out.alloc HS.out (.cells #[.int .i64 f0, .int .i64 f1, .int .i64 f2, .int .i64 f3, .int .i64 f4, .int .i64 f5, .bool false] 89))
          have HO1 := Lib.hid (HO.out.alloc (.cells #[.int .i64 f0, .int .i64 f1, .int .i64 f2, .int .i64 f3, .int .i64 f4, .int .i64 f5, .bool false] 89))
          have KB1 := Lib.hid (KB.out.alloc_ (.cells #[.int .i64 f0, .int .i64 f1, .int .i64 f2, .int .i64 f3, .int .i64 f4, .int .i64 f5, .bool false] 89))
          have HS1 := Lib.hid HB1.out.size
          have k0 := KB.out.at_ (j := 0) rfl
          have k1 := KB.out.at_ (j := 1) rfl
          have k2 := KB.out.at_ (j := 2) rfl
          have k3 := KB.out.at_ (j := 3) rfl
          have k4 := KB.out.at_ (j := 4) rfl
          have k5 := KB.out.at_ (j := 5) rfl
          have k6 := KB.out.at_ (j := 6) rfl
          have k7 := KB.out.at_ (j := 7) rfl
          have hkl := KB.out.lt
          clear hz hc
          go_wp2_with (at_builtin; refine wp_app_lit rfl _ _ _ rfl w1.heap.size 3 (.int .i64 0) 1 8 Tryz.underlying72 info_int rfl (by decide) _ _ _ rfl HO1.out #[.int .i64 f1, .int .i64 f2, .int .i64 f3, .int .i64 f4, .int .i64 f5, .int .i64 0] 6 6 _ rfl (by simp) rfl (ones_i64s _ (by rfl)) (by unfold maxLen; omega) (by omega) HS1.out ?_; intro v3 w3 ho3 hb3)
          have HO3 := Lib.hid (show w3.ownsRow w1.heap.size 3 1 v3 (nn + 6) (i64s (X ++ [f1, f2, f3, f4, f5, 0])) by rw [i64s_app]; exact ho3)
          have KB3 := Lib.hid ((hb3.block w.heap.size (by have := hs1; omega)).trans KB1.out)
          have HB3 := Lib.hid (HB1.out.trans hb3)
          clear ho3 hb3 k0 k1 k2 k3 k4 k5 k6 k7
          go_wp2_with fail
          go_roundg (n3 - (k + 1))
          case measure => omega
          case rel => exact ⟨k + 1, nn + 6, X ++ [f1, f2, f3, f4, f5, 0], by omega, by omega, by go_num, by omega, Lib.hid ⟨HX1.out, by rw [List.length_append, HX.out.2]; rfl⟩, HO3, KB3, HB3⟩
        · skip
          have c0 : wr.cell? ⟨b, off + k * 7, none⟩ = _ := hc 0 _ rfl
          have c1 := hc 1 _ rfl
          have c2 := hc 2 _ rfl
          have c3 := hc 3 _ rfl
          have c4 := hc 4 _ rfl
          have c5 := hc 5 _ rfl
          have c6 := hc 6 _ rfl
          have HS := Lib.hid HB.out.size
          have HB1 := Lib.hid (HB.out.alloc HS.out (.cells #[.int .i64 f0, .int .i64 f1, .int .i64 f2, .int .i64 f3, .int .i64 f4, .int .i64 f5, .bool true] 89))
          have HO1 := Lib.hid (HO.out.alloc (.cells #[.int .i64 f0, .int .i64 f1, .int .i64 f2, .int .i64 f3, .int .i64 f4, .int .i64 f5, .bool true] 89))
          have KB1 := Lib.hid (KB.out.alloc_ (.cells #[.int .i64 f0, .int .i64 f1, .int .i64 f2, .int .i64 f3, .int .i64 f4, .int .i64 f5, .bool true] 89))
          have HS1 := Lib.hid HB1.out.size
          have k0 := KB.out.at_ (j := 0) rfl
          have k1 := KB.out.at_ (j := 1) rfl
          have k2 := KB.out.at_ (j := 2) rfl
          have k3 := KB.out.at_ (j := 3) rfl
          have k4 := KB.out.at_ (j := 4) rfl
          have k5 := KB.out.at_ (j := 5) rfl
          have k6 := KB.out.at_ (j := 6) rfl
          have k7 := KB.out.at_ (j := 7) rfl
          have hkl := KB.out.lt
          clear hz hc
          go_wp2_with (at_builtin; refine wp_app_lit rfl _ _ _ rfl w1.heap.size 3 (.int .i64 0) 1 8 Tryz.underlying72 info_int rfl (by decide) _ _ _ rfl HO1.out #[.int .i64 f1, .int .i64 f2, .int .i64 f3, .int .i64 f4, .int .i64 f5, .int .i64 1] 6 6 _ rfl (by simp) rfl (ones_i64s _ (by rfl)) (by unfold maxLen; omega) (by omega) HS1.out ?_; intro v3 w3 ho3 hb3)
          have HO3 := Lib.hid (show w3.ownsRow w1.heap.size 3 1 v3 (nn + 6) (i64s (X ++ [f1, f2, f3, f4, f5, 1])) by rw [i64s_app]; exact ho3)
          have KB3 := Lib.hid ((hb3.block w.heap.size (by have := hs1; omega)).trans KB1.out)
          have HB3 := Lib.hid (HB1.out.trans hb3)
          clear ho3 hb3 k0 k1 k2 k3 k4 k5 k6 k7
          go_wp2_with fail
          go_roundg (n3 - (k + 1))
          case measure => omega
          case rel => exact ⟨k + 1, nn + 6, X ++ [f1, f2, f3, f4, f5, 1], by omega, by omega, by go_num, by omega, Lib.hid ⟨HX1.out, by rw [List.length_append, HX.out.2]; rfl⟩, HO3, KB3, HB3⟩
      · obtain rfl : n3 = k := by omega
        have HT := Lib.hid (show X = P0 ++ l3.flatMap iG by rw [HX.out.1, List.take_of_length_le (by rw [HL3.out]; omega)])
        have HS := Lib.hid HB.out.size
        have k0 := KB.out.at_ (j := 0) rfl
        have k1 := KB.out.at_ (j := 1) rfl
        have k2 := KB.out.at_ (j := 2) rfl
        have k3 := KB.out.at_ (j := 3) rfl
        have k4 := KB.out.at_ (j := 4) rfl
        have k5 := KB.out.at_ (j := 5) rfl
        have k6 := KB.out.at_ (j := 6) rfl
        have k7 := KB.out.at_ (j := 7) rfl
        have hkl := KB.out.lt
        go_wp2_with (at_builtin; refine wp_app_lit rfl _ _ _ rfl w1.heap.size 3 (.int .i64 0) 1 8 Tryz.underlying72 info_int rfl (by decide) _ _ _ rfl HO.out #[.int .i64 n4] 1 1 _ rfl (by simp) rfl (ones_i64s _ (by rfl)) (by unfold maxLen; omega) (by omega) HS.out ?_; intro v3 w3 ho3 hb3)
        obtain ⟨P1, HP1⟩ : ∃ P, Hid (P0 ++ l3.flatMap iG ++ [(n4 : Int)] = P) := ⟨_, Lib.hid rfl⟩
        have NP1 := Lib.hid (show nn + 1 = P1.length by rw [← HP1.out, ← HT.out, List.length_append, HX.out.2]; rfl)
        have RP1 := Lib.hid (show w3.ownsRow w1.heap.size 3 1 v3 (nn + 1) (i64s P1) by rw [← HP1.out, ← HT.out, i64s_app]; exact ho3)
        have KP1 := Lib.hid ((hb3.block w.heap.size (by have := hs1; omega)).trans KB.out)
        have BP1 := Lib.hid (HB.out.trans hb3)
        have hnb1 : nn + 1 ≤ 6291461 := by omega
        clear ho3 hb3 k0 k1 k2 k3 k4 k5 k6 k7 HO KB HB HX HT
        go_wp2_with fail
        go_loopg [3, 7] n4 (fun gg v i wr => ∃ (k nn : Nat) (X : List Int), k ≤ n4 ∧ n4 - k ≤ gg ∧ i = .int .i64 k ∧ nn ≤ 6291461 + k * 2 ∧ Hid (X = P1 ++ (l4.take k).flatMap iF ∧ nn = X.length) ∧ Hid (wr.ownsRow w1.heap.size 3 1 v nn (i64s X)) ∧ Hid (BoxAt wr w.heap.size 39 #[.int .i64 p0, .int .i64 p1, .int .i64 p2, .slice A3 n3 c3, .slice A4 n4 c4, .slice A5 n5 c5, .slice A6 n6 c6, .int .i64 p7]) ∧ Hid (Below w1.heap.size w1 wr))
        case atStart => exact ⟨0, _, P1, Nat.zero_le _, by omega, rfl, by omega, Lib.hid ⟨by simp, NP1.out⟩, RP1, KP1, BP1⟩
        case round =>
          clear RP1 KP1 BP1
          obtain ⟨k, nn, X, hk, hg, rfl, hnn, HX, HO, KB, HB⟩ := hrel
          by_cases hlt : k < n4
          · obtain ⟨b, off, x, rfl, _, _, hz, hc⟩ := rd_elem TFlow.len R4.out HL4.out hlt
            have HX1 := Lib.hid (show X ++ iF x = P1 ++ (l4.take (k + 1)).flatMap iF by rw [flat_one_more hz, HX.out.1, List.append_assoc])
            have e0 : w1.cell? ⟨b, off + k * 3, none⟩ = _ := hc 0 _ rfl
            have e1 := hc 1 _ rfl
            have e2 := hc 2 _ rfl
            have hbl : b < w1.heap.size := World.block_lt_of_cell? _ _ e0
            have k0 := KB.out.at_ (j := 0) rfl
            have k1 := KB.out.at_ (j := 1) rfl
            have k2 := KB.out.at_ (j := 2) rfl
            have k3 := KB.out.at_ (j := 3) rfl
            have k4 := KB.out.at_ (j := 4) rfl
            have k5 := KB.out.at_ (j := 5) rfl
            have k6 := KB.out.at_ (j := 6) rfl
            have k7 := KB.out.at_ (j := 7) rfl
            have hkl := KB.out.lt
            clear hz hc
            go_wp2_with fail
            clear k0 k1 k2 k3 k4 k5 k6 k7
            have GK : World.ownsRow (World.drew wr) w1.heap.size 3 1 _ nn (i64s X) := HO.out
            clear HO
            refine wp_region_held_drew (S := fun w' => BoxAt w' w.heap.size 39 #[.int .i64 p0, .int .i64 p1, .int .i64 p2, .slice A3 n3 c3, .slice (some ⟨b, off, none⟩) n4 c4, .slice A5 n5 c5, .slice A6 n6 c6, .int .i64 p7] ∧ Below w1.heap.size w1 w') (by kernel_rfl) ?_ (fun hHeld => ?_)
            · exact ⟨KB.out.drw, HB.out.drew⟩
            generalize (World.drew _) = x0 at hHeld GK ⊢
            refine wpAnyH_take (i := 0) (oi := ⟨some 68, _, _, _, _, _⟩) (v := ?_) rfl (by kernel_rfl) (by kernel_rfl) (by kernel_rfl) (fun _ _ _ h => h) (Or.inl ⟨by kernel_rfl, ?_⟩) hHeld ?_
            rotate_left
            focus (intro W hS; have c0_0 := (hS.1).at_ (j := 0) rfl; have c0_1 := (hS.1).at_ (j := 1) rfl; have c0_2 := (hS.1).at_ (j := 2) rfl; have c0_3 := (hS.1).at_ (j := 3) rfl; have c0_4 := (hS.1).at_ (j := 4) rfl; have c0_5 := (hS.1).at_ (j := 5) rfl; have c0_6 := (hS.1).at_ (j := 6) rfl; have c0_7 := (hS.1).at_ (j := 7) rfl; have d1 := (hS.2.cell (p := ⟨b, off + k * 3 + 1, none⟩) hbl).trans e1; have d2 := (hS.2.cell (p := ⟨b, off + k * 3 + 2, none⟩) hbl).trans e2; clear hS; first | (go_simp; done) | (go_simp; with_reducible rfl))
            try simp only [Act.put, List.setIfInBounds_toArray, List.set_cons_zero, List.set_cons_succ]
            refine wpAnyH_take (i := 1) (oi := ⟨some 69, _, _, _, _, _⟩) (v := ?_) rfl (by kernel_rfl) (by kernel_rfl) (by kernel_rfl) (fun _ _ _ h => h) (Or.inl ⟨by kernel_rfl, ?_⟩) hHeld ?_
            rotate_left
            focus (intro W hS; have c0_0 := (hS.1).at_ (j := 0) rfl; have c0_1 := (hS.1).at_ (j := 1) rfl; have c0_2 := (hS.1).at_ (j := 2) rfl; have c0_3 := (hS.1).at_ (j := 3) rfl; have c0_4 := (hS.1).at_ (j := 4) rfl; have c0_5 := (hS.1).at_ (j := 5) rfl; have c0_6 := (hS.1).at_ (j := 6) rfl; have c0_7 := (hS.1).at_ (j := 7) rfl; have d1 := (hS.2.cell (p := ⟨b, off + k * 3 + 1, none⟩) hbl).trans e1; have d2 := (hS.2.cell (p := ⟨b, off + k * 3 + 2, none⟩) hbl).trans e2; clear hS; first | (go_simp; done) | (go_simp; with_reducible rfl))
            try simp only [Act.put, List.setIfInBounds_toArray, List.set_cons_zero, List.set_cons_succ]
            refine wpAnyH_take (i := 2) (oi := ⟨some 70, _, _, _, _, _⟩) (v := ?_) rfl (by kernel_rfl) (by kernel_rfl) (by kernel_rfl) (fun _ _ _ h => h) (Or.inl ⟨by kernel_rfl, ?_⟩) hHeld ?_
            rotate_left
            focus (intro W hS; have c0_0 := (hS.1).at_ (j := 0) rfl; have c0_1 := (hS.1).at_ (j := 1) rfl; have c0_2 := (hS.1).at_ (j := 2) rfl; have c0_3 := (hS.1).at_ (j := 3) rfl; have c0_4 := (hS.1).at_ (j := 4) rfl; have c0_5 := (hS.1).at_ (j := 5) rfl; have c0_6 := (hS.1).at_ (j := 6) rfl; have c0_7 := (hS.1).at_ (j := 7) rfl; have d1 := (hS.2.cell (p := ⟨b, off + k * 3 + 1, none⟩) hbl).trans e1; have d2 := (hS.2.cell (p := ⟨b, off + k * 3 + 2, none⟩) hbl).trans e2; clear hS; first | (go_simp; done) | (go_simp; with_reducible rfl))
            try simp only [Act.put, List.setIfInBounds_toArray, List.set_cons_zero, List.set_cons_succ]
            refine wpAnyH_take (i := 3) (oi := ⟨some 71, _, _, _, _, _⟩) (v := ?_) rfl (by kernel_rfl) (by kernel_rfl) (by kernel_rfl) (fun _ _ _ h => h) (Or.inl ⟨by kernel_rfl, ?_⟩) hHeld ?_
            rotate_left
            focus (intro W hS; have c0_0 := (hS.1).at_ (j := 0) rfl; have c0_1 := (hS.1).at_ (j := 1) rfl; have c0_2 := (hS.1).at_ (j := 2) rfl; have c0_3 := (hS.1).at_ (j := 3) rfl; have c0_4 := (hS.1).at_ (j := 4) rfl; have c0_5 := (hS.1).at_ (j := 5) rfl; have c0_6 := (hS.1).at_ (j := 6) rfl; have c0_7 := (hS.1).at_ (j := 7) rfl; have d1 := (hS.2.cell (p := ⟨b, off + k * 3 + 1, none⟩) hbl).trans e1; have d2 := (hS.2.cell (p := ⟨b, off + k * 3 + 2, none⟩) hbl).trans e2; clear hS; first | (go_simp; done) | (go_simp; with_reducible rfl))
            try simp only [Act.put, List.setIfInBounds_toArray, List.set_cons_zero, List.set_cons_succ]
            refine wpAnyH_take (i := 4) (oi := ⟨some 72, _, _, _, _, _⟩) (v := ?_) rfl (by kernel_rfl) (by kernel_rfl) (by kernel_rfl) (fun _ _ _ h => h) (Or.inl ⟨by kernel_rfl, ?_⟩) hHeld ?_
            rotate_left
            focus (intro W hS; have c0_0 := (hS.1).at_ (j := 0) rfl; have c0_1 := (hS.1).at_ (j := 1) rfl; have c0_2 := (hS.1).at_ (j := 2) rfl; have c0_3 := (hS.1).at_ (j := 3) rfl; have c0_4 := (hS.1).at_ (j := 4) rfl; have c0_5 := (hS.1).at_ (j := 5) rfl; have c0_6 := (hS.1).at_ (j := 6) rfl; have c0_7 := (hS.1).at_ (j := 7) rfl; have d1 := (hS.2.cell (p := ⟨b, off + k * 3 + 1, none⟩) hbl).trans e1; have d2 := (hS.2.cell (p := ⟨b, off + k * 3 + 2, none⟩) hbl).trans e2; clear hS; first | (go_simp; done) | (go_simp; with_reducible rfl))
            try simp only [Act.put, List.setIfInBounds_toArray, List.set_cons_zero, List.set_cons_succ]
            refine wpAnyH_take (i := 5) (oi := ⟨some 73, _, _, _, _, _⟩) (v := ?_) rfl (by kernel_rfl) (by kernel_rfl) (by kernel_rfl) (fun _ _ _ h => h) (Or.inl ⟨by kernel_rfl, ?_⟩) hHeld ?_
            rotate_left
            focus (intro W hS; have c0_0 := (hS.1).at_ (j := 0) rfl; have c0_1 := (hS.1).at_ (j := 1) rfl; have c0_2 := (hS.1).at_ (j := 2) rfl; have c0_3 := (hS.1).at_ (j := 3) rfl; have c0_4 := (hS.1).at_ (j := 4) rfl; have c0_5 := (hS.1).at_ (j := 5) rfl; have c0_6 := (hS.1).at_ (j := 6) rfl; have c0_7 := (hS.1).at_ (j := 7) rfl; have d1 := (hS.2.cell (p := ⟨b, off + k * 3 + 1, none⟩) hbl).trans e1; have d2 := (hS.2.cell (p := ⟨b, off + k * 3 + 2, none⟩) hbl).trans e2; clear hS; first | (go_simp; done) | (go_simp; with_reducible rfl))
            try simp only [Act.put, List.setIfInBounds_toArray, List.set_cons_zero, List.set_cons_succ]
            refine wpAnyH_take (i := 6) (oi := ⟨some 74, _, _, _, _, _⟩) (v := ?_) rfl (by kernel_rfl) (by kernel_rfl) (by kernel_rfl) (fun _ _ _ h => h) (Or.inl ⟨by kernel_rfl, ?_⟩) hHeld ?_
            rotate_left
            focus (intro W hS; have c0_0 := (hS.1).at_ (j := 0) rfl; have c0_1 := (hS.1).at_ (j := 1) rfl; have c0_2 := (hS.1).at_ (j := 2) rfl; have c0_3 := (hS.1).at_ (j := 3) rfl; have c0_4 := (hS.1).at_ (j := 4) rfl; have c0_5 := (hS.1).at_ (j := 5) rfl; have c0_6 := (hS.1).at_ (j := 6) rfl; have c0_7 := (hS.1).at_ (j := 7) rfl; have d1 := (hS.2.cell (p := ⟨b, off + k * 3 + 1, none⟩) hbl).trans e1; have d2 := (hS.2.cell (p := ⟨b, off + k * 3 + 2, none⟩) hbl).trans e2; clear hS; first | (go_simp; done) | (go_simp; with_reducible rfl))
            try simp only [Act.put, List.setIfInBounds_toArray, List.set_cons_zero, List.set_cons_succ]
            refine wpAnyH_take (i := 7) (oi := ⟨some 75, _, _, _, _, _⟩) (v := ?_) rfl (by kernel_rfl) (by kernel_rfl) (by kernel_rfl) (fun _ _ _ h => h) (Or.inl ⟨by kernel_rfl, ?_⟩) hHeld ?_
            rotate_left
            focus (intro W hS; have c0_0 := (hS.1).at_ (j := 0) rfl; have c0_1 := (hS.1).at_ (j := 1) rfl; have c0_2 := (hS.1).at_ (j := 2) rfl; have c0_3 := (hS.1).at_ (j := 3) rfl; have c0_4 := (hS.1).at_ (j := 4) rfl; have c0_5 := (hS.1).at_ (j := 5) rfl; have c0_6 := (hS.1).at_ (j := 6) rfl; have c0_7 := (hS.1).at_ (j := 7) rfl; have d1 := (hS.2.cell (p := ⟨b, off + k * 3 + 1, none⟩) hbl).trans e1; have d2 := (hS.2.cell (p := ⟨b, off + k * 3 + 2, none⟩) hbl).trans e2; clear hS; first | (go_simp; done) | (go_simp; with_reducible rfl))
            try simp only [Act.put, List.setIfInBounds_toArray, List.set_cons_zero, List.set_cons_succ]
            refine wpAnyH_take (i := 8) (oi := ⟨some 76, _, _, _, _, _⟩) (v := ?_) rfl (by kernel_rfl) (by kernel_rfl) (by kernel_rfl) (fun _ _ _ h => h) (Or.inl ⟨by kernel_rfl, ?_⟩) hHeld ?_
            rotate_left
            focus (intro W hS; have c0_0 := (hS.1).at_ (j := 0) rfl; have c0_1 := (hS.1).at_ (j := 1) rfl; have c0_2 := (hS.1).at_ (j := 2) rfl; have c0_3 := (hS.1).at_ (j := 3) rfl; have c0_4 := (hS.1).at_ (j := 4) rfl; have c0_5 := (hS.1).at_ (j := 5) rfl; have c0_6 := (hS.1).at_ (j := 6) rfl; have c0_7 := (hS.1).at_ (j := 7) rfl; have d1 := (hS.2.cell (p := ⟨b, off + k * 3 + 1, none⟩) hbl).trans e1; have d2 := (hS.2.cell (p := ⟨b, off + k * 3 + 2, none⟩) hbl).trans e2; clear hS; first | (go_simp; done) | (go_simp; with_reducible rfl))
            try simp only [Act.put, List.setIfInBounds_toArray, List.set_cons_zero, List.set_cons_succ]
            refine wpAnyH_take (i := 9) (oi := ⟨some 77, _, _, _, _, _⟩) (v := ?_) rfl (by kernel_rfl) (by kernel_rfl) (by kernel_rfl) (fun _ _ _ h => h) (Or.inl ⟨by kernel_rfl, ?_⟩) hHeld ?_
            rotate_left
            focus (intro W hS; have c0_0 := (hS.1).at_ (j := 0) rfl; have c0_1 := (hS.1).at_ (j := 1) rfl; have c0_2 := (hS.1).at_ (j := 2) rfl; have c0_3 := (hS.1).at_ (j := 3) rfl; have c0_4 := (hS.1).at_ (j := 4) rfl; have c0_5 := (hS.1).at_ (j := 5) rfl; have c0_6 := (hS.1).at_ (j := 6) rfl; have c0_7 := (hS.1).at_ (j := 7) rfl; have d1 := (hS.2.cell (p := ⟨b, off + k * 3 + 1, none⟩) hbl).trans e1; have d2 := (hS.2.cell (p := ⟨b, off + k * 3 + 2, none⟩) hbl).trans e2; clear hS; first | (go_simp; done) | (go_simp; with_reducible rfl))
            try simp only [Act.put, List.setIfInBounds_toArray, List.set_cons_zero, List.set_cons_succ]
            refine wpAnyH_take (i := 10) (oi := ⟨some 78, _, _, _, _, _⟩) (v := ?_) rfl (by kernel_rfl) (by kernel_rfl) (by kernel_rfl) (fun _ _ _ h => h) (Or.inl ⟨by kernel_rfl, ?_⟩) hHeld ?_
            rotate_left
            focus (intro W hS; have c0_0 := (hS.1).at_ (j := 0) rfl; have c0_1 := (hS.1).at_ (j := 1) rfl; have c0_2 := (hS.1).at_ (j := 2) rfl; have c0_3 := (hS.1).at_ (j := 3) rfl; have c0_4 := (hS.1).at_ (j := 4) rfl; have c0_5 := (hS.1).at_ (j := 5) rfl; have c0_6 := (hS.1).at_ (j := 6) rfl; have c0_7 := (hS.1).at_ (j := 7) rfl; have d1 := (hS.2.cell (p := ⟨b, off + k * 3 + 1, none⟩) hbl).trans e1; have d2 := (hS.2.cell (p := ⟨b, off + k * 3 + 2, none⟩) hbl).trans e2; clear hS; first | (go_simp; done) | (go_simp; with_reducible rfl))
            try simp only [Act.put, List.setIfInBounds_toArray, List.set_cons_zero, List.set_cons_succ]
            refine wpAnyH_take (i := 11) (oi := ⟨some 79, _, _, _, _, _⟩) (v := ?_) rfl (by kernel_rfl) (by kernel_rfl) (by kernel_rfl) (fun _ _ _ h => h) (Or.inl ⟨by kernel_rfl, ?_⟩) hHeld ?_
            rotate_left
            focus (intro W hS; have c0_0 := (hS.1).at_ (j := 0) rfl; have c0_1 := (hS.1).at_ (j := 1) rfl; have c0_2 := (hS.1).at_ (j := 2) rfl; have c0_3 := (hS.1).at_ (j := 3) rfl; have c0_4 := (hS.1).at_ (j := 4) rfl; have c0_5 := (hS.1).at_ (j := 5) rfl; have c0_6 := (hS.1).at_ (j := 6) rfl; have c0_7 := (hS.1).at_ (j := 7) rfl; have d1 := (hS.2.cell (p := ⟨b, off + k * 3 + 1, none⟩) hbl).trans e1; have d2 := (hS.2.cell (p := ⟨b, off + k * 3 + 2, none⟩) hbl).trans e2; clear hS; first | (go_simp; done) | (go_simp; with_reducible rfl))
            try simp only [Act.put, List.setIfInBounds_toArray, List.set_cons_zero, List.set_cons_succ]
            refine wpAnyH_take (i := 12) (oi := ⟨some 80, _, _, _, _, _⟩) (v := ?_) rfl (by kernel_rfl) (by kernel_rfl) (by kernel_rfl) (fun _ _ _ h => h) (Or.inl ⟨by kernel_rfl, ?_⟩) hHeld ?_
            rotate_left
            focus (intro W hS; have c0_0 := (hS.1).at_ (j := 0) rfl; have c0_1 := (hS.1).at_ (j := 1) rfl; have c0_2 := (hS.1).at_ (j := 2) rfl; have c0_3 := (hS.1).at_ (j := 3) rfl; have c0_4 := (hS.1).at_ (j := 4) rfl; have c0_5 := (hS.1).at_ (j := 5) rfl; have c0_6 := (hS.1).at_ (j := 6) rfl; have c0_7 := (hS.1).at_ (j := 7) rfl; have d1 := (hS.2.cell (p := ⟨b, off + k * 3 + 1, none⟩) hbl).trans e1; have d2 := (hS.2.cell (p := ⟨b, off + k * 3 + 2, none⟩) hbl).trans e2; clear hS; first | (go_simp; done) | (go_simp; with_reducible rfl))
            try simp only [Act.put, List.setIfInBounds_toArray, List.set_cons_zero, List.set_cons_succ]
            refine wpAnyH_ready (rs := [13]) (by kernel_rfl) (by simp) ?_
            refine AllReadyH.cons (o := ⟨some 81, _, _, _, _, _⟩) rfl (fun K hK => ?_) AllReadyH.nil
            go_simp
            have Gbl := box_new (x0) 3 #[.int .i64 x.f1, .int .i64 x.f2]
            have hb1 := (Below.refl (x0).heap.size (x0)).alloc (Nat.le_refl _) (.cells #[.int .i64 x.f1, .int .i64 x.f2] 3)
            have Lbl : w1.heap.size ≤ (x0).heap.size := by have := (hHeld.1).lt; have := (hHeld.2).size; omega
            have M0bl : w.heap.size < (x0).heap.size := (hHeld.1).lt
            replace GK := own_newer GK hb1
            generalize (x0).alloc (.cells #[.int .i64 x.f1, .int .i64 x.f2] 3) = x1 at hb1 Gbl GK ⊢
            generalize hg : (x0).heap.size = gbl at Gbl Lbl M0bl ⊢
            clear hg
            refine hK.out _ _ ⟨hHeld.1.new hb1, below_trans hHeld.2 hb1 (Nat.le_refl _)⟩ (fun hHeld' => ?_)
            clear hK K hHeld hb1
            have hHeld := hHeld'
            clear hHeld'
            try simp only [Act.put, List.setIfInBounds_toArray, List.set_cons_zero, List.set_cons_succ]
            refine wpAnyH_ready (rs := [14]) (by kernel_rfl) (by simp) ?_
            refine AllReadyH.cons (o := ⟨some 82, _, _, _, _, _⟩) rfl (fun K hK => ?_) AllReadyH.nil
            refine step_appo rfl _ _ _ (by rfl) w1.heap.size 3 (.int .i64 0) 1 8 Tryz.underlying72 info_int rfl (by decide) _ (by rfl) (nn) ((i64s X)) GK gbl (gbl + 1) (some ⟨gbl, 0, none⟩) 2 2 (#[.int .i64 x.f1, .int .i64 x.f2] : Array Value).toList (by rfl) (pk_boxp Gbl 2 rfl) (ones_i64s _ (by rfl)) (by unfold maxLen; omega) (by omega) (by have := (hHeld.2).size; omega) ?_
            intro Vp x2 hO hb0 hgr
            have hsz0 := hb0.size
            clear Gbl
            have OWp := hO
            have hb1 := hb0.mono (show w1.heap.size ≤ w1.heap.size by omega)
            refine hK.out _ _ ⟨(by have := (hHeld.1).lt; exact hHeld.1.chg (chg_of_below hb0) (by omega)), (hHeld.2).trans hb1⟩ (fun hHeld' => ?_)
            clear hK K hHeld hb1 hb0 hgr hO
            have hHeld := hHeld'
            clear hHeld'
            try simp only [Act.put, List.setIfInBounds_toArray, List.set_cons_zero, List.set_cons_succ]
            refine wpAnyH_take (i := 15) (oi := ⟨some 3, _, _, _, _, _⟩) (v := ?_) rfl (by kernel_rfl) (by kernel_rfl) (by kernel_rfl) (fun _ _ _ h => h) (Or.inl ⟨by kernel_rfl, ?_⟩) hHeld ?_
            rotate_left
            focus (intro W hS; have c0_0 := (hS.1).at_ (j := 0) rfl; have c0_1 := (hS.1).at_ (j := 1) rfl; have c0_2 := (hS.1).at_ (j := 2) rfl; have c0_3 := (hS.1).at_ (j := 3) rfl; have c0_4 := (hS.1).at_ (j := 4) rfl; have c0_5 := (hS.1).at_ (j := 5) rfl; have c0_6 := (hS.1).at_ (j := 6) rfl; have c0_7 := (hS.1).at_ (j := 7) rfl; have d1 := (hS.2.cell (p := ⟨b, off + k * 3 + 1, none⟩) hbl).trans e1; have d2 := (hS.2.cell (p := ⟨b, off + k * 3 + 2, none⟩) hbl).trans e2; clear hS; first | (go_simp; done) | (go_simp; with_reducible rfl))
            try simp only [Act.put, List.setIfInBounds_toArray, List.set_cons_zero, List.set_cons_succ]
            refine wpAnyH_done (by kernel_rfl) ?_ _
            have HO3 := Lib.hid (show x2.ownsRow w1.heap.size 3 1 Vp (nn + 2) (i64s (X ++ iF x)) by rw [i64s_app]; exact OWp)
            have KB3 := Lib.hid hHeld.1
            have HB3 := Lib.hid hHeld.2
            clear OWp hHeld
            go_wp2_with fail
            go_roundg (n4 - (k + 1))
            case measure => omega
            case rel => exact ⟨k + 1, nn + 2, X ++ iF x, by omega, by omega, by go_num, by omega, Lib.hid ⟨HX1.out, by rw [List.length_append, HX.out.2]; rfl⟩, HO3, KB3, HB3⟩
          · obtain rfl : n4 = k := by omega
            have HT := Lib.hid (show X = P1 ++ l4.flatMap iF by rw [HX.out.1, List.take_of_length_le (by rw [HL4.out]; omega)])
            have HS := Lib.hid HB.out.size
            have k0 := KB.out.at_ (j := 0) rfl
            have k1 := KB.out.at_ (j := 1) rfl
            have k2 := KB.out.at_ (j := 2) rfl
            have k3 := KB.out.at_ (j := 3) rfl
            have k4 := KB.out.at_ (j := 4) rfl
            have k5 := KB.out.at_ (j := 5) rfl
            have k6 := KB.out.at_ (j := 6) rfl
            have k7 := KB.out.at_ (j := 7) rfl
            have hkl := KB.out.lt
            go_wp2_with (at_builtin; refine wp_app_lit rfl _ _ _ rfl w1.heap.size 3 (.int .i64 0) 1 8 Tryz.underlying72 info_int rfl (by decide) _ _ _ rfl HO.out #[.int .i64 n5] 1 1 _ rfl (by simp) rfl (ones_i64s _ (by rfl)) (by unfold maxLen; omega) (by omega) HS.out ?_; intro v3 w3 ho3 hb3)
            obtain ⟨P2, HP2⟩ : ∃ P, Hid (P1 ++ l4.flatMap iF ++ [(n5 : Int)] = P) := ⟨_, Lib.hid rfl⟩
            have NP2 := Lib.hid (show nn + 1 = P2.length by rw [← HP2.out, ← HT.out, List.length_append, HX.out.2]; rfl)
            have RP2 := Lib.hid (show w3.ownsRow w1.heap.size 3 1 v3 (nn + 1) (i64s P2) by rw [← HP2.out, ← HT.out, i64s_app]; exact ho3)
            have KP2 := Lib.hid ((hb3.block w.heap.size (by have := hs1; omega)).trans KB.out)
            have BP2 := Lib.hid (HB.out.trans hb3)
            have hnb2 : nn + 1 ≤ 8388614 := by omega
            clear ho3 hb3 k0 k1 k2 k3 k4 k5 k6 k7 HO KB HB HX HT
            go_wp2_with fail
            go_loopg [3, 8] n5 (fun gg v i wr => ∃ (k nn : Nat) (X : List Int), k ≤ n5 ∧ n5 - k ≤ gg ∧ i = .int .i64 k ∧ nn ≤ 8388614 + k * 7 ∧ Hid (X = P2 ++ (l5.take k).flatMap iR ∧ nn = X.length) ∧ Hid (wr.ownsRow w1.heap.size 3 1 v nn (i64s X)) ∧ Hid (BoxAt wr w.heap.size 39 #[.int .i64 p0, .int .i64 p1, .int .i64 p2, .slice A3 n3 c3, .slice A4 n4 c4, .slice A5 n5 c5, .slice A6 n6 c6, .int .i64 p7]) ∧ Hid (Below w1.heap.size w1 wr))
            case atStart => exact ⟨0, _, P2, Nat.zero_le _, by omega, rfl, by omega, Lib.hid ⟨by simp, NP2.out⟩, RP2, KP2, BP2⟩
            case round =>
              clear RP2 KP2 BP2
              obtain ⟨k, nn, X, hk, hg, rfl, hnn, HX, HO, KB, HB⟩ := hrel
              by_cases hlt : k < n5
              · obtain ⟨b, off, x, rfl, _, _, hz, hc⟩ := rd_elem TRule.len (R5.out.new HB.out) HL5.out hlt
                have HX1 := Lib.hid (show X ++ iR x = P2 ++ (l5.take (k + 1)).flatMap iR by rw [flat_one_more hz, HX.out.1, List.append_assoc])
                have c0 : wr.cell? ⟨b, off + k * 8, none⟩ = _ := hc 0 _ rfl
                have c1 := hc 1 _ rfl
                have c2 := hc 2 _ rfl
                have c3 := hc 3 _ rfl
                have c4 := hc 4 _ rfl
                have c5 := hc 5 _ rfl
                have c6 := hc 6 _ rfl
                have c7 := hc 7 _ rfl
                have HS := Lib.hid HB.out.size
                have HB1 := Lib.hid (HB.out.alloc HS.out (.cells #[.int .i64 x.f0, .int .i64 x.f1, .int .i64 x.f2, .int .i64 x.f3, .int .i64 x.f4, .int .i64 x.f5, .int .i64 x.f6, .int .i64 x.f7] 96))
                have HO1 := Lib.hid (HO.out.alloc (.cells #[.int .i64 x.f0, .int .i64 x.f1, .int .i64 x.f2, .int .i64 x.f3, .int .i64 x.f4, .int .i64 x.f5, .int .i64 x.f6, .int .i64 x.f7] 96))
                have KB1 := Lib.hid (KB.out.alloc_ (.cells #[.int .i64 x.f0, .int .i64 x.f1, .int .i64 x.f2, .int .i64 x.f3, .int .i64 x.f4, .int .i64 x.f5, .int .i64 x.f6, .int .i64 x.f7] 96))
                have HS1 := Lib.hid HB1.out.size
                have k0 := KB.out.at_ (j := 0) rfl
                have k1 := KB.out.at_ (j := 1) rfl
                have k2 := KB.out.at_ (j := 2) rfl
                have k3 := KB.out.at_ (j := 3) rfl
                have k4 := KB.out.at_ (j := 4) rfl
                have k5 := KB.out.at_ (j := 5) rfl
                have k6 := KB.out.at_ (j := 6) rfl
                have k7 := KB.out.at_ (j := 7) rfl
                have hkl := KB.out.lt
                clear hz hc
                go_wp2_with (at_builtin; refine wp_app_lit rfl _ _ _ rfl w1.heap.size 3 (.int .i64 0) 1 8 Tryz.underlying72 info_int rfl (by decide) _ _ _ rfl HO1.out #[.int .i64 x.f1, .int .i64 x.f2, .int .i64 x.f3, .int .i64 x.f4, .int .i64 x.f5, .int .i64 x.f6, .int .i64 x.f7] 7 7 _ rfl (by simp) rfl (ones_i64s _ (by rfl)) (by unfold maxLen; omega) (by omega) HS1.out ?_; intro v3 w3 ho3 hb3)
                have HO3 := Lib.hid (show w3.ownsRow w1.heap.size 3 1 v3 (nn + 7) (i64s (X ++ iR x)) by rw [i64s_app]; exact ho3)
                have KB3 := Lib.hid ((hb3.block w.heap.size (by have := hs1; omega)).trans KB1.out)
                have HB3 := Lib.hid (HB1.out.trans hb3)
                clear ho3 hb3 k0 k1 k2 k3 k4 k5 k6 k7
                go_wp2_with fail
                go_roundg (n5 - (k + 1))
                case measure => omega
                case rel => exact ⟨k + 1, nn + 7, X ++ iR x, by omega, by omega, by go_num, by omega, Lib.hid ⟨HX1.out, by rw [List.length_append, HX.out.2]; rfl⟩, HO3, KB3, HB3⟩
              · obtain rfl : n5 = k := by omega
                have HT := Lib.hid (show X = P2 ++ l5.flatMap iR by rw [HX.out.1, List.take_of_length_le (by rw [HL5.out]; omega)])
                have HS := Lib.hid HB.out.size
                have k0 := KB.out.at_ (j := 0) rfl
                have k1 := KB.out.at_ (j := 1) rfl
                have k2 := KB.out.at_ (j := 2) rfl
                have k3 := KB.out.at_ (j := 3) rfl
                have k4 := KB.out.at_ (j := 4) rfl
                have k5 := KB.out.at_ (j := 5) rfl
                have k6 := KB.out.at_ (j := 6) rfl
                have k7 := KB.out.at_ (j := 7) rfl
                have hkl := KB.out.lt
                go_wp2_with (at_builtin; refine wp_app_lit rfl _ _ _ rfl w1.heap.size 3 (.int .i64 0) 1 8 Tryz.underlying72 info_int rfl (by decide) _ _ _ rfl HO.out #[.int .i64 n6] 1 1 _ rfl (by simp) rfl (ones_i64s _ (by rfl)) (by unfold maxLen; omega) (by omega) HS.out ?_; intro v3 w3 ho3 hb3)
                obtain ⟨P3, HP3⟩ : ∃ P, Hid (P2 ++ l5.flatMap iR ++ [(n6 : Int)] = P) := ⟨_, Lib.hid rfl⟩
                have NP3 := Lib.hid (show nn + 1 = P3.length by rw [← HP3.out, ← HT.out, List.length_append, HX.out.2]; rfl)
                have RP3 := Lib.hid (show w3.ownsRow w1.heap.size 3 1 v3 (nn + 1) (i64s P3) by rw [← HP3.out, ← HT.out, i64s_app]; exact ho3)
                have KP3 := Lib.hid ((hb3.block w.heap.size (by have := hs1; omega)).trans KB.out)
                have BP3 := Lib.hid (HB.out.trans hb3)
                have hnb3 : nn + 1 ≤ 15728647 := by omega
                clear ho3 hb3 k0 k1 k2 k3 k4 k5 k6 k7 HO KB HB HX HT
                go_wp2_with fail
                go_loopg [3, 10] n6 (fun gg v i wr => ∃ (k nn : Nat) (X : List Int), k ≤ n6 ∧ n6 - k ≤ gg ∧ i = .int .i64 k ∧ nn ≤ 15728647 + k * 4 ∧ Hid (X = P3 ++ (l6.take k).flatMap iO ∧ nn = X.length) ∧ Hid (wr.ownsRow w1.heap.size 3 1 v nn (i64s X)) ∧ Hid (BoxAt wr w.heap.size 39 #[.int .i64 p0, .int .i64 p1, .int .i64 p2, .slice A3 n3 c3, .slice A4 n4 c4, .slice A5 n5 c5, .slice A6 n6 c6, .int .i64 p7]) ∧ Hid (Below w1.heap.size w1 wr))
                case atStart => exact ⟨0, _, P3, Nat.zero_le _, by omega, rfl, by omega, Lib.hid ⟨by simp, NP3.out⟩, RP3, KP3, BP3⟩
                case round =>
                  clear RP3 KP3 BP3
                  obtain ⟨k, nn, X, hk, hg, rfl, hnn, HX, HO, KB, HB⟩ := hrel
                  by_cases hlt : k < n6
                  · obtain ⟨b, off, x, rfl, _, _, hz, hc⟩ := rd_elem TOp.len R6.out HL6.out hlt
                    have HX1 := Lib.hid (show X ++ iO x = P3 ++ (l6.take (k + 1)).flatMap iO by rw [flat_one_more hz, HX.out.1, List.append_assoc])
                    have e0 : w1.cell? ⟨b, off + k * 4, none⟩ = _ := hc 0 _ rfl
                    have e1 := hc 1 _ rfl
                    have e2 := hc 2 _ rfl
                    have e3 := hc 3 _ rfl
                    have hbl : b < w1.heap.size := World.block_lt_of_cell? _ _ e0
                    have k0 := KB.out.at_ (j := 0) rfl
                    have k1 := KB.out.at_ (j := 1) rfl
                    have k2 := KB.out.at_ (j := 2) rfl
                    have k3 := KB.out.at_ (j := 3) rfl
                    have k4 := KB.out.at_ (j := 4) rfl
                    have k5 := KB.out.at_ (j := 5) rfl
                    have k6 := KB.out.at_ (j := 6) rfl
                    have k7 := KB.out.at_ (j := 7) rfl
                    have hkl := KB.out.lt
                    clear hz hc
                    go_wp2_with fail
                    clear k0 k1 k2 k3 k4 k5 k6 k7
                    have GK : World.ownsRow (World.drew wr) w1.heap.size 3 1 _ nn (i64s X) := HO.out
                    clear HO
                    refine wp_region_held_drew (S := fun w' => BoxAt w' w.heap.size 39 #[.int .i64 p0, .int .i64 p1, .int .i64 p2, .slice A3 n3 c3, .slice A4 n4 c4, .slice A5 n5 c5, .slice (some ⟨b, off, none⟩) n6 c6, .int .i64 p7] ∧ Below w1.heap.size w1 w') (by kernel_rfl) ?_ (fun hHeld => ?_)
                    · exact ⟨KB.out.drw, HB.out.drew⟩
                    generalize (World.drew _) = x0 at hHeld GK ⊢
                    refine wpAnyH_take (i := 0) (oi := ⟨some 135, _, _, _, _, _⟩) (v := ?_) rfl (by kernel_rfl) (by kernel_rfl) (by kernel_rfl) (fun _ _ _ h => h) (Or.inl ⟨by kernel_rfl, ?_⟩) hHeld ?_
                    rotate_left
                    focus (intro W hS; have c0_0 := (hS.1).at_ (j := 0) rfl; have c0_1 := (hS.1).at_ (j := 1) rfl; have c0_2 := (hS.1).at_ (j := 2) rfl; have c0_3 := (hS.1).at_ (j := 3) rfl; have c0_4 := (hS.1).at_ (j := 4) rfl; have c0_5 := (hS.1).at_ (j := 5) rfl; have c0_6 := (hS.1).at_ (j := 6) rfl; have c0_7 := (hS.1).at_ (j := 7) rfl; have d0 := (hS.2.cell (p := ⟨b, off + k * 4, none⟩) hbl).trans e0; have d1 := (hS.2.cell (p := ⟨b, off + k * 4 + 1, none⟩) hbl).trans e1; have d2 := (hS.2.cell (p := ⟨b, off + k * 4 + 2, none⟩) hbl).trans e2; have d3 := (hS.2.cell (p := ⟨b, off + k * 4 + 3, none⟩) hbl).trans e3; clear hS; first | (go_simp; done) | (go_simp; with_reducible rfl))
                    try simp only [Act.put, List.setIfInBounds_toArray, List.set_cons_zero, List.set_cons_succ]
                    refine wpAnyH_take (i := 1) (oi := ⟨some 136, _, _, _, _, _⟩) (v := ?_) rfl (by kernel_rfl) (by kernel_rfl) (by kernel_rfl) (fun _ _ _ h => h) (Or.inl ⟨by kernel_rfl, ?_⟩) hHeld ?_
                    rotate_left
                    focus (intro W hS; have c0_0 := (hS.1).at_ (j := 0) rfl; have c0_1 := (hS.1).at_ (j := 1) rfl; have c0_2 := (hS.1).at_ (j := 2) rfl; have c0_3 := (hS.1).at_ (j := 3) rfl; have c0_4 := (hS.1).at_ (j := 4) rfl; have c0_5 := (hS.1).at_ (j := 5) rfl; have c0_6 := (hS.1).at_ (j := 6) rfl; have c0_7 := (hS.1).at_ (j := 7) rfl; have d0 := (hS.2.cell (p := ⟨b, off + k * 4, none⟩) hbl).trans e0; have d1 := (hS.2.cell (p := ⟨b, off + k * 4 + 1, none⟩) hbl).trans e1; have d2 := (hS.2.cell (p := ⟨b, off + k * 4 + 2, none⟩) hbl).trans e2; have d3 := (hS.2.cell (p := ⟨b, off + k * 4 + 3, none⟩) hbl).trans e3; clear hS; first | (go_simp; done) | (go_simp; with_reducible rfl))
                    try simp only [Act.put, List.setIfInBounds_toArray, List.set_cons_zero, List.set_cons_succ]
                    refine wpAnyH_take (i := 2) (oi := ⟨some 137, _, _, _, _, _⟩) (v := ?_) rfl (by kernel_rfl) (by kernel_rfl) (by kernel_rfl) (fun _ _ _ h => h) (Or.inl ⟨by kernel_rfl, ?_⟩) hHeld ?_
                    rotate_left
                    focus (intro W hS; have c0_0 := (hS.1).at_ (j := 0) rfl; have c0_1 := (hS.1).at_ (j := 1) rfl; have c0_2 := (hS.1).at_ (j := 2) rfl; have c0_3 := (hS.1).at_ (j := 3) rfl; have c0_4 := (hS.1).at_ (j := 4) rfl; have c0_5 := (hS.1).at_ (j := 5) rfl; have c0_6 := (hS.1).at_ (j := 6) rfl; have c0_7 := (hS.1).at_ (j := 7) rfl; have d0 := (hS.2.cell (p := ⟨b, off + k * 4, none⟩) hbl).trans e0; have d1 := (hS.2.cell (p := ⟨b, off + k * 4 + 1, none⟩) hbl).trans e1; have d2 := (hS.2.cell (p := ⟨b, off + k * 4 + 2, none⟩) hbl).trans e2; have d3 := (hS.2.cell (p := ⟨b, off + k * 4 + 3, none⟩) hbl).trans e3; clear hS; first | (go_simp; done) | (go_simp; with_reducible rfl))
                    try simp only [Act.put, List.setIfInBounds_toArray, List.set_cons_zero, List.set_cons_succ]
                    refine wpAnyH_take (i := 3) (oi := ⟨some 138, _, _, _, _, _⟩) (v := ?_) rfl (by kernel_rfl) (by kernel_rfl) (by kernel_rfl) (fun _ _ _ h => h) (Or.inl ⟨by kernel_rfl, ?_⟩) hHeld ?_
                    rotate_left
                    focus (intro W hS; have c0_0 := (hS.1).at_ (j := 0) rfl; have c0_1 := (hS.1).at_ (j := 1) rfl; have c0_2 := (hS.1).at_ (j := 2) rfl; have c0_3 := (hS.1).at_ (j := 3) rfl; have c0_4 := (hS.1).at_ (j := 4) rfl; have c0_5 := (hS.1).at_ (j := 5) rfl; have c0_6 := (hS.1).at_ (j := 6) rfl; have c0_7 := (hS.1).at_ (j := 7) rfl; have d0 := (hS.2.cell (p := ⟨b, off + k * 4, none⟩) hbl).trans e0; have d1 := (hS.2.cell (p := ⟨b, off + k * 4 + 1, none⟩) hbl).trans e1; have d2 := (hS.2.cell (p := ⟨b, off + k * 4 + 2, none⟩) hbl).trans e2; have d3 := (hS.2.cell (p := ⟨b, off + k * 4 + 3, none⟩) hbl).trans e3; clear hS; first | (go_simp; done) | (go_simp; with_reducible rfl))
                    try simp only [Act.put, List.setIfInBounds_toArray, List.set_cons_zero, List.set_cons_succ]
                    refine wpAnyH_take (i := 4) (oi := ⟨some 139, _, _, _, _, _⟩) (v := ?_) rfl (by kernel_rfl) (by kernel_rfl) (by kernel_rfl) (fun _ _ _ h => h) (Or.inl ⟨by kernel_rfl, ?_⟩) hHeld ?_
                    rotate_left
                    focus (intro W hS; have c0_0 := (hS.1).at_ (j := 0) rfl; have c0_1 := (hS.1).at_ (j := 1) rfl; have c0_2 := (hS.1).at_ (j := 2) rfl; have c0_3 := (hS.1).at_ (j := 3) rfl; have c0_4 := (hS.1).at_ (j := 4) rfl; have c0_5 := (hS.1).at_ (j := 5) rfl; have c0_6 := (hS.1).at_ (j := 6) rfl; have c0_7 := (hS.1).at_ (j := 7) rfl; have d0 := (hS.2.cell (p := ⟨b, off + k * 4, none⟩) hbl).trans e0; have d1 := (hS.2.cell (p := ⟨b, off + k * 4 + 1, none⟩) hbl).trans e1; have d2 := (hS.2.cell (p := ⟨b, off + k * 4 + 2, none⟩) hbl).trans e2; have d3 := (hS.2.cell (p := ⟨b, off + k * 4 + 3, none⟩) hbl).trans e3; clear hS; first | (go_simp; done) | (go_simp; with_reducible rfl))
                    try simp only [Act.put, List.setIfInBounds_toArray, List.set_cons_zero, List.set_cons_succ]
                    refine wpAnyH_take (i := 5) (oi := ⟨some 140, _, _, _, _, _⟩) (v := ?_) rfl (by kernel_rfl) (by kernel_rfl) (by kernel_rfl) (fun _ _ _ h => h) (Or.inl ⟨by kernel_rfl, ?_⟩) hHeld ?_
                    rotate_left
                    focus (intro W hS; have c0_0 := (hS.1).at_ (j := 0) rfl; have c0_1 := (hS.1).at_ (j := 1) rfl; have c0_2 := (hS.1).at_ (j := 2) rfl; have c0_3 := (hS.1).at_ (j := 3) rfl; have c0_4 := (hS.1).at_ (j := 4) rfl; have c0_5 := (hS.1).at_ (j := 5) rfl; have c0_6 := (hS.1).at_ (j := 6) rfl; have c0_7 := (hS.1).at_ (j := 7) rfl; have d0 := (hS.2.cell (p := ⟨b, off + k * 4, none⟩) hbl).trans e0; have d1 := (hS.2.cell (p := ⟨b, off + k * 4 + 1, none⟩) hbl).trans e1; have d2 := (hS.2.cell (p := ⟨b, off + k * 4 + 2, none⟩) hbl).trans e2; have d3 := (hS.2.cell (p := ⟨b, off + k * 4 + 3, none⟩) hbl).trans e3; clear hS; first | (go_simp; done) | (go_simp; with_reducible rfl))
                    try simp only [Act.put, List.setIfInBounds_toArray, List.set_cons_zero, List.set_cons_succ]
                    refine wpAnyH_take (i := 6) (oi := ⟨some 141, _, _, _, _, _⟩) (v := ?_) rfl (by kernel_rfl) (by kernel_rfl) (by kernel_rfl) (fun _ _ _ h => h) (Or.inl ⟨by kernel_rfl, ?_⟩) hHeld ?_
                    rotate_left
                    focus (intro W hS; have c0_0 := (hS.1).at_ (j := 0) rfl; have c0_1 := (hS.1).at_ (j := 1) rfl; have c0_2 := (hS.1).at_ (j := 2) rfl; have c0_3 := (hS.1).at_ (j := 3) rfl; have c0_4 := (hS.1).at_ (j := 4) rfl; have c0_5 := (hS.1).at_ (j := 5) rfl; have c0_6 := (hS.1).at_ (j := 6) rfl; have c0_7 := (hS.1).at_ (j := 7) rfl; have d0 := (hS.2.cell (p := ⟨b, off + k * 4, none⟩) hbl).trans e0; have d1 := (hS.2.cell (p := ⟨b, off + k * 4 + 1, none⟩) hbl).trans e1; have d2 := (hS.2.cell (p := ⟨b, off + k * 4 + 2, none⟩) hbl).trans e2; have d3 := (hS.2.cell (p := ⟨b, off + k * 4 + 3, none⟩) hbl).trans e3; clear hS; first | (go_simp; done) | (go_simp; with_reducible rfl))
                    try simp only [Act.put, List.setIfInBounds_toArray, List.set_cons_zero, List.set_cons_succ]
                    refine wpAnyH_take (i := 7) (oi := ⟨some 142, _, _, _, _, _⟩) (v := ?_) rfl (by kernel_rfl) (by kernel_rfl) (by kernel_rfl) (fun _ _ _ h => h) (Or.inl ⟨by kernel_rfl, ?_⟩) hHeld ?_
                    rotate_left
                    focus (intro W hS; have c0_0 := (hS.1).at_ (j := 0) rfl; have c0_1 := (hS.1).at_ (j := 1) rfl; have c0_2 := (hS.1).at_ (j := 2) rfl; have c0_3 := (hS.1).at_ (j := 3) rfl; have c0_4 := (hS.1).at_ (j := 4) rfl; have c0_5 := (hS.1).at_ (j := 5) rfl; have c0_6 := (hS.1).at_ (j := 6) rfl; have c0_7 := (hS.1).at_ (j := 7) rfl; have d0 := (hS.2.cell (p := ⟨b, off + k * 4, none⟩) hbl).trans e0; have d1 := (hS.2.cell (p := ⟨b, off + k * 4 + 1, none⟩) hbl).trans e1; have d2 := (hS.2.cell (p := ⟨b, off + k * 4 + 2, none⟩) hbl).trans e2; have d3 := (hS.2.cell (p := ⟨b, off + k * 4 + 3, none⟩) hbl).trans e3; clear hS; first | (go_simp; done) | (go_simp; with_reducible rfl))
                    try simp only [Act.put, List.setIfInBounds_toArray, List.set_cons_zero, List.set_cons_succ]
                    refine wpAnyH_take (i := 8) (oi := ⟨some 143, _, _, _, _, _⟩) (v := ?_) rfl (by kernel_rfl) (by kernel_rfl) (by kernel_rfl) (fun _ _ _ h => h) (Or.inl ⟨by kernel_rfl, ?_⟩) hHeld ?_
                    rotate_left
                    focus (intro W hS; have c0_0 := (hS.1).at_ (j := 0) rfl; have c0_1 := (hS.1).at_ (j := 1) rfl; have c0_2 := (hS.1).at_ (j := 2) rfl; have c0_3 := (hS.1).at_ (j := 3) rfl; have c0_4 := (hS.1).at_ (j := 4) rfl; have c0_5 := (hS.1).at_ (j := 5) rfl; have c0_6 := (hS.1).at_ (j := 6) rfl; have c0_7 := (hS.1).at_ (j := 7) rfl; have d0 := (hS.2.cell (p := ⟨b, off + k * 4, none⟩) hbl).trans e0; have d1 := (hS.2.cell (p := ⟨b, off + k * 4 + 1, none⟩) hbl).trans e1; have d2 := (hS.2.cell (p := ⟨b, off + k * 4 + 2, none⟩) hbl).trans e2; have d3 := (hS.2.cell (p := ⟨b, off + k * 4 + 3, none⟩) hbl).trans e3; clear hS; first | (go_simp; done) | (go_simp; with_reducible rfl))
                    try simp only [Act.put, List.setIfInBounds_toArray, List.set_cons_zero, List.set_cons_succ]
                    refine wpAnyH_take (i := 9) (oi := ⟨some 144, _, _, _, _, _⟩) (v := ?_) rfl (by kernel_rfl) (by kernel_rfl) (by kernel_rfl) (fun _ _ _ h => h) (Or.inl ⟨by kernel_rfl, ?_⟩) hHeld ?_
                    rotate_left
                    focus (intro W hS; have c0_0 := (hS.1).at_ (j := 0) rfl; have c0_1 := (hS.1).at_ (j := 1) rfl; have c0_2 := (hS.1).at_ (j := 2) rfl; have c0_3 := (hS.1).at_ (j := 3) rfl; have c0_4 := (hS.1).at_ (j := 4) rfl; have c0_5 := (hS.1).at_ (j := 5) rfl; have c0_6 := (hS.1).at_ (j := 6) rfl; have c0_7 := (hS.1).at_ (j := 7) rfl; have d0 := (hS.2.cell (p := ⟨b, off + k * 4, none⟩) hbl).trans e0; have d1 := (hS.2.cell (p := ⟨b, off + k * 4 + 1, none⟩) hbl).trans e1; have d2 := (hS.2.cell (p := ⟨b, off + k * 4 + 2, none⟩) hbl).trans e2; have d3 := (hS.2.cell (p := ⟨b, off + k * 4 + 3, none⟩) hbl).trans e3; clear hS; first | (go_simp; done) | (go_simp; with_reducible rfl))
                    try simp only [Act.put, List.setIfInBounds_toArray, List.set_cons_zero, List.set_cons_succ]
                    refine wpAnyH_take (i := 10) (oi := ⟨some 145, _, _, _, _, _⟩) (v := ?_) rfl (by kernel_rfl) (by kernel_rfl) (by kernel_rfl) (fun _ _ _ h => h) (Or.inl ⟨by kernel_rfl, ?_⟩) hHeld ?_
                    rotate_left
                    focus (intro W hS; have c0_0 := (hS.1).at_ (j := 0) rfl; have c0_1 := (hS.1).at_ (j := 1) rfl; have c0_2 := (hS.1).at_ (j := 2) rfl; have c0_3 := (hS.1).at_ (j := 3) rfl; have c0_4 := (hS.1).at_ (j := 4) rfl; have c0_5 := (hS.1).at_ (j := 5) rfl; have c0_6 := (hS.1).at_ (j := 6) rfl; have c0_7 := (hS.1).at_ (j := 7) rfl; have d0 := (hS.2.cell (p := ⟨b, off + k * 4, none⟩) hbl).trans e0; have d1 := (hS.2.cell (p := ⟨b, off + k * 4 + 1, none⟩) hbl).trans e1; have d2 := (hS.2.cell (p := ⟨b, off + k * 4 + 2, none⟩) hbl).trans e2; have d3 := (hS.2.cell (p := ⟨b, off + k * 4 + 3, none⟩) hbl).trans e3; clear hS; first | (go_simp; done) | (go_simp; with_reducible rfl))
                    try simp only [Act.put, List.setIfInBounds_toArray, List.set_cons_zero, List.set_cons_succ]
                    refine wpAnyH_take (i := 11) (oi := ⟨some 146, _, _, _, _, _⟩) (v := ?_) rfl (by kernel_rfl) (by kernel_rfl) (by kernel_rfl) (fun _ _ _ h => h) (Or.inl ⟨by kernel_rfl, ?_⟩) hHeld ?_
                    rotate_left
                    focus (intro W hS; have c0_0 := (hS.1).at_ (j := 0) rfl; have c0_1 := (hS.1).at_ (j := 1) rfl; have c0_2 := (hS.1).at_ (j := 2) rfl; have c0_3 := (hS.1).at_ (j := 3) rfl; have c0_4 := (hS.1).at_ (j := 4) rfl; have c0_5 := (hS.1).at_ (j := 5) rfl; have c0_6 := (hS.1).at_ (j := 6) rfl; have c0_7 := (hS.1).at_ (j := 7) rfl; have d0 := (hS.2.cell (p := ⟨b, off + k * 4, none⟩) hbl).trans e0; have d1 := (hS.2.cell (p := ⟨b, off + k * 4 + 1, none⟩) hbl).trans e1; have d2 := (hS.2.cell (p := ⟨b, off + k * 4 + 2, none⟩) hbl).trans e2; have d3 := (hS.2.cell (p := ⟨b, off + k * 4 + 3, none⟩) hbl).trans e3; clear hS; first | (go_simp; done) | (go_simp; with_reducible rfl))
                    try simp only [Act.put, List.setIfInBounds_toArray, List.set_cons_zero, List.set_cons_succ]
                    refine wpAnyH_take (i := 12) (oi := ⟨some 147, _, _, _, _, _⟩) (v := ?_) rfl (by kernel_rfl) (by kernel_rfl) (by kernel_rfl) (fun _ _ _ h => h) (Or.inl ⟨by kernel_rfl, ?_⟩) hHeld ?_
                    rotate_left
                    focus (intro W hS; have c0_0 := (hS.1).at_ (j := 0) rfl; have c0_1 := (hS.1).at_ (j := 1) rfl; have c0_2 := (hS.1).at_ (j := 2) rfl; have c0_3 := (hS.1).at_ (j := 3) rfl; have c0_4 := (hS.1).at_ (j := 4) rfl; have c0_5 := (hS.1).at_ (j := 5) rfl; have c0_6 := (hS.1).at_ (j := 6) rfl; have c0_7 := (hS.1).at_ (j := 7) rfl; have d0 := (hS.2.cell (p := ⟨b, off + k * 4, none⟩) hbl).trans e0; have d1 := (hS.2.cell (p := ⟨b, off + k * 4 + 1, none⟩) hbl).trans e1; have d2 := (hS.2.cell (p := ⟨b, off + k * 4 + 2, none⟩) hbl).trans e2; have d3 := (hS.2.cell (p := ⟨b, off + k * 4 + 3, none⟩) hbl).trans e3; clear hS; first | (go_simp; done) | (go_simp; with_reducible rfl))
                    try simp only [Act.put, List.setIfInBounds_toArray, List.set_cons_zero, List.set_cons_succ]
                    refine wpAnyH_take (i := 13) (oi := ⟨some 148, _, _, _, _, _⟩) (v := ?_) rfl (by kernel_rfl) (by kernel_rfl) (by kernel_rfl) (fun _ _ _ h => h) (Or.inl ⟨by kernel_rfl, ?_⟩) hHeld ?_
                    rotate_left
                    focus (intro W hS; have c0_0 := (hS.1).at_ (j := 0) rfl; have c0_1 := (hS.1).at_ (j := 1) rfl; have c0_2 := (hS.1).at_ (j := 2) rfl; have c0_3 := (hS.1).at_ (j := 3) rfl; have c0_4 := (hS.1).at_ (j := 4) rfl; have c0_5 := (hS.1).at_ (j := 5) rfl; have c0_6 := (hS.1).at_ (j := 6) rfl; have c0_7 := (hS.1).at_ (j := 7) rfl; have d0 := (hS.2.cell (p := ⟨b, off + k * 4, none⟩) hbl).trans e0; have d1 := (hS.2.cell (p := ⟨b, off + k * 4 + 1, none⟩) hbl).trans e1; have d2 := (hS.2.cell (p := ⟨b, off + k * 4 + 2, none⟩) hbl).trans e2; have d3 := (hS.2.cell (p := ⟨b, off + k * 4 + 3, none⟩) hbl).trans e3; clear hS; first | (go_simp; done) | (go_simp; with_reducible rfl))
                    try simp only [Act.put, List.setIfInBounds_toArray, List.set_cons_zero, List.set_cons_succ]
                    refine wpAnyH_take (i := 14) (oi := ⟨some 149, _, _, _, _, _⟩) (v := ?_) rfl (by kernel_rfl) (by kernel_rfl) (by kernel_rfl) (fun _ _ _ h => h) (Or.inl ⟨by kernel_rfl, ?_⟩) hHeld ?_
                    rotate_left
                    focus (intro W hS; have c0_0 := (hS.1).at_ (j := 0) rfl; have c0_1 := (hS.1).at_ (j := 1) rfl; have c0_2 := (hS.1).at_ (j := 2) rfl; have c0_3 := (hS.1).at_ (j := 3) rfl; have c0_4 := (hS.1).at_ (j := 4) rfl; have c0_5 := (hS.1).at_ (j := 5) rfl; have c0_6 := (hS.1).at_ (j := 6) rfl; have c0_7 := (hS.1).at_ (j := 7) rfl; have d0 := (hS.2.cell (p := ⟨b, off + k * 4, none⟩) hbl).trans e0; have d1 := (hS.2.cell (p := ⟨b, off + k * 4 + 1, none⟩) hbl).trans e1; have d2 := (hS.2.cell (p := ⟨b, off + k * 4 + 2, none⟩) hbl).trans e2; have d3 := (hS.2.cell (p := ⟨b, off + k * 4 + 3, none⟩) hbl).trans e3; clear hS; first | (go_simp; done) | (go_simp; with_reducible rfl))
                    try simp only [Act.put, List.setIfInBounds_toArray, List.set_cons_zero, List.set_cons_succ]
                    refine wpAnyH_take (i := 15) (oi := ⟨some 150, _, _, _, _, _⟩) (v := ?_) rfl (by kernel_rfl) (by kernel_rfl) (by kernel_rfl) (fun _ _ _ h => h) (Or.inl ⟨by kernel_rfl, ?_⟩) hHeld ?_
                    rotate_left
                    focus (intro W hS; have c0_0 := (hS.1).at_ (j := 0) rfl; have c0_1 := (hS.1).at_ (j := 1) rfl; have c0_2 := (hS.1).at_ (j := 2) rfl; have c0_3 := (hS.1).at_ (j := 3) rfl; have c0_4 := (hS.1).at_ (j := 4) rfl; have c0_5 := (hS.1).at_ (j := 5) rfl; have c0_6 := (hS.1).at_ (j := 6) rfl; have c0_7 := (hS.1).at_ (j := 7) rfl; have d0 := (hS.2.cell (p := ⟨b, off + k * 4, none⟩) hbl).trans e0; have d1 := (hS.2.cell (p := ⟨b, off + k * 4 + 1, none⟩) hbl).trans e1; have d2 := (hS.2.cell (p := ⟨b, off + k * 4 + 2, none⟩) hbl).trans e2; have d3 := (hS.2.cell (p := ⟨b, off + k * 4 + 3, none⟩) hbl).trans e3; clear hS; first | (go_simp; done) | (go_simp; with_reducible rfl))
                    try simp only [Act.put, List.setIfInBounds_toArray, List.set_cons_zero, List.set_cons_succ]
                    refine wpAnyH_take (i := 16) (oi := ⟨some 151, _, _, _, _, _⟩) (v := ?_) rfl (by kernel_rfl) (by kernel_rfl) (by kernel_rfl) (fun _ _ _ h => h) (Or.inl ⟨by kernel_rfl, ?_⟩) hHeld ?_
                    rotate_left
                    focus (intro W hS; have c0_0 := (hS.1).at_ (j := 0) rfl; have c0_1 := (hS.1).at_ (j := 1) rfl; have c0_2 := (hS.1).at_ (j := 2) rfl; have c0_3 := (hS.1).at_ (j := 3) rfl; have c0_4 := (hS.1).at_ (j := 4) rfl; have c0_5 := (hS.1).at_ (j := 5) rfl; have c0_6 := (hS.1).at_ (j := 6) rfl; have c0_7 := (hS.1).at_ (j := 7) rfl; have d0 := (hS.2.cell (p := ⟨b, off + k * 4, none⟩) hbl).trans e0; have d1 := (hS.2.cell (p := ⟨b, off + k * 4 + 1, none⟩) hbl).trans e1; have d2 := (hS.2.cell (p := ⟨b, off + k * 4 + 2, none⟩) hbl).trans e2; have d3 := (hS.2.cell (p := ⟨b, off + k * 4 + 3, none⟩) hbl).trans e3; clear hS; first | (go_simp; done) | (go_simp; with_reducible rfl))
                    try simp only [Act.put, List.setIfInBounds_toArray, List.set_cons_zero, List.set_cons_succ]
                    refine wpAnyH_take (i := 17) (oi := ⟨some 152, _, _, _, _, _⟩) (v := ?_) rfl (by kernel_rfl) (by kernel_rfl) (by kernel_rfl) (fun _ _ _ h => h) (Or.inl ⟨by kernel_rfl, ?_⟩) hHeld ?_
                    rotate_left
                    focus (intro W hS; have c0_0 := (hS.1).at_ (j := 0) rfl; have c0_1 := (hS.1).at_ (j := 1) rfl; have c0_2 := (hS.1).at_ (j := 2) rfl; have c0_3 := (hS.1).at_ (j := 3) rfl; have c0_4 := (hS.1).at_ (j := 4) rfl; have c0_5 := (hS.1).at_ (j := 5) rfl; have c0_6 := (hS.1).at_ (j := 6) rfl; have c0_7 := (hS.1).at_ (j := 7) rfl; have d0 := (hS.2.cell (p := ⟨b, off + k * 4, none⟩) hbl).trans e0; have d1 := (hS.2.cell (p := ⟨b, off + k * 4 + 1, none⟩) hbl).trans e1; have d2 := (hS.2.cell (p := ⟨b, off + k * 4 + 2, none⟩) hbl).trans e2; have d3 := (hS.2.cell (p := ⟨b, off + k * 4 + 3, none⟩) hbl).trans e3; clear hS; first | (go_simp; done) | (go_simp; with_reducible rfl))
                    try simp only [Act.put, List.setIfInBounds_toArray, List.set_cons_zero, List.set_cons_succ]
                    refine wpAnyH_take (i := 18) (oi := ⟨some 153, _, _, _, _, _⟩) (v := ?_) rfl (by kernel_rfl) (by kernel_rfl) (by kernel_rfl) (fun _ _ _ h => h) (Or.inl ⟨by kernel_rfl, ?_⟩) hHeld ?_
                    rotate_left
                    focus (intro W hS; have c0_0 := (hS.1).at_ (j := 0) rfl; have c0_1 := (hS.1).at_ (j := 1) rfl; have c0_2 := (hS.1).at_ (j := 2) rfl; have c0_3 := (hS.1).at_ (j := 3) rfl; have c0_4 := (hS.1).at_ (j := 4) rfl; have c0_5 := (hS.1).at_ (j := 5) rfl; have c0_6 := (hS.1).at_ (j := 6) rfl; have c0_7 := (hS.1).at_ (j := 7) rfl; have d0 := (hS.2.cell (p := ⟨b, off + k * 4, none⟩) hbl).trans e0; have d1 := (hS.2.cell (p := ⟨b, off + k * 4 + 1, none⟩) hbl).trans e1; have d2 := (hS.2.cell (p := ⟨b, off + k * 4 + 2, none⟩) hbl).trans e2; have d3 := (hS.2.cell (p := ⟨b, off + k * 4 + 3, none⟩) hbl).trans e3; clear hS; first | (go_simp; done) | (go_simp; with_reducible rfl))
                    try simp only [Act.put, List.setIfInBounds_toArray, List.set_cons_zero, List.set_cons_succ]
                    refine wpAnyH_take (i := 19) (oi := ⟨some 154, _, _, _, _, _⟩) (v := ?_) rfl (by kernel_rfl) (by kernel_rfl) (by kernel_rfl) (fun _ _ _ h => h) (Or.inl ⟨by kernel_rfl, ?_⟩) hHeld ?_
                    rotate_left
                    focus (intro W hS; have c0_0 := (hS.1).at_ (j := 0) rfl; have c0_1 := (hS.1).at_ (j := 1) rfl; have c0_2 := (hS.1).at_ (j := 2) rfl; have c0_3 := (hS.1).at_ (j := 3) rfl; have c0_4 := (hS.1).at_ (j := 4) rfl; have c0_5 := (hS.1).at_ (j := 5) rfl; have c0_6 := (hS.1).at_ (j := 6) rfl; have c0_7 := (hS.1).at_ (j := 7) rfl; have d0 := (hS.2.cell (p := ⟨b, off + k * 4, none⟩) hbl).trans e0; have d1 := (hS.2.cell (p := ⟨b, off + k * 4 + 1, none⟩) hbl).trans e1; have d2 := (hS.2.cell (p := ⟨b, off + k * 4 + 2, none⟩) hbl).trans e2; have d3 := (hS.2.cell (p := ⟨b, off + k * 4 + 3, none⟩) hbl).trans e3; clear hS; first | (go_simp; done) | (go_simp; with_reducible rfl))
                    try simp only [Act.put, List.setIfInBounds_toArray, List.set_cons_zero, List.set_cons_succ]
                    refine wpAnyH_take (i := 20) (oi := ⟨some 155, _, _, _, _, _⟩) (v := ?_) rfl (by kernel_rfl) (by kernel_rfl) (by kernel_rfl) (fun _ _ _ h => h) (Or.inl ⟨by kernel_rfl, ?_⟩) hHeld ?_
                    rotate_left
                    focus (intro W hS; have c0_0 := (hS.1).at_ (j := 0) rfl; have c0_1 := (hS.1).at_ (j := 1) rfl; have c0_2 := (hS.1).at_ (j := 2) rfl; have c0_3 := (hS.1).at_ (j := 3) rfl; have c0_4 := (hS.1).at_ (j := 4) rfl; have c0_5 := (hS.1).at_ (j := 5) rfl; have c0_6 := (hS.1).at_ (j := 6) rfl; have c0_7 := (hS.1).at_ (j := 7) rfl; have d0 := (hS.2.cell (p := ⟨b, off + k * 4, none⟩) hbl).trans e0; have d1 := (hS.2.cell (p := ⟨b, off + k * 4 + 1, none⟩) hbl).trans e1; have d2 := (hS.2.cell (p := ⟨b, off + k * 4 + 2, none⟩) hbl).trans e2; have d3 := (hS.2.cell (p := ⟨b, off + k * 4 + 3, none⟩) hbl).trans e3; clear hS; first | (go_simp; done) | (go_simp; with_reducible rfl))
                    try simp only [Act.put, List.setIfInBounds_toArray, List.set_cons_zero, List.set_cons_succ]
                    refine wpAnyH_take (i := 21) (oi := ⟨some 156, _, _, _, _, _⟩) (v := ?_) rfl (by kernel_rfl) (by kernel_rfl) (by kernel_rfl) (fun _ _ _ h => h) (Or.inl ⟨by kernel_rfl, ?_⟩) hHeld ?_
                    rotate_left
                    focus (intro W hS; have c0_0 := (hS.1).at_ (j := 0) rfl; have c0_1 := (hS.1).at_ (j := 1) rfl; have c0_2 := (hS.1).at_ (j := 2) rfl; have c0_3 := (hS.1).at_ (j := 3) rfl; have c0_4 := (hS.1).at_ (j := 4) rfl; have c0_5 := (hS.1).at_ (j := 5) rfl; have c0_6 := (hS.1).at_ (j := 6) rfl; have c0_7 := (hS.1).at_ (j := 7) rfl; have d0 := (hS.2.cell (p := ⟨b, off + k * 4, none⟩) hbl).trans e0; have d1 := (hS.2.cell (p := ⟨b, off + k * 4 + 1, none⟩) hbl).trans e1; have d2 := (hS.2.cell (p := ⟨b, off + k * 4 + 2, none⟩) hbl).trans e2; have d3 := (hS.2.cell (p := ⟨b, off + k * 4 + 3, none⟩) hbl).trans e3; clear hS; first | (go_simp; done) | (go_simp; with_reducible rfl))
                    try simp only [Act.put, List.setIfInBounds_toArray, List.set_cons_zero, List.set_cons_succ]
                    refine wpAnyH_take (i := 22) (oi := ⟨some 157, _, _, _, _, _⟩) (v := ?_) rfl (by kernel_rfl) (by kernel_rfl) (by kernel_rfl) (fun _ _ _ h => h) (Or.inl ⟨by kernel_rfl, ?_⟩) hHeld ?_
                    rotate_left
                    focus (intro W hS; have c0_0 := (hS.1).at_ (j := 0) rfl; have c0_1 := (hS.1).at_ (j := 1) rfl; have c0_2 := (hS.1).at_ (j := 2) rfl; have c0_3 := (hS.1).at_ (j := 3) rfl; have c0_4 := (hS.1).at_ (j := 4) rfl; have c0_5 := (hS.1).at_ (j := 5) rfl; have c0_6 := (hS.1).at_ (j := 6) rfl; have c0_7 := (hS.1).at_ (j := 7) rfl; have d0 := (hS.2.cell (p := ⟨b, off + k * 4, none⟩) hbl).trans e0; have d1 := (hS.2.cell (p := ⟨b, off + k * 4 + 1, none⟩) hbl).trans e1; have d2 := (hS.2.cell (p := ⟨b, off + k * 4 + 2, none⟩) hbl).trans e2; have d3 := (hS.2.cell (p := ⟨b, off + k * 4 + 3, none⟩) hbl).trans e3; clear hS; first | (go_simp; done) | (go_simp; with_reducible rfl))
                    try simp only [Act.put, List.setIfInBounds_toArray, List.set_cons_zero, List.set_cons_succ]
                    refine wpAnyH_take (i := 23) (oi := ⟨some 158, _, _, _, _, _⟩) (v := ?_) rfl (by kernel_rfl) (by kernel_rfl) (by kernel_rfl) (fun _ _ _ h => h) (Or.inl ⟨by kernel_rfl, ?_⟩) hHeld ?_
                    rotate_left
                    focus (intro W hS; have c0_0 := (hS.1).at_ (j := 0) rfl; have c0_1 := (hS.1).at_ (j := 1) rfl; have c0_2 := (hS.1).at_ (j := 2) rfl; have c0_3 := (hS.1).at_ (j := 3) rfl; have c0_4 := (hS.1).at_ (j := 4) rfl; have c0_5 := (hS.1).at_ (j := 5) rfl; have c0_6 := (hS.1).at_ (j := 6) rfl; have c0_7 := (hS.1).at_ (j := 7) rfl; have d0 := (hS.2.cell (p := ⟨b, off + k * 4, none⟩) hbl).trans e0; have d1 := (hS.2.cell (p := ⟨b, off + k * 4 + 1, none⟩) hbl).trans e1; have d2 := (hS.2.cell (p := ⟨b, off + k * 4 + 2, none⟩) hbl).trans e2; have d3 := (hS.2.cell (p := ⟨b, off + k * 4 + 3, none⟩) hbl).trans e3; clear hS; first | (go_simp; done) | (go_simp; with_reducible rfl))
                    try simp only [Act.put, List.setIfInBounds_toArray, List.set_cons_zero, List.set_cons_succ]
                    refine wpAnyH_take (i := 24) (oi := ⟨some 159, _, _, _, _, _⟩) (v := ?_) rfl (by kernel_rfl) (by kernel_rfl) (by kernel_rfl) (fun _ _ _ h => h) (Or.inl ⟨by kernel_rfl, ?_⟩) hHeld ?_
                    rotate_left
                    focus (intro W hS; have c0_0 := (hS.1).at_ (j := 0) rfl; have c0_1 := (hS.1).at_ (j := 1) rfl; have c0_2 := (hS.1).at_ (j := 2) rfl; have c0_3 := (hS.1).at_ (j := 3) rfl; have c0_4 := (hS.1).at_ (j := 4) rfl; have c0_5 := (hS.1).at_ (j := 5) rfl; have c0_6 := (hS.1).at_ (j := 6) rfl; have c0_7 := (hS.1).at_ (j := 7) rfl; have d0 := (hS.2.cell (p := ⟨b, off + k * 4, none⟩) hbl).trans e0; have d1 := (hS.2.cell (p := ⟨b, off + k * 4 + 1, none⟩) hbl).trans e1; have d2 := (hS.2.cell (p := ⟨b, off + k * 4 + 2, none⟩) hbl).trans e2; have d3 := (hS.2.cell (p := ⟨b, off + k * 4 + 3, none⟩) hbl).trans e3; clear hS; first | (go_simp; done) | (go_simp; with_reducible rfl))
                    try simp only [Act.put, List.setIfInBounds_toArray, List.set_cons_zero, List.set_cons_succ]
                    refine wpAnyH_ready (rs := [25]) (by kernel_rfl) (by simp) ?_
                    refine AllReadyH.cons (o := ⟨some 160, _, _, _, _, _⟩) rfl (fun K hK => ?_) AllReadyH.nil
                    go_simp
                    have Gbl := box_new (x0) 3 #[.int .i64 x.f0, .int .i64 x.f1, .int .i64 x.f2, .int .i64 x.f3]
                    have hb1 := (Below.refl (x0).heap.size (x0)).alloc (Nat.le_refl _) (.cells #[.int .i64 x.f0, .int .i64 x.f1, .int .i64 x.f2, .int .i64 x.f3] 3)
                    have Lbl : w1.heap.size ≤ (x0).heap.size := by have := (hHeld.1).lt; have := (hHeld.2).size; omega
                    have M0bl : w.heap.size < (x0).heap.size := (hHeld.1).lt
                    replace GK := own_newer GK hb1
                    generalize (x0).alloc (.cells #[.int .i64 x.f0, .int .i64 x.f1, .int .i64 x.f2, .int .i64 x.f3] 3) = x1 at hb1 Gbl GK ⊢
                    generalize hg : (x0).heap.size = gbl at Gbl Lbl M0bl ⊢
                    clear hg
                    refine hK.out _ _ ⟨hHeld.1.new hb1, below_trans hHeld.2 hb1 (Nat.le_refl _)⟩ (fun hHeld' => ?_)
                    clear hK K hHeld hb1
                    have hHeld := hHeld'
                    clear hHeld'
                    try simp only [Act.put, List.setIfInBounds_toArray, List.set_cons_zero, List.set_cons_succ]
                    refine wpAnyH_ready (rs := [26]) (by kernel_rfl) (by simp) ?_
                    refine AllReadyH.cons (o := ⟨some 161, _, _, _, _, _⟩) rfl (fun K hK => ?_) AllReadyH.nil
                    refine step_appo rfl _ _ _ (by rfl) w1.heap.size 3 (.int .i64 0) 1 8 Tryz.underlying72 info_int rfl (by decide) _ (by rfl) (nn) ((i64s X)) GK gbl (gbl + 1) (some ⟨gbl, 0, none⟩) 4 4 (#[.int .i64 x.f0, .int .i64 x.f1, .int .i64 x.f2, .int .i64 x.f3] : Array Value).toList (by rfl) (pk_boxp Gbl 4 rfl) (ones_i64s _ (by rfl)) (by unfold maxLen; omega) (by omega) (by have := (hHeld.2).size; omega) ?_
                    intro Vp x2 hO hb0 hgr
                    have hsz0 := hb0.size
                    clear Gbl
                    have OWp := hO
                    have hb1 := hb0.mono (show w1.heap.size ≤ w1.heap.size by omega)
                    refine hK.out _ _ ⟨(by have := (hHeld.1).lt; exact hHeld.1.chg (chg_of_below hb0) (by omega)), (hHeld.2).trans hb1⟩ (fun hHeld' => ?_)
                    clear hK K hHeld hb1 hb0 hgr hO
                    have hHeld := hHeld'
                    clear hHeld'
                    try simp only [Act.put, List.setIfInBounds_toArray, List.set_cons_zero, List.set_cons_succ]
                    refine wpAnyH_take (i := 27) (oi := ⟨some 3, _, _, _, _, _⟩) (v := ?_) rfl (by kernel_rfl) (by kernel_rfl) (by kernel_rfl) (fun _ _ _ h => h) (Or.inl ⟨by kernel_rfl, ?_⟩) hHeld ?_
                    rotate_left
                    focus (intro W hS; have c0_0 := (hS.1).at_ (j := 0) rfl; have c0_1 := (hS.1).at_ (j := 1) rfl; have c0_2 := (hS.1).at_ (j := 2) rfl; have c0_3 := (hS.1).at_ (j := 3) rfl; have c0_4 := (hS.1).at_ (j := 4) rfl; have c0_5 := (hS.1).at_ (j := 5) rfl; have c0_6 := (hS.1).at_ (j := 6) rfl; have c0_7 := (hS.1).at_ (j := 7) rfl; have d0 := (hS.2.cell (p := ⟨b, off + k * 4, none⟩) hbl).trans e0; have d1 := (hS.2.cell (p := ⟨b, off + k * 4 + 1, none⟩) hbl).trans e1; have d2 := (hS.2.cell (p := ⟨b, off + k * 4 + 2, none⟩) hbl).trans e2; have d3 := (hS.2.cell (p := ⟨b, off + k * 4 + 3, none⟩) hbl).trans e3; clear hS; first | (go_simp; done) | (go_simp; with_reducible rfl))
                    try simp only [Act.put, List.setIfInBounds_toArray, List.set_cons_zero, List.set_cons_succ]
                    refine wpAnyH_done (by kernel_rfl) ?_ _
                    have HO3 := Lib.hid (show x2.ownsRow w1.heap.size 3 1 Vp (nn + 4) (i64s (X ++ iO x)) by rw [i64s_app]; exact OWp)
                    have KB3 := Lib.hid hHeld.1
                    have HB3 := Lib.hid hHeld.2
                    clear OWp hHeld
                    go_wp2_with fail
                    go_roundg (n6 - (k + 1))
                    case measure => omega
                    case rel => exact ⟨k + 1, nn + 4, X ++ iO x, by omega, by omega, by go_num, by omega, Lib.hid ⟨HX1.out, by rw [List.length_append, HX.out.2]; rfl⟩, HO3, KB3, HB3⟩
                  · obtain rfl : n6 = k := by omega
                    have HT := Lib.hid (show X = P3 ++ l6.flatMap iO by rw [HX.out.1, List.take_of_length_le (by rw [HL6.out]; omega)])
                    have k0 := KB.out.at_ (j := 0) rfl
                    have k1 := KB.out.at_ (j := 1) rfl
                    have k2 := KB.out.at_ (j := 2) rfl
                    have k3 := KB.out.at_ (j := 3) rfl
                    have k4 := KB.out.at_ (j := 4) rfl
                    have k5 := KB.out.at_ (j := 5) rfl
                    have k6 := KB.out.at_ (j := 6) rfl
                    have k7 := KB.out.at_ (j := 7) rfl
                    have hkl := KB.out.lt
                    have HE2 := Lib.hid (show mPInts p0 p1 p2 l3 l4 l5 l6 = X by
                      rw [HE.out, HT.out, ← HP3.out, ← HP2.out, ← HP1.out, ← HP0.out]
                      unfold mAll cnt
                      rw [HL3.out, HL4.out, HL5.out, HL6.out]
                      simp)
                    have HBf := Lib.hid (HB1.out.trans (HB.out.mono hs0))
                    go_wp2_with fail
                    go_ret
                    rw [HE2.out, ← HX.out.2]
                    exact makes_of_own (own_base HO.out hs0) HBf.out
end Go.Proofs.YtmelfgimhilhbaaGreatDoor
