/- The law FnExactRulesInForce answers true for every argument, and leaves each argument as it was. No condition. -/
import Derived.Deep.RegionHeld3
import Derived.Deep.DeepCutAuto
import Derived.Test.YtfhoemgpilpapaaDBrowser
import Derived.Test.YtfhoemgpilpapaaTRule
import Derived.Test.YtfhoemgpilpapaaTSite
import Derived.Test.YtfhoemgpilpapaaRifS
namespace Go.Proofs.Ytfhoemgpilpapaa.fnExactRulesInForce
open Go Go.ChangeShapes Go.WideShapes Go.ChangeAt Go.RowKit Go.Lib
open Go.ChangeMaps (open_string)
set_option linter.unusedVariables false
set_option linter.unusedSimpArgs false
set_option maxRecDepth 100000

set_option maxRecDepth 100000 in
set_option maxHeartbeats 20000000 in
theorem walk (x0 : DBrowser) (a1 : TSite) (w : World) (R0 : x0.rd w 0 w.heap.size) (H0 : Hid x0.dat.ok) (H1 : Hid (TSite.fit a1)) :
    Calls Try.prog 9 #[.agg #[.int .i64 x0.p0, .slice x0.A1 x0.n1 x0.c1, .slice x0.A2 x0.n2 x0.c2, .slice x0.A3 x0.n3 x0.c3, .slice x0.A4 x0.n4 x0.c4, .slice x0.A5 x0.n5 x0.c5, .slice x0.A6 x0.n6 x0.c6, .int .i64 x0.p7], .agg #[.int .i64 a1.f0, .int .i64 a1.f1]] w fun e w' => e = .returned (.bool true) ∧ Below w.heap.size w w' := by
  by_cases hz0 : x0.dat.sz ≤ 1048576
  · skip
    have hl0 : (mRIF x0.dat a1).length ≤ 1073741823 := by (have := mRIF_len x0.dat a1; omega)
    have G : Below w.heap.size w ((w.alloc (.cells #[.int .i64 x0.p0, .slice x0.A1 x0.n1 x0.c1, .slice x0.A2 x0.n2 x0.c2, .slice x0.A3 x0.n3 x0.c3, .slice x0.A4 x0.n4 x0.c4, .slice x0.A5 x0.n5 x0.c5, .slice x0.A6 x0.n6 x0.c6, .int .i64 x0.p7] 29)).alloc (.cells #[.int .i64 a1.f0, .int .i64 a1.f1] 51)) := ((Below.refl _ _).alloc (by simp) _).alloc (by simp) _
    have S0 := Lib.hid (show ((w.alloc (.cells #[.int .i64 x0.p0, .slice x0.A1 x0.n1 x0.c1, .slice x0.A2 x0.n2 x0.c2, .slice x0.A3 x0.n3 x0.c3, .slice x0.A4 x0.n4 x0.c4, .slice x0.A5 x0.n5 x0.c5, .slice x0.A6 x0.n6 x0.c6, .int .i64 x0.p7] 29)).alloc (.cells #[.int .i64 a1.f0, .int .i64 a1.f1] 51)).heap.size = w.heap.size + 2 by simp)
    replace R0 := R0.alloc (.cells #[.int .i64 x0.p0, .slice x0.A1 x0.n1 x0.c1, .slice x0.A2 x0.n2 x0.c2, .slice x0.A3 x0.n3 x0.c3, .slice x0.A4 x0.n4 x0.c4, .slice x0.A5 x0.n5 x0.c5, .slice x0.A6 x0.n6 x0.c6, .int .i64 x0.p7] 29)
    have KB0 : BoxAt (w.alloc (.cells #[.int .i64 x0.p0, .slice x0.A1 x0.n1 x0.c1, .slice x0.A2 x0.n2 x0.c2, .slice x0.A3 x0.n3 x0.c3, .slice x0.A4 x0.n4 x0.c4, .slice x0.A5 x0.n5 x0.c5, .slice x0.A6 x0.n6 x0.c6, .int .i64 x0.p7] 29)) (w.heap.size) 29 #[.int .i64 x0.p0, .slice x0.A1 x0.n1 x0.c1, .slice x0.A2 x0.n2 x0.c2, .slice x0.A3 x0.n3 x0.c3, .slice x0.A4 x0.n4 x0.c4, .slice x0.A5 x0.n5 x0.c5, .slice x0.A6 x0.n6 x0.c6, .int .i64 x0.p7] := box_new _ _ _
    replace R0 := R0.alloc (.cells #[.int .i64 a1.f0, .int .i64 a1.f1] 51)
    replace KB0 := KB0.alloc_ (.cells #[.int .i64 a1.f0, .int .i64 a1.f1] 51)
    have KB1 : BoxAt ((w.alloc (.cells #[.int .i64 x0.p0, .slice x0.A1 x0.n1 x0.c1, .slice x0.A2 x0.n2 x0.c2, .slice x0.A3 x0.n3 x0.c3, .slice x0.A4 x0.n4 x0.c4, .slice x0.A5 x0.n5 x0.c5, .slice x0.A6 x0.n6 x0.c6, .int .i64 x0.p7] 29)).alloc (.cells #[.int .i64 a1.f0, .int .i64 a1.f1] 51)) (w.heap.size + 1) 51 #[.int .i64 a1.f0, .int .i64 a1.f1] := by simpa using box_new (w.alloc (.cells #[.int .i64 x0.p0, .slice x0.A1 x0.n1 x0.c1, .slice x0.A2 x0.n2 x0.c2, .slice x0.A3 x0.n3 x0.c3, .slice x0.A4 x0.n4 x0.c4, .slice x0.A5 x0.n5 x0.c5, .slice x0.A6 x0.n6 x0.c6, .int .i64 x0.p7] 29)) 51 #[.int .i64 a1.f0, .int .i64 a1.f1]
    go_enter Try.func9, Try.ntmps9
    have xKB0_0 : ((w.alloc (.cells #[.int .i64 x0.p0, .slice x0.A1 x0.n1 x0.c1, .slice x0.A2 x0.n2 x0.c2, .slice x0.A3 x0.n3 x0.c3, .slice x0.A4 x0.n4 x0.c4, .slice x0.A5 x0.n5 x0.c5, .slice x0.A6 x0.n6 x0.c6, .int .i64 x0.p7] 29)).alloc (.cells #[.int .i64 a1.f0, .int .i64 a1.f1] 51)).cell? ⟨w.heap.size, 0, none⟩ = some (.int .i64 x0.p0) := KB0.at_ rfl
    have xKB0_1 : ((w.alloc (.cells #[.int .i64 x0.p0, .slice x0.A1 x0.n1 x0.c1, .slice x0.A2 x0.n2 x0.c2, .slice x0.A3 x0.n3 x0.c3, .slice x0.A4 x0.n4 x0.c4, .slice x0.A5 x0.n5 x0.c5, .slice x0.A6 x0.n6 x0.c6, .int .i64 x0.p7] 29)).alloc (.cells #[.int .i64 a1.f0, .int .i64 a1.f1] 51)).cell? ⟨w.heap.size, 1, none⟩ = some (.slice x0.A1 x0.n1 x0.c1) := KB0.at_ rfl
    have xKB0_2 : ((w.alloc (.cells #[.int .i64 x0.p0, .slice x0.A1 x0.n1 x0.c1, .slice x0.A2 x0.n2 x0.c2, .slice x0.A3 x0.n3 x0.c3, .slice x0.A4 x0.n4 x0.c4, .slice x0.A5 x0.n5 x0.c5, .slice x0.A6 x0.n6 x0.c6, .int .i64 x0.p7] 29)).alloc (.cells #[.int .i64 a1.f0, .int .i64 a1.f1] 51)).cell? ⟨w.heap.size, 2, none⟩ = some (.slice x0.A2 x0.n2 x0.c2) := KB0.at_ rfl
    have xKB0_3 : ((w.alloc (.cells #[.int .i64 x0.p0, .slice x0.A1 x0.n1 x0.c1, .slice x0.A2 x0.n2 x0.c2, .slice x0.A3 x0.n3 x0.c3, .slice x0.A4 x0.n4 x0.c4, .slice x0.A5 x0.n5 x0.c5, .slice x0.A6 x0.n6 x0.c6, .int .i64 x0.p7] 29)).alloc (.cells #[.int .i64 a1.f0, .int .i64 a1.f1] 51)).cell? ⟨w.heap.size, 3, none⟩ = some (.slice x0.A3 x0.n3 x0.c3) := KB0.at_ rfl
    have xKB0_4 : ((w.alloc (.cells #[.int .i64 x0.p0, .slice x0.A1 x0.n1 x0.c1, .slice x0.A2 x0.n2 x0.c2, .slice x0.A3 x0.n3 x0.c3, .slice x0.A4 x0.n4 x0.c4, .slice x0.A5 x0.n5 x0.c5, .slice x0.A6 x0.n6 x0.c6, .int .i64 x0.p7] 29)).alloc (.cells #[.int .i64 a1.f0, .int .i64 a1.f1] 51)).cell? ⟨w.heap.size, 4, none⟩ = some (.slice x0.A4 x0.n4 x0.c4) := KB0.at_ rfl
    have xKB0_5 : ((w.alloc (.cells #[.int .i64 x0.p0, .slice x0.A1 x0.n1 x0.c1, .slice x0.A2 x0.n2 x0.c2, .slice x0.A3 x0.n3 x0.c3, .slice x0.A4 x0.n4 x0.c4, .slice x0.A5 x0.n5 x0.c5, .slice x0.A6 x0.n6 x0.c6, .int .i64 x0.p7] 29)).alloc (.cells #[.int .i64 a1.f0, .int .i64 a1.f1] 51)).cell? ⟨w.heap.size, 5, none⟩ = some (.slice x0.A5 x0.n5 x0.c5) := KB0.at_ rfl
    have xKB0_6 : ((w.alloc (.cells #[.int .i64 x0.p0, .slice x0.A1 x0.n1 x0.c1, .slice x0.A2 x0.n2 x0.c2, .slice x0.A3 x0.n3 x0.c3, .slice x0.A4 x0.n4 x0.c4, .slice x0.A5 x0.n5 x0.c5, .slice x0.A6 x0.n6 x0.c6, .int .i64 x0.p7] 29)).alloc (.cells #[.int .i64 a1.f0, .int .i64 a1.f1] 51)).cell? ⟨w.heap.size, 6, none⟩ = some (.slice x0.A6 x0.n6 x0.c6) := KB0.at_ rfl
    have xKB0_7 : ((w.alloc (.cells #[.int .i64 x0.p0, .slice x0.A1 x0.n1 x0.c1, .slice x0.A2 x0.n2 x0.c2, .slice x0.A3 x0.n3 x0.c3, .slice x0.A4 x0.n4 x0.c4, .slice x0.A5 x0.n5 x0.c5, .slice x0.A6 x0.n6 x0.c6, .int .i64 x0.p7] 29)).alloc (.cells #[.int .i64 a1.f0, .int .i64 a1.f1] 51)).cell? ⟨w.heap.size, 7, none⟩ = some (.int .i64 x0.p7) := KB0.at_ rfl
    go_wp2_with fail
    refine Calls.mono (sz_browser x0 _ _ (1048576) _ R0 (by omega) (by omega)) ?_
    rintro e w1 ⟨rfl, B1⟩
    replace R0 := (R0).new B1
    replace KB0 := (KB0).new B1
    replace KB1 := (KB1).new B1
    replace G := below_trans G B1 (Nat.le_refl _)
    have S1 := Lib.hid (show ((w.alloc (.cells #[.int .i64 x0.p0, .slice x0.A1 x0.n1 x0.c1, .slice x0.A2 x0.n2 x0.c2, .slice x0.A3 x0.n3 x0.c3, .slice x0.A4 x0.n4 x0.c4, .slice x0.A5 x0.n5 x0.c5, .slice x0.A6 x0.n6 x0.c6, .int .i64 x0.p7] 29)).alloc (.cells #[.int .i64 a1.f0, .int .i64 a1.f1] 51)).heap.size + 0 ≤ w1.heap.size by have := B1.size; first | (simpa using this) | ((try simp at this); omega))
    clear B1
    clear xKB0_0 xKB0_1 xKB0_2 xKB0_3 xKB0_4 xKB0_5 xKB0_6 xKB0_7
    go_wp2_with fail
    replace G := G.drew
    replace R0 := R0.drw
    replace KB0 := KB0.drw
    replace KB1 := KB1.drw
    go_region_held3 (fun w' => w'.cell? ⟨w.heap.size, 0, none⟩ = some (.int .i64 x0.p0) ∧ w'.cell? ⟨w.heap.size, 1, none⟩ = some (.slice x0.A1 x0.n1 x0.c1) ∧ w'.cell? ⟨w.heap.size, 2, none⟩ = some (.slice x0.A2 x0.n2 x0.c2) ∧ w'.cell? ⟨w.heap.size, 3, none⟩ = some (.slice x0.A3 x0.n3 x0.c3) ∧ w'.cell? ⟨w.heap.size, 4, none⟩ = some (.slice x0.A4 x0.n4 x0.c4) ∧ w'.cell? ⟨w.heap.size, 5, none⟩ = some (.slice x0.A5 x0.n5 x0.c5) ∧ w'.cell? ⟨w.heap.size, 6, none⟩ = some (.slice x0.A6 x0.n6 x0.c6) ∧ w'.cell? ⟨w.heap.size, 7, none⟩ = some (.int .i64 x0.p7) ∧ w'.cell? ⟨w.heap.size + 1, 0, none⟩ = some (.int .i64 a1.f0) ∧ w'.cell? ⟨w.heap.size + 1, 1, none⟩ = some (.int .i64 a1.f1))
      (exact ⟨KB0.at_ rfl, KB0.at_ rfl, KB0.at_ rfl, KB0.at_ rfl, KB0.at_ rfl, KB0.at_ rfl, KB0.at_ rfl, KB0.at_ rfl, KB1.at_ rfl, KB1.at_ rfl⟩)
      (first
        | (go_at_call 13; (fail_if_success (have hx := B2)); refine Calls.mono (to_browser x0 _ _ _ (by omega) R0) ?_; rintro e w2 ⟨T2, rfl, ET2, FT2, B2⟩; (replace ET2 := Lib.hid ET2); (replace R0 := DBrowser.rd_nw B2 R0); (replace KB0 := box_nw B2 KB0); (replace KB1 := box_nw B2 KB1); (replace G := (by first | exact below_trans G B2 (Nat.le_refl _) | exact below_trans G.drew B2 (Nat.le_refl _) | exact below_trans (below_dN G _) B2 (Nat.le_refl _))); (have S2 := Lib.hid (show w1.heap.size ≤ w2.heap.size from B2.size)))
        | (go_at_call 31; (fail_if_success (have hx := B3)); refine Calls.mono (to_site_one a1 _) ?_; rintro e w3 ⟨rfl, B3⟩; (replace R0 := DBrowser.rd_nw B3 R0); (replace KB0 := box_nw B3 KB0); (replace KB1 := box_nw B3 KB1); (replace FT2 := DBrowser.fr_nw B3 FT2); (replace G := (by first | exact below_trans G B3 (Nat.le_refl _) | exact below_trans G.drew B3 (Nat.le_refl _) | exact below_trans (below_dN G _) B3 (Nat.le_refl _))); (have S3 := Lib.hid (show w2.heap.size ≤ w3.heap.size from B3.size)))
        | (go_at_call 30; (fail_if_success (have hx := B4)); refine Calls.mono (spec_RulesInForce T2 x0.dat _ _ a1 _ ET2.out (by omega) H0.out FT2.rd FT2.caps) ?_; rintro e w4 ⟨P4_0, pc4_0, rfl, FP4_0, B4⟩; (replace R0 := DBrowser.rd_nw B4 R0); (replace KB0 := box_nw B4 KB0); (replace KB1 := box_nw B4 KB1); (replace FT2 := DBrowser.fr_nw B4 FT2); (replace G := (by first | exact below_trans G B4 (Nat.le_refl _) | exact below_trans G.drew B4 (Nat.le_refl _) | exact below_trans (below_dN G _) B4 (Nat.le_refl _))); (have S4 := Lib.hid (show w3.heap.size ≤ w4.heap.size from B4.size))))
    clear B2
    clear B3
    clear B4
    clear FT2
    have xKB0_0 : w4.cell? ⟨w.heap.size, 0, none⟩ = some (.int .i64 x0.p0) := KB0.at_ rfl
    have xKB0_1 : w4.cell? ⟨w.heap.size, 1, none⟩ = some (.slice x0.A1 x0.n1 x0.c1) := KB0.at_ rfl
    have xKB0_2 : w4.cell? ⟨w.heap.size, 2, none⟩ = some (.slice x0.A2 x0.n2 x0.c2) := KB0.at_ rfl
    have xKB0_3 : w4.cell? ⟨w.heap.size, 3, none⟩ = some (.slice x0.A3 x0.n3 x0.c3) := KB0.at_ rfl
    have xKB0_4 : w4.cell? ⟨w.heap.size, 4, none⟩ = some (.slice x0.A4 x0.n4 x0.c4) := KB0.at_ rfl
    have xKB0_5 : w4.cell? ⟨w.heap.size, 5, none⟩ = some (.slice x0.A5 x0.n5 x0.c5) := KB0.at_ rfl
    have xKB0_6 : w4.cell? ⟨w.heap.size, 6, none⟩ = some (.slice x0.A6 x0.n6 x0.c6) := KB0.at_ rfl
    have xKB0_7 : w4.cell? ⟨w.heap.size, 7, none⟩ = some (.int .i64 x0.p7) := KB0.at_ rfl
    go_wp2_with fail
    refine Calls.mono (to_browser x0 _ _ _ (by omega) R0) ?_
    rintro e w5 ⟨T5, rfl, ET5, FT5, B5⟩
    replace ET5 := Lib.hid ET5
    replace R0 := (R0).new B5
    replace KB0 := (KB0).new B5
    replace KB1 := (KB1).new B5
    replace FP4_0 := (FP4_0).new B5
    replace G := below_trans G B5 (Nat.le_refl _)
    have S5 := Lib.hid (show w4.heap.size + 0 ≤ w5.heap.size by have := B5.size; first | (simpa using this) | ((try simp at this); omega))
    clear B5
    clear xKB0_0 xKB0_1 xKB0_2 xKB0_3 xKB0_4 xKB0_5 xKB0_6 xKB0_7
    have SA7 := Lib.hid (show (w5.alloc (.cells #[.int .i64 T5.p0, .slice T5.A1 T5.n1 T5.c1, .slice T5.A2 T5.n2 T5.c2, .slice T5.A3 T5.n3 T5.c3, .slice T5.A4 T5.n4 T5.c4, .slice T5.A5 T5.n5 T5.c5, .slice T5.A6 T5.n6 T5.c6, .int .i64 T5.p7] 40)).heap.size = w5.heap.size + 1 by simp)
    replace R0 := R0.alloc (.cells #[.int .i64 T5.p0, .slice T5.A1 T5.n1 T5.c1, .slice T5.A2 T5.n2 T5.c2, .slice T5.A3 T5.n3 T5.c3, .slice T5.A4 T5.n4 T5.c4, .slice T5.A5 T5.n5 T5.c5, .slice T5.A6 T5.n6 T5.c6, .int .i64 T5.p7] 40)
    replace KB0 := KB0.alloc_ (.cells #[.int .i64 T5.p0, .slice T5.A1 T5.n1 T5.c1, .slice T5.A2 T5.n2 T5.c2, .slice T5.A3 T5.n3 T5.c3, .slice T5.A4 T5.n4 T5.c4, .slice T5.A5 T5.n5 T5.c5, .slice T5.A6 T5.n6 T5.c6, .int .i64 T5.p7] 40)
    replace KB1 := KB1.alloc_ (.cells #[.int .i64 T5.p0, .slice T5.A1 T5.n1 T5.c1, .slice T5.A2 T5.n2 T5.c2, .slice T5.A3 T5.n3 T5.c3, .slice T5.A4 T5.n4 T5.c4, .slice T5.A5 T5.n5 T5.c5, .slice T5.A6 T5.n6 T5.c6, .int .i64 T5.p7] 40)
    replace FP4_0 := FP4_0.alloc (.cells #[.int .i64 T5.p0, .slice T5.A1 T5.n1 T5.c1, .slice T5.A2 T5.n2 T5.c2, .slice T5.A3 T5.n3 T5.c3, .slice T5.A4 T5.n4 T5.c4, .slice T5.A5 T5.n5 T5.c5, .slice T5.A6 T5.n6 T5.c6, .int .i64 T5.p7] 40)
    replace FT5 := FT5.alloc (.cells #[.int .i64 T5.p0, .slice T5.A1 T5.n1 T5.c1, .slice T5.A2 T5.n2 T5.c2, .slice T5.A3 T5.n3 T5.c3, .slice T5.A4 T5.n4 T5.c4, .slice T5.A5 T5.n5 T5.c5, .slice T5.A6 T5.n6 T5.c6, .int .i64 T5.p7] 40)
    have KX6 : BoxAt (w5.alloc (.cells #[.int .i64 T5.p0, .slice T5.A1 T5.n1 T5.c1, .slice T5.A2 T5.n2 T5.c2, .slice T5.A3 T5.n3 T5.c3, .slice T5.A4 T5.n4 T5.c4, .slice T5.A5 T5.n5 T5.c5, .slice T5.A6 T5.n6 T5.c6, .int .i64 T5.p7] 40)) (w5.heap.size) 40 #[.int .i64 T5.p0, .slice T5.A1 T5.n1 T5.c1, .slice T5.A2 T5.n2 T5.c2, .slice T5.A3 T5.n3 T5.c3, .slice T5.A4 T5.n4 T5.c4, .slice T5.A5 T5.n5 T5.c5, .slice T5.A6 T5.n6 T5.c6, .int .i64 T5.p7] := box_new _ _ _
    replace G := G.alloc (by have := S0.out; have := S1.out; have := S2.out; have := S3.out; have := S4.out; have := S5.out; have := SA7.out; first | omega | (simp; omega)) (.cells #[.int .i64 T5.p0, .slice T5.A1 T5.n1 T5.c1, .slice T5.A2 T5.n2 T5.c2, .slice T5.A3 T5.n3 T5.c3, .slice T5.A4 T5.n4 T5.c4, .slice T5.A5 T5.n5 T5.c5, .slice T5.A6 T5.n6 T5.c6, .int .i64 T5.p7] 40)
    go_wp2_with fail
    replace G := G.drew
    replace R0 := R0.drw
    replace KB0 := KB0.drw
    replace KB1 := KB1.drw
    replace FP4_0 := FP4_0.drw
    replace FT5 := FT5.drw
    replace KX6 := KX6.drw
    go_region_held3 (fun w' => w'.cell? ⟨w5.heap.size, 0, none⟩ = some (.int .i64 T5.p0) ∧ w'.cell? ⟨w5.heap.size, 1, none⟩ = some (.slice T5.A1 T5.n1 T5.c1) ∧ w'.cell? ⟨w5.heap.size, 2, none⟩ = some (.slice T5.A2 T5.n2 T5.c2) ∧ w'.cell? ⟨w5.heap.size, 3, none⟩ = some (.slice T5.A3 T5.n3 T5.c3) ∧ w'.cell? ⟨w5.heap.size, 4, none⟩ = some (.slice T5.A4 T5.n4 T5.c4) ∧ w'.cell? ⟨w5.heap.size, 5, none⟩ = some (.slice T5.A5 T5.n5 T5.c5) ∧ w'.cell? ⟨w5.heap.size, 6, none⟩ = some (.slice T5.A6 T5.n6 T5.c6) ∧ w'.cell? ⟨w5.heap.size, 7, none⟩ = some (.int .i64 T5.p7) ∧ w'.cell? ⟨w.heap.size + 1, 0, none⟩ = some (.int .i64 a1.f0) ∧ w'.cell? ⟨w.heap.size + 1, 1, none⟩ = some (.int .i64 a1.f1))
      (exact ⟨KX6.at_ rfl, KX6.at_ rfl, KX6.at_ rfl, KX6.at_ rfl, KX6.at_ rfl, KX6.at_ rfl, KX6.at_ rfl, KX6.at_ rfl, KB1.at_ rfl, KB1.at_ rfl⟩)
      (first
        | (go_at_call 31; (fail_if_success (have hx := B8)); refine Calls.mono (to_site_one a1 _) ?_; rintro e w6 ⟨rfl, B8⟩; (replace R0 := DBrowser.rd_nw B8 R0); (replace KB0 := box_nw B8 KB0); (replace KB1 := box_nw B8 KB1); (replace FP4_0 := fr_nw B8 FP4_0); (replace FT5 := DBrowser.fr_nw B8 FT5); (replace KX6 := box_nw B8 KX6); (replace G := (by first | exact below_trans G B8 (Nat.le_refl _) | exact below_trans G.drew B8 (Nat.le_refl _) | exact below_trans (below_dN G _) B8 (Nat.le_refl _))); (have S6 := Lib.hid (show (w5.alloc (.cells #[.int .i64 T5.p0, .slice T5.A1 T5.n1 T5.c1, .slice T5.A2 T5.n2 T5.c2, .slice T5.A3 T5.n3 T5.c3, .slice T5.A4 T5.n4 T5.c4, .slice T5.A5 T5.n5 T5.c5, .slice T5.A6 T5.n6 T5.c6, .int .i64 T5.p7] 40)).heap.size ≤ w6.heap.size from B8.size)))
        | (go_at_call 32; (fail_if_success (have hx := B9)); refine Calls.mono (impl_RulesInForceC T5 x0.dat _ _ a1 _ ET5.out (by omega) H0.out FT5.rd FT5.caps) ?_; rintro e w7 ⟨P9_0, pc9_0, rfl, FP9_0, B9⟩; (replace R0 := DBrowser.rd_nw B9 R0); (replace KB0 := box_nw B9 KB0); (replace KB1 := box_nw B9 KB1); (replace FP4_0 := fr_nw B9 FP4_0); (replace FT5 := DBrowser.fr_nw B9 FT5); (replace KX6 := box_nw B9 KX6); (replace G := (by first | exact below_trans G B9 (Nat.le_refl _) | exact below_trans G.drew B9 (Nat.le_refl _) | exact below_trans (below_dN G _) B9 (Nat.le_refl _))); (have S7 := Lib.hid (show w6.heap.size ≤ w7.heap.size from B9.size))))
    clear B8
    clear B9
    go_wp2_with fail
    refine Calls.mono (eq_rule_same (mRIF x0.dat a1) P9_0 P4_0 ((mRIF x0.dat a1).length) ((mRIF x0.dat a1).length) pc9_0 pc4_0 _ _ _ _ _ (by omega) (by omega) FP9_0.rd FP4_0.rd) ?_
    rintro e w8 ⟨rfl, B10⟩
    replace R0 := (R0).new B10
    replace KB0 := (KB0).new B10
    replace KB1 := (KB1).new B10
    replace FP4_0 := (FP4_0).new B10
    replace FT5 := (FT5).new B10
    replace KX6 := (KX6).new B10
    replace FP9_0 := (FP9_0).new B10
    replace G := below_trans G B10 (Nat.le_refl _)
    have S8 := Lib.hid (show w7.heap.size + 0 ≤ w8.heap.size by have := B10.size; first | (simpa using this) | ((try simp at this); omega))
    clear B10
    go_wp2_with fail
    replace G := G.drew
    replace R0 := R0.drw
    replace KB0 := KB0.drw
    replace KB1 := KB1.drw
    replace FP4_0 := FP4_0.drw
    replace FT5 := FT5.drw
    replace KX6 := KX6.drw
    replace FP9_0 := FP9_0.drw
    go_region_held3 (fun w' => w'.cell? ⟨w5.heap.size, 0, none⟩ = some (.int .i64 T5.p0) ∧ w'.cell? ⟨w5.heap.size, 1, none⟩ = some (.slice T5.A1 T5.n1 T5.c1) ∧ w'.cell? ⟨w5.heap.size, 2, none⟩ = some (.slice T5.A2 T5.n2 T5.c2) ∧ w'.cell? ⟨w5.heap.size, 3, none⟩ = some (.slice T5.A3 T5.n3 T5.c3) ∧ w'.cell? ⟨w5.heap.size, 4, none⟩ = some (.slice T5.A4 T5.n4 T5.c4) ∧ w'.cell? ⟨w5.heap.size, 5, none⟩ = some (.slice T5.A5 T5.n5 T5.c5) ∧ w'.cell? ⟨w5.heap.size, 6, none⟩ = some (.slice T5.A6 T5.n6 T5.c6) ∧ w'.cell? ⟨w5.heap.size, 7, none⟩ = some (.int .i64 T5.p7) ∧ w'.cell? ⟨w.heap.size, 0, none⟩ = some (.int .i64 x0.p0) ∧ w'.cell? ⟨w.heap.size, 1, none⟩ = some (.slice x0.A1 x0.n1 x0.c1) ∧ w'.cell? ⟨w.heap.size, 2, none⟩ = some (.slice x0.A2 x0.n2 x0.c2) ∧ w'.cell? ⟨w.heap.size, 3, none⟩ = some (.slice x0.A3 x0.n3 x0.c3) ∧ w'.cell? ⟨w.heap.size, 4, none⟩ = some (.slice x0.A4 x0.n4 x0.c4) ∧ w'.cell? ⟨w.heap.size, 5, none⟩ = some (.slice x0.A5 x0.n5 x0.c5) ∧ w'.cell? ⟨w.heap.size, 6, none⟩ = some (.slice x0.A6 x0.n6 x0.c6) ∧ w'.cell? ⟨w.heap.size, 7, none⟩ = some (.int .i64 x0.p7))
      (exact ⟨KX6.at_ rfl, KX6.at_ rfl, KX6.at_ rfl, KX6.at_ rfl, KX6.at_ rfl, KX6.at_ rfl, KX6.at_ rfl, KX6.at_ rfl, KB0.at_ rfl, KB0.at_ rfl, KB0.at_ rfl, KB0.at_ rfl, KB0.at_ rfl, KB0.at_ rfl, KB0.at_ rfl, KB0.at_ rfl⟩)
      (first
        | (go_at_call 13; (fail_if_success (have hx := B11)); refine Calls.mono (to_browser x0 _ _ _ (by omega) R0) ?_; rintro e w9 ⟨T11, rfl, ET11, FT11, B11⟩; (replace ET11 := Lib.hid ET11); (replace R0 := DBrowser.rd_nw B11 R0); (replace KB0 := box_nw B11 KB0); (replace KB1 := box_nw B11 KB1); (replace FP4_0 := fr_nw B11 FP4_0); (replace FT5 := DBrowser.fr_nw B11 FT5); (replace KX6 := box_nw B11 KX6); (replace FP9_0 := fr_nw B11 FP9_0); (replace G := (by first | exact below_trans G B11 (Nat.le_refl _) | exact below_trans G.drew B11 (Nat.le_refl _) | exact below_trans (below_dN G _) B11 (Nat.le_refl _))); (have S9 := Lib.hid (show w8.heap.size ≤ w9.heap.size from B11.size)))
        | (go_at_call 16; (fail_if_success (have hx := B12)); refine Calls.mono (eq_browser_same T5 T11 _ _ _ _ _ (Eq.trans ET11.out (Eq.symm ET5.out)) (by rw [ET5.out]; omega) FT5.rd FT11.rd) ?_; rintro e w10 ⟨rfl, B12⟩; (replace R0 := DBrowser.rd_nw B12 R0); (replace KB0 := box_nw B12 KB0); (replace KB1 := box_nw B12 KB1); (replace FP4_0 := fr_nw B12 FP4_0); (replace FT5 := DBrowser.fr_nw B12 FT5); (replace KX6 := box_nw B12 KX6); (replace FP9_0 := fr_nw B12 FP9_0); (replace FT11 := DBrowser.fr_nw B12 FT11); (replace G := (by first | exact below_trans G B12 (Nat.le_refl _) | exact below_trans G.drew B12 (Nat.le_refl _) | exact below_trans (below_dN G _) B12 (Nat.le_refl _))); (have S10 := Lib.hid (show w9.heap.size ≤ w10.heap.size from B12.size))))
    clear B11
    clear B12
    clear FT11
    have xKX6_0 : w10.cell? ⟨w5.heap.size, 0, none⟩ = some (.int .i64 T5.p0) := KX6.at_ rfl
    have xKX6_1 : w10.cell? ⟨w5.heap.size, 1, none⟩ = some (.slice T5.A1 T5.n1 T5.c1) := KX6.at_ rfl
    have xKX6_2 : w10.cell? ⟨w5.heap.size, 2, none⟩ = some (.slice T5.A2 T5.n2 T5.c2) := KX6.at_ rfl
    have xKX6_3 : w10.cell? ⟨w5.heap.size, 3, none⟩ = some (.slice T5.A3 T5.n3 T5.c3) := KX6.at_ rfl
    have xKX6_4 : w10.cell? ⟨w5.heap.size, 4, none⟩ = some (.slice T5.A4 T5.n4 T5.c4) := KX6.at_ rfl
    have xKX6_5 : w10.cell? ⟨w5.heap.size, 5, none⟩ = some (.slice T5.A5 T5.n5 T5.c5) := KX6.at_ rfl
    have xKX6_6 : w10.cell? ⟨w5.heap.size, 6, none⟩ = some (.slice T5.A6 T5.n6 T5.c6) := KX6.at_ rfl
    have xKX6_7 : w10.cell? ⟨w5.heap.size, 7, none⟩ = some (.int .i64 T5.p7) := KX6.at_ rfl
    go_wp2_with fail
    refine Calls.mono (mark_browser T5 (1) w4.heap.size w5.heap.size _ (by have q1 := FT5.rd.cnt_le; rw [ET5.out] at q1; omega) (by rw [ET5.out]; omega) FT5 (by have := S0.out; have := S1.out; have := S2.out; have := S3.out; have := S4.out; have := S5.out; have := SA7.out; have := S6.out; have := S7.out; have := S8.out; have := S9.out; have := S10.out; omega)) ?_
    rintro e w11 ⟨rfl, B13⟩
    have CB13 : T5.cnt ≤ 8388608 := by have q1 := FT5.rd.cnt_le; rw [ET5.out] at q1; omega
    replace R0 := (R0).chg B13 (by have := S0.out; have := S1.out; have := S2.out; have := S3.out; have := S4.out; have := S5.out; have := SA7.out; have := S6.out; have := S7.out; have := S8.out; have := S9.out; have := S10.out; omega)
    replace KB0 := (KB0).chg B13 (by have := S0.out; have := S1.out; have := S2.out; have := S3.out; have := S4.out; have := S5.out; have := SA7.out; have := S6.out; have := S7.out; have := S8.out; have := S9.out; have := S10.out; omega)
    replace KB1 := (KB1).chg B13 (by have := S0.out; have := S1.out; have := S2.out; have := S3.out; have := S4.out; have := S5.out; have := SA7.out; have := S6.out; have := S7.out; have := S8.out; have := S9.out; have := S10.out; omega)
    replace FP4_0 := (FP4_0).chg B13 (by have := S0.out; have := S1.out; have := S2.out; have := S3.out; have := S4.out; have := S5.out; have := SA7.out; have := S6.out; have := S7.out; have := S8.out; have := S9.out; have := S10.out; omega)
    replace KX6 := (KX6).chg B13 (by have := S0.out; have := S1.out; have := S2.out; have := S3.out; have := S4.out; have := S5.out; have := SA7.out; have := S6.out; have := S7.out; have := S8.out; have := S9.out; have := S10.out; omega)
    replace FP9_0 := (FP9_0).chg B13 (by have := S0.out; have := S1.out; have := S2.out; have := S3.out; have := S4.out; have := S5.out; have := SA7.out; have := S6.out; have := S7.out; have := S8.out; have := S9.out; have := S10.out; omega)
    replace G := G.trans (B13.below (.inl (by have := S0.out; have := S1.out; have := S2.out; have := S3.out; have := S4.out; have := S5.out; have := SA7.out; have := S6.out; have := S7.out; have := S8.out; have := S9.out; have := S10.out; omega)) (by have := S0.out; have := S1.out; have := S2.out; have := S3.out; have := S4.out; have := S5.out; have := SA7.out; have := S6.out; have := S7.out; have := S8.out; have := S9.out; have := S10.out; first | omega | (simp; omega)))
    have S11 := Lib.hid (show w10.heap.size + 0 ≤ w11.heap.size by have := B13.size; first | (simpa using this) | ((try simp at this); omega))
    clear FT5
    clear B13
    clear xKX6_0 xKX6_1 xKX6_2 xKX6_3 xKX6_4 xKX6_5 xKX6_6 xKX6_7
    go_wp2_with fail
    refine Calls.mono (eq_rule_same (mRIF x0.dat a1) P9_0 P4_0 ((mRIF x0.dat a1).length) ((mRIF x0.dat a1).length) pc9_0 pc4_0 _ _ _ _ _ (by omega) (by omega) FP9_0.rd FP4_0.rd) ?_
    rintro e w12 ⟨rfl, B14⟩
    replace R0 := (R0).new B14
    replace KB0 := (KB0).new B14
    replace KB1 := (KB1).new B14
    replace FP4_0 := (FP4_0).new B14
    replace KX6 := (KX6).new B14
    replace FP9_0 := (FP9_0).new B14
    replace G := below_trans G B14 (Nat.le_refl _)
    have S12 := Lib.hid (show w11.heap.size + 0 ≤ w12.heap.size by have := B14.size; first | (simpa using this) | ((try simp at this); omega))
    clear B14
    go_wp2_with fail
    refine Calls.mono (mark_rule _ P9_0 ((mRIF x0.dat a1).length) pc9_0 _ _ (1) _ (by omega) (by omega) FP9_0) ?_
    rintro e w13 ⟨rfl, FM15, B15, E15⟩
    replace R0 := (R0).chg B15 (by have := S0.out; have := S1.out; have := S2.out; have := S3.out; have := S4.out; have := S5.out; have := SA7.out; have := S6.out; have := S7.out; have := S8.out; have := S9.out; have := S10.out; have := S11.out; have := S12.out; omega)
    replace KB0 := (KB0).chg B15 (by have := S0.out; have := S1.out; have := S2.out; have := S3.out; have := S4.out; have := S5.out; have := SA7.out; have := S6.out; have := S7.out; have := S8.out; have := S9.out; have := S10.out; have := S11.out; have := S12.out; omega)
    replace KB1 := (KB1).chg B15 (by have := S0.out; have := S1.out; have := S2.out; have := S3.out; have := S4.out; have := S5.out; have := SA7.out; have := S6.out; have := S7.out; have := S8.out; have := S9.out; have := S10.out; have := S11.out; have := S12.out; omega)
    replace FP4_0 := (FP4_0).chg B15 (by have := S0.out; have := S1.out; have := S2.out; have := S3.out; have := S4.out; have := S5.out; have := SA7.out; have := S6.out; have := S7.out; have := S8.out; have := S9.out; have := S10.out; have := S11.out; have := S12.out; omega)
    replace KX6 := (KX6).chg B15 (by have := S0.out; have := S1.out; have := S2.out; have := S3.out; have := S4.out; have := S5.out; have := SA7.out; have := S6.out; have := S7.out; have := S8.out; have := S9.out; have := S10.out; have := S11.out; have := S12.out; omega)
    replace G := G.trans (B15.below (.inl (by have := S0.out; have := S1.out; have := S2.out; have := S3.out; have := S4.out; have := S5.out; have := SA7.out; have := S6.out; have := S7.out; have := S8.out; have := S9.out; have := S10.out; have := S11.out; have := S12.out; omega)) (by have := S0.out; have := S1.out; have := S2.out; have := S3.out; have := S4.out; have := S5.out; have := SA7.out; have := S6.out; have := S7.out; have := S8.out; have := S9.out; have := S10.out; have := S11.out; have := S12.out; first | omega | (simp; omega)))
    have S13 := Lib.hid (show w12.heap.size + 0 ≤ w13.heap.size by have := B15.size; first | (simpa using this) | ((try simp at this); omega))
    clear FP9_0
    clear E15
    clear B15
    go_wp2_with fail
    refine Calls.mono (held_rule P9_0 ((mRIF x0.dat a1).length) pc9_0 _ _ (1) _ (by omega) (by omega) FM15.rd) ?_
    rintro e w14 hq
    obtain ⟨rfl, B16⟩ := hq.says
    replace R0 := (R0).new B16
    replace KB0 := (KB0).new B16
    replace KB1 := (KB1).new B16
    replace FP4_0 := (FP4_0).new B16
    replace KX6 := (KX6).new B16
    replace FM15 := (FM15).new B16
    replace G := below_trans G B16 (Nat.le_refl _)
    have S14 := Lib.hid (show w13.heap.size + 0 ≤ w14.heap.size by have := B16.size; first | (simpa using this) | ((try simp at this); omega))
    clear B16
    go_wp2_with fail
    replace G := G.drew
    replace R0 := R0.drw
    replace KB0 := KB0.drw
    replace KB1 := KB1.drw
    replace FP4_0 := FP4_0.drw
    replace KX6 := KX6.drw
    replace FM15 := FM15.drw
    go_region_held3 (fun w' => w'.cell? ⟨w.heap.size, 0, none⟩ = some (.int .i64 x0.p0) ∧ w'.cell? ⟨w.heap.size, 1, none⟩ = some (.slice x0.A1 x0.n1 x0.c1) ∧ w'.cell? ⟨w.heap.size, 2, none⟩ = some (.slice x0.A2 x0.n2 x0.c2) ∧ w'.cell? ⟨w.heap.size, 3, none⟩ = some (.slice x0.A3 x0.n3 x0.c3) ∧ w'.cell? ⟨w.heap.size, 4, none⟩ = some (.slice x0.A4 x0.n4 x0.c4) ∧ w'.cell? ⟨w.heap.size, 5, none⟩ = some (.slice x0.A5 x0.n5 x0.c5) ∧ w'.cell? ⟨w.heap.size, 6, none⟩ = some (.slice x0.A6 x0.n6 x0.c6) ∧ w'.cell? ⟨w.heap.size, 7, none⟩ = some (.int .i64 x0.p7) ∧ w'.cell? ⟨w.heap.size + 1, 0, none⟩ = some (.int .i64 a1.f0) ∧ w'.cell? ⟨w.heap.size + 1, 1, none⟩ = some (.int .i64 a1.f1))
      (exact ⟨KB0.at_ rfl, KB0.at_ rfl, KB0.at_ rfl, KB0.at_ rfl, KB0.at_ rfl, KB0.at_ rfl, KB0.at_ rfl, KB0.at_ rfl, KB1.at_ rfl, KB1.at_ rfl⟩)
      (first
        | (go_at_call 13; (fail_if_success (have hx := B17)); refine Calls.mono (to_browser x0 _ _ _ (by omega) R0) ?_; rintro e w15 ⟨T17, rfl, ET17, FT17, B17⟩; (replace ET17 := Lib.hid ET17); (replace R0 := DBrowser.rd_nw B17 R0); (replace KB0 := box_nw B17 KB0); (replace KB1 := box_nw B17 KB1); (replace FP4_0 := fr_nw B17 FP4_0); (replace KX6 := box_nw B17 KX6); (replace FM15 := fr_nw B17 FM15); (replace G := (by first | exact below_trans G B17 (Nat.le_refl _) | exact below_trans G.drew B17 (Nat.le_refl _) | exact below_trans (below_dN G _) B17 (Nat.le_refl _))); (have S15 := Lib.hid (show w14.heap.size ≤ w15.heap.size from B17.size)))
        | (go_at_call 31; (fail_if_success (have hx := B18)); refine Calls.mono (to_site_one a1 _) ?_; rintro e w16 ⟨rfl, B18⟩; (replace R0 := DBrowser.rd_nw B18 R0); (replace KB0 := box_nw B18 KB0); (replace KB1 := box_nw B18 KB1); (replace FP4_0 := fr_nw B18 FP4_0); (replace KX6 := box_nw B18 KX6); (replace FM15 := fr_nw B18 FM15); (replace FT17 := DBrowser.fr_nw B18 FT17); (replace G := (by first | exact below_trans G B18 (Nat.le_refl _) | exact below_trans G.drew B18 (Nat.le_refl _) | exact below_trans (below_dN G _) B18 (Nat.le_refl _))); (have S16 := Lib.hid (show w15.heap.size ≤ w16.heap.size from B18.size)))
        | (go_at_call 32; (fail_if_success (have hx := B19)); refine Calls.mono (impl_RulesInForceC T17 x0.dat _ _ a1 _ ET17.out (by omega) H0.out FT17.rd FT17.caps) ?_; rintro e w17 ⟨P19_0, pc19_0, rfl, FP19_0, B19⟩; (replace R0 := DBrowser.rd_nw B19 R0); (replace KB0 := box_nw B19 KB0); (replace KB1 := box_nw B19 KB1); (replace FP4_0 := fr_nw B19 FP4_0); (replace KX6 := box_nw B19 KX6); (replace FM15 := fr_nw B19 FM15); (replace FT17 := DBrowser.fr_nw B19 FT17); (replace G := (by first | exact below_trans G B19 (Nat.le_refl _) | exact below_trans G.drew B19 (Nat.le_refl _) | exact below_trans (below_dN G _) B19 (Nat.le_refl _))); (have S17 := Lib.hid (show w16.heap.size ≤ w17.heap.size from B19.size))))
    clear B17
    clear B18
    clear B19
    go_wp2_with fail
    refine Calls.mono (eq_rule_same (mRIF x0.dat a1) P19_0 P4_0 ((mRIF x0.dat a1).length) ((mRIF x0.dat a1).length) pc19_0 pc4_0 _ _ _ _ _ (by omega) (by omega) FP19_0.rd FP4_0.rd) ?_
    rintro e w18 ⟨rfl, B20⟩
    replace R0 := (R0).new B20
    replace KB0 := (KB0).new B20
    replace KB1 := (KB1).new B20
    replace FP4_0 := (FP4_0).new B20
    replace KX6 := (KX6).new B20
    replace FM15 := (FM15).new B20
    replace FT17 := (FT17).new B20
    replace FP19_0 := (FP19_0).new B20
    replace G := below_trans G B20 (Nat.le_refl _)
    have S18 := Lib.hid (show w17.heap.size + 0 ≤ w18.heap.size by have := B20.size; first | (simpa using this) | ((try simp at this); omega))
    clear B20
    go_wp2_with fail
    refine Calls.mono (held_rule P9_0 ((mRIF x0.dat a1).length) pc9_0 _ _ (1) _ (by omega) (by omega) FM15.rd) ?_
    rintro e w19 hq
    obtain ⟨rfl, B21⟩ := hq.says
    replace R0 := (R0).new B21
    replace KB0 := (KB0).new B21
    replace KB1 := (KB1).new B21
    replace FP4_0 := (FP4_0).new B21
    replace KX6 := (KX6).new B21
    replace FM15 := (FM15).new B21
    replace FT17 := (FT17).new B21
    replace FP19_0 := (FP19_0).new B21
    replace G := below_trans G B21 (Nat.le_refl _)
    have S19 := Lib.hid (show w18.heap.size + 0 ≤ w19.heap.size by have := B21.size; first | (simpa using this) | ((try simp at this); omega))
    clear B21
    go_wp2_with fail
    go_ret
    exact ⟨rfl, G⟩
  · skip
    have G : Below w.heap.size w ((w.alloc (.cells #[.int .i64 x0.p0, .slice x0.A1 x0.n1 x0.c1, .slice x0.A2 x0.n2 x0.c2, .slice x0.A3 x0.n3 x0.c3, .slice x0.A4 x0.n4 x0.c4, .slice x0.A5 x0.n5 x0.c5, .slice x0.A6 x0.n6 x0.c6, .int .i64 x0.p7] 29)).alloc (.cells #[.int .i64 a1.f0, .int .i64 a1.f1] 51)) := ((Below.refl _ _).alloc (by simp) _).alloc (by simp) _
    have S0 := Lib.hid (show ((w.alloc (.cells #[.int .i64 x0.p0, .slice x0.A1 x0.n1 x0.c1, .slice x0.A2 x0.n2 x0.c2, .slice x0.A3 x0.n3 x0.c3, .slice x0.A4 x0.n4 x0.c4, .slice x0.A5 x0.n5 x0.c5, .slice x0.A6 x0.n6 x0.c6, .int .i64 x0.p7] 29)).alloc (.cells #[.int .i64 a1.f0, .int .i64 a1.f1] 51)).heap.size = w.heap.size + 2 by simp)
    replace R0 := R0.alloc (.cells #[.int .i64 x0.p0, .slice x0.A1 x0.n1 x0.c1, .slice x0.A2 x0.n2 x0.c2, .slice x0.A3 x0.n3 x0.c3, .slice x0.A4 x0.n4 x0.c4, .slice x0.A5 x0.n5 x0.c5, .slice x0.A6 x0.n6 x0.c6, .int .i64 x0.p7] 29)
    have KB0 : BoxAt (w.alloc (.cells #[.int .i64 x0.p0, .slice x0.A1 x0.n1 x0.c1, .slice x0.A2 x0.n2 x0.c2, .slice x0.A3 x0.n3 x0.c3, .slice x0.A4 x0.n4 x0.c4, .slice x0.A5 x0.n5 x0.c5, .slice x0.A6 x0.n6 x0.c6, .int .i64 x0.p7] 29)) (w.heap.size) 29 #[.int .i64 x0.p0, .slice x0.A1 x0.n1 x0.c1, .slice x0.A2 x0.n2 x0.c2, .slice x0.A3 x0.n3 x0.c3, .slice x0.A4 x0.n4 x0.c4, .slice x0.A5 x0.n5 x0.c5, .slice x0.A6 x0.n6 x0.c6, .int .i64 x0.p7] := box_new _ _ _
    replace R0 := R0.alloc (.cells #[.int .i64 a1.f0, .int .i64 a1.f1] 51)
    replace KB0 := KB0.alloc_ (.cells #[.int .i64 a1.f0, .int .i64 a1.f1] 51)
    have KB1 : BoxAt ((w.alloc (.cells #[.int .i64 x0.p0, .slice x0.A1 x0.n1 x0.c1, .slice x0.A2 x0.n2 x0.c2, .slice x0.A3 x0.n3 x0.c3, .slice x0.A4 x0.n4 x0.c4, .slice x0.A5 x0.n5 x0.c5, .slice x0.A6 x0.n6 x0.c6, .int .i64 x0.p7] 29)).alloc (.cells #[.int .i64 a1.f0, .int .i64 a1.f1] 51)) (w.heap.size + 1) 51 #[.int .i64 a1.f0, .int .i64 a1.f1] := by simpa using box_new (w.alloc (.cells #[.int .i64 x0.p0, .slice x0.A1 x0.n1 x0.c1, .slice x0.A2 x0.n2 x0.c2, .slice x0.A3 x0.n3 x0.c3, .slice x0.A4 x0.n4 x0.c4, .slice x0.A5 x0.n5 x0.c5, .slice x0.A6 x0.n6 x0.c6, .int .i64 x0.p7] 29)) 51 #[.int .i64 a1.f0, .int .i64 a1.f1]
    go_enter Try.func9, Try.ntmps9
    have xKB0_0 : ((w.alloc (.cells #[.int .i64 x0.p0, .slice x0.A1 x0.n1 x0.c1, .slice x0.A2 x0.n2 x0.c2, .slice x0.A3 x0.n3 x0.c3, .slice x0.A4 x0.n4 x0.c4, .slice x0.A5 x0.n5 x0.c5, .slice x0.A6 x0.n6 x0.c6, .int .i64 x0.p7] 29)).alloc (.cells #[.int .i64 a1.f0, .int .i64 a1.f1] 51)).cell? ⟨w.heap.size, 0, none⟩ = some (.int .i64 x0.p0) := KB0.at_ rfl
    have xKB0_1 : ((w.alloc (.cells #[.int .i64 x0.p0, .slice x0.A1 x0.n1 x0.c1, .slice x0.A2 x0.n2 x0.c2, .slice x0.A3 x0.n3 x0.c3, .slice x0.A4 x0.n4 x0.c4, .slice x0.A5 x0.n5 x0.c5, .slice x0.A6 x0.n6 x0.c6, .int .i64 x0.p7] 29)).alloc (.cells #[.int .i64 a1.f0, .int .i64 a1.f1] 51)).cell? ⟨w.heap.size, 1, none⟩ = some (.slice x0.A1 x0.n1 x0.c1) := KB0.at_ rfl
    have xKB0_2 : ((w.alloc (.cells #[.int .i64 x0.p0, .slice x0.A1 x0.n1 x0.c1, .slice x0.A2 x0.n2 x0.c2, .slice x0.A3 x0.n3 x0.c3, .slice x0.A4 x0.n4 x0.c4, .slice x0.A5 x0.n5 x0.c5, .slice x0.A6 x0.n6 x0.c6, .int .i64 x0.p7] 29)).alloc (.cells #[.int .i64 a1.f0, .int .i64 a1.f1] 51)).cell? ⟨w.heap.size, 2, none⟩ = some (.slice x0.A2 x0.n2 x0.c2) := KB0.at_ rfl
    have xKB0_3 : ((w.alloc (.cells #[.int .i64 x0.p0, .slice x0.A1 x0.n1 x0.c1, .slice x0.A2 x0.n2 x0.c2, .slice x0.A3 x0.n3 x0.c3, .slice x0.A4 x0.n4 x0.c4, .slice x0.A5 x0.n5 x0.c5, .slice x0.A6 x0.n6 x0.c6, .int .i64 x0.p7] 29)).alloc (.cells #[.int .i64 a1.f0, .int .i64 a1.f1] 51)).cell? ⟨w.heap.size, 3, none⟩ = some (.slice x0.A3 x0.n3 x0.c3) := KB0.at_ rfl
    have xKB0_4 : ((w.alloc (.cells #[.int .i64 x0.p0, .slice x0.A1 x0.n1 x0.c1, .slice x0.A2 x0.n2 x0.c2, .slice x0.A3 x0.n3 x0.c3, .slice x0.A4 x0.n4 x0.c4, .slice x0.A5 x0.n5 x0.c5, .slice x0.A6 x0.n6 x0.c6, .int .i64 x0.p7] 29)).alloc (.cells #[.int .i64 a1.f0, .int .i64 a1.f1] 51)).cell? ⟨w.heap.size, 4, none⟩ = some (.slice x0.A4 x0.n4 x0.c4) := KB0.at_ rfl
    have xKB0_5 : ((w.alloc (.cells #[.int .i64 x0.p0, .slice x0.A1 x0.n1 x0.c1, .slice x0.A2 x0.n2 x0.c2, .slice x0.A3 x0.n3 x0.c3, .slice x0.A4 x0.n4 x0.c4, .slice x0.A5 x0.n5 x0.c5, .slice x0.A6 x0.n6 x0.c6, .int .i64 x0.p7] 29)).alloc (.cells #[.int .i64 a1.f0, .int .i64 a1.f1] 51)).cell? ⟨w.heap.size, 5, none⟩ = some (.slice x0.A5 x0.n5 x0.c5) := KB0.at_ rfl
    have xKB0_6 : ((w.alloc (.cells #[.int .i64 x0.p0, .slice x0.A1 x0.n1 x0.c1, .slice x0.A2 x0.n2 x0.c2, .slice x0.A3 x0.n3 x0.c3, .slice x0.A4 x0.n4 x0.c4, .slice x0.A5 x0.n5 x0.c5, .slice x0.A6 x0.n6 x0.c6, .int .i64 x0.p7] 29)).alloc (.cells #[.int .i64 a1.f0, .int .i64 a1.f1] 51)).cell? ⟨w.heap.size, 6, none⟩ = some (.slice x0.A6 x0.n6 x0.c6) := KB0.at_ rfl
    have xKB0_7 : ((w.alloc (.cells #[.int .i64 x0.p0, .slice x0.A1 x0.n1 x0.c1, .slice x0.A2 x0.n2 x0.c2, .slice x0.A3 x0.n3 x0.c3, .slice x0.A4 x0.n4 x0.c4, .slice x0.A5 x0.n5 x0.c5, .slice x0.A6 x0.n6 x0.c6, .int .i64 x0.p7] 29)).alloc (.cells #[.int .i64 a1.f0, .int .i64 a1.f1] 51)).cell? ⟨w.heap.size, 7, none⟩ = some (.int .i64 x0.p7) := KB0.at_ rfl
    go_wp2_with fail
    refine Calls.mono (szno_browser x0 _ _ (1048576) _ R0 (by omega) (by omega) (by omega)) ?_
    rintro e w1 ⟨rfl, B22⟩
    clear xKB0_0 xKB0_1 xKB0_2 xKB0_3 xKB0_4 xKB0_5 xKB0_6 xKB0_7
    go_wp2_with fail
    go_ret
    exact ⟨rfl, below_trans G B22 (Nat.le_refl _)⟩

set_option maxRecDepth 100000 in
theorem lifted (os : Os) (started : os.Started) (H : Type) (enc : TypeId × Value → H) :
    ReturnsInHanded {} Try.checked os 9 .any (Rows.fnExactRulesInForceSpec.pre6 enc Try.prog Try.f9 Rows.fnExactRulesInForceRow.domain false) (Rows.fnExactRulesInForceSpec.post enc Try.prog Try.f9 false true false false) := by
  refine law_lifted Try.func9 (by kernel_rfl) rfl rfl (by kernel_rfl) os started
    (ChangeSpec.witness6 (enc := enc) (C := Try.checked) false ⟨#[], #[.agg #[.int .i64 0, .slice none 0 0, .slice none 0 0, .slice none 0 0, .slice none 0 0, .slice none 0 0, .slice none 0 0, .int .i64 0], .agg #[.int .i64 0, .int .i64 0]], []⟩ 8 (by kernel_rfl) (by kernel_rfl) (by kernel_rfl) (by kernel_rfl)) ?_
  intro W base args ds p hval hA hlt
  rw [Try.params9] at hA hval
  obtain ⟨v0, vs0, d0, ds0, p0, q0, hargs, rfl, rfl, h0, r0⟩ := trodAll_cons hA
  obtain ⟨v1, vs1, d1, ds1, p1, q1, rfl, rfl, rfl, h1, r1⟩ := trodAll_cons r0
  obtain ⟨rfl, rfl, rfl⟩ := trodAll_nil r1
  obtain rfl : args = #[v0, v1] := by cases args; simp_all
  obtain ⟨x0, rfl, R0, H0⟩ := open_browser (hval 0 29 v0 rfl rfl) h0 (fun x hx => hlt x (by simp [hx]))
  obtain ⟨a1, rfl, H1⟩ := open_site (hval 1 51 v1 rfl rfl) h1
  exact ⟨⟨rfl, rfl, rfl⟩, walk x0 a1 W R0 H0 H1⟩

theorem over : Rows.fnExactRulesInForceRow.holds Try.pinned (OpenSpec.ofChange Rows.fnExactRulesInForceSpec) :=
  OpenClaim.holds_of_wide 9 Try.f9 rfl rfl rfl rfl rfl rfl rfl ⟨rfl, rfl, rfl, rfl, rfl⟩ rfl rfl rfl rfl rfl (by kernel_rfl) Try.func9 (by kernel_rfl)
    (of_decide_eq_true (by kernel_rfl)) (by unfold Func.isWrapper; first | (rw [if_pos (by decide +kernel)]; kernel_rfl) | (rw [if_neg (by decide +kernel)]; exact ⟨rfl, rfl⟩))
    (fun os started H enc _ => lifted os started H enc)

theorem proved : Rows.FnExactRulesInForceSaid := over
#print axioms proved
end Go.Proofs.Ytfhoemgpilpapaa.fnExactRulesInForce
