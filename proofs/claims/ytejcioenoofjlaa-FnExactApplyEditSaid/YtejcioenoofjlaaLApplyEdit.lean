/- The law FnExactApplyEdit answers true for every argument, and leaves each argument as it was. No condition. -/
import Derived.Test.YtejcioenoofjlaaFacts
import Derived.Test.YtejcioenoofjlaaTEdit
import Derived.Test.YtejcioenoofjlaaTNode
import Derived.Test.YtejcioenoofjlaaApply
namespace Go.Proofs.Ytejcioenoofjlaa.fnExactApplyEdit
open Go Go.ChangeShapes Go.WideShapes Go.ChangeAt Go.RowKit Go.Lib
open Go.ChangeMaps (open_string)
set_option linter.unusedVariables false
set_option linter.unusedSimpArgs false
set_option maxRecDepth 100000

theorem drw_size {W w' : World} (hb : Below W.drew.heap.size W.drew w') : W.heap.size ≤ w'.heap.size := hb.size
set_option maxRecDepth 100000 in
set_option maxHeartbeats 20000000 in
theorem walk (l0 : List TNode) (A0 : Option Addr) (n0 c0 : Nat) (a1 : TEdit) (w : World) (hm0 : n0 ≤ maxLen) (R0 : Rd w 0 w.heap.size 5 A0 n0 (cNode l0)) (H0 : Hid (cNodeOk l0)) (H1 : Hid (TEdit.fit a1)) :
    Calls Try.prog 10 #[.slice A0 n0 c0, .agg #[.int .i64 a1.f0, .int .i64 a1.f1, .int .i64 a1.f2, .int .i64 a1.f3, .int .i64 a1.f4, .int .i64 a1.f5]] w fun e w' => e = .returned (.bool true) ∧ Below w.heap.size w w' := by
  have hm0 : n0 ≤ 9223372036854775807 := hm0
  by_cases hz0 : n0 ≤ 1048576
  · skip
    have hl0 : (mApply l0 a1).length ≤ 17179869184 := by (have := rd_len TNode.len R0 (by decide); have := mApply_len H0.out H1.out; omega)
    have G : Below w.heap.size w (w.alloc (.cells #[.int .i64 a1.f0, .int .i64 a1.f1, .int .i64 a1.f2, .int .i64 a1.f3, .int .i64 a1.f4, .int .i64 a1.f5] 81)) := (Below.refl _ _).alloc (by simp) _
    have S0 := Lib.hid (show (w.alloc (.cells #[.int .i64 a1.f0, .int .i64 a1.f1, .int .i64 a1.f2, .int .i64 a1.f3, .int .i64 a1.f4, .int .i64 a1.f5] 81)).heap.size = w.heap.size + 1 by simp)
    replace R0 := R0.alloc (.cells #[.int .i64 a1.f0, .int .i64 a1.f1, .int .i64 a1.f2, .int .i64 a1.f3, .int .i64 a1.f4, .int .i64 a1.f5] 81)
    have KB1 : BoxAt (w.alloc (.cells #[.int .i64 a1.f0, .int .i64 a1.f1, .int .i64 a1.f2, .int .i64 a1.f3, .int .i64 a1.f4, .int .i64 a1.f5] 81)) (w.heap.size) 81 #[.int .i64 a1.f0, .int .i64 a1.f1, .int .i64 a1.f2, .int .i64 a1.f3, .int .i64 a1.f4, .int .i64 a1.f5] := box_new _ _ _
    go_enter Try.func10, Try.ntmps10
    go_wp2_with fail
    refine (sz_node A0 n0 c0 (1048576) _ hm0 (by omega) (by omega)).mono ?_
    rintro e w1 hq
    obtain ⟨rfl, B1⟩ := hq.says
    replace R0 := R0.new B1
    replace KB1 := KB1.new B1
    replace G := below_trans G B1 (Nat.le_refl _)
    have S1 := Lib.hid B1.size
    clear B1
    go_wp2_with fail
    replace R0 := R0.drw
    replace KB1 := KB1.drw
    replace G := G.drew
    go_region_held3 (fun w' => w'.cell? ⟨w.heap.size, 0, none⟩ = some (.int .i64 a1.f0) ∧ w'.cell? ⟨w.heap.size, 1, none⟩ = some (.int .i64 a1.f1) ∧ w'.cell? ⟨w.heap.size, 2, none⟩ = some (.int .i64 a1.f2) ∧ w'.cell? ⟨w.heap.size, 3, none⟩ = some (.int .i64 a1.f3) ∧ w'.cell? ⟨w.heap.size, 4, none⟩ = some (.int .i64 a1.f4) ∧ w'.cell? ⟨w.heap.size, 5, none⟩ = some (.int .i64 a1.f5))
      (exact ⟨KB1.at_ rfl, KB1.at_ rfl, KB1.at_ rfl, KB1.at_ rfl, KB1.at_ rfl, KB1.at_ rfl⟩)
      (first
        | (go_at_call 54; refine Calls.mono (to_node l0 A0 n0 c0 _ _ _ (by omega) R0) ?_; rintro e w2 ⟨T2, tc2, rfl, FT2, B2⟩; (replace R0 := rd_nw B2 R0); (replace KB1 := box_nw B2 KB1); (replace G := below_trans G B2 (Nat.le_refl _)); (have S2 := Lib.hid (drw_size B2)))
        | (go_at_call 55; (with_reducible refine Calls.mono (to_edit_one a1 _) ?_); rintro e w3 ⟨rfl, B3⟩; (replace R0 := rd_nw B3 R0); (replace KB1 := box_nw B3 KB1); (replace FT2 := fr_nw B3 FT2); (replace G := below_trans G B3 (Nat.le_refl _)); (have S3 := Lib.hid (show w2.heap.size ≤ w3.heap.size from B3.size)))
        | (go_at_call 53; refine Calls.mono (spec_ApplyEdit l0 T2 n0 tc2 _ _ a1 _ (by omega) FT2.rd FT2.cap H0 H1) ?_; rintro e w4 ⟨P4_0, pc4_0, rfl, FP4_0, B4⟩; (replace R0 := rd_nw B4 R0); (replace KB1 := box_nw B4 KB1); (replace FT2 := fr_nw B4 FT2); (replace G := below_trans G B4 (Nat.le_refl _)); (have S4 := Lib.hid (show w3.heap.size ≤ w4.heap.size from B4.size))))
    clear B2
    clear B3
    clear B4
    clear FT2
    go_wp2_with fail
    refine (to_node l0 A0 n0 c0 _ _ _ (by omega) R0).mono ?_
    rintro e w5 ⟨T5, tc5, rfl, FT5, B5⟩
    replace R0 := R0.new B5
    replace KB1 := KB1.new B5
    replace FP4_0 := FP4_0.new B5
    replace G := below_trans G B5 (Nat.le_refl _)
    have S5 := Lib.hid B5.size
    clear B5
    have x6_0 : w5.cell? ⟨w.heap.size, 0, none⟩ = some (.int .i64 a1.f0) := KB1.at_ rfl
    have x6_1 : w5.cell? ⟨w.heap.size, 1, none⟩ = some (.int .i64 a1.f1) := KB1.at_ rfl
    have x6_2 : w5.cell? ⟨w.heap.size, 2, none⟩ = some (.int .i64 a1.f2) := KB1.at_ rfl
    have x6_3 : w5.cell? ⟨w.heap.size, 3, none⟩ = some (.int .i64 a1.f3) := KB1.at_ rfl
    have x6_4 : w5.cell? ⟨w.heap.size, 4, none⟩ = some (.int .i64 a1.f4) := KB1.at_ rfl
    have x6_5 : w5.cell? ⟨w.heap.size, 5, none⟩ = some (.int .i64 a1.f5) := KB1.at_ rfl
    go_wp2_with fail
    clear x6_0 x6_1 x6_2 x6_3 x6_4 x6_5
    refine (to_edit_one a1 _).mono ?_
    rintro e w6 ⟨rfl, B6⟩
    replace R0 := R0.new B6
    replace KB1 := KB1.new B6
    replace FP4_0 := FP4_0.new B6
    replace FT5 := FT5.new B6
    replace G := below_trans G B6 (Nat.le_refl _)
    have S6 := Lib.hid B6.size
    clear B6
    go_wp2_with fail
    refine (impl_ApplyEditC l0 T5 n0 tc5 _ _ a1 _ (by omega) FT5.rd FT5.cap H0 H1).mono ?_
    rintro e w7 ⟨P7_0, pc7_0, rfl, FP7_0, B7⟩
    replace R0 := R0.new B7
    replace KB1 := KB1.new B7
    replace FP4_0 := FP4_0.new B7
    replace FT5 := FT5.new B7
    replace G := below_trans G B7 (Nat.le_refl _)
    have S7 := Lib.hid B7.size
    clear B7
    go_wp2_with fail
    refine (eq_node_same (mApply l0 a1) P7_0 P4_0 _ _ pc7_0 pc4_0 _ _ _ _ _ (by omega) (by omega) FP7_0.rd FP4_0.rd).mono ?_
    rintro e w8 ⟨rfl, B8⟩
    replace R0 := R0.new B8
    replace KB1 := KB1.new B8
    replace FP4_0 := FP4_0.new B8
    replace FT5 := FT5.new B8
    replace FP7_0 := FP7_0.new B8
    replace G := below_trans G B8 (Nat.le_refl _)
    have S8 := Lib.hid B8.size
    clear B8
    go_wp2_with fail
    refine (to_node l0 A0 n0 c0 _ _ _ (by omega) R0).mono ?_
    rintro e w9 ⟨T9, tc9, rfl, FT9, B9⟩
    replace R0 := R0.new B9
    replace KB1 := KB1.new B9
    replace FP4_0 := FP4_0.new B9
    replace FT5 := FT5.new B9
    replace FP7_0 := FP7_0.new B9
    replace G := below_trans G B9 (Nat.le_refl _)
    have S9 := Lib.hid B9.size
    clear B9
    go_wp2_with fail
    refine (eq_node_same l0 T5 T9 n0 n0 tc5 tc9 _ _ _ _ _ (by omega) (by omega) FT5.rd FT9.rd).mono ?_
    rintro e w10 ⟨rfl, B10⟩
    replace R0 := R0.new B10
    replace KB1 := KB1.new B10
    replace FP4_0 := FP4_0.new B10
    replace FT5 := FT5.new B10
    replace FP7_0 := FP7_0.new B10
    replace FT9 := FT9.new B10
    replace G := below_trans G B10 (Nat.le_refl _)
    have S10 := Lib.hid B10.size
    clear B10
    clear FT9
    go_wp2_with fail
    refine (mark_node _ T5 n0 tc5 _ _ (1) _ (by omega) (by omega) FT5).mono ?_
    rintro e w11 ⟨rfl, FM11, C11, E11⟩
    replace R0 := R0.chg C11 (by have := S0.out; have := S1.out; have := S2.out; have := S3.out; have := S4.out; have := S5.out; have := S6.out; have := S7.out; have := S8.out; have := S9.out; have := S10.out; omega)
    replace KB1 := KB1.chg C11 (by have := S0.out; have := S1.out; have := S2.out; have := S3.out; have := S4.out; have := S5.out; have := S6.out; have := S7.out; have := S8.out; have := S9.out; have := S10.out; omega)
    replace FP4_0 := FP4_0.chg C11 (by have := S0.out; have := S1.out; have := S2.out; have := S3.out; have := S4.out; have := S5.out; have := S6.out; have := S7.out; have := S8.out; have := S9.out; have := S10.out; omega)
    replace FP7_0 := FP7_0.chg C11 (by have := S0.out; have := S1.out; have := S2.out; have := S3.out; have := S4.out; have := S5.out; have := S6.out; have := S7.out; have := S8.out; have := S9.out; have := S10.out; omega)
    replace G := G.trans (C11.below (.inl (by have := S0.out; have := S1.out; have := S2.out; have := S3.out; have := S4.out; have := S5.out; have := S6.out; have := S7.out; have := S8.out; have := S9.out; have := S10.out; omega)) (by have := S0.out; have := S1.out; have := S2.out; have := S3.out; have := S4.out; have := S5.out; have := S6.out; have := S7.out; have := S8.out; have := S9.out; have := S10.out; omega))
    clear FT5
    have S11 := Lib.hid (show w11.heap.size = w10.heap.size from E11)
    clear E11
    clear C11
    clear FM11
    go_wp2_with fail
    refine (eq_node_same (mApply l0 a1) P7_0 P4_0 _ _ pc7_0 pc4_0 _ _ _ _ _ (by omega) (by omega) FP7_0.rd FP4_0.rd).mono ?_
    rintro e w12 ⟨rfl, B12⟩
    replace R0 := R0.new B12
    replace KB1 := KB1.new B12
    replace FP4_0 := FP4_0.new B12
    replace FP7_0 := FP7_0.new B12
    replace G := below_trans G B12 (Nat.le_refl _)
    have S12 := Lib.hid B12.size
    clear B12
    go_wp2_with fail
    refine (mark_node _ P7_0 _ pc7_0 _ _ (1) _ (by omega) (by omega) FP7_0).mono ?_
    rintro e w13 ⟨rfl, FM13, C13, E13⟩
    replace R0 := R0.chg C13 (by have := S0.out; have := S1.out; have := S2.out; have := S3.out; have := S4.out; have := S5.out; have := S6.out; have := S7.out; have := S8.out; have := S9.out; have := S10.out; have := S11.out; have := S12.out; omega)
    replace KB1 := KB1.chg C13 (by have := S0.out; have := S1.out; have := S2.out; have := S3.out; have := S4.out; have := S5.out; have := S6.out; have := S7.out; have := S8.out; have := S9.out; have := S10.out; have := S11.out; have := S12.out; omega)
    replace FP4_0 := FP4_0.chg C13 (by have := S0.out; have := S1.out; have := S2.out; have := S3.out; have := S4.out; have := S5.out; have := S6.out; have := S7.out; have := S8.out; have := S9.out; have := S10.out; have := S11.out; have := S12.out; omega)
    replace G := G.trans (C13.below (.inl (by have := S0.out; have := S1.out; have := S2.out; have := S3.out; have := S4.out; have := S5.out; have := S6.out; have := S7.out; have := S8.out; have := S9.out; have := S10.out; have := S11.out; have := S12.out; omega)) (by have := S0.out; have := S1.out; have := S2.out; have := S3.out; have := S4.out; have := S5.out; have := S6.out; have := S7.out; have := S8.out; have := S9.out; have := S10.out; have := S11.out; have := S12.out; omega))
    clear FP7_0
    have S13 := Lib.hid (show w13.heap.size = w12.heap.size from E13)
    clear E13
    clear C13
    go_wp2_with fail
    refine (held_node P7_0 _ pc7_0 _ _ (1) _ (by omega) (by omega) FM13.rd).mono ?_
    rintro e w14 hq
    obtain ⟨rfl, B14⟩ := hq.says
    replace R0 := R0.new B14
    replace KB1 := KB1.new B14
    replace FP4_0 := FP4_0.new B14
    replace FM13 := FM13.new B14
    replace G := below_trans G B14 (Nat.le_refl _)
    have S14 := Lib.hid B14.size
    clear B14
    go_wp2_with fail
    replace R0 := R0.drw
    replace KB1 := KB1.drw
    replace FP4_0 := FP4_0.drw
    replace FM13 := FM13.drw
    replace G := G.drew
    go_region_held3 (fun w' => w'.cell? ⟨w.heap.size, 0, none⟩ = some (.int .i64 a1.f0) ∧ w'.cell? ⟨w.heap.size, 1, none⟩ = some (.int .i64 a1.f1) ∧ w'.cell? ⟨w.heap.size, 2, none⟩ = some (.int .i64 a1.f2) ∧ w'.cell? ⟨w.heap.size, 3, none⟩ = some (.int .i64 a1.f3) ∧ w'.cell? ⟨w.heap.size, 4, none⟩ = some (.int .i64 a1.f4) ∧ w'.cell? ⟨w.heap.size, 5, none⟩ = some (.int .i64 a1.f5))
      (exact ⟨KB1.at_ rfl, KB1.at_ rfl, KB1.at_ rfl, KB1.at_ rfl, KB1.at_ rfl, KB1.at_ rfl⟩)
      (first
        | (go_at_call 54; refine Calls.mono (to_node l0 A0 n0 c0 _ _ _ (by omega) R0) ?_; rintro e w15 ⟨T15, tc15, rfl, FT15, B15⟩; (replace R0 := rd_nw B15 R0); (replace KB1 := box_nw B15 KB1); (replace FP4_0 := fr_nw B15 FP4_0); (replace FM13 := fr_nw B15 FM13); (replace G := below_trans G B15 (Nat.le_refl _)); (have S15 := Lib.hid (drw_size B15)))
        | (go_at_call 55; (with_reducible refine Calls.mono (to_edit_one a1 _) ?_); rintro e w16 ⟨rfl, B16⟩; (replace R0 := rd_nw B16 R0); (replace KB1 := box_nw B16 KB1); (replace FP4_0 := fr_nw B16 FP4_0); (replace FM13 := fr_nw B16 FM13); (replace FT15 := fr_nw B16 FT15); (replace G := below_trans G B16 (Nat.le_refl _)); (have S16 := Lib.hid (show w15.heap.size ≤ w16.heap.size from B16.size)))
        | (go_at_call 56; refine Calls.mono (impl_ApplyEditC l0 T15 n0 tc15 _ _ a1 _ (by omega) FT15.rd FT15.cap H0 H1) ?_; rintro e w17 ⟨P17_0, pc17_0, rfl, FP17_0, B17⟩; (replace R0 := rd_nw B17 R0); (replace KB1 := box_nw B17 KB1); (replace FP4_0 := fr_nw B17 FP4_0); (replace FM13 := fr_nw B17 FM13); (replace FT15 := fr_nw B17 FT15); (replace G := below_trans G B17 (Nat.le_refl _)); (have S17 := Lib.hid (show w16.heap.size ≤ w17.heap.size from B17.size))))
    clear B15
    clear B16
    clear B17
    clear FT15
    go_wp2_with fail
    refine (eq_node_same (mApply l0 a1) P17_0 P4_0 _ _ pc17_0 pc4_0 _ _ _ _ _ (by omega) (by omega) FP17_0.rd FP4_0.rd).mono ?_
    rintro e w18 ⟨rfl, B18⟩
    replace R0 := R0.new B18
    replace KB1 := KB1.new B18
    replace FP4_0 := FP4_0.new B18
    replace FM13 := FM13.new B18
    replace FP17_0 := FP17_0.new B18
    replace G := below_trans G B18 (Nat.le_refl _)
    have S18 := Lib.hid B18.size
    clear B18
    go_wp2_with fail
    refine (held_node P7_0 _ pc7_0 _ _ (1) _ (by omega) (by omega) FM13.rd).mono ?_
    rintro e w19 hq
    obtain ⟨rfl, B19⟩ := hq.says
    replace R0 := R0.new B19
    replace KB1 := KB1.new B19
    replace FP4_0 := FP4_0.new B19
    replace FM13 := FM13.new B19
    replace FP17_0 := FP17_0.new B19
    replace G := below_trans G B19 (Nat.le_refl _)
    have S19 := Lib.hid B19.size
    clear B19
    go_wp2_with fail
    go_ret
    exact ⟨rfl, G⟩
  · skip
    have G : Below w.heap.size w (w.alloc (.cells #[.int .i64 a1.f0, .int .i64 a1.f1, .int .i64 a1.f2, .int .i64 a1.f3, .int .i64 a1.f4, .int .i64 a1.f5] 81)) := (Below.refl _ _).alloc (by simp) _
    have S0 := Lib.hid (show (w.alloc (.cells #[.int .i64 a1.f0, .int .i64 a1.f1, .int .i64 a1.f2, .int .i64 a1.f3, .int .i64 a1.f4, .int .i64 a1.f5] 81)).heap.size = w.heap.size + 1 by simp)
    have KB1 : BoxAt (w.alloc (.cells #[.int .i64 a1.f0, .int .i64 a1.f1, .int .i64 a1.f2, .int .i64 a1.f3, .int .i64 a1.f4, .int .i64 a1.f5] 81)) (w.heap.size) 81 #[.int .i64 a1.f0, .int .i64 a1.f1, .int .i64 a1.f2, .int .i64 a1.f3, .int .i64 a1.f4, .int .i64 a1.f5] := box_new _ _ _
    go_enter Try.func10, Try.ntmps10
    go_wp2_with fail
    refine (szno_node A0 n0 c0 (1048576) _ hm0 (by omega) (by omega) (by omega)).mono ?_
    rintro e w1 hq
    obtain ⟨rfl, B20⟩ := hq.says
    replace KB1 := KB1.new B20
    replace G := below_trans G B20 (Nat.le_refl _)
    have S1 := Lib.hid B20.size
    clear B20
    go_wp2_with fail
    go_ret
    exact ⟨rfl, G⟩

set_option maxRecDepth 100000 in
theorem lifted (os : Os) (started : os.Started) (H : Type) (enc : TypeId × Value → H) :
    ReturnsInHanded {} Try.checked os 10 .any (Rows.fnExactApplyEditSpec.pre6 enc Try.prog Try.f10 Rows.fnExactApplyEditRow.domain false) (Rows.fnExactApplyEditSpec.post enc Try.prog Try.f10 false true false false) := by
  refine law_lifted Try.func10 (by kernel_rfl) rfl rfl (by kernel_rfl) os started
    (ChangeSpec.witness6 (enc := enc) (C := Try.checked) false ⟨#[], #[.slice none 0 0, .agg #[.int .i64 0, .int .i64 0, .int .i64 0, .int .i64 0, .int .i64 0, .int .i64 0]], []⟩ 8 (by kernel_rfl) (by kernel_rfl) (by kernel_rfl) (by kernel_rfl)) ?_
  intro W base args ds p hval hA hlt
  rw [Try.params10] at hA hval
  obtain ⟨v0, vs0, d0, ds0, p0, q0, hargs, rfl, rfl, h0, r0⟩ := trodAll_cons hA
  obtain ⟨v1, vs1, d1, ds1, p1, q1, rfl, rfl, rfl, h1, r1⟩ := trodAll_cons r0
  obtain ⟨rfl, rfl, rfl⟩ := trodAll_nil r1
  obtain rfl : args = #[v0, v1] := by cases args; simp_all
  obtain ⟨A0, n0, c0, l0, rfl, m0, R0, H0⟩ := open_node_list (hval 0 79 v0 rfl rfl) h0 (fun x hx => hlt x (by simp [hx]))
  obtain ⟨a1, rfl, H1⟩ := open_edit (hval 1 81 v1 rfl rfl) h1
  exact ⟨⟨rfl, rfl, rfl⟩, walk l0 A0 n0 c0 a1 W m0 R0 H0 H1⟩

set_option maxRecDepth 100000 in
set_option maxHeartbeats 8000000 in
theorem closed : joinedFacts Try.pinned.checked.prog 10 Try.f10 Rows.fnExactApplyEditSpec Rows.fnExactApplyEditRow = true :=
  (and_i (and_i (and_i (and_i (and_i (and_i (and_i (and_i (and_i (and_i (and_i (and_i (and_i (and_i (and_i (and_i (and_i (and_i (and_i (and_i (and_i (and_i (and_i (and_i (and_i (and_i (and_i (and_i (and_i (and_i (and_i (by as_aux_lemma => kernel_rfl) seatLaid) sf_maps) (by as_aux_lemma => kernel_rfl)) (by as_aux_lemma => kernel_rfl)) (by as_aux_lemma => kernel_rfl)) (by as_aux_lemma => kernel_rfl)) (by as_aux_lemma => kernel_rfl)) (by as_aux_lemma => kernel_rfl)) (by as_aux_lemma => kernel_rfl)) (by as_aux_lemma => kernel_rfl)) (by as_aux_lemma => kernel_rfl)) (by as_aux_lemma => kernel_rfl)) (by as_aux_lemma => kernel_rfl)) (by as_aux_lemma => kernel_rfl)) (by as_aux_lemma => kernel_rfl)) (by as_aux_lemma => kernel_rfl)) (by as_aux_lemma => kernel_rfl)) (by as_aux_lemma => kernel_rfl)) (by as_aux_lemma => kernel_rfl)) (by as_aux_lemma => kernel_rfl)) (by as_aux_lemma => kernel_rfl)) sf_plain) (by as_aux_lemma => kernel_rfl)) sf_heard) sf_enter) sf_lifts) sf_make) (by as_aux_lemma => kernel_rfl)) (by as_aux_lemma => kernel_rfl)) (by as_aux_lemma => kernel_rfl)) (by as_aux_lemma => kernel_rfl))

theorem over : Rows.fnExactApplyEditRow.holds Try.pinned (OpenSpec.ofChange Rows.fnExactApplyEditSpec) :=
  OpenClaim.holds_of_wide 10 Try.f10 rfl rfl rfl rfl rfl rfl rfl ⟨rfl, rfl, rfl, rfl, rfl⟩ rfl rfl rfl rfl rfl (by kernel_rfl) Try.func10 closed
    (of_decide_eq_true (by kernel_rfl)) (by unfold Func.isWrapper; first | (rw [if_pos (by decide +kernel)]; kernel_rfl) | (rw [if_neg (by decide +kernel)]; exact ⟨rfl, rfl⟩))
    (fun os started H enc _ => lifted os started H enc)

theorem proved : Rows.FnExactApplyEditSaid := over
#print axioms proved
end Go.Proofs.Ytejcioenoofjlaa.fnExactApplyEdit
