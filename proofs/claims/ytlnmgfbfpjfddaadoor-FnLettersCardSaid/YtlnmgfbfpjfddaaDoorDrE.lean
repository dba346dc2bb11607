/- The draws of FnLetters. No condition of its own. -/
import Derived.Test.YtlnmgfbfpjfddaaDoorDrw
import Derived.Test.YtlnmgfbfpjfddaaDoorSeal
import Derived.Test.YtlnmgfbfpjfddaaDoorApp
import Derived.Test.YtlnmgfbfpjfddaaDoorFun
import Derived.Test.YtlnmgfbfpjfddaaDoorTLetter
namespace Go.Proofs.YtlnmgfbfpjfddaaDoor
open Go Go.ChangeShapes Go.WideShapes Go.ChangeAt Go.RowKit Go.Lib
set_option linter.unusedVariables false
set_option linter.unusedSimpArgs false
set_option maxRecDepth 100000
set_option maxHeartbeats 8000000 in
theorem letter_any (g n cap : Nat) (A : Option Addr) (w : World) (hn : n ≤ maxLen) (hc : Cur w g A n cap) (wL : World) (hT : Pow10 wL) (hw : Below wL.heap.size wL w) (hg0 : wL.heap.size ≤ g) :
    Calls Tryd.prog 70 #[.pointer (some ⟨g, 0, none⟩), .int .i64 5] w (Drw g A n cap (fun x : TLetter => Value.agg #[.int .i64 x.f0, .int .i64 x.f1, .int .i64 x.f2, .int .i64 x.f3]) (fun x : TLetter => x.fit ∧ -1 ≤ x.f1 ∧ x.f1 ≤ 6) w) := by
  have HC := Lib.hid hc
  have HLT := hc.lt
  have HG := Lib.hid (World.grownBy.refl w (some g))
  clear hc
  have HT := Lib.hid hT
  have HW := Lib.hid hw
  clear hT hw
  have R := Lib.hid (show BoxAt (w.alloc (.cells #[.int .i64 0, .int .i64 0, .int .i64 0, .int .i64 0] 62)) w.heap.size 62 #[.int .i64 0, .int .i64 0, .int .i64 0, .int .i64 0] from by simpa using box_new w 62 #[.int .i64 0, .int .i64 0, .int .i64 0, .int .i64 0])
  have aR : w.heap.size ≤ w.heap.size := by have := HG.out.size; (try simp at this); omega
  replace HC := Lib.hid (HC.out.new (.cells #[.int .i64 0, .int .i64 0, .int .i64 0, .int .i64 0] 62))
  replace HG := Lib.hid (dr_al HG.out (.cells #[.int .i64 0, .int .i64 0, .int .i64 0, .int .i64 0] 62))
  go_enter Tryd.func70, Tryd.ntmps70
  go_wp2_with fail
  refine Calls.mono (below_any g n cap A 4 _ hn HC.out (by omega) (by omega)) ?_
  rintro e w1 ⟨y0, hy0a, hy0b, rfl, hc, hg⟩
  replace R := Lib.hid (R.out.grown hg (by omega))
  have lR : w.heap.size < w1.heap.size := R.out.lt
  replace HC := Lib.hid hc
  replace HG := Lib.hid (grown_both HG.out hg)
  have s1 : w.heap.size ≤ w1.heap.size := HG.out.size
  clear hc hg
  go_wp2_with fail
  refine Calls.mono (below_any g n cap A 4 _ hn HC.out (by omega) (by omega)) ?_
  rintro e w2 ⟨y1, hy1a, hy1b, rfl, hc, hg⟩
  replace R := Lib.hid (R.out.grown hg (by omega))
  have lR : w.heap.size < w2.heap.size := R.out.lt
  replace HC := Lib.hid hc
  replace HG := Lib.hid (grown_both HG.out hg)
  have s2 : w.heap.size ≤ w2.heap.size := HG.out.size
  clear hc hg
  go_wp2_with fail
  refine Calls.mono (below_any g n cap A 50 _ hn HC.out (by omega) (by omega)) ?_
  rintro e w3 ⟨y2, hy2a, hy2b, rfl, hc, hg⟩
  replace R := Lib.hid (R.out.grown hg (by omega))
  have lR : w.heap.size < w3.heap.size := R.out.lt
  replace HC := Lib.hid hc
  replace HG := Lib.hid (grown_both HG.out hg)
  have s3 : w.heap.size ≤ w3.heap.size := HG.out.size
  clear hc hg
  obtain ⟨sv, hsv⟩ : ∃ z, mSealOf 5 ⟨y0, y1, y2, 0⟩ = z := ⟨_, rfl⟩
  have hsb : 0 ≤ sv ∧ sv ≤ 2147483647 := by
    rw [← hsv]
    unfold mSealOf
    split
    · have := mKHash_bd 5 [y0, y1, y2]
      simp only at this ⊢
      omega
    · omega
  have CS := Lib.hid (fun (W : World) (hb : Below wL.heap.size wL W) => show Calls Tryd.prog 86 #[.int .i64 5, .agg #[.int .i64 y0, .int .i64 y1, .int .i64 y2, .int .i64 0]] W (Says (.agg #[.int .i64 y0, .int .i64 y1, .int .i64 y2, .int .i64 sv]) W) from by
    rw [← hsv]
    exact spec_SealLetter 5 ⟨y0, y1, y2, 0⟩ W (pow10_below HT.out hb) (WalkArith.wf_i64 (by constructor <;> omega)) (Lib.hid (by unfold TLetter.fit; simp only; omega)))
  clear hsv
  go_wp2_with fail
  refine Calls.mono (CS.out _ (dr_below HW.out hg0 HG.out)) ?_
  rintro e w4 ⟨rfl, hb⟩
  replace R := Lib.hid (R.out.new hb)
  have lR : w.heap.size < w4.heap.size := R.out.lt
  replace HC := Lib.hid (dr_cur_low HC.out HC.out.lt hb)
  replace HG := Lib.hid (dr_low HG.out HG.out.size hb)
  have s4 : w.heap.size ≤ w4.heap.size := HG.out.size
  clear hb
  clear CS
  have B := Lib.hid (show BoxAt (w4.alloc (.cells #[.int .i64 0, .int .i64 0, .int .i64 0, .int .i64 0] 62)) w4.heap.size 62 #[.int .i64 0, .int .i64 0, .int .i64 0, .int .i64 0] from by simpa using box_new w4 62 #[.int .i64 0, .int .i64 0, .int .i64 0, .int .i64 0])
  have aB : w.heap.size ≤ w4.heap.size := by have := HG.out.size; (try simp at this); omega
  replace R := Lib.hid (R.out.alloc_ (.cells #[.int .i64 0, .int .i64 0, .int .i64 0, .int .i64 0] 62))
  replace HC := Lib.hid (HC.out.new (.cells #[.int .i64 0, .int .i64 0, .int .i64 0, .int .i64 0] 62))
  replace HG := Lib.hid (dr_al HG.out (.cells #[.int .i64 0, .int .i64 0, .int .i64 0, .int .i64 0] 62))
  obtain ⟨x5, hx⟩ : ∃ x, x = World.setRow (w4.alloc (.cells #[.int .i64 0, .int .i64 0, .int .i64 0, .int .i64 0] 62)) w4.heap.size #[.int .i64 y0, .int .i64 y1, .int .i64 y2, .int .i64 sv] := ⟨_, rfl⟩
  have HX5 := Lib.hid hx
  have OLD5 := B
  replace R := Lib.hid (show BoxAt x5 w.heap.size 62 #[.int .i64 0, .int .i64 0, .int .i64 0, .int .i64 0] by rw [hx]; exact box_far R.out (by omega))
  replace B := Lib.hid (show BoxAt x5 w4.heap.size 62 #[.int .i64 y0, .int .i64 y1, .int .i64 y2, .int .i64 sv] by rw [hx]; exact box_row B.out)
  replace HC := Lib.hid (show Cur x5 g A n cap by rw [hx]; exact dr_cur_row HC.out (by omega) _)
  replace HG := Lib.hid (show w.grownBy x5 (some g) by rw [hx]; exact dr_row HG.out (by omega) _)
  have z5 : w.heap.size ≤ x5.heap.size := HG.out.size
  have lR : w.heap.size < x5.heap.size := R.out.lt
  have lB : w4.heap.size < x5.heap.size := B.out.lt
  clear hx
  go_wp2_with (refine wpList_store_row rfl 62 _ _ rfl w4.heap.size #[.int .i64 y0, .int .i64 y1, .int .i64 y2, .int .i64 sv] rfl rfl 62 _ OLD5.out (by kernel_rfl) (by kernel_rfl) (by kernel_rfl) ?_; rw [← HX5.out]; clear HX5 OLD5)
  refine Calls.mono (below_any g n cap A 8 _ hn HC.out (by omega) (by omega)) ?_
  rintro e w6 ⟨y, hya, hyb, rfl, hc, hg⟩
  replace R := Lib.hid (R.out.grown hg (by omega))
  have lR : w.heap.size < w6.heap.size := R.out.lt
  replace B := Lib.hid (B.out.grown hg (by omega))
  have lB : w4.heap.size < w6.heap.size := B.out.lt
  replace HC := Lib.hid hc
  replace HG := Lib.hid (grown_both HG.out hg)
  have s6 : w.heap.size ≤ w6.heap.size := HG.out.size
  clear hc hg
  by_cases q0 : y = 0
  · skip
    subst q0
    go_wp2_with fail
    refine Calls.mono (below_any g n cap A 4 _ hn HC.out (by omega) (by omega)) ?_
    rintro e w7 ⟨z, hza, hzb, rfl, hc, hg⟩
    replace R := Lib.hid (R.out.grown hg (by omega))
    have lR : w.heap.size < w7.heap.size := R.out.lt
    replace B := Lib.hid (B.out.grown hg (by omega))
    have lB : w4.heap.size < w7.heap.size := B.out.lt
    replace HC := Lib.hid hc
    replace HG := Lib.hid (grown_both HG.out hg)
    have s7 : w.heap.size ≤ w7.heap.size := HG.out.size
    clear hc hg
    have eB0 := B.out.at_ (j := 0) rfl
    have fB0 := B.out.free 0
    replace B := Lib.hid (show BoxAt (World.setCell w7 ⟨w4.heap.size, 0, none⟩ (.int .i64 z)) w4.heap.size 62 #[.int .i64 z, .int .i64 y1, .int .i64 y2, .int .i64 sv] from dr_put_box B.out 0 _)
    replace R := Lib.hid (show BoxAt (World.setCell w7 ⟨w4.heap.size, 0, none⟩ (.int .i64 z)) w.heap.size 62 #[.int .i64 0, .int .i64 0, .int .i64 0, .int .i64 0] from dr_put_far R.out (by omega))
    replace HC := Lib.hid (dr_cur_put (p := ⟨w4.heap.size, 0, none⟩) (u := .int .i64 z) HC.out (by show g < w4.heap.size; omega))
    replace HG := Lib.hid (dr_put (p := ⟨w4.heap.size, 0, none⟩) (u := .int .i64 z) HG.out (by show w.heap.size ≤ w4.heap.size; omega))
    have HF : Hid ((fun x : TLetter => x.fit ∧ -1 ≤ x.f1 ∧ x.f1 ≤ 6) ⟨z, y1, y2, sv⟩) := Lib.hid ⟨by unfold TLetter.fit; simp only; omega, by simp only; omega, by simp only; omega⟩
    have kB0 := B.out.at_ (j := 0) rfl
    have kB1 := B.out.at_ (j := 1) rfl
    have kB2 := B.out.at_ (j := 2) rfl
    have kB3 := B.out.at_ (j := 3) rfl
    obtain ⟨x9, hx⟩ : ∃ x, x = World.setRow (World.setCell w7 ⟨w4.heap.size, 0, none⟩ (.int .i64 z)) w.heap.size #[.int .i64 z, .int .i64 y1, .int .i64 y2, .int .i64 sv] := ⟨_, rfl⟩
    have HX9 := Lib.hid hx
    have OLD9 := R
    replace R := Lib.hid (show BoxAt x9 w.heap.size 62 #[.int .i64 z, .int .i64 y1, .int .i64 y2, .int .i64 sv] by rw [hx]; exact box_row R.out)
    replace B := Lib.hid (show BoxAt x9 w4.heap.size 62 #[.int .i64 z, .int .i64 y1, .int .i64 y2, .int .i64 sv] by rw [hx]; exact box_far B.out (by omega))
    replace HC := Lib.hid (show Cur x9 g A n cap by rw [hx]; exact dr_cur_row HC.out (by omega) _)
    replace HG := Lib.hid (show w.grownBy x9 (some g) by rw [hx]; exact dr_row HG.out (by omega) _)
    have z9 : w.heap.size ≤ x9.heap.size := HG.out.size
    have lR : w.heap.size < x9.heap.size := R.out.lt
    have lB : w4.heap.size < x9.heap.size := B.out.lt
    clear hx
    go_wp2_with (refine wpList_store_row rfl 62 _ _ rfl w.heap.size #[.int .i64 z, .int .i64 y1, .int .i64 y2, .int .i64 sv] rfl rfl 62 _ OLD9.out (by kernel_rfl) (by kernel_rfl) (by kernel_rfl) ?_; rw [← HX9.out]; clear HX9 OLD9)
    have rR0 := R.out.at_ (j := 0) rfl
    have rR1 := R.out.at_ (j := 1) rfl
    have rR2 := R.out.at_ (j := 2) rfl
    have rR3 := R.out.at_ (j := 3) rfl
    exact bodyPost_ret (v := .agg #[.int .i64 z, .int .i64 y1, .int .i64 y2, .int .i64 sv]) (by simp [results, Tryd.results70, go_sem, rR0, rR1, rR2, rR3]) rfl ⟨⟨z, y1, y2, sv⟩, HF.out, rfl, HC.out, HG.out⟩
  · skip
    have r0 : (y == 0) = false := by simp [q0]
    have t0 : decide (y = 0) = false := by simp [q0]
    by_cases q1 : y = 1
    · skip
      subst q1
      have eB2 := B.out.at_ (j := 2) rfl
      have fB2 := B.out.free 2
      replace B := Lib.hid (show BoxAt (World.setCell w6 ⟨w4.heap.size, 2, none⟩ (.int .i64 (y2 + 1))) w4.heap.size 62 #[.int .i64 y0, .int .i64 y1, .int .i64 (y2 + 1), .int .i64 sv] from dr_put_box B.out 2 _)
      replace R := Lib.hid (show BoxAt (World.setCell w6 ⟨w4.heap.size, 2, none⟩ (.int .i64 (y2 + 1))) w.heap.size 62 #[.int .i64 0, .int .i64 0, .int .i64 0, .int .i64 0] from dr_put_far R.out (by omega))
      replace HC := Lib.hid (dr_cur_put (p := ⟨w4.heap.size, 2, none⟩) (u := .int .i64 (y2 + 1)) HC.out (by show g < w4.heap.size; omega))
      replace HG := Lib.hid (dr_put (p := ⟨w4.heap.size, 2, none⟩) (u := .int .i64 (y2 + 1)) HG.out (by show w.heap.size ≤ w4.heap.size; omega))
      have HF : Hid ((fun x : TLetter => x.fit ∧ -1 ≤ x.f1 ∧ x.f1 ≤ 6) ⟨y0, y1, (y2 + 1), sv⟩) := Lib.hid ⟨by unfold TLetter.fit; simp only; omega, by simp only; omega, by simp only; omega⟩
      have kB0 := B.out.at_ (j := 0) rfl
      have kB1 := B.out.at_ (j := 1) rfl
      have kB2 := B.out.at_ (j := 2) rfl
      have kB3 := B.out.at_ (j := 3) rfl
      obtain ⟨x8, hx⟩ : ∃ x, x = World.setRow (World.setCell w6 ⟨w4.heap.size, 2, none⟩ (.int .i64 (y2 + 1))) w.heap.size #[.int .i64 y0, .int .i64 y1, .int .i64 (y2 + 1), .int .i64 sv] := ⟨_, rfl⟩
      have HX8 := Lib.hid hx
      have OLD8 := R
      replace R := Lib.hid (show BoxAt x8 w.heap.size 62 #[.int .i64 y0, .int .i64 y1, .int .i64 (y2 + 1), .int .i64 sv] by rw [hx]; exact box_row R.out)
      replace B := Lib.hid (show BoxAt x8 w4.heap.size 62 #[.int .i64 y0, .int .i64 y1, .int .i64 (y2 + 1), .int .i64 sv] by rw [hx]; exact box_far B.out (by omega))
      replace HC := Lib.hid (show Cur x8 g A n cap by rw [hx]; exact dr_cur_row HC.out (by omega) _)
      replace HG := Lib.hid (show w.grownBy x8 (some g) by rw [hx]; exact dr_row HG.out (by omega) _)
      have z8 : w.heap.size ≤ x8.heap.size := HG.out.size
      have lR : w.heap.size < x8.heap.size := R.out.lt
      have lB : w4.heap.size < x8.heap.size := B.out.lt
      clear hx
      go_wp2_with (refine wpList_store_row rfl 62 _ _ rfl w.heap.size #[.int .i64 y0, .int .i64 y1, .int .i64 (y2 + 1), .int .i64 sv] rfl rfl 62 _ OLD8.out (by kernel_rfl) (by kernel_rfl) (by kernel_rfl) ?_; rw [← HX8.out]; clear HX8 OLD8)
      have rR0 := R.out.at_ (j := 0) rfl
      have rR1 := R.out.at_ (j := 1) rfl
      have rR2 := R.out.at_ (j := 2) rfl
      have rR3 := R.out.at_ (j := 3) rfl
      exact bodyPost_ret (v := .agg #[.int .i64 y0, .int .i64 y1, .int .i64 (y2 + 1), .int .i64 sv]) (by simp [results, Tryd.results70, go_sem, rR0, rR1, rR2, rR3]) rfl ⟨⟨y0, y1, (y2 + 1), sv⟩, HF.out, rfl, HC.out, HG.out⟩
    · skip
      have r1 : (y == 1) = false := by simp [q1]
      have t1 : decide (y = 1) = false := by simp [q1]
      by_cases q2 : y = 2
      · skip
        subst q2
        have Lt6 := Lib.hid (show BoxAt (w6.alloc (.cells #[.int .i64 (-1), .int .i64 5, .int .i64 6] 3)) w6.heap.size 3 #[.int .i64 (-1), .int .i64 5, .int .i64 6] from by simpa using box_new w6 3 #[.int .i64 (-1), .int .i64 5, .int .i64 6])
        have aLt6 : w.heap.size ≤ w6.heap.size := by have := HG.out.size; (try simp at this); omega
        replace R := Lib.hid (R.out.alloc_ (.cells #[.int .i64 (-1), .int .i64 5, .int .i64 6] 3))
        replace B := Lib.hid (B.out.alloc_ (.cells #[.int .i64 (-1), .int .i64 5, .int .i64 6] 3))
        replace HC := Lib.hid (HC.out.new (.cells #[.int .i64 (-1), .int .i64 5, .int .i64 6] 3))
        replace HG := Lib.hid (dr_al HG.out (.cells #[.int .i64 (-1), .int .i64 5, .int .i64 6] 3))
        go_wp2_with fail
        refine Calls.mono (int_any g n cap A [-1, 5, 6] w6.heap.size (-1) (6) _ hn HC.out (by omega) Lt6.out (by decide) (by decide) (by decide)) ?_
        rintro e w7 ⟨z, hza, hzb, rfl, hc, hg⟩
        replace R := Lib.hid (R.out.grown hg (by omega))
        have lR : w.heap.size < w7.heap.size := R.out.lt
        replace B := Lib.hid (B.out.grown hg (by omega))
        have lB : w4.heap.size < w7.heap.size := B.out.lt
        replace Lt6 := Lib.hid (Lt6.out.grown hg (by omega))
        have lLt6 : w6.heap.size < w7.heap.size := Lt6.out.lt
        replace HC := Lib.hid hc
        replace HG := Lib.hid (grown_both HG.out hg)
        have s7 : w.heap.size ≤ w7.heap.size := HG.out.size
        clear hc hg
        clear Lt6
        have eB1 := B.out.at_ (j := 1) rfl
        have fB1 := B.out.free 1
        replace B := Lib.hid (show BoxAt (World.setCell w7 ⟨w4.heap.size, 1, none⟩ (.int .i64 z)) w4.heap.size 62 #[.int .i64 y0, .int .i64 z, .int .i64 y2, .int .i64 sv] from dr_put_box B.out 1 _)
        replace R := Lib.hid (show BoxAt (World.setCell w7 ⟨w4.heap.size, 1, none⟩ (.int .i64 z)) w.heap.size 62 #[.int .i64 0, .int .i64 0, .int .i64 0, .int .i64 0] from dr_put_far R.out (by omega))
        replace HC := Lib.hid (dr_cur_put (p := ⟨w4.heap.size, 1, none⟩) (u := .int .i64 z) HC.out (by show g < w4.heap.size; omega))
        replace HG := Lib.hid (dr_put (p := ⟨w4.heap.size, 1, none⟩) (u := .int .i64 z) HG.out (by show w.heap.size ≤ w4.heap.size; omega))
        have HF : Hid ((fun x : TLetter => x.fit ∧ -1 ≤ x.f1 ∧ x.f1 ≤ 6) ⟨y0, z, y2, sv⟩) := Lib.hid ⟨by unfold TLetter.fit; simp only; omega, by simp only; omega, by simp only; omega⟩
        have kB0 := B.out.at_ (j := 0) rfl
        have kB1 := B.out.at_ (j := 1) rfl
        have kB2 := B.out.at_ (j := 2) rfl
        have kB3 := B.out.at_ (j := 3) rfl
        obtain ⟨x9, hx⟩ : ∃ x, x = World.setRow (World.setCell w7 ⟨w4.heap.size, 1, none⟩ (.int .i64 z)) w.heap.size #[.int .i64 y0, .int .i64 z, .int .i64 y2, .int .i64 sv] := ⟨_, rfl⟩
        have HX9 := Lib.hid hx
        have OLD9 := R
        replace R := Lib.hid (show BoxAt x9 w.heap.size 62 #[.int .i64 y0, .int .i64 z, .int .i64 y2, .int .i64 sv] by rw [hx]; exact box_row R.out)
        replace B := Lib.hid (show BoxAt x9 w4.heap.size 62 #[.int .i64 y0, .int .i64 z, .int .i64 y2, .int .i64 sv] by rw [hx]; exact box_far B.out (by omega))
        replace HC := Lib.hid (show Cur x9 g A n cap by rw [hx]; exact dr_cur_row HC.out (by omega) _)
        replace HG := Lib.hid (show w.grownBy x9 (some g) by rw [hx]; exact dr_row HG.out (by omega) _)
        have z9 : w.heap.size ≤ x9.heap.size := HG.out.size
        have lR : w.heap.size < x9.heap.size := R.out.lt
        have lB : w4.heap.size < x9.heap.size := B.out.lt
        clear hx
        go_wp2_with (refine wpList_store_row rfl 62 _ _ rfl w.heap.size #[.int .i64 y0, .int .i64 z, .int .i64 y2, .int .i64 sv] rfl rfl 62 _ OLD9.out (by kernel_rfl) (by kernel_rfl) (by kernel_rfl) ?_; rw [← HX9.out]; clear HX9 OLD9)
        have rR0 := R.out.at_ (j := 0) rfl
        have rR1 := R.out.at_ (j := 1) rfl
        have rR2 := R.out.at_ (j := 2) rfl
        have rR3 := R.out.at_ (j := 3) rfl
        exact bodyPost_ret (v := .agg #[.int .i64 y0, .int .i64 z, .int .i64 y2, .int .i64 sv]) (by simp [results, Tryd.results70, go_sem, rR0, rR1, rR2, rR3]) rfl ⟨⟨y0, z, y2, sv⟩, HF.out, rfl, HC.out, HG.out⟩
      · skip
        have r2 : (y == 2) = false := by simp [q2]
        have t2 : decide (y = 2) = false := by simp [q2]
        by_cases q3 : y = 3
        · skip
          subst q3
          have Lt6 := Lib.hid (show BoxAt (w6.alloc (.cells #[.int .i64 0, .int .i64 1, .int .i64 (-1)] 3)) w6.heap.size 3 #[.int .i64 0, .int .i64 1, .int .i64 (-1)] from by simpa using box_new w6 3 #[.int .i64 0, .int .i64 1, .int .i64 (-1)])
          have aLt6 : w.heap.size ≤ w6.heap.size := by have := HG.out.size; (try simp at this); omega
          replace R := Lib.hid (R.out.alloc_ (.cells #[.int .i64 0, .int .i64 1, .int .i64 (-1)] 3))
          replace B := Lib.hid (B.out.alloc_ (.cells #[.int .i64 0, .int .i64 1, .int .i64 (-1)] 3))
          replace HC := Lib.hid (HC.out.new (.cells #[.int .i64 0, .int .i64 1, .int .i64 (-1)] 3))
          replace HG := Lib.hid (dr_al HG.out (.cells #[.int .i64 0, .int .i64 1, .int .i64 (-1)] 3))
          go_wp2_with fail
          refine Calls.mono (int_any g n cap A [0, 1, -1] w6.heap.size (-1) (1) _ hn HC.out (by omega) Lt6.out (by decide) (by decide) (by decide)) ?_
          rintro e w7 ⟨z, hza, hzb, rfl, hc, hg⟩
          replace R := Lib.hid (R.out.grown hg (by omega))
          have lR : w.heap.size < w7.heap.size := R.out.lt
          replace B := Lib.hid (B.out.grown hg (by omega))
          have lB : w4.heap.size < w7.heap.size := B.out.lt
          replace Lt6 := Lib.hid (Lt6.out.grown hg (by omega))
          have lLt6 : w6.heap.size < w7.heap.size := Lt6.out.lt
          replace HC := Lib.hid hc
          replace HG := Lib.hid (grown_both HG.out hg)
          have s7 : w.heap.size ≤ w7.heap.size := HG.out.size
          clear hc hg
          clear Lt6
          have eB3 := B.out.at_ (j := 3) rfl
          have fB3 := B.out.free 3
          replace B := Lib.hid (show BoxAt (World.setCell w7 ⟨w4.heap.size, 3, none⟩ (.int .i64 z)) w4.heap.size 62 #[.int .i64 y0, .int .i64 y1, .int .i64 y2, .int .i64 z] from dr_put_box B.out 3 _)
          replace R := Lib.hid (show BoxAt (World.setCell w7 ⟨w4.heap.size, 3, none⟩ (.int .i64 z)) w.heap.size 62 #[.int .i64 0, .int .i64 0, .int .i64 0, .int .i64 0] from dr_put_far R.out (by omega))
          replace HC := Lib.hid (dr_cur_put (p := ⟨w4.heap.size, 3, none⟩) (u := .int .i64 z) HC.out (by show g < w4.heap.size; omega))
          replace HG := Lib.hid (dr_put (p := ⟨w4.heap.size, 3, none⟩) (u := .int .i64 z) HG.out (by show w.heap.size ≤ w4.heap.size; omega))
          have HF : Hid ((fun x : TLetter => x.fit ∧ -1 ≤ x.f1 ∧ x.f1 ≤ 6) ⟨y0, y1, y2, z⟩) := Lib.hid ⟨by unfold TLetter.fit; simp only; omega, by simp only; omega, by simp only; omega⟩
          have kB0 := B.out.at_ (j := 0) rfl
          have kB1 := B.out.at_ (j := 1) rfl
          have kB2 := B.out.at_ (j := 2) rfl
          have kB3 := B.out.at_ (j := 3) rfl
          obtain ⟨x9, hx⟩ : ∃ x, x = World.setRow (World.setCell w7 ⟨w4.heap.size, 3, none⟩ (.int .i64 z)) w.heap.size #[.int .i64 y0, .int .i64 y1, .int .i64 y2, .int .i64 z] := ⟨_, rfl⟩
          have HX9 := Lib.hid hx
          have OLD9 := R
          replace R := Lib.hid (show BoxAt x9 w.heap.size 62 #[.int .i64 y0, .int .i64 y1, .int .i64 y2, .int .i64 z] by rw [hx]; exact box_row R.out)
          replace B := Lib.hid (show BoxAt x9 w4.heap.size 62 #[.int .i64 y0, .int .i64 y1, .int .i64 y2, .int .i64 z] by rw [hx]; exact box_far B.out (by omega))
          replace HC := Lib.hid (show Cur x9 g A n cap by rw [hx]; exact dr_cur_row HC.out (by omega) _)
          replace HG := Lib.hid (show w.grownBy x9 (some g) by rw [hx]; exact dr_row HG.out (by omega) _)
          have z9 : w.heap.size ≤ x9.heap.size := HG.out.size
          have lR : w.heap.size < x9.heap.size := R.out.lt
          have lB : w4.heap.size < x9.heap.size := B.out.lt
          clear hx
          go_wp2_with (refine wpList_store_row rfl 62 _ _ rfl w.heap.size #[.int .i64 y0, .int .i64 y1, .int .i64 y2, .int .i64 z] rfl rfl 62 _ OLD9.out (by kernel_rfl) (by kernel_rfl) (by kernel_rfl) ?_; rw [← HX9.out]; clear HX9 OLD9)
          have rR0 := R.out.at_ (j := 0) rfl
          have rR1 := R.out.at_ (j := 1) rfl
          have rR2 := R.out.at_ (j := 2) rfl
          have rR3 := R.out.at_ (j := 3) rfl
          exact bodyPost_ret (v := .agg #[.int .i64 y0, .int .i64 y1, .int .i64 y2, .int .i64 z]) (by simp [results, Tryd.results70, go_sem, rR0, rR1, rR2, rR3]) rfl ⟨⟨y0, y1, y2, z⟩, HF.out, rfl, HC.out, HG.out⟩
        · skip
          have r3 : (y == 3) = false := by simp [q3]
          have t3 : decide (y = 3) = false := by simp [q3]
          have HF : Hid ((fun x : TLetter => x.fit ∧ -1 ≤ x.f1 ∧ x.f1 ≤ 6) ⟨y0, y1, y2, sv⟩) := Lib.hid ⟨by unfold TLetter.fit; simp only; omega, by simp only; omega, by simp only; omega⟩
          have kB0 := B.out.at_ (j := 0) rfl
          have kB1 := B.out.at_ (j := 1) rfl
          have kB2 := B.out.at_ (j := 2) rfl
          have kB3 := B.out.at_ (j := 3) rfl
          obtain ⟨x7, hx⟩ : ∃ x, x = World.setRow w6 w.heap.size #[.int .i64 y0, .int .i64 y1, .int .i64 y2, .int .i64 sv] := ⟨_, rfl⟩
          have HX7 := Lib.hid hx
          have OLD7 := R
          replace R := Lib.hid (show BoxAt x7 w.heap.size 62 #[.int .i64 y0, .int .i64 y1, .int .i64 y2, .int .i64 sv] by rw [hx]; exact box_row R.out)
          replace B := Lib.hid (show BoxAt x7 w4.heap.size 62 #[.int .i64 y0, .int .i64 y1, .int .i64 y2, .int .i64 sv] by rw [hx]; exact box_far B.out (by omega))
          replace HC := Lib.hid (show Cur x7 g A n cap by rw [hx]; exact dr_cur_row HC.out (by omega) _)
          replace HG := Lib.hid (show w.grownBy x7 (some g) by rw [hx]; exact dr_row HG.out (by omega) _)
          have z7 : w.heap.size ≤ x7.heap.size := HG.out.size
          have lR : w.heap.size < x7.heap.size := R.out.lt
          have lB : w4.heap.size < x7.heap.size := B.out.lt
          clear hx
          go_wp2_with (refine wpList_store_row rfl 62 _ _ rfl w.heap.size #[.int .i64 y0, .int .i64 y1, .int .i64 y2, .int .i64 sv] rfl rfl 62 _ OLD7.out (by kernel_rfl) (by kernel_rfl) (by kernel_rfl) ?_; rw [← HX7.out]; clear HX7 OLD7)
          have rR0 := R.out.at_ (j := 0) rfl
          have rR1 := R.out.at_ (j := 1) rfl
          have rR2 := R.out.at_ (j := 2) rfl
          have rR3 := R.out.at_ (j := 3) rfl
          exact bodyPost_ret (v := .agg #[.int .i64 y0, .int .i64 y1, .int .i64 y2, .int .i64 sv]) (by simp [results, Tryd.results70, go_sem, rR0, rR1, rR2, rR3]) rfl ⟨⟨y0, y1, y2, sv⟩, HF.out, rfl, HC.out, HG.out⟩
theorem infoLetter : (Tryd.prog.info? 62).map (fun i => (i.zero, i.size, i.bytes)) = some (some (.agg #[.int .i64 0, .int .i64 0, .int .i64 0, .int .i64 0]), 4, 32) := by kernel_rfl
theorem onesLetter (x : TLetter) : ∀ u ∈ (#[.int .i64 x.f0, .int .i64 x.f1, .int .i64 x.f2, .int .i64 x.f3] : Array Value).toList, u.oneCell' = true := by
  intro u hu
  simp only [List.mem_cons, List.not_mem_nil, or_false] at hu
  rcases hu with rfl | rfl | rfl | rfl <;> rfl
set_option maxHeartbeats 8000000 in
theorem letters_any (g n cap : Nat) (A : Option Addr) (w : World) (hn : n ≤ maxLen) (hc : Cur w g A n cap) (wL : World) (hT : Pow10 wL) (hw : Below wL.heap.size wL w) (hg0 : wL.heap.size ≤ g) :
    Calls Tryd.prog 68 #[.pointer (some ⟨g, 0, none⟩)] w (DrwL 62 4 20 TLetter.cells (fun x : TLetter => x.fit ∧ -1 ≤ x.f1 ∧ x.f1 ≤ 6) g A n cap w) := by
  have HC := Lib.hid (hc.new (.cells #[] 62))
  have HLT := Lib.hid hc.lt
  have HT := Lib.hid hT
  have HW := Lib.hid hw
  clear hc hT hw
  go_enter Tryd.func68, Tryd.ntmps68
  go_wp2_with fail
  refine (below_any g n cap A 6 _ hn HC.out (by omega) (by omega)).mono ?_
  rintro e w0 ⟨y, hy0, hy1, rfl, hc0, hg0⟩
  obtain ⟨m, rfl⟩ := Int.eq_ofNat_of_zero_le hy0
  have hm : m ≤ 5 := by omega
  have HO0 := Lib.hid (dr_own (World.ownsRow_lit (e := 62) (size := 4) w #[] 0 (Nat.le_refl _) (by unfold maxLen; omega) rfl) HLT.out hg0)
  have HC0 := Lib.hid hc0
  have HG0 := Lib.hid (grown_both (grown_new w (.cells #[] 62) _) hg0)
  clear hc0 hg0
  go_wp2_with fail
  go_loopw [3, 4] (fun v i wr => ∃ (k : Nat) (l : List TLetter), k ≤ m ∧ l.length + k = m ∧ Hid (∀ x ∈ l, (fun x : TLetter => x.fit ∧ -1 ≤ x.f1 ∧ x.f1 ≤ 6) x) ∧ i = .int .i64 k ∧ Hid (wr.ownsRow w.heap.size 62 4 v l.length (l.flatMap TLetter.cells)) ∧ Hid (Cur wr g A n cap) ∧ Hid (w.grownBy wr (some g))) (fun _ i _ => (intOf i).toNat)
  case atStart => exact ⟨m, [], Nat.le_refl _, by simp, Lib.hid (fun _ h => by cases h), rfl, HO0, HC0, HG0⟩
  case round =>
    obtain ⟨k, l, hk, hl, HU, rfl, HO, HCW, HGW⟩ := hrel
    have HS := Lib.hid HGW.out.size
    have hll : l.length ≤ 5 := by omega
    have HLL := Lib.hid hl
    clear hl
    by_cases hlt : 0 < k
    · obtain ⟨k', rfl⟩ : ∃ k', k = k' + 1 := ⟨k - 1, by omega⟩
      have hwk : IntKind.i64.wrap (((k' + 1 : Nat) : Int) - 1) = (k' : Int) := by rw [IntWalk.i64_in _ (by omega)]; omega
      go_wp2_with fail
      refine (letter_any g n cap A _ hn HCW.out wL HT.out (dr_below HW.out hg0 HGW.out) hg0).mono ?_
      rintro e w1 ⟨x, hx, rfl, hc1, hg1⟩
      have HO1 := Lib.hid (dr_own HO.out HLT.out hg1)
      have HC1 := Lib.hid hc1
      have HG1 := Lib.hid (grown_both HGW.out hg1)
      have HX := Lib.hid (show l.flatMap TLetter.cells ++ (#[.int .i64 x.f0, .int .i64 x.f1, .int .i64 x.f2, .int .i64 x.f3] : Array Value).toList = (l ++ [x]).flatMap TLetter.cells by simp [List.flatMap_append, TLetter.cells])
      have HXB := Lib.hid (show ∀ z ∈ l ++ [x], (fun x : TLetter => x.fit ∧ -1 ≤ x.f1 ∧ x.f1 ≤ 6) z from fun z hz => by
        simp only [List.mem_append, List.mem_singleton] at hz
        rcases hz with hz | rfl
        · exact HU.out z hz
        · exact hx)
      clear hc1 hg1 hx
      go_wp2_with (at_builtin; refine wp_app_lit rfl _ _ _ rfl w.heap.size 62 (.agg #[.int .i64 0, .int .i64 0, .int .i64 0, .int .i64 0]) 4 32 Tryd.underlying60 infoLetter rfl (by decide) _ _ _ rfl HO1.out #[.int .i64 x.f0, .int .i64 x.f1, .int .i64 x.f2, .int .i64 x.f3] 1 1 _ rfl (by simp) rfl (onesLetter x) (by unfold maxLen; omega) (by omega) HG1.out.size ?_; intro v1 w2 ho2 hb2; have HO2 := Lib.hid ho2; have HB2 := Lib.hid hb2; clear ho2 hb2)
      go_roundw
      case rel => exact ⟨k', l ++ [x], by omega, by have := HLL.out; simp; omega, HXB, by go_num, Lib.hid (by rw [← HX.out]; simpa using HO2.out), Lib.hid (dr_cur_low HC1.out HLT.out HB2.out), Lib.hid (dr_low HG1.out (Nat.le_refl _) HB2.out)⟩
      case measure => simp [intOf]
    · obtain rfl : k = 0 := by omega
      go_wp2_with fail
      refine (once_any g n cap A 12 _ hn HCW.out (by omega) (by omega)).mono ?_
      rintro e w1 ⟨b, rfl, hc1, hg1⟩
      have HO1 := Lib.hid (dr_own HO.out HLT.out hg1)
      have HC1 := Lib.hid hc1
      have HG1 := Lib.hid (grown_both HGW.out hg1)
      clear hc1 hg1 HO HCW HGW HS
      cases b
      · go_wp2_with fail
        go_ret
        exact ⟨_, l, rfl, by omega, HU.out, HO1.out, HC1.out, HG1.out⟩
      · go_wp2_with fail
        go_loopg [3] 20 (fun gg v wr => ∃ (l : List TLetter), l.length ≤ 20 ∧ 20 - l.length ≤ gg ∧ Hid (∀ x ∈ l, (fun x : TLetter => x.fit ∧ -1 ≤ x.f1 ∧ x.f1 ≤ 6) x) ∧ Hid (wr.ownsRow w.heap.size 62 4 v l.length (l.flatMap TLetter.cells)) ∧ Hid (Cur wr g A n cap) ∧ Hid (w.grownBy wr (some g)))
        case atStart => exact ⟨l, by omega, by omega, HU, HO1, HC1, HG1⟩
        case round =>
          clear HO1 HC1 HG1 HU hll HLL
          obtain ⟨l, hl, hg, HU, HO, HCW, HGW⟩ := hrel
          have HS := Lib.hid HGW.out.size
          obtain ⟨A', c', hv, hF⟩ := fr_of_own HO.out
          clear hF
          subst hv
          by_cases hlt : l.length < 20
          · have HX := Lib.hid (show l.flatMap TLetter.cells ++ (#[.int .i64 0, .int .i64 0, .int .i64 0, .int .i64 0] : Array Value).toList = (l ++ [(⟨0, 0, 0, 0⟩ : TLetter)]).flatMap TLetter.cells by simp [List.flatMap_append, TLetter.cells])
            have HXB := Lib.hid (show ∀ z ∈ l ++ [(⟨0, 0, 0, 0⟩ : TLetter)], (fun x : TLetter => x.fit ∧ -1 ≤ x.f1 ∧ x.f1 ≤ 6) z from fun z hz => by
              simp only [List.mem_append, List.mem_singleton] at hz
              rcases hz with hz | rfl
              · exact HU.out z hz
              · exact ⟨by unfold TLetter.fit; simp only; omega, by simp only; omega, by simp only; omega⟩)
            go_wp2_with (at_builtin; refine wp_app_lit rfl _ _ _ rfl w.heap.size 62 (.agg #[.int .i64 0, .int .i64 0, .int .i64 0, .int .i64 0]) 4 32 Tryd.underlying60 infoLetter rfl (by decide) _ _ _ rfl HO.out #[.int .i64 0, .int .i64 0, .int .i64 0, .int .i64 0] 1 1 _ rfl (by simp) rfl (onesLetter ⟨0, 0, 0, 0⟩) (by unfold maxLen; omega) (by omega) HS.out ?_; intro v1 w2 ho2 hb2; have HO2 := Lib.hid ho2; have HB2 := Lib.hid hb2; clear ho2 hb2)
            go_roundg (20 - (l.length + 1))
            case measure => omega
            case rel => exact ⟨l ++ [⟨0, 0, 0, 0⟩], by simp; omega, by simp, HXB, Lib.hid (by rw [← HX.out]; simpa using HO2.out), Lib.hid (dr_cur_low HCW.out HLT.out HB2.out), Lib.hid (dr_low HGW.out (Nat.le_refl _) HB2.out)⟩
          · go_wp2_with fail
            go_ret
            exact ⟨_, l, rfl, hl, HU.out, HO.out, HCW.out, HGW.out⟩
/-- A key, a box of letters and a letter are drawn. -/
def DrawnDe (w : World) (e : Ending) (w' : World) : Prop :=
  ∃ (key : Int) (A : Option Addr) (c : Nat) (l : List TLetter) (x : TLetter), 5 ≤ key ∧ key ≤ 77 ∧ e = .returned (.tuple #[.int .i64 key, .slice A l.length c, .agg #[.int .i64 x.f0, .int .i64 x.f1, .int .i64 x.f2, .int .i64 x.f3]]) ∧ l.length ≤ 20 ∧ (∀ z ∈ l, (fun x : TLetter => x.fit ∧ -1 ≤ x.f1 ∧ x.f1 ≤ 6) z) ∧ (fun x : TLetter => x.fit ∧ -1 ≤ x.f1 ∧ x.f1 ≤ 6) x ∧ Rd w' w.heap.size w'.heap.size 4 A l.length (cLetter l) ∧ Below w.heap.size w w'
set_option maxHeartbeats 16000000 in
theorem drawDe_any (n cap : Nat) (A : Option Addr) (w : World) (hn : n ≤ 140737488355328) (hb : BytesAt w w.heap.size A n) (hT : Pow10 w) :
    Calls Tryd.prog 34 #[.slice A n cap] w (DrawnDe w) := by
  have hn' : n ≤ maxLen := by unfold maxLen; omega
  have HY := Lib.hid hb
  have R0 := Lib.hid (show BoxAt (w.alloc (.cells #[.int .i64 0, .int .i64 0, .int .i64 0, .int .i64 0] 62)) w.heap.size 62 #[.int .i64 0, .int .i64 0, .int .i64 0, .int .i64 0] from by simpa using box_new w 62 #[.int .i64 0, .int .i64 0, .int .i64 0, .int .i64 0])
  have HB := Lib.hid ((Below.refl w.heap.size w).alloc (by first | exact Nat.le_refl _ | (simp; done) | (simp; omega)) (.cells #[.int .i64 0, .int .i64 0, .int .i64 0, .int .i64 0] 62))
  clear hb
  go_enter Tryd.func34, Tryd.ntmps34
  go_wp2_with fail
  refine Calls.mono (dr_new n cap A w _ (w.heap.size + 1) (by simp) hn HY.out HB.out) ?_
  rintro e w1 ⟨rfl, hc, hb1⟩
  have HC := Lib.hid hc
  replace R0 := Lib.hid (dr_box_low R0.out hb1 (by omega))
  replace HB := Lib.hid (HB.out.trans (hb1.mono (by omega)))
  have l1 : (w.heap.size + 1) < w1.heap.size := HC.out.lt
  clear hc hb1
  have HT := Lib.hid hT
  clear hT
  go_wp2_with fail
  refine Calls.mono (letters_any (w.heap.size + 1) n cap A _ hn' HC.out w HT.out HB.out (by omega)) ?_
  rintro e w2 ⟨v, l, rfl, hl, hu, ho, hc, hg⟩
  replace R0 := Lib.hid (R0.out.grown hg (by omega))
  replace HB := Lib.hid (dr_below HB.out (by omega) hg)
  replace HC := Lib.hid hc
  have l2 : (w.heap.size + 1) < w2.heap.size := HC.out.lt
  clear hc hg
  have HO := Lib.hid ho
  have HU := Lib.hid hu
  clear ho hu
  have Lt := Lib.hid (box_new w2 3 #[.int .i64 5, .int .i64 5, .int .i64 77])
  replace R0 := Lib.hid (R0.out.alloc_ (.cells #[.int .i64 5, .int .i64 5, .int .i64 77] 3))
  replace HO := Lib.hid (own_newer HO.out ((Below.refl _ _).alloc (Nat.le_refl _) (.cells #[.int .i64 5, .int .i64 5, .int .i64 77] 3)))
  replace HC := Lib.hid (HC.out.new (.cells #[.int .i64 5, .int .i64 5, .int .i64 77] 3))
  replace HB := Lib.hid (HB.out.alloc HB.out.size (.cells #[.int .i64 5, .int .i64 5, .int .i64 77] 3))
  go_wp2_with fail
  refine Calls.mono (int_any (w.heap.size + 1) n cap A [5, 5, 77] w2.heap.size 5 77 _ hn' HC.out (by omega) Lt.out (by decide) (by decide) (by decide)) ?_
  rintro e w3 ⟨key, hk0, hk1, rfl, hc, hg⟩
  replace R0 := Lib.hid (R0.out.grown hg (by omega))
  replace HO := Lib.hid (dr_own HO.out (by omega) hg)
  replace HB := Lib.hid (dr_below HB.out (by omega) hg)
  replace HC := Lib.hid hc
  have l3 : (w.heap.size + 1) < w3.heap.size := HC.out.lt
  clear hc hg
  clear Lt
  go_wp2_with fail
  refine Calls.mono (letter_any (w.heap.size + 1) n cap A _ hn' HC.out w HT.out HB.out (by omega)) ?_
  rintro e w4 ⟨x, hx, rfl, hc, hg⟩
  replace R0 := Lib.hid (R0.out.grown hg (by omega))
  replace HO := Lib.hid (dr_own HO.out (by omega) hg)
  replace HB := Lib.hid (dr_below HB.out (by omega) hg)
  replace HC := Lib.hid hc
  have l4 : (w.heap.size + 1) < w4.heap.size := HC.out.lt
  clear hc hg
  have HX := Lib.hid hx
  clear hx
  obtain ⟨A', c', rfl, hF⟩ := fr_of_own HO.out
  have HRk := Lib.hid hF.rd
  clear hF HO
  obtain ⟨wz, hx⟩ : ∃ X, X = World.setRow w4 w.heap.size #[.int .i64 x.f0, .int .i64 x.f1, .int .i64 x.f2, .int .i64 x.f3] := ⟨_, rfl⟩
  have HXX := Lib.hid hx
  have OLD := R0
  replace R0 := Lib.hid (show BoxAt wz w.heap.size 62 #[.int .i64 x.f0, .int .i64 x.f1, .int .i64 x.f2, .int .i64 x.f3] by rw [hx]; exact box_row R0.out)
  have HR2 := Lib.hid (show Rd wz w1.heap.size wz.heap.size 4 A' l.length (cLetter l) by
    rw [hx]
    refine Rd.mono (lo := w1.heap.size) (hi := w4.heap.size) ?_ (Nat.le_refl _) (by simp)
    exact HRk.out.keep fun b hb1 _ _ => setRow_other _ _ b _ (by omega))
  replace HB := Lib.hid (show Below w.heap.size w wz by rw [hx]; exact below_setRow HB.out (by omega) _)
  clear hx
  go_wp2_with (refine wpList_store_row rfl 62 _ _ rfl w.heap.size #[.int .i64 x.f0, .int .i64 x.f1, .int .i64 x.f2, .int .i64 x.f3] rfl rfl 62 _ OLD.out (by kernel_rfl) (by kernel_rfl) (by kernel_rfl) ?_; rw [← HXX.out]; clear HXX OLD)
  have p0 := R0.out.at_ (j := 0) rfl
  have p1 := R0.out.at_ (j := 1) rfl
  have p2 := R0.out.at_ (j := 2) rfl
  have p3 := R0.out.at_ (j := 3) rfl
  exact bodyPost_ret (v := .tuple #[.int .i64 key, .slice A' l.length c', .agg #[.int .i64 x.f0, .int .i64 x.f1, .int .i64 x.f2, .int .i64 x.f3]]) (by simp [results, Tryd.results34, go_sem, p0, p1, p2, p3]) rfl ⟨key, A', c', l, x, hk0, hk1, rfl, hl, HU.out, HX.out, HR2.out.mono (by omega) (Nat.le_refl _), HB.out⟩
end Go.Proofs.YtlnmgfbfpjfddaaDoor
