/- DrPa, what is needed of it. -/
import Derived.Test.YtcankpiidjhhpaaYGe
import Derived.Test.YtcankpiidjhhpaaYDrFa
import Derived.Test.YtcankpiidjhhpaaYTOp
import Derived.Test.YtcankpiidjhhpaaYGf
import Derived.Test.YtcankpiidjhhpaaYGa
namespace Go.Proofs.Ytcankpiidjhhpaa
open Go Go.ChangeShapes Go.WideShapes Go.ChangeAt Go.RowKit Go.Lib
set_option linter.unusedVariables false
set_option linter.unusedSimpArgs false
set_option maxRecDepth 100000
theorem infoOp : (Try.prog.info? 49).map (fun i => (i.zero, i.size, i.bytes)) = some (some (.agg #[.int .i64 0, .int .i64 0, .int .i64 0, .int .i64 0]), 4, 32) := by kernel_rfl
theorem onesOp (x : TOp) : ∀ u ∈ (#[.int .i64 x.f0, .int .i64 x.f1, .int .i64 x.f2, .int .i64 x.f3] : Array Value).toList, u.oneCell' = true := by
  intro u hu
  simp only [List.mem_cons, List.not_mem_nil, or_false] at hu
  rcases hu with rfl | rfl | rfl | rfl <;> rfl
theorem info_intP : (Try.prog.info? 3).map (fun i => (i.zero, i.size, i.bytes)) = some (some (.int .i64 0), 1, 8) := by kernel_rfl
theorem one_intP (z : Int) : ∀ u ∈ (#[Value.int .i64 z]).toList, u.oneCell' = true := by
  intro u hu
  simp only [List.mem_singleton] at hu
  subst hu
  rfl
set_option maxHeartbeats 8000000 in
theorem op_any (g n cap : Nat) (A : Option Addr) (w : World) (hn : n ≤ maxLen) (hc : Cur w g A n cap) :
    Calls Try.prog 114 #[.pointer (some ⟨g, 0, none⟩)] w (Drw g A n cap (fun x : TOp => Value.agg #[.int .i64 x.f0, .int .i64 x.f1, .int .i64 x.f2, .int .i64 x.f3]) TOp.fit w) := by
  have HC := Lib.hid hc
  have HLT := hc.lt
  have HG := Lib.hid (World.grownBy.refl w (some g))
  clear hc
  have R := Lib.hid (show BoxAt (w.alloc (.cells #[.int .i64 0, .int .i64 0, .int .i64 0, .int .i64 0] 49)) w.heap.size 49 #[.int .i64 0, .int .i64 0, .int .i64 0, .int .i64 0] from by simpa using box_new w 49 #[.int .i64 0, .int .i64 0, .int .i64 0, .int .i64 0])
  have aR : w.heap.size ≤ w.heap.size := by have := HG.out.size; (try simp at this); omega
  replace HC := Lib.hid (HC.out.new (.cells #[.int .i64 0, .int .i64 0, .int .i64 0, .int .i64 0] 49))
  replace HG := Lib.hid (dr_al HG.out (.cells #[.int .i64 0, .int .i64 0, .int .i64 0, .int .i64 0] 49))
  go_enter Try.func114, Try.ntmps114
  go_wp2_with fail
  refine Calls.mono (below_any g n cap A 5 _ hn HC.out (by omega) (by omega)) ?_
  rintro e w1 ⟨y0, hy0a, hy0b, rfl, hc, hg⟩
  replace R := Lib.hid (R.out.grown hg (by omega))
  have lR : w.heap.size < w1.heap.size := R.out.lt
  replace HC := Lib.hid hc
  replace HG := Lib.hid (grown_both HG.out hg)
  have s1 : w.heap.size ≤ w1.heap.size := HG.out.size
  clear hc hg
  go_wp2_with fail
  refine Calls.mono (below_any g n cap A 4 _ hn HC.out (by omega) (by omega)) ?_
  rintro e w2 ⟨y1, hy1a, hy1b, rfl, hc, hg⟩
  replace R := Lib.hid (R.out.grown hg (by omega))
  have lR : w.heap.size < w2.heap.size := R.out.lt
  replace HC := Lib.hid hc
  replace HG := Lib.hid (grown_both HG.out hg)
  have s2 : w.heap.size ≤ w2.heap.size := HG.out.size
  clear hc hg
  by_cases q1 : 1 + y0 = 1
  · skip
    have B := Lib.hid (show BoxAt (w2.alloc (.cells #[.int .i64 0, .int .i64 0, .int .i64 0, .int .i64 0] 49)) w2.heap.size 49 #[.int .i64 0, .int .i64 0, .int .i64 0, .int .i64 0] from by simpa using box_new w2 49 #[.int .i64 0, .int .i64 0, .int .i64 0, .int .i64 0])
    have aB : w.heap.size ≤ w2.heap.size := by have := HG.out.size; (try simp at this); omega
    replace R := Lib.hid (R.out.alloc_ (.cells #[.int .i64 0, .int .i64 0, .int .i64 0, .int .i64 0] 49))
    replace HC := Lib.hid (HC.out.new (.cells #[.int .i64 0, .int .i64 0, .int .i64 0, .int .i64 0] 49))
    replace HG := Lib.hid (dr_al HG.out (.cells #[.int .i64 0, .int .i64 0, .int .i64 0, .int .i64 0] 49))
    obtain ⟨x3, hx⟩ : ∃ x, x = World.setRow (w2.alloc (.cells #[.int .i64 0, .int .i64 0, .int .i64 0, .int .i64 0] 49)) w2.heap.size #[.int .i64 1, .int .i64 y1, .int .i64 0, .int .i64 0] := ⟨_, rfl⟩
    have HX3 := Lib.hid hx
    have OLD3 := B
    replace R := Lib.hid (show BoxAt x3 w.heap.size 49 #[.int .i64 0, .int .i64 0, .int .i64 0, .int .i64 0] by rw [hx]; exact box_far R.out (by omega))
    replace B := Lib.hid (show BoxAt x3 w2.heap.size 49 #[.int .i64 1, .int .i64 y1, .int .i64 0, .int .i64 0] by rw [hx]; exact box_row B.out)
    replace HC := Lib.hid (show Cur x3 g A n cap by rw [hx]; exact dr_cur_row HC.out (by omega) _)
    replace HG := Lib.hid (show w.grownBy x3 (some g) by rw [hx]; exact dr_row HG.out (by omega) _)
    have z3 : w.heap.size ≤ x3.heap.size := HG.out.size
    have lR : w.heap.size < x3.heap.size := R.out.lt
    have lB : w2.heap.size < x3.heap.size := B.out.lt
    clear hx
    have kB0 := B.out.at_ (j := 0) rfl
    go_wp2_with (refine wpList_store_row rfl 49 _ _ rfl w2.heap.size #[.int .i64 1, .int .i64 y1, .int .i64 0, .int .i64 0] rfl rfl 49 _ OLD3.out (by kernel_rfl) (by kernel_rfl) (by kernel_rfl) ?_; rw [← HX3.out]; clear HX3 OLD3)
    refine Calls.mono (below_any g n cap A 4 _ hn HC.out (by omega) (by omega)) ?_
    rintro e w4 ⟨y2, hy2a, hy2b, rfl, hc, hg⟩
    replace R := Lib.hid (R.out.grown hg (by omega))
    have lR : w.heap.size < w4.heap.size := R.out.lt
    replace B := Lib.hid (B.out.grown hg (by omega))
    have lB : w2.heap.size < w4.heap.size := B.out.lt
    replace HC := Lib.hid hc
    replace HG := Lib.hid (grown_both HG.out hg)
    have s4 : w.heap.size ≤ w4.heap.size := HG.out.size
    clear hc hg
    have eB2 := B.out.at_ (j := 2) rfl
    have fB2 := B.out.free 2
    replace B := Lib.hid (show BoxAt (World.setCell w4 ⟨w2.heap.size, 2, none⟩ (.int .i64 (1 + y2))) w2.heap.size 49 #[.int .i64 1, .int .i64 y1, .int .i64 (1 + y2), .int .i64 0] from dr_put_box B.out 2 _)
    replace R := Lib.hid (show BoxAt (World.setCell w4 ⟨w2.heap.size, 2, none⟩ (.int .i64 (1 + y2))) w.heap.size 49 #[.int .i64 0, .int .i64 0, .int .i64 0, .int .i64 0] from dr_put_far R.out (by omega))
    replace HC := Lib.hid (dr_cur_put (p := ⟨w2.heap.size, 2, none⟩) (u := .int .i64 (1 + y2)) HC.out (by show g < w2.heap.size; omega))
    replace HG := Lib.hid (dr_put (p := ⟨w2.heap.size, 2, none⟩) (u := .int .i64 (1 + y2)) HG.out (by show w.heap.size ≤ w2.heap.size; omega))
    have HF : Hid (TOp.fit ⟨1, y1, (1 + y2), 0⟩) := Lib.hid (by (try unfold TPattern.fit at *); (try unfold TSite.fit at *); (try unfold TOp.fit at *); (try simp only at *); omega)
    have kB0 := B.out.at_ (j := 0) rfl
    have kB1 := B.out.at_ (j := 1) rfl
    have kB2 := B.out.at_ (j := 2) rfl
    have kB3 := B.out.at_ (j := 3) rfl
    obtain ⟨x6, hx⟩ : ∃ x, x = World.setRow (World.setCell w4 ⟨w2.heap.size, 2, none⟩ (.int .i64 (1 + y2))) w.heap.size #[.int .i64 1, .int .i64 y1, .int .i64 (1 + y2), .int .i64 0] := ⟨_, rfl⟩
    have HX6 := Lib.hid hx
    have OLD6 := R
    replace R := Lib.hid (show BoxAt x6 w.heap.size 49 #[.int .i64 1, .int .i64 y1, .int .i64 (1 + y2), .int .i64 0] by rw [hx]; exact box_row R.out)
    replace B := Lib.hid (show BoxAt x6 w2.heap.size 49 #[.int .i64 1, .int .i64 y1, .int .i64 (1 + y2), .int .i64 0] by rw [hx]; exact box_far B.out (by omega))
    replace HC := Lib.hid (show Cur x6 g A n cap by rw [hx]; exact dr_cur_row HC.out (by omega) _)
    replace HG := Lib.hid (show w.grownBy x6 (some g) by rw [hx]; exact dr_row HG.out (by omega) _)
    have z6 : w.heap.size ≤ x6.heap.size := HG.out.size
    have lR : w.heap.size < x6.heap.size := R.out.lt
    have lB : w2.heap.size < x6.heap.size := B.out.lt
    clear hx
    go_wp2_with (refine wpList_store_row rfl 49 _ _ rfl w.heap.size #[.int .i64 1, .int .i64 y1, .int .i64 (1 + y2), .int .i64 0] rfl rfl 49 _ OLD6.out (by kernel_rfl) (by kernel_rfl) (by kernel_rfl) ?_; rw [← HX6.out]; clear HX6 OLD6)
    have rR0 := R.out.at_ (j := 0) rfl
    have rR1 := R.out.at_ (j := 1) rfl
    have rR2 := R.out.at_ (j := 2) rfl
    have rR3 := R.out.at_ (j := 3) rfl
    exact bodyPost_ret (v := .agg #[.int .i64 1, .int .i64 y1, .int .i64 (1 + y2), .int .i64 0]) (by simp [results, Try.results114, go_sem, rR0, rR1, rR2, rR3]) rfl ⟨⟨1, y1, (1 + y2), 0⟩, HF.out, rfl, HC.out, HG.out⟩
  · skip
    have r1 : (1 + y0 == 1) = false := by simp [q1]
    have t1 : decide (1 + y0 = 1) = false := by simp [q1]
    by_cases q5 : 1 + y0 = 5
    · skip
      have B := Lib.hid (show BoxAt (w2.alloc (.cells #[.int .i64 0, .int .i64 0, .int .i64 0, .int .i64 0] 49)) w2.heap.size 49 #[.int .i64 0, .int .i64 0, .int .i64 0, .int .i64 0] from by simpa using box_new w2 49 #[.int .i64 0, .int .i64 0, .int .i64 0, .int .i64 0])
      have aB : w.heap.size ≤ w2.heap.size := by have := HG.out.size; (try simp at this); omega
      replace R := Lib.hid (R.out.alloc_ (.cells #[.int .i64 0, .int .i64 0, .int .i64 0, .int .i64 0] 49))
      replace HC := Lib.hid (HC.out.new (.cells #[.int .i64 0, .int .i64 0, .int .i64 0, .int .i64 0] 49))
      replace HG := Lib.hid (dr_al HG.out (.cells #[.int .i64 0, .int .i64 0, .int .i64 0, .int .i64 0] 49))
      obtain ⟨x3, hx⟩ : ∃ x, x = World.setRow (w2.alloc (.cells #[.int .i64 0, .int .i64 0, .int .i64 0, .int .i64 0] 49)) w2.heap.size #[.int .i64 5, .int .i64 y1, .int .i64 0, .int .i64 0] := ⟨_, rfl⟩
      have HX3 := Lib.hid hx
      have OLD3 := B
      replace R := Lib.hid (show BoxAt x3 w.heap.size 49 #[.int .i64 0, .int .i64 0, .int .i64 0, .int .i64 0] by rw [hx]; exact box_far R.out (by omega))
      replace B := Lib.hid (show BoxAt x3 w2.heap.size 49 #[.int .i64 5, .int .i64 y1, .int .i64 0, .int .i64 0] by rw [hx]; exact box_row B.out)
      replace HC := Lib.hid (show Cur x3 g A n cap by rw [hx]; exact dr_cur_row HC.out (by omega) _)
      replace HG := Lib.hid (show w.grownBy x3 (some g) by rw [hx]; exact dr_row HG.out (by omega) _)
      have z3 : w.heap.size ≤ x3.heap.size := HG.out.size
      have lR : w.heap.size < x3.heap.size := R.out.lt
      have lB : w2.heap.size < x3.heap.size := B.out.lt
      clear hx
      have kB0 := B.out.at_ (j := 0) rfl
      go_wp2_with (refine wpList_store_row rfl 49 _ _ rfl w2.heap.size #[.int .i64 5, .int .i64 y1, .int .i64 0, .int .i64 0] rfl rfl 49 _ OLD3.out (by kernel_rfl) (by kernel_rfl) (by kernel_rfl) ?_; rw [← HX3.out]; clear HX3 OLD3)
      refine Calls.mono (below_any g n cap A 4 _ hn HC.out (by omega) (by omega)) ?_
      rintro e w4 ⟨y2, hy2a, hy2b, rfl, hc, hg⟩
      replace R := Lib.hid (R.out.grown hg (by omega))
      have lR : w.heap.size < w4.heap.size := R.out.lt
      replace B := Lib.hid (B.out.grown hg (by omega))
      have lB : w2.heap.size < w4.heap.size := B.out.lt
      replace HC := Lib.hid hc
      replace HG := Lib.hid (grown_both HG.out hg)
      have s4 : w.heap.size ≤ w4.heap.size := HG.out.size
      clear hc hg
      have eB2 := B.out.at_ (j := 2) rfl
      have fB2 := B.out.free 2
      replace B := Lib.hid (show BoxAt (World.setCell w4 ⟨w2.heap.size, 2, none⟩ (.int .i64 (1 + y2))) w2.heap.size 49 #[.int .i64 5, .int .i64 y1, .int .i64 (1 + y2), .int .i64 0] from dr_put_box B.out 2 _)
      replace R := Lib.hid (show BoxAt (World.setCell w4 ⟨w2.heap.size, 2, none⟩ (.int .i64 (1 + y2))) w.heap.size 49 #[.int .i64 0, .int .i64 0, .int .i64 0, .int .i64 0] from dr_put_far R.out (by omega))
      replace HC := Lib.hid (dr_cur_put (p := ⟨w2.heap.size, 2, none⟩) (u := .int .i64 (1 + y2)) HC.out (by show g < w2.heap.size; omega))
      replace HG := Lib.hid (dr_put (p := ⟨w2.heap.size, 2, none⟩) (u := .int .i64 (1 + y2)) HG.out (by show w.heap.size ≤ w2.heap.size; omega))
      have HF : Hid (TOp.fit ⟨5, y1, (1 + y2), 0⟩) := Lib.hid (by (try unfold TPattern.fit at *); (try unfold TSite.fit at *); (try unfold TOp.fit at *); (try simp only at *); omega)
      have kB0 := B.out.at_ (j := 0) rfl
      have kB1 := B.out.at_ (j := 1) rfl
      have kB2 := B.out.at_ (j := 2) rfl
      have kB3 := B.out.at_ (j := 3) rfl
      obtain ⟨x6, hx⟩ : ∃ x, x = World.setRow (World.setCell w4 ⟨w2.heap.size, 2, none⟩ (.int .i64 (1 + y2))) w.heap.size #[.int .i64 5, .int .i64 y1, .int .i64 (1 + y2), .int .i64 0] := ⟨_, rfl⟩
      have HX6 := Lib.hid hx
      have OLD6 := R
      replace R := Lib.hid (show BoxAt x6 w.heap.size 49 #[.int .i64 5, .int .i64 y1, .int .i64 (1 + y2), .int .i64 0] by rw [hx]; exact box_row R.out)
      replace B := Lib.hid (show BoxAt x6 w2.heap.size 49 #[.int .i64 5, .int .i64 y1, .int .i64 (1 + y2), .int .i64 0] by rw [hx]; exact box_far B.out (by omega))
      replace HC := Lib.hid (show Cur x6 g A n cap by rw [hx]; exact dr_cur_row HC.out (by omega) _)
      replace HG := Lib.hid (show w.grownBy x6 (some g) by rw [hx]; exact dr_row HG.out (by omega) _)
      have z6 : w.heap.size ≤ x6.heap.size := HG.out.size
      have lR : w.heap.size < x6.heap.size := R.out.lt
      have lB : w2.heap.size < x6.heap.size := B.out.lt
      clear hx
      go_wp2_with (refine wpList_store_row rfl 49 _ _ rfl w.heap.size #[.int .i64 5, .int .i64 y1, .int .i64 (1 + y2), .int .i64 0] rfl rfl 49 _ OLD6.out (by kernel_rfl) (by kernel_rfl) (by kernel_rfl) ?_; rw [← HX6.out]; clear HX6 OLD6)
      have rR0 := R.out.at_ (j := 0) rfl
      have rR1 := R.out.at_ (j := 1) rfl
      have rR2 := R.out.at_ (j := 2) rfl
      have rR3 := R.out.at_ (j := 3) rfl
      exact bodyPost_ret (v := .agg #[.int .i64 5, .int .i64 y1, .int .i64 (1 + y2), .int .i64 0]) (by simp [results, Try.results114, go_sem, rR0, rR1, rR2, rR3]) rfl ⟨⟨5, y1, (1 + y2), 0⟩, HF.out, rfl, HC.out, HG.out⟩
    · skip
      have r5 : (1 + y0 == 5) = false := by simp [q5]
      have t5 : decide (1 + y0 = 5) = false := by simp [q5]
      by_cases q2 : 1 + y0 = 2
      · skip
        have B := Lib.hid (show BoxAt (w2.alloc (.cells #[.int .i64 0, .int .i64 0, .int .i64 0, .int .i64 0] 49)) w2.heap.size 49 #[.int .i64 0, .int .i64 0, .int .i64 0, .int .i64 0] from by simpa using box_new w2 49 #[.int .i64 0, .int .i64 0, .int .i64 0, .int .i64 0])
        have aB : w.heap.size ≤ w2.heap.size := by have := HG.out.size; (try simp at this); omega
        replace R := Lib.hid (R.out.alloc_ (.cells #[.int .i64 0, .int .i64 0, .int .i64 0, .int .i64 0] 49))
        replace HC := Lib.hid (HC.out.new (.cells #[.int .i64 0, .int .i64 0, .int .i64 0, .int .i64 0] 49))
        replace HG := Lib.hid (dr_al HG.out (.cells #[.int .i64 0, .int .i64 0, .int .i64 0, .int .i64 0] 49))
        obtain ⟨x3, hx⟩ : ∃ x, x = World.setRow (w2.alloc (.cells #[.int .i64 0, .int .i64 0, .int .i64 0, .int .i64 0] 49)) w2.heap.size #[.int .i64 2, .int .i64 y1, .int .i64 0, .int .i64 0] := ⟨_, rfl⟩
        have HX3 := Lib.hid hx
        have OLD3 := B
        replace R := Lib.hid (show BoxAt x3 w.heap.size 49 #[.int .i64 0, .int .i64 0, .int .i64 0, .int .i64 0] by rw [hx]; exact box_far R.out (by omega))
        replace B := Lib.hid (show BoxAt x3 w2.heap.size 49 #[.int .i64 2, .int .i64 y1, .int .i64 0, .int .i64 0] by rw [hx]; exact box_row B.out)
        replace HC := Lib.hid (show Cur x3 g A n cap by rw [hx]; exact dr_cur_row HC.out (by omega) _)
        replace HG := Lib.hid (show w.grownBy x3 (some g) by rw [hx]; exact dr_row HG.out (by omega) _)
        have z3 : w.heap.size ≤ x3.heap.size := HG.out.size
        have lR : w.heap.size < x3.heap.size := R.out.lt
        have lB : w2.heap.size < x3.heap.size := B.out.lt
        clear hx
        have kB0 := B.out.at_ (j := 0) rfl
        go_wp2_with (refine wpList_store_row rfl 49 _ _ rfl w2.heap.size #[.int .i64 2, .int .i64 y1, .int .i64 0, .int .i64 0] rfl rfl 49 _ OLD3.out (by kernel_rfl) (by kernel_rfl) (by kernel_rfl) ?_; rw [← HX3.out]; clear HX3 OLD3)
        refine Calls.mono (below_any g n cap A 20 _ hn HC.out (by omega) (by omega)) ?_
        rintro e w4 ⟨y2, hy2a, hy2b, rfl, hc, hg⟩
        replace R := Lib.hid (R.out.grown hg (by omega))
        have lR : w.heap.size < w4.heap.size := R.out.lt
        replace B := Lib.hid (B.out.grown hg (by omega))
        have lB : w2.heap.size < w4.heap.size := B.out.lt
        replace HC := Lib.hid hc
        replace HG := Lib.hid (grown_both HG.out hg)
        have s4 : w.heap.size ≤ w4.heap.size := HG.out.size
        clear hc hg
        have eB2 := B.out.at_ (j := 2) rfl
        have fB2 := B.out.free 2
        replace B := Lib.hid (show BoxAt (World.setCell w4 ⟨w2.heap.size, 2, none⟩ (.int .i64 y2)) w2.heap.size 49 #[.int .i64 2, .int .i64 y1, .int .i64 y2, .int .i64 0] from dr_put_box B.out 2 _)
        replace R := Lib.hid (show BoxAt (World.setCell w4 ⟨w2.heap.size, 2, none⟩ (.int .i64 y2)) w.heap.size 49 #[.int .i64 0, .int .i64 0, .int .i64 0, .int .i64 0] from dr_put_far R.out (by omega))
        replace HC := Lib.hid (dr_cur_put (p := ⟨w2.heap.size, 2, none⟩) (u := .int .i64 y2) HC.out (by show g < w2.heap.size; omega))
        replace HG := Lib.hid (dr_put (p := ⟨w2.heap.size, 2, none⟩) (u := .int .i64 y2) HG.out (by show w.heap.size ≤ w2.heap.size; omega))
        have HF : Hid (TOp.fit ⟨2, y1, y2, 0⟩) := Lib.hid (by (try unfold TPattern.fit at *); (try unfold TSite.fit at *); (try unfold TOp.fit at *); (try simp only at *); omega)
        have kB0 := B.out.at_ (j := 0) rfl
        have kB1 := B.out.at_ (j := 1) rfl
        have kB2 := B.out.at_ (j := 2) rfl
        have kB3 := B.out.at_ (j := 3) rfl
        obtain ⟨x6, hx⟩ : ∃ x, x = World.setRow (World.setCell w4 ⟨w2.heap.size, 2, none⟩ (.int .i64 y2)) w.heap.size #[.int .i64 2, .int .i64 y1, .int .i64 y2, .int .i64 0] := ⟨_, rfl⟩
        have HX6 := Lib.hid hx
        have OLD6 := R
        replace R := Lib.hid (show BoxAt x6 w.heap.size 49 #[.int .i64 2, .int .i64 y1, .int .i64 y2, .int .i64 0] by rw [hx]; exact box_row R.out)
        replace B := Lib.hid (show BoxAt x6 w2.heap.size 49 #[.int .i64 2, .int .i64 y1, .int .i64 y2, .int .i64 0] by rw [hx]; exact box_far B.out (by omega))
        replace HC := Lib.hid (show Cur x6 g A n cap by rw [hx]; exact dr_cur_row HC.out (by omega) _)
        replace HG := Lib.hid (show w.grownBy x6 (some g) by rw [hx]; exact dr_row HG.out (by omega) _)
        have z6 : w.heap.size ≤ x6.heap.size := HG.out.size
        have lR : w.heap.size < x6.heap.size := R.out.lt
        have lB : w2.heap.size < x6.heap.size := B.out.lt
        clear hx
        go_wp2_with (refine wpList_store_row rfl 49 _ _ rfl w.heap.size #[.int .i64 2, .int .i64 y1, .int .i64 y2, .int .i64 0] rfl rfl 49 _ OLD6.out (by kernel_rfl) (by kernel_rfl) (by kernel_rfl) ?_; rw [← HX6.out]; clear HX6 OLD6)
        have rR0 := R.out.at_ (j := 0) rfl
        have rR1 := R.out.at_ (j := 1) rfl
        have rR2 := R.out.at_ (j := 2) rfl
        have rR3 := R.out.at_ (j := 3) rfl
        exact bodyPost_ret (v := .agg #[.int .i64 2, .int .i64 y1, .int .i64 y2, .int .i64 0]) (by simp [results, Try.results114, go_sem, rR0, rR1, rR2, rR3]) rfl ⟨⟨2, y1, y2, 0⟩, HF.out, rfl, HC.out, HG.out⟩
      · skip
        have r2 : (1 + y0 == 2) = false := by simp [q2]
        have t2 : decide (1 + y0 = 2) = false := by simp [q2]
        have B := Lib.hid (show BoxAt (w2.alloc (.cells #[.int .i64 0, .int .i64 0, .int .i64 0, .int .i64 0] 49)) w2.heap.size 49 #[.int .i64 0, .int .i64 0, .int .i64 0, .int .i64 0] from by simpa using box_new w2 49 #[.int .i64 0, .int .i64 0, .int .i64 0, .int .i64 0])
        have aB : w.heap.size ≤ w2.heap.size := by have := HG.out.size; (try simp at this); omega
        replace R := Lib.hid (R.out.alloc_ (.cells #[.int .i64 0, .int .i64 0, .int .i64 0, .int .i64 0] 49))
        replace HC := Lib.hid (HC.out.new (.cells #[.int .i64 0, .int .i64 0, .int .i64 0, .int .i64 0] 49))
        replace HG := Lib.hid (dr_al HG.out (.cells #[.int .i64 0, .int .i64 0, .int .i64 0, .int .i64 0] 49))
        obtain ⟨x3, hx⟩ : ∃ x, x = World.setRow (w2.alloc (.cells #[.int .i64 0, .int .i64 0, .int .i64 0, .int .i64 0] 49)) w2.heap.size #[.int .i64 (1 + y0), .int .i64 y1, .int .i64 0, .int .i64 0] := ⟨_, rfl⟩
        have HX3 := Lib.hid hx
        have OLD3 := B
        replace R := Lib.hid (show BoxAt x3 w.heap.size 49 #[.int .i64 0, .int .i64 0, .int .i64 0, .int .i64 0] by rw [hx]; exact box_far R.out (by omega))
        replace B := Lib.hid (show BoxAt x3 w2.heap.size 49 #[.int .i64 (1 + y0), .int .i64 y1, .int .i64 0, .int .i64 0] by rw [hx]; exact box_row B.out)
        replace HC := Lib.hid (show Cur x3 g A n cap by rw [hx]; exact dr_cur_row HC.out (by omega) _)
        replace HG := Lib.hid (show w.grownBy x3 (some g) by rw [hx]; exact dr_row HG.out (by omega) _)
        have z3 : w.heap.size ≤ x3.heap.size := HG.out.size
        have lR : w.heap.size < x3.heap.size := R.out.lt
        have lB : w2.heap.size < x3.heap.size := B.out.lt
        clear hx
        have kB0 := B.out.at_ (j := 0) rfl
        go_wp2_with (refine wpList_store_row rfl 49 _ _ rfl w2.heap.size #[.int .i64 (1 + y0), .int .i64 y1, .int .i64 0, .int .i64 0] rfl rfl 49 _ OLD3.out (by kernel_rfl) (by kernel_rfl) (by kernel_rfl) ?_; rw [← HX3.out]; clear HX3 OLD3)
        refine Calls.mono (below_any g n cap A 4 _ hn HC.out (by omega) (by omega)) ?_
        rintro e w4 ⟨y2, hy2a, hy2b, rfl, hc, hg⟩
        replace R := Lib.hid (R.out.grown hg (by omega))
        have lR : w.heap.size < w4.heap.size := R.out.lt
        replace B := Lib.hid (B.out.grown hg (by omega))
        have lB : w2.heap.size < w4.heap.size := B.out.lt
        replace HC := Lib.hid hc
        replace HG := Lib.hid (grown_both HG.out hg)
        have s4 : w.heap.size ≤ w4.heap.size := HG.out.size
        clear hc hg
        have eB2 := B.out.at_ (j := 2) rfl
        have fB2 := B.out.free 2
        replace B := Lib.hid (show BoxAt (World.setCell w4 ⟨w2.heap.size, 2, none⟩ (.int .i64 y2)) w2.heap.size 49 #[.int .i64 (1 + y0), .int .i64 y1, .int .i64 y2, .int .i64 0] from dr_put_box B.out 2 _)
        replace R := Lib.hid (show BoxAt (World.setCell w4 ⟨w2.heap.size, 2, none⟩ (.int .i64 y2)) w.heap.size 49 #[.int .i64 0, .int .i64 0, .int .i64 0, .int .i64 0] from dr_put_far R.out (by omega))
        replace HC := Lib.hid (dr_cur_put (p := ⟨w2.heap.size, 2, none⟩) (u := .int .i64 y2) HC.out (by show g < w2.heap.size; omega))
        replace HG := Lib.hid (dr_put (p := ⟨w2.heap.size, 2, none⟩) (u := .int .i64 y2) HG.out (by show w.heap.size ≤ w2.heap.size; omega))
        go_wp2_with fail
        refine Calls.mono (below_any g n cap A 4 _ hn HC.out (by omega) (by omega)) ?_
        rintro e w6 ⟨y3, hy3a, hy3b, rfl, hc, hg⟩
        replace R := Lib.hid (R.out.grown hg (by omega))
        have lR : w.heap.size < w6.heap.size := R.out.lt
        replace B := Lib.hid (B.out.grown hg (by omega))
        have lB : w2.heap.size < w6.heap.size := B.out.lt
        replace HC := Lib.hid hc
        replace HG := Lib.hid (grown_both HG.out hg)
        have s6 : w.heap.size ≤ w6.heap.size := HG.out.size
        clear hc hg
        have eB3 := B.out.at_ (j := 3) rfl
        have fB3 := B.out.free 3
        replace B := Lib.hid (show BoxAt (World.setCell w6 ⟨w2.heap.size, 3, none⟩ (.int .i64 y3)) w2.heap.size 49 #[.int .i64 (1 + y0), .int .i64 y1, .int .i64 y2, .int .i64 y3] from dr_put_box B.out 3 _)
        replace R := Lib.hid (show BoxAt (World.setCell w6 ⟨w2.heap.size, 3, none⟩ (.int .i64 y3)) w.heap.size 49 #[.int .i64 0, .int .i64 0, .int .i64 0, .int .i64 0] from dr_put_far R.out (by omega))
        replace HC := Lib.hid (dr_cur_put (p := ⟨w2.heap.size, 3, none⟩) (u := .int .i64 y3) HC.out (by show g < w2.heap.size; omega))
        replace HG := Lib.hid (dr_put (p := ⟨w2.heap.size, 3, none⟩) (u := .int .i64 y3) HG.out (by show w.heap.size ≤ w2.heap.size; omega))
        have HF : Hid (TOp.fit ⟨(1 + y0), y1, y2, y3⟩) := Lib.hid (by (try unfold TPattern.fit at *); (try unfold TSite.fit at *); (try unfold TOp.fit at *); (try simp only at *); omega)
        have kB0 := B.out.at_ (j := 0) rfl
        have kB1 := B.out.at_ (j := 1) rfl
        have kB2 := B.out.at_ (j := 2) rfl
        have kB3 := B.out.at_ (j := 3) rfl
        obtain ⟨x8, hx⟩ : ∃ x, x = World.setRow (World.setCell w6 ⟨w2.heap.size, 3, none⟩ (.int .i64 y3)) w.heap.size #[.int .i64 (1 + y0), .int .i64 y1, .int .i64 y2, .int .i64 y3] := ⟨_, rfl⟩
        have HX8 := Lib.hid hx
        have OLD8 := R
        replace R := Lib.hid (show BoxAt x8 w.heap.size 49 #[.int .i64 (1 + y0), .int .i64 y1, .int .i64 y2, .int .i64 y3] by rw [hx]; exact box_row R.out)
        replace B := Lib.hid (show BoxAt x8 w2.heap.size 49 #[.int .i64 (1 + y0), .int .i64 y1, .int .i64 y2, .int .i64 y3] by rw [hx]; exact box_far B.out (by omega))
        replace HC := Lib.hid (show Cur x8 g A n cap by rw [hx]; exact dr_cur_row HC.out (by omega) _)
        replace HG := Lib.hid (show w.grownBy x8 (some g) by rw [hx]; exact dr_row HG.out (by omega) _)
        have z8 : w.heap.size ≤ x8.heap.size := HG.out.size
        have lR : w.heap.size < x8.heap.size := R.out.lt
        have lB : w2.heap.size < x8.heap.size := B.out.lt
        clear hx
        go_wp2_with (refine wpList_store_row rfl 49 _ _ rfl w.heap.size #[.int .i64 (1 + y0), .int .i64 y1, .int .i64 y2, .int .i64 y3] rfl rfl 49 _ OLD8.out (by kernel_rfl) (by kernel_rfl) (by kernel_rfl) ?_; rw [← HX8.out]; clear HX8 OLD8)
        have rR0 := R.out.at_ (j := 0) rfl
        have rR1 := R.out.at_ (j := 1) rfl
        have rR2 := R.out.at_ (j := 2) rfl
        have rR3 := R.out.at_ (j := 3) rfl
        exact bodyPost_ret (v := .agg #[.int .i64 (1 + y0), .int .i64 y1, .int .i64 y2, .int .i64 y3]) (by simp [results, Try.results114, go_sem, rR0, rR1, rR2, rR3]) rfl ⟨⟨(1 + y0), y1, y2, y3⟩, HF.out, rfl, HC.out, HG.out⟩
set_option maxHeartbeats 8000000 in
theorem ops_any (g n cap : Nat) (A : Option Addr) (w : World) (hn : n ≤ maxLen) (hc : Cur w g A n cap) :
    Calls Try.prog 100 #[.pointer (some ⟨g, 0, none⟩)] w (DrwL 49 4 9 TOp.cells TOp.fit g A n cap w) := by
  have HC := Lib.hid (hc.new (.cells #[] 49))
  have HLT := Lib.hid hc.lt
  clear hc
  go_enter Try.func100, Try.ntmps100
  go_wp2_with fail
  refine (below_any g n cap A 10 _ hn HC.out (by omega) (by omega)).mono ?_
  rintro e w0 ⟨y, hy0, hy1, rfl, hc0, hg0⟩
  obtain ⟨m, rfl⟩ := Int.eq_ofNat_of_zero_le hy0
  have hm : m ≤ 9 := by omega
  have HO0 := Lib.hid (dr_own (World.ownsRow_lit (e := 49) (size := 4) w #[] 0 (Nat.le_refl _) (by unfold maxLen; omega) rfl) HLT.out hg0)
  have HC0 := Lib.hid hc0
  have HG0 := Lib.hid (grown_both (grown_new w (.cells #[] 49) _) hg0)
  clear hc0 hg0
  go_wp2_with fail
  go_loopw [3, 4] (fun v i wr => ∃ (k : Nat) (l : List TOp), k ≤ m ∧ l.length + k = m ∧ Hid (∀ x ∈ l, TOp.fit x) ∧ i = .int .i64 k ∧ Hid (wr.ownsRow w.heap.size 49 4 v l.length (l.flatMap TOp.cells)) ∧ Hid (Cur wr g A n cap) ∧ Hid (w.grownBy wr (some g))) (fun _ i _ => (intOf i).toNat)
  case atStart => exact ⟨m, [], Nat.le_refl _, by simp, Lib.hid (fun _ h => by cases h), rfl, HO0, HC0, HG0⟩
  case round =>
    obtain ⟨k, l, hk, hl, HU, rfl, HO, HCW, HGW⟩ := hrel
    have HS := Lib.hid HGW.out.size
    have hll : l.length ≤ 9 := by omega
    have HLL := Lib.hid hl
    clear hl
    by_cases hlt : 0 < k
    · obtain ⟨k', rfl⟩ : ∃ k', k = k' + 1 := ⟨k - 1, by omega⟩
      have hwk : IntKind.i64.wrap (((k' + 1 : Nat) : Int) - 1) = (k' : Int) := by rw [IntWalk.i64_in _ (by omega)]; omega
      go_wp2_with fail
      refine (op_any g n cap A _ hn HCW.out).mono ?_
      rintro e w1 ⟨x, hx, rfl, hc1, hg1⟩
      have HO1 := Lib.hid (dr_own HO.out HLT.out hg1)
      have HC1 := Lib.hid hc1
      have HG1 := Lib.hid (grown_both HGW.out hg1)
      have HX := Lib.hid (show l.flatMap TOp.cells ++ (#[.int .i64 x.f0, .int .i64 x.f1, .int .i64 x.f2, .int .i64 x.f3] : Array Value).toList = (l ++ [x]).flatMap TOp.cells by simp [List.flatMap_append, TOp.cells])
      have HXB := Lib.hid (show ∀ z ∈ l ++ [x], TOp.fit z from fun z hz => by
        simp only [List.mem_append, List.mem_singleton] at hz
        rcases hz with hz | rfl
        · exact HU.out z hz
        · exact hx)
      clear hc1 hg1 hx
      go_wp2_with (at_builtin; refine wp_app_lit rfl _ _ _ rfl w.heap.size 49 (.agg #[.int .i64 0, .int .i64 0, .int .i64 0, .int .i64 0]) 4 32 Try.underlying38 infoOp rfl (by decide) _ _ _ rfl HO1.out #[.int .i64 x.f0, .int .i64 x.f1, .int .i64 x.f2, .int .i64 x.f3] 1 1 _ rfl (by simp) rfl (onesOp x) (by unfold maxLen; omega) (by omega) HG1.out.size ?_; intro v1 w2 ho2 hb2; have HO2 := Lib.hid ho2; have HB2 := Lib.hid hb2; clear ho2 hb2)
      go_roundw
      case rel => exact ⟨k', l ++ [x], by omega, by have := HLL.out; simp; omega, HXB, by go_num, Lib.hid (by rw [← HX.out]; simpa using HO2.out), Lib.hid (dr_cur_low HC1.out HLT.out HB2.out), Lib.hid (dr_low HG1.out (Nat.le_refl _) HB2.out)⟩
      case measure => simp [intOf]
    · obtain rfl : k = 0 := by omega
      go_wp2_with fail
      go_ret
      exact ⟨_, l, rfl, hll, HU.out, HO.out, HCW.out, HGW.out⟩
theorem dr_own_al {w : World} {base sz n : Nat} {E : TypeId} {v : Value} {xs : List Value} (h : w.ownsRow base E sz v n xs) (o : Obj) : (w.alloc o).ownsRow base E sz v n xs := by
  refine ⟨h.1, ?_⟩
  rcases h.2 with h' | ⟨g, cap, cur, hv, hg, hh, rest⟩
  · exact .inl h'
  · exact .inr ⟨g, cap, cur, hv, hg, (Below.heap_alloc w o g (Array.getElem?_eq_some_iff.1 hh).1).trans hh, rest⟩
def DrwI (m : Nat) (P : Int → Prop) (g : Nat) (A : Option Addr) (n cap : Nat) (w : World) (e : Ending) (w' : World) : Prop :=
  ∃ (v : Value) (l : List Int), e = .returned v ∧ l.length ≤ m ∧ (∀ x ∈ l, P x) ∧ w'.ownsRow w.heap.size 3 1 v l.length (i64s l) ∧ Cur w' g A n cap ∧ w.grownBy w' (some g)
set_option maxHeartbeats 8000000 in
theorem vals_any (g n cap : Nat) (A : Option Addr) (w : World) (hn : n ≤ maxLen) (hc : Cur w g A n cap) :
    Calls Try.prog 71 #[.pointer (some ⟨g, 0, none⟩)] w (DrwI 5 (fun z => -1 ≤ z ∧ z ≤ 1000) g A n cap w) := by
  have HC := Lib.hid (hc.new (.cells #[] 3))
  have HLT := Lib.hid hc.lt
  clear hc
  go_enter Try.func71, Try.ntmps71
  go_wp2_with fail
  refine (below_any g n cap A 6 _ hn HC.out (by omega) (by omega)).mono ?_
  rintro e w0 ⟨y, hy0, hy1, rfl, hc0, hg0⟩
  obtain ⟨m, rfl⟩ := Int.eq_ofNat_of_zero_le hy0
  have hm : m ≤ 5 := by omega
  have HO0 := Lib.hid (dr_own (World.ownsRow_lit (e := 3) (size := 1) w #[] 0 (Nat.le_refl _) (by unfold maxLen; omega) rfl) HLT.out hg0)
  have HC0 := Lib.hid hc0
  have HG0 := Lib.hid (grown_both (grown_new w (.cells #[] 3) _) hg0)
  clear hc0 hg0
  go_wp2_with fail
  go_loopw [3, 4] (fun v i wr => ∃ (k : Nat) (l : List Int), k ≤ m ∧ l.length + k = m ∧ Hid (∀ z ∈ l, -1 ≤ z ∧ z ≤ 1000) ∧ i = .int .i64 k ∧ Hid (wr.ownsRow w.heap.size 3 1 v l.length (i64s l)) ∧ Hid (Cur wr g A n cap) ∧ Hid (w.grownBy wr (some g))) (fun _ i _ => (intOf i).toNat)
  case atStart => exact ⟨m, [], Nat.le_refl _, by simp, Lib.hid (fun _ h => by cases h), rfl, HO0, HC0, HG0⟩
  case round =>
    obtain ⟨k, l, hk, hl, HU, rfl, HO, HCW, HGW⟩ := hrel
    have HS := Lib.hid HGW.out.size
    have hll : l.length ≤ 5 := by omega
    have HLL := Lib.hid hl
    clear hl
    by_cases hlt : 0 < k
    · obtain ⟨k', rfl⟩ : ∃ k', k = k' + 1 := ⟨k - 1, by omega⟩
      have hwk : IntKind.i64.wrap (((k' + 1 : Nat) : Int) - 1) = (k' : Int) := by rw [IntWalk.i64_in _ (by omega)]; omega
      go_wp2_with fail
      refine (below_any g n cap A 50 _ hn HCW.out (by omega) (by omega)).mono ?_
      rintro e w1 ⟨x, hx0, hx1, rfl, hc1, hg1⟩
      have LT := Lib.hid (box_new w1 3 #[.int .i64 1, .int .i64 2, .int .i64 5, .int .i64 8, .int .i64 999, .int .i64 1000, .int .i64 (-1), .int .i64 x])
      have HO1 := Lib.hid (dr_own_al (dr_own HO.out HLT.out hg1) (.cells #[.int .i64 1, .int .i64 2, .int .i64 5, .int .i64 8, .int .i64 999, .int .i64 1000, .int .i64 (-1), .int .i64 x] 3))
      have HC1 := Lib.hid (hc1.new (.cells #[.int .i64 1, .int .i64 2, .int .i64 5, .int .i64 8, .int .i64 999, .int .i64 1000, .int .i64 (-1), .int .i64 x] 3))
      have HG1 := Lib.hid (dr_al (grown_both HGW.out hg1) (.cells #[.int .i64 1, .int .i64 2, .int .i64 5, .int .i64 8, .int .i64 999, .int .i64 1000, .int .i64 (-1), .int .i64 x] 3))
      have hlg : g < w1.heap.size := hc1.lt
      clear hc1 hg1
      go_wp2_with fail
      refine (int_any g n cap A [1, 2, 5, 8, 999, 1000, -1, x] w1.heap.size (-1) 1000 _ hn HC1.out (by omega) LT.out (by simp) (by simp) (by simp only [List.mem_cons, List.not_mem_nil, or_false]; rintro z (rfl | rfl | rfl | rfl | rfl | rfl | rfl | rfl) <;> omega)).mono ?_
      rintro e w2 ⟨z, hz0, hz1, rfl, hc2, hg2⟩
      replace HO1 := Lib.hid (dr_own HO1.out HLT.out hg2)
      replace HC1 := Lib.hid hc2
      replace HG1 := Lib.hid (grown_both HG1.out hg2)
      have HX := Lib.hid (show i64s l ++ (#[Value.int .i64 z]).toList = i64s (l ++ [z]) by simp [i64s])
      have HXB := Lib.hid (show ∀ y ∈ l ++ [z], -1 ≤ y ∧ y ≤ 1000 from fun y hy => by
        simp only [List.mem_append, List.mem_singleton] at hy
        rcases hy with hy | rfl
        · exact HU.out y hy
        · omega)
      clear hc2 hg2 LT
      go_wp2_with (at_builtin; refine wp_app_lit rfl _ _ _ rfl w.heap.size 3 (.int .i64 0) 1 8 Try.underlying29 info_intP rfl (by decide) _ _ _ rfl HO1.out #[.int .i64 z] 1 1 _ rfl (by simp) rfl (one_intP z) (by unfold maxLen; omega) (by omega) HG1.out.size ?_; intro v1 w4 ho2 hb2; have HO2 := Lib.hid ho2; have HB2 := Lib.hid hb2; clear ho2 hb2)
      go_roundw
      case rel => exact ⟨k', l ++ [z], by omega, by have := HLL.out; simp; omega, HXB, by go_num, Lib.hid (by rw [← HX.out]; simpa using HO2.out), Lib.hid (dr_cur_low HC1.out HLT.out HB2.out), Lib.hid (dr_low HG1.out (Nat.le_refl _) HB2.out)⟩
      case measure => simp [intOf]
    · obtain rfl : k = 0 := by omega
      go_wp2_with fail
      go_ret
      exact ⟨_, l, rfl, hll, HU.out, HO.out, HCW.out, HGW.out⟩
end Go.Proofs.Ytcankpiidjhhpaa
