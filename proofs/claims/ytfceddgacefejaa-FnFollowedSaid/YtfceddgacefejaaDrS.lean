/- Draws of sites and patterns. No condition of its own. -/
import Derived.Test.YtfceddgacefejaaDrw
import Derived.Test.YtfceddgacefejaaTSite
import Derived.Test.YtfceddgacefejaaTPattern
namespace Go.Proofs.Ytfceddgacefejaa
open Go Go.ChangeShapes Go.WideShapes Go.ChangeAt Go.RowKit Go.Lib
set_option linter.unusedVariables false
set_option linter.unusedSimpArgs false
set_option maxRecDepth 100000
set_option maxHeartbeats 8000000 in
theorem site_any (g n cap : Nat) (A : Option Addr) (w : World) (hn : n ≤ maxLen) (hc : Cur w g A n cap) :
    Calls Try.prog 97 #[.pointer (some ⟨g, 0, none⟩)] w (Drw g A n cap (fun x : TSite => Value.agg #[.int .i64 x.f0, .int .i64 x.f1]) TSite.fit w) := by
  have HC := Lib.hid hc
  have HLT := hc.lt
  have HG := Lib.hid (World.grownBy.refl w (some g))
  clear hc
  have R := Lib.hid (show BoxAt (w.alloc (.cells #[.int .i64 0, .int .i64 0] 27)) w.heap.size 27 #[.int .i64 0, .int .i64 0] from by simpa using box_new w 27 #[.int .i64 0, .int .i64 0])
  have aR : w.heap.size ≤ w.heap.size := by have := HG.out.size; (try simp at this); omega
  replace HC := Lib.hid (HC.out.new (.cells #[.int .i64 0, .int .i64 0] 27))
  replace HG := Lib.hid (dr_al HG.out (.cells #[.int .i64 0, .int .i64 0] 27))
  go_enter Try.func97, Try.ntmps97
  go_wp2_with fail
  refine Calls.mono (below_any g n cap A 4 _ hn HC.out (by omega) (by omega)) ?_
  rintro e w1 ⟨y0, hy0a, hy0b, rfl, hc, hg⟩
  replace R := Lib.hid (R.out.grown hg (by omega))
  have lR : w.heap.size < w1.heap.size := R.out.lt
  replace HC := Lib.hid hc
  replace HG := Lib.hid (grown_both HG.out hg)
  have s1 : w.heap.size ≤ w1.heap.size := HG.out.size
  clear hc hg
  go_wp2_with fail
  refine Calls.mono (below_any g n cap A 3 _ hn HC.out (by omega) (by omega)) ?_
  rintro e w2 ⟨y1, hy1a, hy1b, rfl, hc, hg⟩
  replace R := Lib.hid (R.out.grown hg (by omega))
  have lR : w.heap.size < w2.heap.size := R.out.lt
  replace HC := Lib.hid hc
  replace HG := Lib.hid (grown_both HG.out hg)
  have s2 : w.heap.size ≤ w2.heap.size := HG.out.size
  clear hc hg
  have HF : Hid (TSite.fit ⟨1 + y0, y1⟩) := Lib.hid (by unfold TSite.fit; simp only; omega)
  obtain ⟨x3, hx⟩ : ∃ x, x = World.setRow w2 w.heap.size #[.int .i64 (1 + y0), .int .i64 y1] := ⟨_, rfl⟩
  have HX3 := Lib.hid hx
  have OLD3 := R
  replace R := Lib.hid (show BoxAt x3 w.heap.size 27 #[.int .i64 (1 + y0), .int .i64 y1] by rw [hx]; exact box_row R.out)
  replace HC := Lib.hid (show Cur x3 g A n cap by rw [hx]; exact dr_cur_row HC.out (by omega) _)
  replace HG := Lib.hid (show w.grownBy x3 (some g) by rw [hx]; exact dr_row HG.out (by omega) _)
  have z3 : w.heap.size ≤ x3.heap.size := HG.out.size
  have lR : w.heap.size < x3.heap.size := R.out.lt
  clear hx
  go_wp2_with (refine wpList_store_row rfl 27 _ _ rfl w.heap.size #[.int .i64 (1 + y0), .int .i64 y1] rfl rfl 27 _ OLD3.out (by kernel_rfl) (by kernel_rfl) (by kernel_rfl) ?_; rw [← HX3.out]; clear HX3 OLD3)
  have rR0 := R.out.at_ (j := 0) rfl
  have rR1 := R.out.at_ (j := 1) rfl
  exact bodyPost_ret (v := .agg #[.int .i64 (1 + y0), .int .i64 y1]) (by simp [results, Try.results97, go_sem, rR0, rR1]) rfl ⟨⟨1 + y0, y1⟩, HF.out, rfl, HC.out, HG.out⟩
set_option maxHeartbeats 8000000 in
theorem pat_any (g n cap : Nat) (A : Option Addr) (w : World) (hn : n ≤ maxLen) (hc : Cur w g A n cap) :
    Calls Try.prog 124 #[.pointer (some ⟨g, 0, none⟩)] w (Drw g A n cap (fun x : TPattern => Value.agg #[.int .i64 x.f0, .int .i64 x.f1]) TPattern.fit w) := by
  have HC := Lib.hid hc
  have HLT := hc.lt
  have HG := Lib.hid (World.grownBy.refl w (some g))
  clear hc
  have R := Lib.hid (show BoxAt (w.alloc (.cells #[.int .i64 0, .int .i64 0] 33)) w.heap.size 33 #[.int .i64 0, .int .i64 0] from by simpa using box_new w 33 #[.int .i64 0, .int .i64 0])
  have aR : w.heap.size ≤ w.heap.size := by have := HG.out.size; (try simp at this); omega
  replace HC := Lib.hid (HC.out.new (.cells #[.int .i64 0, .int .i64 0] 33))
  replace HG := Lib.hid (dr_al HG.out (.cells #[.int .i64 0, .int .i64 0] 33))
  go_enter Try.func124, Try.ntmps124
  go_wp2_with fail
  refine Calls.mono (below_any g n cap A 5 _ hn HC.out (by omega) (by omega)) ?_
  rintro e w1 ⟨y0, hy0a, hy0b, rfl, hc, hg⟩
  replace R := Lib.hid (R.out.grown hg (by omega))
  have lR : w.heap.size < w1.heap.size := R.out.lt
  replace HC := Lib.hid hc
  replace HG := Lib.hid (grown_both HG.out hg)
  have s1 : w.heap.size ≤ w1.heap.size := HG.out.size
  clear hc hg
  go_wp2_with fail
  refine Calls.mono (below_any g n cap A 4 _ hn HC.out (by omega) (by omega)) ?_
  rintro e w2 ⟨y1, hy1a, hy1b, rfl, hc, hg⟩
  replace R := Lib.hid (R.out.grown hg (by omega))
  have lR : w.heap.size < w2.heap.size := R.out.lt
  replace HC := Lib.hid hc
  replace HG := Lib.hid (grown_both HG.out hg)
  have s2 : w.heap.size ≤ w2.heap.size := HG.out.size
  clear hc hg
  have HF : Hid (TPattern.fit ⟨y0, y1 - 1⟩) := Lib.hid (by unfold TPattern.fit; simp only; omega)
  obtain ⟨x3, hx⟩ : ∃ x, x = World.setRow w2 w.heap.size #[.int .i64 y0, .int .i64 (y1 - 1)] := ⟨_, rfl⟩
  have HX3 := Lib.hid hx
  have OLD3 := R
  replace R := Lib.hid (show BoxAt x3 w.heap.size 33 #[.int .i64 y0, .int .i64 (y1 - 1)] by rw [hx]; exact box_row R.out)
  replace HC := Lib.hid (show Cur x3 g A n cap by rw [hx]; exact dr_cur_row HC.out (by omega) _)
  replace HG := Lib.hid (show w.grownBy x3 (some g) by rw [hx]; exact dr_row HG.out (by omega) _)
  have z3 : w.heap.size ≤ x3.heap.size := HG.out.size
  have lR : w.heap.size < x3.heap.size := R.out.lt
  clear hx
  go_wp2_with (refine wpList_store_row rfl 33 _ _ rfl w.heap.size #[.int .i64 y0, .int .i64 (y1 - 1)] rfl rfl 33 _ OLD3.out (by kernel_rfl) (by kernel_rfl) (by kernel_rfl) ?_; rw [← HX3.out]; clear HX3 OLD3)
  have rR0 := R.out.at_ (j := 0) rfl
  have rR1 := R.out.at_ (j := 1) rfl
  exact bodyPost_ret (v := .agg #[.int .i64 y0, .int .i64 (y1 - 1)]) (by simp [results, Try.results124, go_sem, rR0, rR1]) rfl ⟨⟨y0, y1 - 1⟩, HF.out, rfl, HC.out, HG.out⟩
set_option maxHeartbeats 8000000 in
theorem raw_any (g n cap : Nat) (A : Option Addr) (w : World) (hn : n ≤ maxLen) (hc : Cur w g A n cap) :
    Calls Try.prog 205 #[.pointer (some ⟨g, 0, none⟩)] w (Num g A n cap (-9223372036854775808) 9223372036854775807 w) := by
  have HC := Lib.hid hc
  have HLT := hc.lt
  have HG := Lib.hid (World.grownBy.refl w (some g))
  clear hc
  go_enter Try.func205, Try.ntmps205
  have Lt0 := Lib.hid (show BoxAt (w.alloc (.cells #[.int .i64 (-2), .int .i64 (-1), .int .i64 0, .int .i64 9, .int .i64 10, .int .i64 9223372036854775807, .int .i64 (-9223372036854775808)] 3)) w.heap.size 3 #[.int .i64 (-2), .int .i64 (-1), .int .i64 0, .int .i64 9, .int .i64 10, .int .i64 9223372036854775807, .int .i64 (-9223372036854775808)] from by simpa using box_new w 3 #[.int .i64 (-2), .int .i64 (-1), .int .i64 0, .int .i64 9, .int .i64 10, .int .i64 9223372036854775807, .int .i64 (-9223372036854775808)])
  have aLt0 : w.heap.size ≤ w.heap.size := by have := HG.out.size; (try simp at this); omega
  replace HC := Lib.hid (HC.out.new (.cells #[.int .i64 (-2), .int .i64 (-1), .int .i64 0, .int .i64 9, .int .i64 10, .int .i64 9223372036854775807, .int .i64 (-9223372036854775808)] 3))
  replace HG := Lib.hid (dr_al HG.out (.cells #[.int .i64 (-2), .int .i64 (-1), .int .i64 0, .int .i64 9, .int .i64 10, .int .i64 9223372036854775807, .int .i64 (-9223372036854775808)] 3))
  go_wp2_with fail
  refine Calls.mono (int_any g n cap A [-2, -1, 0, 9, 10, 9223372036854775807, -9223372036854775808] w.heap.size (-9223372036854775808) (9223372036854775807) _ hn HC.out (by omega) Lt0.out (by decide) (by decide) (by decide)) ?_
  rintro e w1 ⟨y, hya, hyb, rfl, hc, hg⟩
  replace Lt0 := Lib.hid (Lt0.out.grown hg (by omega))
  have lLt0 : w.heap.size < w1.heap.size := Lt0.out.lt
  replace HC := Lib.hid hc
  replace HG := Lib.hid (grown_both HG.out hg)
  have s1 : w.heap.size ≤ w1.heap.size := HG.out.size
  clear hc hg
  clear Lt0
  go_wp2_with fail
  go_ret
  exact ⟨y, hya, hyb, rfl, HC.out, HG.out⟩
set_option maxHeartbeats 8000000 in
theorem pata_any (g n cap : Nat) (A : Option Addr) (w : World) (hn : n ≤ maxLen) (hc : Cur w g A n cap) :
    Calls Try.prog 108 #[.pointer (some ⟨g, 0, none⟩)] w (Drw g A n cap (fun x : TPattern => Value.agg #[.int .i64 x.f0, .int .i64 x.f1]) TPattern.fit w) := by
  have HC := Lib.hid hc
  have HLT := hc.lt
  have HG := Lib.hid (World.grownBy.refl w (some g))
  clear hc
  have R := Lib.hid (show BoxAt (w.alloc (.cells #[.int .i64 0, .int .i64 0] 33)) w.heap.size 33 #[.int .i64 0, .int .i64 0] from by simpa using box_new w 33 #[.int .i64 0, .int .i64 0])
  have aR : w.heap.size ≤ w.heap.size := by have := HG.out.size; (try simp at this); omega
  replace HC := Lib.hid (HC.out.new (.cells #[.int .i64 0, .int .i64 0] 33))
  replace HG := Lib.hid (dr_al HG.out (.cells #[.int .i64 0, .int .i64 0] 33))
  go_enter Try.func108, Try.ntmps108
  go_wp2_with fail
  refine Calls.mono (pat_any g n cap A _ hn HC.out) ?_
  rintro e w1 ⟨p, hp, rfl, hc, hg⟩
  replace R := Lib.hid (R.out.grown hg (by omega))
  have lR : w.heap.size < w1.heap.size := R.out.lt
  replace HC := Lib.hid hc
  replace HG := Lib.hid (grown_both HG.out hg)
  have s1 : w.heap.size ≤ w1.heap.size := HG.out.size
  clear hc hg
  have B := Lib.hid (show BoxAt (w1.alloc (.cells #[.int .i64 0, .int .i64 0] 33)) w1.heap.size 33 #[.int .i64 0, .int .i64 0] from by simpa using box_new w1 33 #[.int .i64 0, .int .i64 0])
  have aB : w.heap.size ≤ w1.heap.size := by have := HG.out.size; (try simp at this); omega
  replace R := Lib.hid (R.out.alloc_ (.cells #[.int .i64 0, .int .i64 0] 33))
  replace HC := Lib.hid (HC.out.new (.cells #[.int .i64 0, .int .i64 0] 33))
  replace HG := Lib.hid (dr_al HG.out (.cells #[.int .i64 0, .int .i64 0] 33))
  obtain ⟨x2, hx⟩ : ∃ x, x = World.setRow (w1.alloc (.cells #[.int .i64 0, .int .i64 0] 33)) w1.heap.size #[.int .i64 p.f0, .int .i64 p.f1] := ⟨_, rfl⟩
  have HX2 := Lib.hid hx
  have OLD2 := B
  replace R := Lib.hid (show BoxAt x2 w.heap.size 33 #[.int .i64 0, .int .i64 0] by rw [hx]; exact box_far R.out (by omega))
  replace B := Lib.hid (show BoxAt x2 w1.heap.size 33 #[.int .i64 p.f0, .int .i64 p.f1] by rw [hx]; exact box_row B.out)
  replace HC := Lib.hid (show Cur x2 g A n cap by rw [hx]; exact dr_cur_row HC.out (by omega) _)
  replace HG := Lib.hid (show w.grownBy x2 (some g) by rw [hx]; exact dr_row HG.out (by omega) _)
  have z2 : w.heap.size ≤ x2.heap.size := HG.out.size
  have lR : w.heap.size < x2.heap.size := R.out.lt
  have lB : w1.heap.size < x2.heap.size := B.out.lt
  clear hx
  go_wp2_with (refine wpList_store_row rfl 33 _ _ rfl w1.heap.size #[.int .i64 p.f0, .int .i64 p.f1] rfl rfl 33 _ OLD2.out (by kernel_rfl) (by kernel_rfl) (by kernel_rfl) ?_; rw [← HX2.out]; clear HX2 OLD2)
  refine Calls.mono (below_any g n cap A 10 _ hn HC.out (by omega) (by omega)) ?_
  rintro e w3 ⟨y, hya, hyb, rfl, hc, hg⟩
  replace R := Lib.hid (R.out.grown hg (by omega))
  have lR : w.heap.size < w3.heap.size := R.out.lt
  replace B := Lib.hid (B.out.grown hg (by omega))
  have lB : w1.heap.size < w3.heap.size := B.out.lt
  replace HC := Lib.hid hc
  replace HG := Lib.hid (grown_both HG.out hg)
  have s3 : w.heap.size ≤ w3.heap.size := HG.out.size
  clear hc hg
  by_cases q0 : y = 0
  · skip
    subst q0
    go_wp2_with fail
    refine Calls.mono (raw_any g n cap A _ hn HC.out) ?_
    rintro e w4 ⟨z, hza, hzb, rfl, hc, hg⟩
    replace R := Lib.hid (R.out.grown hg (by omega))
    have lR : w.heap.size < w4.heap.size := R.out.lt
    replace B := Lib.hid (B.out.grown hg (by omega))
    have lB : w1.heap.size < w4.heap.size := B.out.lt
    replace HC := Lib.hid hc
    replace HG := Lib.hid (grown_both HG.out hg)
    have s4 : w.heap.size ≤ w4.heap.size := HG.out.size
    clear hc hg
    have eB0 := B.out.at_ (j := 0) rfl
    have fB0 := B.out.free 0
    replace B := Lib.hid (show BoxAt (World.setCell w4 ⟨w1.heap.size, 0, none⟩ (.int .i64 z)) w1.heap.size 33 #[.int .i64 z, .int .i64 p.f1] from dr_put_box B.out 0 _)
    replace R := Lib.hid (show BoxAt (World.setCell w4 ⟨w1.heap.size, 0, none⟩ (.int .i64 z)) w.heap.size 33 #[.int .i64 0, .int .i64 0] from dr_put_far R.out (by omega))
    replace HC := Lib.hid (dr_cur_put (p := ⟨w1.heap.size, 0, none⟩) (u := .int .i64 z) HC.out (by show g < w1.heap.size; omega))
    replace HG := Lib.hid (dr_put (p := ⟨w1.heap.size, 0, none⟩) (u := .int .i64 z) HG.out (by show w.heap.size ≤ w1.heap.size; omega))
    have HF : Hid (TPattern.fit ⟨z, p.f1⟩) := Lib.hid (by (try unfold TPattern.fit at *); (try unfold TSite.fit at *); (try unfold TPattern.fit at *); (try simp only at *); omega)
    have kB0 := B.out.at_ (j := 0) rfl
    have kB1 := B.out.at_ (j := 1) rfl
    obtain ⟨x6, hx⟩ : ∃ x, x = World.setRow (World.setCell w4 ⟨w1.heap.size, 0, none⟩ (.int .i64 z)) w.heap.size #[.int .i64 z, .int .i64 p.f1] := ⟨_, rfl⟩
    have HX6 := Lib.hid hx
    have OLD6 := R
    replace R := Lib.hid (show BoxAt x6 w.heap.size 33 #[.int .i64 z, .int .i64 p.f1] by rw [hx]; exact box_row R.out)
    replace B := Lib.hid (show BoxAt x6 w1.heap.size 33 #[.int .i64 z, .int .i64 p.f1] by rw [hx]; exact box_far B.out (by omega))
    replace HC := Lib.hid (show Cur x6 g A n cap by rw [hx]; exact dr_cur_row HC.out (by omega) _)
    replace HG := Lib.hid (show w.grownBy x6 (some g) by rw [hx]; exact dr_row HG.out (by omega) _)
    have z6 : w.heap.size ≤ x6.heap.size := HG.out.size
    have lR : w.heap.size < x6.heap.size := R.out.lt
    have lB : w1.heap.size < x6.heap.size := B.out.lt
    clear hx
    go_wp2_with (refine wpList_store_row rfl 33 _ _ rfl w.heap.size #[.int .i64 z, .int .i64 p.f1] rfl rfl 33 _ OLD6.out (by kernel_rfl) (by kernel_rfl) (by kernel_rfl) ?_; rw [← HX6.out]; clear HX6 OLD6)
    have rR0 := R.out.at_ (j := 0) rfl
    have rR1 := R.out.at_ (j := 1) rfl
    exact bodyPost_ret (v := .agg #[.int .i64 z, .int .i64 p.f1]) (by simp [results, Try.results108, go_sem, rR0, rR1]) rfl ⟨⟨z, p.f1⟩, HF.out, rfl, HC.out, HG.out⟩
  · skip
    have r0 : (y == 0) = false := by simp [q0]
    have t0 : decide (y = 0) = false := by simp [q0]
    by_cases q1 : y = 1
    · skip
      subst q1
      go_wp2_with fail
      refine Calls.mono (raw_any g n cap A _ hn HC.out) ?_
      rintro e w4 ⟨z, hza, hzb, rfl, hc, hg⟩
      replace R := Lib.hid (R.out.grown hg (by omega))
      have lR : w.heap.size < w4.heap.size := R.out.lt
      replace B := Lib.hid (B.out.grown hg (by omega))
      have lB : w1.heap.size < w4.heap.size := B.out.lt
      replace HC := Lib.hid hc
      replace HG := Lib.hid (grown_both HG.out hg)
      have s4 : w.heap.size ≤ w4.heap.size := HG.out.size
      clear hc hg
      have eB1 := B.out.at_ (j := 1) rfl
      have fB1 := B.out.free 1
      replace B := Lib.hid (show BoxAt (World.setCell w4 ⟨w1.heap.size, 1, none⟩ (.int .i64 z)) w1.heap.size 33 #[.int .i64 p.f0, .int .i64 z] from dr_put_box B.out 1 _)
      replace R := Lib.hid (show BoxAt (World.setCell w4 ⟨w1.heap.size, 1, none⟩ (.int .i64 z)) w.heap.size 33 #[.int .i64 0, .int .i64 0] from dr_put_far R.out (by omega))
      replace HC := Lib.hid (dr_cur_put (p := ⟨w1.heap.size, 1, none⟩) (u := .int .i64 z) HC.out (by show g < w1.heap.size; omega))
      replace HG := Lib.hid (dr_put (p := ⟨w1.heap.size, 1, none⟩) (u := .int .i64 z) HG.out (by show w.heap.size ≤ w1.heap.size; omega))
      have HF : Hid (TPattern.fit ⟨p.f0, z⟩) := Lib.hid (by (try unfold TPattern.fit at *); (try unfold TSite.fit at *); (try unfold TPattern.fit at *); (try simp only at *); omega)
      have kB0 := B.out.at_ (j := 0) rfl
      have kB1 := B.out.at_ (j := 1) rfl
      obtain ⟨x6, hx⟩ : ∃ x, x = World.setRow (World.setCell w4 ⟨w1.heap.size, 1, none⟩ (.int .i64 z)) w.heap.size #[.int .i64 p.f0, .int .i64 z] := ⟨_, rfl⟩
      have HX6 := Lib.hid hx
      have OLD6 := R
      replace R := Lib.hid (show BoxAt x6 w.heap.size 33 #[.int .i64 p.f0, .int .i64 z] by rw [hx]; exact box_row R.out)
      replace B := Lib.hid (show BoxAt x6 w1.heap.size 33 #[.int .i64 p.f0, .int .i64 z] by rw [hx]; exact box_far B.out (by omega))
      replace HC := Lib.hid (show Cur x6 g A n cap by rw [hx]; exact dr_cur_row HC.out (by omega) _)
      replace HG := Lib.hid (show w.grownBy x6 (some g) by rw [hx]; exact dr_row HG.out (by omega) _)
      have z6 : w.heap.size ≤ x6.heap.size := HG.out.size
      have lR : w.heap.size < x6.heap.size := R.out.lt
      have lB : w1.heap.size < x6.heap.size := B.out.lt
      clear hx
      go_wp2_with (refine wpList_store_row rfl 33 _ _ rfl w.heap.size #[.int .i64 p.f0, .int .i64 z] rfl rfl 33 _ OLD6.out (by kernel_rfl) (by kernel_rfl) (by kernel_rfl) ?_; rw [← HX6.out]; clear HX6 OLD6)
      have rR0 := R.out.at_ (j := 0) rfl
      have rR1 := R.out.at_ (j := 1) rfl
      exact bodyPost_ret (v := .agg #[.int .i64 p.f0, .int .i64 z]) (by simp [results, Try.results108, go_sem, rR0, rR1]) rfl ⟨⟨p.f0, z⟩, HF.out, rfl, HC.out, HG.out⟩
    · skip
      have r1 : (y == 1) = false := by simp [q1]
      have t1 : decide (y = 1) = false := by simp [q1]
      have HF : Hid (TPattern.fit ⟨p.f0, p.f1⟩) := Lib.hid (by (try unfold TPattern.fit at *); (try unfold TSite.fit at *); (try unfold TPattern.fit at *); (try simp only at *); omega)
      have kB0 := B.out.at_ (j := 0) rfl
      have kB1 := B.out.at_ (j := 1) rfl
      obtain ⟨x4, hx⟩ : ∃ x, x = World.setRow w3 w.heap.size #[.int .i64 p.f0, .int .i64 p.f1] := ⟨_, rfl⟩
      have HX4 := Lib.hid hx
      have OLD4 := R
      replace R := Lib.hid (show BoxAt x4 w.heap.size 33 #[.int .i64 p.f0, .int .i64 p.f1] by rw [hx]; exact box_row R.out)
      replace B := Lib.hid (show BoxAt x4 w1.heap.size 33 #[.int .i64 p.f0, .int .i64 p.f1] by rw [hx]; exact box_far B.out (by omega))
      replace HC := Lib.hid (show Cur x4 g A n cap by rw [hx]; exact dr_cur_row HC.out (by omega) _)
      replace HG := Lib.hid (show w.grownBy x4 (some g) by rw [hx]; exact dr_row HG.out (by omega) _)
      have z4 : w.heap.size ≤ x4.heap.size := HG.out.size
      have lR : w.heap.size < x4.heap.size := R.out.lt
      have lB : w1.heap.size < x4.heap.size := B.out.lt
      clear hx
      go_wp2_with (refine wpList_store_row rfl 33 _ _ rfl w.heap.size #[.int .i64 p.f0, .int .i64 p.f1] rfl rfl 33 _ OLD4.out (by kernel_rfl) (by kernel_rfl) (by kernel_rfl) ?_; rw [← HX4.out]; clear HX4 OLD4)
      have rR0 := R.out.at_ (j := 0) rfl
      have rR1 := R.out.at_ (j := 1) rfl
      exact bodyPost_ret (v := .agg #[.int .i64 p.f0, .int .i64 p.f1]) (by simp [results, Try.results108, go_sem, rR0, rR1]) rfl ⟨⟨p.f0, p.f1⟩, HF.out, rfl, HC.out, HG.out⟩
end Go.Proofs.Ytfceddgacefejaa
