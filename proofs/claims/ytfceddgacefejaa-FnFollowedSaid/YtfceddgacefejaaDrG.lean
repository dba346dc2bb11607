/- Draws of grants. No condition of its own. -/
import Derived.Test.YtfceddgacefejaaDrS
import Derived.Test.YtfceddgacefejaaTGrant
import Derived.Test.YtfceddgacefejaaGB
import Derived.Test.YtfceddgacefejaaApp
namespace Go.Proofs.Ytfceddgacefejaa
open Go Go.ChangeShapes Go.WideShapes Go.ChangeAt Go.RowKit Go.Lib
set_option linter.unusedVariables false
set_option linter.unusedSimpArgs false
set_option maxRecDepth 100000
set_option maxHeartbeats 8000000 in
theorem grant_any (g n cap : Nat) (A : Option Addr) (w : World) (hn : n ≤ maxLen) (hc : Cur w g A n cap) :
    Calls Try.prog 199 #[.pointer (some ⟨g, 0, none⟩)] w (Drw g A n cap (fun x : TGrant => Value.agg #[.int .i64 x.f0, .int .i64 x.f1, .int .i64 x.f2, .int .i64 x.f3, .int .i64 x.f4, .int .i64 x.f5, .bool x.f6]) TGrant.fit w) := by
  have HC := Lib.hid hc
  have HLT := hc.lt
  have HG := Lib.hid (World.grownBy.refl w (some g))
  clear hc
  have R := Lib.hid (show BoxAt (w.alloc (.cells #[.int .i64 0, .int .i64 0, .int .i64 0, .int .i64 0, .int .i64 0, .int .i64 0, .bool false] 35)) w.heap.size 35 #[.int .i64 0, .int .i64 0, .int .i64 0, .int .i64 0, .int .i64 0, .int .i64 0, .bool false] from by simpa using box_new w 35 #[.int .i64 0, .int .i64 0, .int .i64 0, .int .i64 0, .int .i64 0, .int .i64 0, .bool false])
  have aR : w.heap.size ≤ w.heap.size := by have := HG.out.size; (try simp at this); omega
  replace HC := Lib.hid (HC.out.new (.cells #[.int .i64 0, .int .i64 0, .int .i64 0, .int .i64 0, .int .i64 0, .int .i64 0, .bool false] 35))
  replace HG := Lib.hid (dr_al HG.out (.cells #[.int .i64 0, .int .i64 0, .int .i64 0, .int .i64 0, .int .i64 0, .int .i64 0, .bool false] 35))
  go_enter Try.func199, Try.ntmps199
  go_wp2_with fail
  refine Calls.mono (below_any g n cap A 9 _ hn HC.out (by omega) (by omega)) ?_
  rintro e w1 ⟨f, hfa, hfb, rfl, hc, hg⟩
  replace R := Lib.hid (R.out.grown hg (by omega))
  have lR : w.heap.size < w1.heap.size := R.out.lt
  replace HC := Lib.hid hc
  replace HG := Lib.hid (grown_both HG.out hg)
  have s1 : w.heap.size ≤ w1.heap.size := HG.out.size
  clear hc hg
  go_wp2_with fail
  refine Calls.mono (below_any g n cap A 3 _ hn HC.out (by omega) (by omega)) ?_
  rintro e w2 ⟨y0, hy0a, hy0b, rfl, hc, hg⟩
  replace R := Lib.hid (R.out.grown hg (by omega))
  have lR : w.heap.size < w2.heap.size := R.out.lt
  replace HC := Lib.hid hc
  replace HG := Lib.hid (grown_both HG.out hg)
  have s2 : w.heap.size ≤ w2.heap.size := HG.out.size
  clear hc hg
  go_wp2_with fail
  refine Calls.mono (pat_any g n cap A _ hn HC.out) ?_
  rintro e w3 ⟨p, hp, rfl, hc, hg⟩
  replace R := Lib.hid (R.out.grown hg (by omega))
  have lR : w.heap.size < w3.heap.size := R.out.lt
  replace HC := Lib.hid hc
  replace HG := Lib.hid (grown_both HG.out hg)
  have s3 : w.heap.size ≤ w3.heap.size := HG.out.size
  clear hc hg
  go_wp2_with fail
  refine Calls.mono (below_any g n cap A 4 _ hn HC.out (by omega) (by omega)) ?_
  rintro e w4 ⟨y1, hy1a, hy1b, rfl, hc, hg⟩
  replace R := Lib.hid (R.out.grown hg (by omega))
  have lR : w.heap.size < w4.heap.size := R.out.lt
  replace HC := Lib.hid hc
  replace HG := Lib.hid (grown_both HG.out hg)
  have s4 : w.heap.size ≤ w4.heap.size := HG.out.size
  clear hc hg
  go_wp2_with fail
  refine Calls.mono (below_any g n cap A 12 _ hn HC.out (by omega) (by omega)) ?_
  rintro e w5 ⟨y2, hy2a, hy2b, rfl, hc, hg⟩
  replace R := Lib.hid (R.out.grown hg (by omega))
  have lR : w.heap.size < w5.heap.size := R.out.lt
  replace HC := Lib.hid hc
  replace HG := Lib.hid (grown_both HG.out hg)
  have s5 : w.heap.size ≤ w5.heap.size := HG.out.size
  clear hc hg
  go_wp2_with fail
  refine Calls.mono (once_any g n cap A 4 _ hn HC.out (by omega) (by omega)) ?_
  rintro e w6 ⟨b, rfl, hc, hg⟩
  replace R := Lib.hid (R.out.grown hg (by omega))
  have lR : w.heap.size < w6.heap.size := R.out.lt
  replace HC := Lib.hid hc
  replace HG := Lib.hid (grown_both HG.out hg)
  have s6 : w.heap.size ≤ w6.heap.size := HG.out.size
  clear hc hg
  have HF : Hid (TGrant.fit ⟨1 + y0, p.f0, p.f1, 1 + y1, f, f + y2, b⟩) := Lib.hid (by unfold TPattern.fit at hp; unfold TGrant.fit; simp only; omega)
  obtain ⟨x7, hx⟩ : ∃ x, x = World.setRow w6 w.heap.size #[.int .i64 (1 + y0), .int .i64 p.f0, .int .i64 p.f1, .int .i64 (1 + y1), .int .i64 f, .int .i64 (f + y2), .bool b] := ⟨_, rfl⟩
  have HX7 := Lib.hid hx
  have OLD7 := R
  replace R := Lib.hid (show BoxAt x7 w.heap.size 35 #[.int .i64 (1 + y0), .int .i64 p.f0, .int .i64 p.f1, .int .i64 (1 + y1), .int .i64 f, .int .i64 (f + y2), .bool b] by rw [hx]; exact box_row R.out)
  replace HC := Lib.hid (show Cur x7 g A n cap by rw [hx]; exact dr_cur_row HC.out (by omega) _)
  replace HG := Lib.hid (show w.grownBy x7 (some g) by rw [hx]; exact dr_row HG.out (by omega) _)
  have z7 : w.heap.size ≤ x7.heap.size := HG.out.size
  have lR : w.heap.size < x7.heap.size := R.out.lt
  clear hx
  go_wp2_with (refine wpList_store_row rfl 35 _ _ rfl w.heap.size #[.int .i64 (1 + y0), .int .i64 p.f0, .int .i64 p.f1, .int .i64 (1 + y1), .int .i64 f, .int .i64 (f + y2), .bool b] rfl rfl 35 _ OLD7.out (by kernel_rfl) (by kernel_rfl) (by kernel_rfl) ?_; rw [← HX7.out]; clear HX7 OLD7)
  have rR0 := R.out.at_ (j := 0) rfl
  have rR1 := R.out.at_ (j := 1) rfl
  have rR2 := R.out.at_ (j := 2) rfl
  have rR3 := R.out.at_ (j := 3) rfl
  have rR4 := R.out.at_ (j := 4) rfl
  have rR5 := R.out.at_ (j := 5) rfl
  have rR6 := R.out.at_ (j := 6) rfl
  exact bodyPost_ret (v := .agg #[.int .i64 (1 + y0), .int .i64 p.f0, .int .i64 p.f1, .int .i64 (1 + y1), .int .i64 f, .int .i64 (f + y2), .bool b]) (by simp [results, Try.results199, go_sem, rR0, rR1, rR2, rR3, rR4, rR5, rR6]) rfl ⟨⟨1 + y0, p.f0, p.f1, 1 + y1, f, f + y2, b⟩, HF.out, rfl, HC.out, HG.out⟩
set_option maxHeartbeats 8000000 in
theorem granta_any (g n cap : Nat) (A : Option Addr) (w : World) (hn : n ≤ maxLen) (hc : Cur w g A n cap) :
    Calls Try.prog 107 #[.pointer (some ⟨g, 0, none⟩)] w (Drw g A n cap (fun x : TGrant => Value.agg #[.int .i64 x.f0, .int .i64 x.f1, .int .i64 x.f2, .int .i64 x.f3, .int .i64 x.f4, .int .i64 x.f5, .bool x.f6]) TGrant.fit w) := by
  have HC := Lib.hid hc
  have HLT := hc.lt
  have HG := Lib.hid (World.grownBy.refl w (some g))
  clear hc
  have R := Lib.hid (show BoxAt (w.alloc (.cells #[.int .i64 0, .int .i64 0, .int .i64 0, .int .i64 0, .int .i64 0, .int .i64 0, .bool false] 35)) w.heap.size 35 #[.int .i64 0, .int .i64 0, .int .i64 0, .int .i64 0, .int .i64 0, .int .i64 0, .bool false] from by simpa using box_new w 35 #[.int .i64 0, .int .i64 0, .int .i64 0, .int .i64 0, .int .i64 0, .int .i64 0, .bool false])
  have aR : w.heap.size ≤ w.heap.size := by have := HG.out.size; (try simp at this); omega
  replace HC := Lib.hid (HC.out.new (.cells #[.int .i64 0, .int .i64 0, .int .i64 0, .int .i64 0, .int .i64 0, .int .i64 0, .bool false] 35))
  replace HG := Lib.hid (dr_al HG.out (.cells #[.int .i64 0, .int .i64 0, .int .i64 0, .int .i64 0, .int .i64 0, .int .i64 0, .bool false] 35))
  go_enter Try.func107, Try.ntmps107
  go_wp2_with fail
  refine Calls.mono (grant_any g n cap A _ hn HC.out) ?_
  rintro e w1 ⟨p, hp, rfl, hc, hg⟩
  replace R := Lib.hid (R.out.grown hg (by omega))
  have lR : w.heap.size < w1.heap.size := R.out.lt
  replace HC := Lib.hid hc
  replace HG := Lib.hid (grown_both HG.out hg)
  have s1 : w.heap.size ≤ w1.heap.size := HG.out.size
  clear hc hg
  have B := Lib.hid (show BoxAt (w1.alloc (.cells #[.int .i64 0, .int .i64 0, .int .i64 0, .int .i64 0, .int .i64 0, .int .i64 0, .bool false] 35)) w1.heap.size 35 #[.int .i64 0, .int .i64 0, .int .i64 0, .int .i64 0, .int .i64 0, .int .i64 0, .bool false] from by simpa using box_new w1 35 #[.int .i64 0, .int .i64 0, .int .i64 0, .int .i64 0, .int .i64 0, .int .i64 0, .bool false])
  have aB : w.heap.size ≤ w1.heap.size := by have := HG.out.size; (try simp at this); omega
  replace R := Lib.hid (R.out.alloc_ (.cells #[.int .i64 0, .int .i64 0, .int .i64 0, .int .i64 0, .int .i64 0, .int .i64 0, .bool false] 35))
  replace HC := Lib.hid (HC.out.new (.cells #[.int .i64 0, .int .i64 0, .int .i64 0, .int .i64 0, .int .i64 0, .int .i64 0, .bool false] 35))
  replace HG := Lib.hid (dr_al HG.out (.cells #[.int .i64 0, .int .i64 0, .int .i64 0, .int .i64 0, .int .i64 0, .int .i64 0, .bool false] 35))
  obtain ⟨x2, hx⟩ : ∃ x, x = World.setRow (w1.alloc (.cells #[.int .i64 0, .int .i64 0, .int .i64 0, .int .i64 0, .int .i64 0, .int .i64 0, .bool false] 35)) w1.heap.size #[.int .i64 p.f0, .int .i64 p.f1, .int .i64 p.f2, .int .i64 p.f3, .int .i64 p.f4, .int .i64 p.f5, .bool p.f6] := ⟨_, rfl⟩
  have HX2 := Lib.hid hx
  have OLD2 := B
  replace R := Lib.hid (show BoxAt x2 w.heap.size 35 #[.int .i64 0, .int .i64 0, .int .i64 0, .int .i64 0, .int .i64 0, .int .i64 0, .bool false] by rw [hx]; exact box_far R.out (by omega))
  replace B := Lib.hid (show BoxAt x2 w1.heap.size 35 #[.int .i64 p.f0, .int .i64 p.f1, .int .i64 p.f2, .int .i64 p.f3, .int .i64 p.f4, .int .i64 p.f5, .bool p.f6] by rw [hx]; exact box_row B.out)
  replace HC := Lib.hid (show Cur x2 g A n cap by rw [hx]; exact dr_cur_row HC.out (by omega) _)
  replace HG := Lib.hid (show w.grownBy x2 (some g) by rw [hx]; exact dr_row HG.out (by omega) _)
  have z2 : w.heap.size ≤ x2.heap.size := HG.out.size
  have lR : w.heap.size < x2.heap.size := R.out.lt
  have lB : w1.heap.size < x2.heap.size := B.out.lt
  clear hx
  go_wp2_with (refine wpList_store_row rfl 35 _ _ rfl w1.heap.size #[.int .i64 p.f0, .int .i64 p.f1, .int .i64 p.f2, .int .i64 p.f3, .int .i64 p.f4, .int .i64 p.f5, .bool p.f6] rfl rfl 35 _ OLD2.out (by kernel_rfl) (by kernel_rfl) (by kernel_rfl) ?_; rw [← HX2.out]; clear HX2 OLD2)
  refine Calls.mono (below_any g n cap A 12 _ hn HC.out (by omega) (by omega)) ?_
  rintro e w3 ⟨y, hya, hyb, rfl, hc, hg⟩
  replace R := Lib.hid (R.out.grown hg (by omega))
  have lR : w.heap.size < w3.heap.size := R.out.lt
  replace B := Lib.hid (B.out.grown hg (by omega))
  have lB : w1.heap.size < w3.heap.size := B.out.lt
  replace HC := Lib.hid hc
  replace HG := Lib.hid (grown_both HG.out hg)
  have s3 : w.heap.size ≤ w3.heap.size := HG.out.size
  clear hc hg
  by_cases q0 : y = 0
  · skip
    subst q0
    go_wp2_with fail
    refine Calls.mono (raw_any g n cap A _ hn HC.out) ?_
    rintro e w4 ⟨z, hza, hzb, rfl, hc, hg⟩
    replace R := Lib.hid (R.out.grown hg (by omega))
    have lR : w.heap.size < w4.heap.size := R.out.lt
    replace B := Lib.hid (B.out.grown hg (by omega))
    have lB : w1.heap.size < w4.heap.size := B.out.lt
    replace HC := Lib.hid hc
    replace HG := Lib.hid (grown_both HG.out hg)
    have s4 : w.heap.size ≤ w4.heap.size := HG.out.size
    clear hc hg
    have eB0 := B.out.at_ (j := 0) rfl
    have fB0 := B.out.free 0
    replace B := Lib.hid (show BoxAt (World.setCell w4 ⟨w1.heap.size, 0, none⟩ (.int .i64 z)) w1.heap.size 35 #[.int .i64 z, .int .i64 p.f1, .int .i64 p.f2, .int .i64 p.f3, .int .i64 p.f4, .int .i64 p.f5, .bool p.f6] from dr_put_box B.out 0 _)
    replace R := Lib.hid (show BoxAt (World.setCell w4 ⟨w1.heap.size, 0, none⟩ (.int .i64 z)) w.heap.size 35 #[.int .i64 0, .int .i64 0, .int .i64 0, .int .i64 0, .int .i64 0, .int .i64 0, .bool false] from dr_put_far R.out (by omega))
    replace HC := Lib.hid (dr_cur_put (p := ⟨w1.heap.size, 0, none⟩) (u := .int .i64 z) HC.out (by show g < w1.heap.size; omega))
    replace HG := Lib.hid (dr_put (p := ⟨w1.heap.size, 0, none⟩) (u := .int .i64 z) HG.out (by show w.heap.size ≤ w1.heap.size; omega))
    have HF : Hid (TGrant.fit ⟨z, p.f1, p.f2, p.f3, p.f4, p.f5, p.f6⟩) := Lib.hid (by (try unfold TPattern.fit at *); (try unfold TSite.fit at *); (try unfold TGrant.fit at *); (try simp only at *); omega)
    have kB0 := B.out.at_ (j := 0) rfl
    have kB1 := B.out.at_ (j := 1) rfl
    have kB2 := B.out.at_ (j := 2) rfl
    have kB3 := B.out.at_ (j := 3) rfl
    have kB4 := B.out.at_ (j := 4) rfl
    have kB5 := B.out.at_ (j := 5) rfl
    have kB6 := B.out.at_ (j := 6) rfl
    obtain ⟨x6, hx⟩ : ∃ x, x = World.setRow (World.setCell w4 ⟨w1.heap.size, 0, none⟩ (.int .i64 z)) w.heap.size #[.int .i64 z, .int .i64 p.f1, .int .i64 p.f2, .int .i64 p.f3, .int .i64 p.f4, .int .i64 p.f5, .bool p.f6] := ⟨_, rfl⟩
    have HX6 := Lib.hid hx
    have OLD6 := R
    replace R := Lib.hid (show BoxAt x6 w.heap.size 35 #[.int .i64 z, .int .i64 p.f1, .int .i64 p.f2, .int .i64 p.f3, .int .i64 p.f4, .int .i64 p.f5, .bool p.f6] by rw [hx]; exact box_row R.out)
    replace B := Lib.hid (show BoxAt x6 w1.heap.size 35 #[.int .i64 z, .int .i64 p.f1, .int .i64 p.f2, .int .i64 p.f3, .int .i64 p.f4, .int .i64 p.f5, .bool p.f6] by rw [hx]; exact box_far B.out (by omega))
    replace HC := Lib.hid (show Cur x6 g A n cap by rw [hx]; exact dr_cur_row HC.out (by omega) _)
    replace HG := Lib.hid (show w.grownBy x6 (some g) by rw [hx]; exact dr_row HG.out (by omega) _)
    have z6 : w.heap.size ≤ x6.heap.size := HG.out.size
    have lR : w.heap.size < x6.heap.size := R.out.lt
    have lB : w1.heap.size < x6.heap.size := B.out.lt
    clear hx
    go_wp2_with (refine wpList_store_row rfl 35 _ _ rfl w.heap.size #[.int .i64 z, .int .i64 p.f1, .int .i64 p.f2, .int .i64 p.f3, .int .i64 p.f4, .int .i64 p.f5, .bool p.f6] rfl rfl 35 _ OLD6.out (by kernel_rfl) (by kernel_rfl) (by kernel_rfl) ?_; rw [← HX6.out]; clear HX6 OLD6)
    have rR0 := R.out.at_ (j := 0) rfl
    have rR1 := R.out.at_ (j := 1) rfl
    have rR2 := R.out.at_ (j := 2) rfl
    have rR3 := R.out.at_ (j := 3) rfl
    have rR4 := R.out.at_ (j := 4) rfl
    have rR5 := R.out.at_ (j := 5) rfl
    have rR6 := R.out.at_ (j := 6) rfl
    exact bodyPost_ret (v := .agg #[.int .i64 z, .int .i64 p.f1, .int .i64 p.f2, .int .i64 p.f3, .int .i64 p.f4, .int .i64 p.f5, .bool p.f6]) (by simp [results, Try.results107, go_sem, rR0, rR1, rR2, rR3, rR4, rR5, rR6]) rfl ⟨⟨z, p.f1, p.f2, p.f3, p.f4, p.f5, p.f6⟩, HF.out, rfl, HC.out, HG.out⟩
  · skip
    have r0 : (y == 0) = false := by simp [q0]
    have t0 : decide (y = 0) = false := by simp [q0]
    by_cases q1 : y = 1
    · skip
      subst q1
      have Lt3 := Lib.hid (show BoxAt (w3.alloc (.cells #[.int .i64 0, .int .i64 5] 3)) w3.heap.size 3 #[.int .i64 0, .int .i64 5] from by simpa using box_new w3 3 #[.int .i64 0, .int .i64 5])
      have aLt3 : w.heap.size ≤ w3.heap.size := by have := HG.out.size; (try simp at this); omega
      replace R := Lib.hid (R.out.alloc_ (.cells #[.int .i64 0, .int .i64 5] 3))
      replace B := Lib.hid (B.out.alloc_ (.cells #[.int .i64 0, .int .i64 5] 3))
      replace HC := Lib.hid (HC.out.new (.cells #[.int .i64 0, .int .i64 5] 3))
      replace HG := Lib.hid (dr_al HG.out (.cells #[.int .i64 0, .int .i64 5] 3))
      go_wp2_with fail
      refine Calls.mono (int_any g n cap A [0, 5] w3.heap.size (0) (5) _ hn HC.out (by omega) Lt3.out (by decide) (by decide) (by decide)) ?_
      rintro e w4 ⟨z, hza, hzb, rfl, hc, hg⟩
      replace R := Lib.hid (R.out.grown hg (by omega))
      have lR : w.heap.size < w4.heap.size := R.out.lt
      replace B := Lib.hid (B.out.grown hg (by omega))
      have lB : w1.heap.size < w4.heap.size := B.out.lt
      replace Lt3 := Lib.hid (Lt3.out.grown hg (by omega))
      have lLt3 : w3.heap.size < w4.heap.size := Lt3.out.lt
      replace HC := Lib.hid hc
      replace HG := Lib.hid (grown_both HG.out hg)
      have s4 : w.heap.size ≤ w4.heap.size := HG.out.size
      clear hc hg
      clear Lt3
      have eB3 := B.out.at_ (j := 3) rfl
      have fB3 := B.out.free 3
      replace B := Lib.hid (show BoxAt (World.setCell w4 ⟨w1.heap.size, 3, none⟩ (.int .i64 z)) w1.heap.size 35 #[.int .i64 p.f0, .int .i64 p.f1, .int .i64 p.f2, .int .i64 z, .int .i64 p.f4, .int .i64 p.f5, .bool p.f6] from dr_put_box B.out 3 _)
      replace R := Lib.hid (show BoxAt (World.setCell w4 ⟨w1.heap.size, 3, none⟩ (.int .i64 z)) w.heap.size 35 #[.int .i64 0, .int .i64 0, .int .i64 0, .int .i64 0, .int .i64 0, .int .i64 0, .bool false] from dr_put_far R.out (by omega))
      replace HC := Lib.hid (dr_cur_put (p := ⟨w1.heap.size, 3, none⟩) (u := .int .i64 z) HC.out (by show g < w1.heap.size; omega))
      replace HG := Lib.hid (dr_put (p := ⟨w1.heap.size, 3, none⟩) (u := .int .i64 z) HG.out (by show w.heap.size ≤ w1.heap.size; omega))
      have HF : Hid (TGrant.fit ⟨p.f0, p.f1, p.f2, z, p.f4, p.f5, p.f6⟩) := Lib.hid (by (try unfold TPattern.fit at *); (try unfold TSite.fit at *); (try unfold TGrant.fit at *); (try simp only at *); omega)
      have kB0 := B.out.at_ (j := 0) rfl
      have kB1 := B.out.at_ (j := 1) rfl
      have kB2 := B.out.at_ (j := 2) rfl
      have kB3 := B.out.at_ (j := 3) rfl
      have kB4 := B.out.at_ (j := 4) rfl
      have kB5 := B.out.at_ (j := 5) rfl
      have kB6 := B.out.at_ (j := 6) rfl
      obtain ⟨x6, hx⟩ : ∃ x, x = World.setRow (World.setCell w4 ⟨w1.heap.size, 3, none⟩ (.int .i64 z)) w.heap.size #[.int .i64 p.f0, .int .i64 p.f1, .int .i64 p.f2, .int .i64 z, .int .i64 p.f4, .int .i64 p.f5, .bool p.f6] := ⟨_, rfl⟩
      have HX6 := Lib.hid hx
      have OLD6 := R
      replace R := Lib.hid (show BoxAt x6 w.heap.size 35 #[.int .i64 p.f0, .int .i64 p.f1, .int .i64 p.f2, .int .i64 z, .int .i64 p.f4, .int .i64 p.f5, .bool p.f6] by rw [hx]; exact box_row R.out)
      replace B := Lib.hid (show BoxAt x6 w1.heap.size 35 #[.int .i64 p.f0, .int .i64 p.f1, .int .i64 p.f2, .int .i64 z, .int .i64 p.f4, .int .i64 p.f5, .bool p.f6] by rw [hx]; exact box_far B.out (by omega))
      replace HC := Lib.hid (show Cur x6 g A n cap by rw [hx]; exact dr_cur_row HC.out (by omega) _)
      replace HG := Lib.hid (show w.grownBy x6 (some g) by rw [hx]; exact dr_row HG.out (by omega) _)
      have z6 : w.heap.size ≤ x6.heap.size := HG.out.size
      have lR : w.heap.size < x6.heap.size := R.out.lt
      have lB : w1.heap.size < x6.heap.size := B.out.lt
      clear hx
      go_wp2_with (refine wpList_store_row rfl 35 _ _ rfl w.heap.size #[.int .i64 p.f0, .int .i64 p.f1, .int .i64 p.f2, .int .i64 z, .int .i64 p.f4, .int .i64 p.f5, .bool p.f6] rfl rfl 35 _ OLD6.out (by kernel_rfl) (by kernel_rfl) (by kernel_rfl) ?_; rw [← HX6.out]; clear HX6 OLD6)
      have rR0 := R.out.at_ (j := 0) rfl
      have rR1 := R.out.at_ (j := 1) rfl
      have rR2 := R.out.at_ (j := 2) rfl
      have rR3 := R.out.at_ (j := 3) rfl
      have rR4 := R.out.at_ (j := 4) rfl
      have rR5 := R.out.at_ (j := 5) rfl
      have rR6 := R.out.at_ (j := 6) rfl
      exact bodyPost_ret (v := .agg #[.int .i64 p.f0, .int .i64 p.f1, .int .i64 p.f2, .int .i64 z, .int .i64 p.f4, .int .i64 p.f5, .bool p.f6]) (by simp [results, Try.results107, go_sem, rR0, rR1, rR2, rR3, rR4, rR5, rR6]) rfl ⟨⟨p.f0, p.f1, p.f2, z, p.f4, p.f5, p.f6⟩, HF.out, rfl, HC.out, HG.out⟩
    · skip
      have r1 : (y == 1) = false := by simp [q1]
      have t1 : decide (y = 1) = false := by simp [q1]
      by_cases q2 : y = 2
      · skip
        subst q2
        have Lt3 := Lib.hid (show BoxAt (w3.alloc (.cells #[.int .i64 (-1), .int .i64 30] 3)) w3.heap.size 3 #[.int .i64 (-1), .int .i64 30] from by simpa using box_new w3 3 #[.int .i64 (-1), .int .i64 30])
        have aLt3 : w.heap.size ≤ w3.heap.size := by have := HG.out.size; (try simp at this); omega
        replace R := Lib.hid (R.out.alloc_ (.cells #[.int .i64 (-1), .int .i64 30] 3))
        replace B := Lib.hid (B.out.alloc_ (.cells #[.int .i64 (-1), .int .i64 30] 3))
        replace HC := Lib.hid (HC.out.new (.cells #[.int .i64 (-1), .int .i64 30] 3))
        replace HG := Lib.hid (dr_al HG.out (.cells #[.int .i64 (-1), .int .i64 30] 3))
        go_wp2_with fail
        refine Calls.mono (int_any g n cap A [-1, 30] w3.heap.size (-1) (30) _ hn HC.out (by omega) Lt3.out (by decide) (by decide) (by decide)) ?_
        rintro e w4 ⟨z, hza, hzb, rfl, hc, hg⟩
        replace R := Lib.hid (R.out.grown hg (by omega))
        have lR : w.heap.size < w4.heap.size := R.out.lt
        replace B := Lib.hid (B.out.grown hg (by omega))
        have lB : w1.heap.size < w4.heap.size := B.out.lt
        replace Lt3 := Lib.hid (Lt3.out.grown hg (by omega))
        have lLt3 : w3.heap.size < w4.heap.size := Lt3.out.lt
        replace HC := Lib.hid hc
        replace HG := Lib.hid (grown_both HG.out hg)
        have s4 : w.heap.size ≤ w4.heap.size := HG.out.size
        clear hc hg
        clear Lt3
        have eB4 := B.out.at_ (j := 4) rfl
        have fB4 := B.out.free 4
        replace B := Lib.hid (show BoxAt (World.setCell w4 ⟨w1.heap.size, 4, none⟩ (.int .i64 z)) w1.heap.size 35 #[.int .i64 p.f0, .int .i64 p.f1, .int .i64 p.f2, .int .i64 p.f3, .int .i64 z, .int .i64 p.f5, .bool p.f6] from dr_put_box B.out 4 _)
        replace R := Lib.hid (show BoxAt (World.setCell w4 ⟨w1.heap.size, 4, none⟩ (.int .i64 z)) w.heap.size 35 #[.int .i64 0, .int .i64 0, .int .i64 0, .int .i64 0, .int .i64 0, .int .i64 0, .bool false] from dr_put_far R.out (by omega))
        replace HC := Lib.hid (dr_cur_put (p := ⟨w1.heap.size, 4, none⟩) (u := .int .i64 z) HC.out (by show g < w1.heap.size; omega))
        replace HG := Lib.hid (dr_put (p := ⟨w1.heap.size, 4, none⟩) (u := .int .i64 z) HG.out (by show w.heap.size ≤ w1.heap.size; omega))
        have HF : Hid (TGrant.fit ⟨p.f0, p.f1, p.f2, p.f3, z, p.f5, p.f6⟩) := Lib.hid (by (try unfold TPattern.fit at *); (try unfold TSite.fit at *); (try unfold TGrant.fit at *); (try simp only at *); omega)
        have kB0 := B.out.at_ (j := 0) rfl
        have kB1 := B.out.at_ (j := 1) rfl
        have kB2 := B.out.at_ (j := 2) rfl
        have kB3 := B.out.at_ (j := 3) rfl
        have kB4 := B.out.at_ (j := 4) rfl
        have kB5 := B.out.at_ (j := 5) rfl
        have kB6 := B.out.at_ (j := 6) rfl
        obtain ⟨x6, hx⟩ : ∃ x, x = World.setRow (World.setCell w4 ⟨w1.heap.size, 4, none⟩ (.int .i64 z)) w.heap.size #[.int .i64 p.f0, .int .i64 p.f1, .int .i64 p.f2, .int .i64 p.f3, .int .i64 z, .int .i64 p.f5, .bool p.f6] := ⟨_, rfl⟩
        have HX6 := Lib.hid hx
        have OLD6 := R
        replace R := Lib.hid (show BoxAt x6 w.heap.size 35 #[.int .i64 p.f0, .int .i64 p.f1, .int .i64 p.f2, .int .i64 p.f3, .int .i64 z, .int .i64 p.f5, .bool p.f6] by rw [hx]; exact box_row R.out)
        replace B := Lib.hid (show BoxAt x6 w1.heap.size 35 #[.int .i64 p.f0, .int .i64 p.f1, .int .i64 p.f2, .int .i64 p.f3, .int .i64 z, .int .i64 p.f5, .bool p.f6] by rw [hx]; exact box_far B.out (by omega))
        replace HC := Lib.hid (show Cur x6 g A n cap by rw [hx]; exact dr_cur_row HC.out (by omega) _)
        replace HG := Lib.hid (show w.grownBy x6 (some g) by rw [hx]; exact dr_row HG.out (by omega) _)
        have z6 : w.heap.size ≤ x6.heap.size := HG.out.size
        have lR : w.heap.size < x6.heap.size := R.out.lt
        have lB : w1.heap.size < x6.heap.size := B.out.lt
        clear hx
        go_wp2_with (refine wpList_store_row rfl 35 _ _ rfl w.heap.size #[.int .i64 p.f0, .int .i64 p.f1, .int .i64 p.f2, .int .i64 p.f3, .int .i64 z, .int .i64 p.f5, .bool p.f6] rfl rfl 35 _ OLD6.out (by kernel_rfl) (by kernel_rfl) (by kernel_rfl) ?_; rw [← HX6.out]; clear HX6 OLD6)
        have rR0 := R.out.at_ (j := 0) rfl
        have rR1 := R.out.at_ (j := 1) rfl
        have rR2 := R.out.at_ (j := 2) rfl
        have rR3 := R.out.at_ (j := 3) rfl
        have rR4 := R.out.at_ (j := 4) rfl
        have rR5 := R.out.at_ (j := 5) rfl
        have rR6 := R.out.at_ (j := 6) rfl
        exact bodyPost_ret (v := .agg #[.int .i64 p.f0, .int .i64 p.f1, .int .i64 p.f2, .int .i64 p.f3, .int .i64 z, .int .i64 p.f5, .bool p.f6]) (by simp [results, Try.results107, go_sem, rR0, rR1, rR2, rR3, rR4, rR5, rR6]) rfl ⟨⟨p.f0, p.f1, p.f2, p.f3, z, p.f5, p.f6⟩, HF.out, rfl, HC.out, HG.out⟩
      · skip
        have r2 : (y == 2) = false := by simp [q2]
        have t2 : decide (y = 2) = false := by simp [q2]
        by_cases q3 : y = 3
        · skip
          subst q3
          have Lt3 := Lib.hid (show BoxAt (w3.alloc (.cells #[.int .i64 10000, .int .i64 10001, .int .i64 9223372036854775807] 3)) w3.heap.size 3 #[.int .i64 10000, .int .i64 10001, .int .i64 9223372036854775807] from by simpa using box_new w3 3 #[.int .i64 10000, .int .i64 10001, .int .i64 9223372036854775807])
          have aLt3 : w.heap.size ≤ w3.heap.size := by have := HG.out.size; (try simp at this); omega
          replace R := Lib.hid (R.out.alloc_ (.cells #[.int .i64 10000, .int .i64 10001, .int .i64 9223372036854775807] 3))
          replace B := Lib.hid (B.out.alloc_ (.cells #[.int .i64 10000, .int .i64 10001, .int .i64 9223372036854775807] 3))
          replace HC := Lib.hid (HC.out.new (.cells #[.int .i64 10000, .int .i64 10001, .int .i64 9223372036854775807] 3))
          replace HG := Lib.hid (dr_al HG.out (.cells #[.int .i64 10000, .int .i64 10001, .int .i64 9223372036854775807] 3))
          go_wp2_with fail
          refine Calls.mono (int_any g n cap A [10000, 10001, 9223372036854775807] w3.heap.size (10000) (9223372036854775807) _ hn HC.out (by omega) Lt3.out (by decide) (by decide) (by decide)) ?_
          rintro e w4 ⟨z, hza, hzb, rfl, hc, hg⟩
          replace R := Lib.hid (R.out.grown hg (by omega))
          have lR : w.heap.size < w4.heap.size := R.out.lt
          replace B := Lib.hid (B.out.grown hg (by omega))
          have lB : w1.heap.size < w4.heap.size := B.out.lt
          replace Lt3 := Lib.hid (Lt3.out.grown hg (by omega))
          have lLt3 : w3.heap.size < w4.heap.size := Lt3.out.lt
          replace HC := Lib.hid hc
          replace HG := Lib.hid (grown_both HG.out hg)
          have s4 : w.heap.size ≤ w4.heap.size := HG.out.size
          clear hc hg
          clear Lt3
          have eB5 := B.out.at_ (j := 5) rfl
          have fB5 := B.out.free 5
          replace B := Lib.hid (show BoxAt (World.setCell w4 ⟨w1.heap.size, 5, none⟩ (.int .i64 z)) w1.heap.size 35 #[.int .i64 p.f0, .int .i64 p.f1, .int .i64 p.f2, .int .i64 p.f3, .int .i64 p.f4, .int .i64 z, .bool p.f6] from dr_put_box B.out 5 _)
          replace R := Lib.hid (show BoxAt (World.setCell w4 ⟨w1.heap.size, 5, none⟩ (.int .i64 z)) w.heap.size 35 #[.int .i64 0, .int .i64 0, .int .i64 0, .int .i64 0, .int .i64 0, .int .i64 0, .bool false] from dr_put_far R.out (by omega))
          replace HC := Lib.hid (dr_cur_put (p := ⟨w1.heap.size, 5, none⟩) (u := .int .i64 z) HC.out (by show g < w1.heap.size; omega))
          replace HG := Lib.hid (dr_put (p := ⟨w1.heap.size, 5, none⟩) (u := .int .i64 z) HG.out (by show w.heap.size ≤ w1.heap.size; omega))
          have HF : Hid (TGrant.fit ⟨p.f0, p.f1, p.f2, p.f3, p.f4, z, p.f6⟩) := Lib.hid (by (try unfold TPattern.fit at *); (try unfold TSite.fit at *); (try unfold TGrant.fit at *); (try simp only at *); omega)
          have kB0 := B.out.at_ (j := 0) rfl
          have kB1 := B.out.at_ (j := 1) rfl
          have kB2 := B.out.at_ (j := 2) rfl
          have kB3 := B.out.at_ (j := 3) rfl
          have kB4 := B.out.at_ (j := 4) rfl
          have kB5 := B.out.at_ (j := 5) rfl
          have kB6 := B.out.at_ (j := 6) rfl
          obtain ⟨x6, hx⟩ : ∃ x, x = World.setRow (World.setCell w4 ⟨w1.heap.size, 5, none⟩ (.int .i64 z)) w.heap.size #[.int .i64 p.f0, .int .i64 p.f1, .int .i64 p.f2, .int .i64 p.f3, .int .i64 p.f4, .int .i64 z, .bool p.f6] := ⟨_, rfl⟩
          have HX6 := Lib.hid hx
          have OLD6 := R
          replace R := Lib.hid (show BoxAt x6 w.heap.size 35 #[.int .i64 p.f0, .int .i64 p.f1, .int .i64 p.f2, .int .i64 p.f3, .int .i64 p.f4, .int .i64 z, .bool p.f6] by rw [hx]; exact box_row R.out)
          replace B := Lib.hid (show BoxAt x6 w1.heap.size 35 #[.int .i64 p.f0, .int .i64 p.f1, .int .i64 p.f2, .int .i64 p.f3, .int .i64 p.f4, .int .i64 z, .bool p.f6] by rw [hx]; exact box_far B.out (by omega))
          replace HC := Lib.hid (show Cur x6 g A n cap by rw [hx]; exact dr_cur_row HC.out (by omega) _)
          replace HG := Lib.hid (show w.grownBy x6 (some g) by rw [hx]; exact dr_row HG.out (by omega) _)
          have z6 : w.heap.size ≤ x6.heap.size := HG.out.size
          have lR : w.heap.size < x6.heap.size := R.out.lt
          have lB : w1.heap.size < x6.heap.size := B.out.lt
          clear hx
          go_wp2_with (refine wpList_store_row rfl 35 _ _ rfl w.heap.size #[.int .i64 p.f0, .int .i64 p.f1, .int .i64 p.f2, .int .i64 p.f3, .int .i64 p.f4, .int .i64 z, .bool p.f6] rfl rfl 35 _ OLD6.out (by kernel_rfl) (by kernel_rfl) (by kernel_rfl) ?_; rw [← HX6.out]; clear HX6 OLD6)
          have rR0 := R.out.at_ (j := 0) rfl
          have rR1 := R.out.at_ (j := 1) rfl
          have rR2 := R.out.at_ (j := 2) rfl
          have rR3 := R.out.at_ (j := 3) rfl
          have rR4 := R.out.at_ (j := 4) rfl
          have rR5 := R.out.at_ (j := 5) rfl
          have rR6 := R.out.at_ (j := 6) rfl
          exact bodyPost_ret (v := .agg #[.int .i64 p.f0, .int .i64 p.f1, .int .i64 p.f2, .int .i64 p.f3, .int .i64 p.f4, .int .i64 z, .bool p.f6]) (by simp [results, Try.results107, go_sem, rR0, rR1, rR2, rR3, rR4, rR5, rR6]) rfl ⟨⟨p.f0, p.f1, p.f2, p.f3, p.f4, z, p.f6⟩, HF.out, rfl, HC.out, HG.out⟩
        · skip
          have r3 : (y == 3) = false := by simp [q3]
          have t3 : decide (y = 3) = false := by simp [q3]
          by_cases q4 : y = 4
          · skip
            subst q4
            go_wp2_with fail
            refine Calls.mono (pata_any g n cap A _ hn HC.out) ?_
            rintro e w4 ⟨q, hq, rfl, hc, hg⟩
            replace R := Lib.hid (R.out.grown hg (by omega))
            have lR : w.heap.size < w4.heap.size := R.out.lt
            replace B := Lib.hid (B.out.grown hg (by omega))
            have lB : w1.heap.size < w4.heap.size := B.out.lt
            replace HC := Lib.hid hc
            replace HG := Lib.hid (grown_both HG.out hg)
            have s4 : w.heap.size ≤ w4.heap.size := HG.out.size
            clear hc hg
            have eB1 := B.out.at_ (j := 1) rfl
            have eB2 := B.out.at_ (j := 2) rfl
            have fB1 := B.out.free 1
            have fB2 := B.out.free 2
            replace B := Lib.hid (show BoxAt (World.setCell w4 ⟨w1.heap.size, 1, none⟩ (.int .i64 q.f0)) w1.heap.size 35 #[.int .i64 p.f0, .int .i64 q.f0, .int .i64 p.f2, .int .i64 p.f3, .int .i64 p.f4, .int .i64 p.f5, .bool p.f6] from dr_put_box B.out 1 _)
            replace R := Lib.hid (show BoxAt (World.setCell w4 ⟨w1.heap.size, 1, none⟩ (.int .i64 q.f0)) w.heap.size 35 #[.int .i64 0, .int .i64 0, .int .i64 0, .int .i64 0, .int .i64 0, .int .i64 0, .bool false] from dr_put_far R.out (by omega))
            replace HC := Lib.hid (dr_cur_put (p := ⟨w1.heap.size, 1, none⟩) (u := .int .i64 q.f0) HC.out (by show g < w1.heap.size; omega))
            replace HG := Lib.hid (dr_put (p := ⟨w1.heap.size, 1, none⟩) (u := .int .i64 q.f0) HG.out (by show w.heap.size ≤ w1.heap.size; omega))
            replace B := Lib.hid (show BoxAt (World.setCell (World.setCell w4 ⟨w1.heap.size, 1, none⟩ (.int .i64 q.f0)) ⟨w1.heap.size, 2, none⟩ (.int .i64 q.f1)) w1.heap.size 35 #[.int .i64 p.f0, .int .i64 q.f0, .int .i64 q.f1, .int .i64 p.f3, .int .i64 p.f4, .int .i64 p.f5, .bool p.f6] from dr_put_box B.out 2 _)
            replace R := Lib.hid (show BoxAt (World.setCell (World.setCell w4 ⟨w1.heap.size, 1, none⟩ (.int .i64 q.f0)) ⟨w1.heap.size, 2, none⟩ (.int .i64 q.f1)) w.heap.size 35 #[.int .i64 0, .int .i64 0, .int .i64 0, .int .i64 0, .int .i64 0, .int .i64 0, .bool false] from dr_put_far R.out (by omega))
            replace HC := Lib.hid (dr_cur_put (p := ⟨w1.heap.size, 2, none⟩) (u := .int .i64 q.f1) HC.out (by show g < w1.heap.size; omega))
            replace HG := Lib.hid (dr_put (p := ⟨w1.heap.size, 2, none⟩) (u := .int .i64 q.f1) HG.out (by show w.heap.size ≤ w1.heap.size; omega))
            have HF : Hid (TGrant.fit ⟨p.f0, q.f0, q.f1, p.f3, p.f4, p.f5, p.f6⟩) := Lib.hid (by (try unfold TPattern.fit at *); (try unfold TSite.fit at *); (try unfold TGrant.fit at *); (try simp only at *); omega)
            have kB0 := B.out.at_ (j := 0) rfl
            have kB1 := B.out.at_ (j := 1) rfl
            have kB2 := B.out.at_ (j := 2) rfl
            have kB3 := B.out.at_ (j := 3) rfl
            have kB4 := B.out.at_ (j := 4) rfl
            have kB5 := B.out.at_ (j := 5) rfl
            have kB6 := B.out.at_ (j := 6) rfl
            obtain ⟨x7, hx⟩ : ∃ x, x = World.setRow (World.setCell (World.setCell w4 ⟨w1.heap.size, 1, none⟩ (.int .i64 q.f0)) ⟨w1.heap.size, 2, none⟩ (.int .i64 q.f1)) w.heap.size #[.int .i64 p.f0, .int .i64 q.f0, .int .i64 q.f1, .int .i64 p.f3, .int .i64 p.f4, .int .i64 p.f5, .bool p.f6] := ⟨_, rfl⟩
            have HX7 := Lib.hid hx
            have OLD7 := R
            replace R := Lib.hid (show BoxAt x7 w.heap.size 35 #[.int .i64 p.f0, .int .i64 q.f0, .int .i64 q.f1, .int .i64 p.f3, .int .i64 p.f4, .int .i64 p.f5, .bool p.f6] by rw [hx]; exact box_row R.out)
            replace B := Lib.hid (show BoxAt x7 w1.heap.size 35 #[.int .i64 p.f0, .int .i64 q.f0, .int .i64 q.f1, .int .i64 p.f3, .int .i64 p.f4, .int .i64 p.f5, .bool p.f6] by rw [hx]; exact box_far B.out (by omega))
            replace HC := Lib.hid (show Cur x7 g A n cap by rw [hx]; exact dr_cur_row HC.out (by omega) _)
            replace HG := Lib.hid (show w.grownBy x7 (some g) by rw [hx]; exact dr_row HG.out (by omega) _)
            have z7 : w.heap.size ≤ x7.heap.size := HG.out.size
            have lR : w.heap.size < x7.heap.size := R.out.lt
            have lB : w1.heap.size < x7.heap.size := B.out.lt
            clear hx
            go_wp2_with (refine wpList_store_row rfl 35 _ _ rfl w.heap.size #[.int .i64 p.f0, .int .i64 q.f0, .int .i64 q.f1, .int .i64 p.f3, .int .i64 p.f4, .int .i64 p.f5, .bool p.f6] rfl rfl 35 _ OLD7.out (by kernel_rfl) (by kernel_rfl) (by kernel_rfl) ?_; rw [← HX7.out]; clear HX7 OLD7)
            have rR0 := R.out.at_ (j := 0) rfl
            have rR1 := R.out.at_ (j := 1) rfl
            have rR2 := R.out.at_ (j := 2) rfl
            have rR3 := R.out.at_ (j := 3) rfl
            have rR4 := R.out.at_ (j := 4) rfl
            have rR5 := R.out.at_ (j := 5) rfl
            have rR6 := R.out.at_ (j := 6) rfl
            exact bodyPost_ret (v := .agg #[.int .i64 p.f0, .int .i64 q.f0, .int .i64 q.f1, .int .i64 p.f3, .int .i64 p.f4, .int .i64 p.f5, .bool p.f6]) (by simp [results, Try.results107, go_sem, rR0, rR1, rR2, rR3, rR4, rR5, rR6]) rfl ⟨⟨p.f0, q.f0, q.f1, p.f3, p.f4, p.f5, p.f6⟩, HF.out, rfl, HC.out, HG.out⟩
          · skip
            have r4 : (y == 4) = false := by simp [q4]
            have t4 : decide (y = 4) = false := by simp [q4]
            have HF : Hid (TGrant.fit ⟨p.f0, p.f1, p.f2, p.f3, p.f4, p.f5, p.f6⟩) := Lib.hid (by (try unfold TPattern.fit at *); (try unfold TSite.fit at *); (try unfold TGrant.fit at *); (try simp only at *); omega)
            have kB0 := B.out.at_ (j := 0) rfl
            have kB1 := B.out.at_ (j := 1) rfl
            have kB2 := B.out.at_ (j := 2) rfl
            have kB3 := B.out.at_ (j := 3) rfl
            have kB4 := B.out.at_ (j := 4) rfl
            have kB5 := B.out.at_ (j := 5) rfl
            have kB6 := B.out.at_ (j := 6) rfl
            obtain ⟨x4, hx⟩ : ∃ x, x = World.setRow w3 w.heap.size #[.int .i64 p.f0, .int .i64 p.f1, .int .i64 p.f2, .int .i64 p.f3, .int .i64 p.f4, .int .i64 p.f5, .bool p.f6] := ⟨_, rfl⟩
            have HX4 := Lib.hid hx
            have OLD4 := R
            replace R := Lib.hid (show BoxAt x4 w.heap.size 35 #[.int .i64 p.f0, .int .i64 p.f1, .int .i64 p.f2, .int .i64 p.f3, .int .i64 p.f4, .int .i64 p.f5, .bool p.f6] by rw [hx]; exact box_row R.out)
            replace B := Lib.hid (show BoxAt x4 w1.heap.size 35 #[.int .i64 p.f0, .int .i64 p.f1, .int .i64 p.f2, .int .i64 p.f3, .int .i64 p.f4, .int .i64 p.f5, .bool p.f6] by rw [hx]; exact box_far B.out (by omega))
            replace HC := Lib.hid (show Cur x4 g A n cap by rw [hx]; exact dr_cur_row HC.out (by omega) _)
            replace HG := Lib.hid (show w.grownBy x4 (some g) by rw [hx]; exact dr_row HG.out (by omega) _)
            have z4 : w.heap.size ≤ x4.heap.size := HG.out.size
            have lR : w.heap.size < x4.heap.size := R.out.lt
            have lB : w1.heap.size < x4.heap.size := B.out.lt
            clear hx
            go_wp2_with (refine wpList_store_row rfl 35 _ _ rfl w.heap.size #[.int .i64 p.f0, .int .i64 p.f1, .int .i64 p.f2, .int .i64 p.f3, .int .i64 p.f4, .int .i64 p.f5, .bool p.f6] rfl rfl 35 _ OLD4.out (by kernel_rfl) (by kernel_rfl) (by kernel_rfl) ?_; rw [← HX4.out]; clear HX4 OLD4)
            have rR0 := R.out.at_ (j := 0) rfl
            have rR1 := R.out.at_ (j := 1) rfl
            have rR2 := R.out.at_ (j := 2) rfl
            have rR3 := R.out.at_ (j := 3) rfl
            have rR4 := R.out.at_ (j := 4) rfl
            have rR5 := R.out.at_ (j := 5) rfl
            have rR6 := R.out.at_ (j := 6) rfl
            exact bodyPost_ret (v := .agg #[.int .i64 p.f0, .int .i64 p.f1, .int .i64 p.f2, .int .i64 p.f3, .int .i64 p.f4, .int .i64 p.f5, .bool p.f6]) (by simp [results, Try.results107, go_sem, rR0, rR1, rR2, rR3, rR4, rR5, rR6]) rfl ⟨⟨p.f0, p.f1, p.f2, p.f3, p.f4, p.f5, p.f6⟩, HF.out, rfl, HC.out, HG.out⟩
set_option maxHeartbeats 8000000 in
theorem grants_any (g n cap : Nat) (A : Option Addr) (w : World) (hn : n ≤ maxLen) (hc : Cur w g A n cap) :
    Calls Try.prog 94 #[.pointer (some ⟨g, 0, none⟩)] w (DrwL 35 7 6 TGrant.cells TGrant.fit g A n cap w) := by
  have HC := Lib.hid (hc.new (.cells #[] 35))
  have HLT := Lib.hid hc.lt
  clear hc
  go_enter Try.func94, Try.ntmps94
  go_wp2_with fail
  refine (below_any g n cap A 7 _ hn HC.out (by omega) (by omega)).mono ?_
  rintro e w0 ⟨y, hy0, hy1, rfl, hc0, hg0⟩
  obtain ⟨m, rfl⟩ := Int.eq_ofNat_of_zero_le hy0
  have hm : m ≤ 6 := by omega
  have HO0 := Lib.hid (dr_own (World.ownsRow_lit (e := 35) (size := 7) w #[] 0 (Nat.le_refl _) (by unfold maxLen; omega) rfl) HLT.out hg0)
  have HC0 := Lib.hid hc0
  have HG0 := Lib.hid (grown_both (grown_new w (.cells #[] 35) _) hg0)
  clear hc0 hg0
  go_wp2_with fail
  go_loopw [3, 4] (fun v i wr => ∃ (k : Nat) (l : List TGrant), k ≤ m ∧ l.length + k = m ∧ Hid (∀ x ∈ l, TGrant.fit x) ∧ i = .int .i64 k ∧ Hid (wr.ownsRow w.heap.size 35 7 v l.length (l.flatMap TGrant.cells)) ∧ Hid (Cur wr g A n cap) ∧ Hid (w.grownBy wr (some g))) (fun _ i _ => (intOf i).toNat)
  case atStart => exact ⟨m, [], Nat.le_refl _, by simp, Lib.hid (fun _ h => by cases h), rfl, HO0, HC0, HG0⟩
  case round =>
    obtain ⟨k, l, hk, hl, HU, rfl, HO, HCW, HGW⟩ := hrel
    have HS := Lib.hid HGW.out.size
    have hll : l.length ≤ 6 := by omega
    have HLL := Lib.hid hl
    clear hl
    by_cases hlt : 0 < k
    · obtain ⟨k', rfl⟩ : ∃ k', k = k' + 1 := ⟨k - 1, by omega⟩
      have hwk : IntKind.i64.wrap (((k' + 1 : Nat) : Int) - 1) = (k' : Int) := by rw [IntWalk.i64_in _ (by omega)]; omega
      go_wp2_with fail
      refine (grant_any g n cap A _ hn HCW.out).mono ?_
      rintro e w1 ⟨x, hx, rfl, hc1, hg1⟩
      have HO1 := Lib.hid (dr_own HO.out HLT.out hg1)
      have HC1 := Lib.hid hc1
      have HG1 := Lib.hid (grown_both HGW.out hg1)
      have HX := Lib.hid (show l.flatMap TGrant.cells ++ (#[.int .i64 x.f0, .int .i64 x.f1, .int .i64 x.f2, .int .i64 x.f3, .int .i64 x.f4, .int .i64 x.f5, .bool x.f6] : Array Value).toList = (l ++ [x]).flatMap TGrant.cells by simp [List.flatMap_append, TGrant.cells])
      have HXB := Lib.hid (show ∀ z ∈ l ++ [x], TGrant.fit z from fun z hz => by
        simp only [List.mem_append, List.mem_singleton] at hz
        rcases hz with hz | rfl
        · exact HU.out z hz
        · exact hx)
      clear hc1 hg1 hx
      go_wp2_with (at_builtin; refine wp_app_lit rfl _ _ _ rfl w.heap.size 35 (.agg #[.int .i64 0, .int .i64 0, .int .i64 0, .int .i64 0, .int .i64 0, .int .i64 0, .bool false]) 7 56 Try.underlying24 infoGrant rfl (by decide) _ _ _ rfl HO1.out #[.int .i64 x.f0, .int .i64 x.f1, .int .i64 x.f2, .int .i64 x.f3, .int .i64 x.f4, .int .i64 x.f5, .bool x.f6] 1 1 _ rfl (by simp) rfl (onesGrant x) (by unfold maxLen; omega) (by omega) HG1.out.size ?_; intro v1 w2 ho2 hb2; have HO2 := Lib.hid ho2; have HB2 := Lib.hid hb2; clear ho2 hb2)
      go_roundw
      case rel => exact ⟨k', l ++ [x], by omega, by have := HLL.out; simp; omega, HXB, by go_num, Lib.hid (by rw [← HX.out]; simpa using HO2.out), Lib.hid (dr_cur_low HC1.out HLT.out HB2.out), Lib.hid (dr_low HG1.out (Nat.le_refl _) HB2.out)⟩
      case measure => simp [intOf]
    · obtain rfl : k = 0 := by omega
      go_wp2_with fail
      go_ret
      exact ⟨_, l, rfl, hll, HU.out, HO.out, HCW.out, HGW.out⟩
end Go.Proofs.Ytfceddgacefejaa
