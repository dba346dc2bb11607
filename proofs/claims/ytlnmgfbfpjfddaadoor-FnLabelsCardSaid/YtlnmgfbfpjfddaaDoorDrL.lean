/- Draws of labels. No condition of its own. -/
import Derived.Test.YtlnmgfbfpjfddaaDoorDrw
import Derived.Test.YtlnmgfbfpjfddaaDoorSlI
import Derived.Test.YtlnmgfbfpjfddaaDoorApp
import Derived.Test.YtlnmgfbfpjfddaaDoorFun
namespace Go.Proofs.YtlnmgfbfpjfddaaDoor
open Go Go.ChangeShapes Go.WideShapes Go.ChangeAt Go.RowKit Go.Lib
set_option linter.unusedVariables false
set_option linter.unusedSimpArgs false
set_option maxRecDepth 100000
set_option maxHeartbeats 8000000 in
theorem lab_any (g n cap : Nat) (A : Option Addr) (w : World) (hn : n ≤ maxLen) (hc : Cur w g A n cap) :
    Calls Tryd.prog 51 #[.pointer (some ⟨g, 0, none⟩)] w (Num g A n cap (-2) 9223372036854775807 w) := by
  have HC := Lib.hid hc
  have HLT := hc.lt
  have HG := Lib.hid (World.grownBy.refl w (some g))
  clear hc
  go_enter Tryd.func51, Tryd.ntmps51
  go_wp2_with fail
  refine Calls.mono (once_any g n cap A 8 _ hn HC.out (by omega) (by omega)) ?_
  rintro e w1 ⟨b, rfl, hc, hg⟩
  replace HC := Lib.hid hc
  replace HG := Lib.hid (grown_both HG.out hg)
  have s1 : w.heap.size ≤ w1.heap.size := HG.out.size
  clear hc hg
  cases b
  · skip
    go_wp2_with fail
    refine Calls.mono (below_any g n cap A 512 _ hn HC.out (by omega) (by omega)) ?_
    rintro e w2 ⟨y, hya, hyb, rfl, hc, hg⟩
    replace HC := Lib.hid hc
    replace HG := Lib.hid (grown_both HG.out hg)
    have s2 : w.heap.size ≤ w2.heap.size := HG.out.size
    clear hc hg
    go_wp2_with fail
    go_ret
    exact ⟨2 * y, by omega, by omega, rfl, HC.out, HG.out⟩
  · skip
    have Lt1 := Lib.hid (show BoxAt (w1.alloc (.cells #[.int .i64 (-2), .int .i64 1, .int .i64 1022, .int .i64 1023, .int .i64 1024, .int .i64 9223372036854775807] 3)) w1.heap.size 3 #[.int .i64 (-2), .int .i64 1, .int .i64 1022, .int .i64 1023, .int .i64 1024, .int .i64 9223372036854775807] from by simpa using box_new w1 3 #[.int .i64 (-2), .int .i64 1, .int .i64 1022, .int .i64 1023, .int .i64 1024, .int .i64 9223372036854775807])
    have aLt1 : w.heap.size ≤ w1.heap.size := by have := HG.out.size; (try simp at this); omega
    replace HC := Lib.hid (HC.out.new (.cells #[.int .i64 (-2), .int .i64 1, .int .i64 1022, .int .i64 1023, .int .i64 1024, .int .i64 9223372036854775807] 3))
    replace HG := Lib.hid (dr_al HG.out (.cells #[.int .i64 (-2), .int .i64 1, .int .i64 1022, .int .i64 1023, .int .i64 1024, .int .i64 9223372036854775807] 3))
    go_wp2_with fail
    refine Calls.mono (int_any g n cap A [-2, 1, 1022, 1023, 1024, 9223372036854775807] w1.heap.size (-2) (9223372036854775807) _ hn HC.out (by omega) Lt1.out (by decide) (by decide) (by decide)) ?_
    rintro e w2 ⟨y, hya, hyb, rfl, hc, hg⟩
    replace Lt1 := Lib.hid (Lt1.out.grown hg (by omega))
    have lLt1 : w1.heap.size < w2.heap.size := Lt1.out.lt
    replace HC := Lib.hid hc
    replace HG := Lib.hid (grown_both HG.out hg)
    have s2 : w.heap.size ≤ w2.heap.size := HG.out.size
    clear hc hg
    clear Lt1
    go_wp2_with fail
    go_ret
    exact ⟨y, hya, hyb, rfl, HC.out, HG.out⟩
def DrawnLL (w : World) (e : Ending) (w' : World) : Prop :=
  ∃ (x y : Int), -2 ≤ x ∧ x ≤ 9223372036854775807 ∧ -2 ≤ y ∧ y ≤ 9223372036854775807 ∧ e = .returned (.tuple #[.int .i64 x, .int .i64 y]) ∧ Below w.heap.size w w'
set_option maxHeartbeats 8000000 in
theorem drawLL_any (n cap : Nat) (A : Option Addr) (w : World) (hn : n ≤ 140737488355328) (hb : BytesAt w w.heap.size A n) :
    Calls Tryd.prog 15 #[.slice A n cap] w (DrawnLL w) := by
  have hn' : n ≤ maxLen := by unfold maxLen; omega
  have HY := Lib.hid hb
  have HB := Lib.hid (Below.refl w.heap.size w)
  clear hb
  go_enter Tryd.func15, Tryd.ntmps15
  go_wp2_with fail
  refine Calls.mono (dr_new n cap A w _ w.heap.size (by simp) hn HY.out HB.out) ?_
  rintro e w1 ⟨rfl, hc, hb1⟩
  have HC := Lib.hid hc
  replace HB := Lib.hid (HB.out.trans (hb1.mono (by omega)))
  have l1 : w.heap.size < w1.heap.size := HC.out.lt
  clear hc hb1
  go_wp2_with fail
  refine Calls.mono (lab_any w.heap.size n cap A _ hn' HC.out) ?_
  rintro e w2 ⟨x, hx0, hx1, rfl, hc, hg⟩
  replace HB := Lib.hid (dr_below HB.out (by omega) hg)
  replace HC := Lib.hid hc
  have l2 : w.heap.size < w2.heap.size := HC.out.lt
  clear hc hg
  go_wp2_with fail
  refine Calls.mono (lab_any w.heap.size n cap A _ hn' HC.out) ?_
  rintro e w3 ⟨y, hy0, hy1, rfl, hc, hg⟩
  replace HB := Lib.hid (dr_below HB.out (by omega) hg)
  replace HC := Lib.hid hc
  have l3 : w.heap.size < w3.heap.size := HC.out.lt
  clear hc hg
  go_wp2_with fail
  go_ret2
  exact ⟨x, y, hx0, hx1, hy0, hy1, rfl, HB.out⟩
theorem info_intL : (Tryd.prog.info? 3).map (fun i => (i.zero, i.size, i.bytes)) = some (some (.int .i64 0), 1, 8) := by kernel_rfl
theorem one_intL (z : Int) : ∀ u ∈ (#[Value.int .i64 z]).toList, u.oneCell' = true := by
  intro u hu
  simp only [List.mem_singleton] at hu
  subst hu
  rfl
def DrawnLO (w : World) (e : Ending) (w' : World) : Prop :=
  ∃ (A : Option Addr) (c : Nat) (l : List Int), e = .returned (.slice A l.length c) ∧ l.length ≤ 5 ∧ (∀ z ∈ l, -1 ≤ z ∧ z ≤ 11) ∧ Rd w' w.heap.size w'.heap.size 1 A l.length (i64s l) ∧ Below w.heap.size w w'
set_option maxHeartbeats 8000000 in
theorem drawLO_any (n cap : Nat) (A : Option Addr) (w : World) (hn : n ≤ 140737488355328) (hb : BytesAt w w.heap.size A n) :
    Calls Tryd.prog 22 #[.slice A n cap] w (DrawnLO w) := by
  have hn' : n ≤ maxLen := by unfold maxLen; omega
  have HY := Lib.hid hb
  have HB := Lib.hid (Below.refl w.heap.size w)
  clear hb
  go_enter Tryd.func22, Tryd.ntmps22
  go_wp2_with fail
  refine Calls.mono (dr_new n cap A w _ w.heap.size (by simp) hn HY.out HB.out) ?_
  rintro e w1 ⟨rfl, hc, hb1⟩
  have HC := Lib.hid hc
  replace HB := Lib.hid (HB.out.trans (hb1.mono (by omega)))
  have l1 : w.heap.size < w1.heap.size := HC.out.lt
  clear hc hb1
  have HO := Lib.hid (World.ownsRow_lit (e := 3) (size := 1) w1 #[] 0 (Nat.le_refl _) (by unfold maxLen; omega) rfl)
  have HCn := Lib.hid (HC.out.new (.cells #[] 3))
  have HBn := Lib.hid (HB.out.alloc HB.out.size (.cells #[] 3))
  have hbs : w.heap.size ≤ w1.heap.size := HB.out.size
  clear HC HB
  go_wp2_with fail
  refine (below_any w.heap.size n cap A 6 _ hn' HCn.out (by omega) (by omega)).mono ?_
  rintro e w2 ⟨y, hy0, hy1, rfl, hc, hg⟩
  obtain ⟨m, rfl⟩ := Int.eq_ofNat_of_zero_le hy0
  have hm : m ≤ 5 := by omega
  have HO0 := Lib.hid (dr_own HO.out (by omega) hg)
  have HC0 := Lib.hid hc
  have HB0 := Lib.hid (dr_below HBn.out (by omega) hg)
  have HS0 := Lib.hid (show w1.heap.size ≤ w2.heap.size by have := hg.size; simp at this; omega)
  clear hc hg HCn HBn HO
  go_wp2_with fail
  go_loopw [4, 5] (fun v i wr => ∃ (k : Nat) (l : List Int), k ≤ m ∧ l.length + k = m ∧ Hid (∀ z ∈ l, -1 ≤ z ∧ z ≤ 11) ∧ i = .int .i64 k ∧ Hid (wr.ownsRow w1.heap.size 3 1 v l.length (i64s l)) ∧ Hid (Cur wr w.heap.size A n cap) ∧ Hid (Below w.heap.size w wr) ∧ Hid (w1.heap.size ≤ wr.heap.size)) (fun _ i _ => (intOf i).toNat)
  case atStart => exact ⟨m, [], Nat.le_refl _, by simp, Lib.hid (fun _ h => by cases h), rfl, HO0, HC0, HB0, HS0⟩
  case round =>
    obtain ⟨k, l, hk, hl, HU, rfl, HO, HCW, HBW, HSW⟩ := hrel
    have hll : l.length ≤ 5 := by omega
    have HLL := Lib.hid hl
    clear hl
    by_cases hlt : 0 < k
    · obtain ⟨k', rfl⟩ : ∃ k', k = k' + 1 := ⟨k - 1, by omega⟩
      have hwk : IntKind.i64.wrap (((k' + 1 : Nat) : Int) - 1) = (k' : Int) := by rw [IntWalk.i64_in _ (by omega)]; omega
      go_wp2_with fail
      refine (below_any w.heap.size n cap A 12 _ hn' HCW.out (by omega) (by omega)).mono ?_
      rintro e w3 ⟨x, hx0, hx1, rfl, hc1, hg1⟩
      have HO1 := Lib.hid (dr_own HO.out (by omega) hg1)
      have HC1 := Lib.hid hc1
      have HB1 := Lib.hid (dr_below HBW.out (by omega) hg1)
      have HS1 := Lib.hid (Nat.le_trans HSW.out hg1.size)
      have HX := Lib.hid (show i64s l ++ (#[Value.int .i64 (x - 1)]).toList = i64s (l ++ [x - 1]) by simp [i64s])
      have HXB := Lib.hid (show ∀ z ∈ l ++ [x - 1], -1 ≤ z ∧ z ≤ 11 from fun z hz => by
        simp only [List.mem_append, List.mem_singleton] at hz
        rcases hz with hz | rfl
        · exact HU.out z hz
        · omega)
      clear hc1 hg1
      go_wp2_with (at_builtin; refine wp_app_lit rfl _ _ _ rfl w1.heap.size 3 (.int .i64 0) 1 8 Tryd.underlying40 info_intL rfl (by decide) _ _ _ rfl HO1.out #[.int .i64 (x - 1)] 1 1 _ rfl (by simp) rfl (one_intL (x - 1)) (by unfold maxLen; omega) (by omega) HS1.out ?_; intro v1 w4 ho2 hb2; have HO2 := Lib.hid ho2; have HB2 := Lib.hid hb2; clear ho2 hb2)
      go_roundw
      case rel => exact ⟨k', l ++ [x - 1], by omega, by have := HLL.out; simp; omega, HXB, by go_num, Lib.hid (by rw [← HX.out]; simpa using HO2.out), Lib.hid (dr_cur_low HC1.out l1 HB2.out), Lib.hid (HB1.out.trans (HB2.out.mono (by omega))), Lib.hid (Nat.le_trans HS1.out HB2.out.size)⟩
      case measure => simp [intOf]
    · obtain rfl : k = 0 := by omega
      obtain ⟨A', c', rfl, hF⟩ := fr_of_own HO.out
      have HR := Lib.hid (show Rd _ w.heap.size _ 1 A' l.length (i64s l) from hF.rd.mono (by omega) (Nat.le_refl _))
      clear hF
      go_wp2_with fail
      go_ret
      exact ⟨A', c', l, rfl, by omega, HU.out, HR.out, HBW.out⟩
end Go.Proofs.YtlnmgfbfpjfddaaDoor
