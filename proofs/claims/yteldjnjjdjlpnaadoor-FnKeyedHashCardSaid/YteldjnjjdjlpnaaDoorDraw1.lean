/- The verifier's draws of numbers and of numerals. -/
import Derived.Test.YteldjnjjdjlpnaaDoorDraw
import Derived.Test.YteldjnjjdjlpnaaDoorFmt
namespace Go.Proofs.YteldjnjjdjlpnaaDoor
open Go Go.RowKit Go.Lib

theorem below_grown {w w1 w2 : World} {g : Nat} (h : Below w.heap.size w w1) (hg : w.heap.size ≤ g) (k : w1.grownBy w2 (some g)) : Below w.heap.size w w2 :=
  h.trans ⟨k.os, k.tape, k.output, k.size, fun i hi => k.block i (Nat.lt_of_lt_of_le hi h.size) (fun e => by injection e with e; omega)⟩
theorem grown_below1 {w w1 : World} (h : Below w.heap.size w w1) (r : Option Nat) : w.grownBy w1 r := ⟨h.os, h.tape, h.output, h.size, fun i hi _ => h.block i hi⟩

theorem num_any (g n cap : Nat) (A : Option Addr) (w : World) (hn : n ≤ maxLen) (hc : Cur w g A n cap) :
    Calls Tryd.prog 61 #[.pointer (some ⟨g, 0, none⟩)] w (Num g A n cap 0 1000000000000 w) := by
  go_enter Tryd.func61, Tryd.ntmps61
  go_wp2_with fail
  refine (below_any g n cap A 4 _ hn hc (by omega) (by omega)).mono ?_
  rintro e w1 ⟨x, hx0, hx1, rfl, hc1, hg1⟩
  have hlt := hc1.lt
  have HC := Lib.hid hc1
  clear hc1 hc
  have hx : x = 0 ∨ x = 1 ∨ x = 2 ∨ x = 3 := by omega
  rcases hx with rfl | rfl | rfl | rfl
  · go_wp2_with fail
    refine (below_any g n cap A 2000 _ hn HC.out (by omega) (by omega)).mono ?_
    rintro e w2 ⟨y, hy0, hy1, rfl, hc2, hg2⟩
    go_wp2_with fail
    go_ret
    exact ⟨y, hy0, by omega, rfl, hc2, grown_both hg1 hg2⟩
  · go_wp2_with fail
    refine (int_any g n cap A [0, 1, 127, 128, 2147483646, 2147483647, 1000000000000] w1.heap.size 0 1000000000000 _ hn (HC.out.new _) (by omega) (heap_alloc_new w1 _) (by decide) (by decide) (by decide)).mono ?_
    rintro e w2 ⟨y, hy0, hy1, rfl, hc2, hg2⟩
    go_wp2_with fail
    go_ret
    exact ⟨y, hy0, hy1, rfl, hc2, grown_both hg1 (grown_both (grown_new w1 _ _) hg2)⟩
  · go_wp2_with fail
    refine (below_any g n cap A 1000000 _ hn HC.out (by omega) (by omega)).mono ?_
    rintro e w2 ⟨y, hy0, hy1, rfl, hc2, hg2⟩
    go_wp2_with fail
    refine (below_any g n cap A 1000000 _ hn hc2 (by omega) (by omega)).mono ?_
    rintro e w3 ⟨z, hz0, hz1, rfl, hc3, hg3⟩
    have h1 : 0 ≤ y * z := Int.mul_nonneg hy0 hz0
    have h2 : y * z ≤ 1000000 * 1000000 := Int.mul_le_mul (by omega) (by omega) hz0 (by omega)
    go_wp2_with fail
    go_ret
    exact ⟨y * z, h1, by omega, rfl, hc3, grown_both hg1 (grown_both hg2 hg3)⟩
  · go_wp2_with fail
    refine (below_any g n cap A 20 _ hn HC.out (by omega) (by omega)).mono ?_
    rintro e w2 ⟨y, hy0, hy1, rfl, hc2, hg2⟩
    go_wp2_with fail
    go_ret
    exact ⟨y, hy0, by omega, rfl, hc2, grown_both hg1 hg2⟩

theorem raw_any (g n cap : Nat) (A : Option Addr) (w : World) (hn : n ≤ maxLen) (hc : Cur w g A n cap) :
    Calls Tryd.prog 104 #[.pointer (some ⟨g, 0, none⟩)] w (Num g A n cap (-9223372036854775808) 9223372036854775807 w) := by
  go_enter Tryd.func104, Tryd.ntmps104
  go_wp2_with fail
  refine (once_any g n cap A 2 _ hn hc (by omega) (by omega)).mono ?_
  rintro e w1 ⟨x, rfl, hc1, hg1⟩
  have hlt := hc1.lt
  have HC := Lib.hid hc1
  clear hc1 hc
  cases x with
  | true =>
    go_wp2_with fail
    refine (odd_any g n cap A _ hn HC.out).mono ?_
    rintro e w2 ⟨y, hy0, hy1, rfl, hc2, hg2⟩
    go_wp2_with fail
    go_ret
    exact ⟨y, hy0, by omega, rfl, hc2, grown_both hg1 hg2⟩
  | false =>
    go_wp2_with fail
    refine (int_any g n cap A [-1, 1000000000000, 1000000000001] w1.heap.size (-9223372036854775808) 9223372036854775807 _ hn (HC.out.new _) (by omega) (heap_alloc_new w1 _) (by decide) (by decide) (by decide)).mono ?_
    rintro e w2 ⟨y, hy0, hy1, rfl, hc2, hg2⟩
    go_wp2_with fail
    go_ret
    exact ⟨y, hy0, hy1, rfl, hc2, grown_both hg1 (grown_both (grown_new w1 _ _) hg2)⟩

theorem one_any (g n cap : Nat) (A : Option Addr) (w : World) (hn : n ≤ maxLen) (hc : Cur w g A n cap) :
    Calls Tryd.prog 63 #[.pointer (some ⟨g, 0, none⟩)] w (Num g A n cap (-9223372036854775808) 9223372036854775807 w) := by
  go_enter Tryd.func63, Tryd.ntmps63
  go_wp2_with fail
  refine (once_any g n cap A 6 _ hn hc (by omega) (by omega)).mono ?_
  rintro e w1 ⟨x, rfl, hc1, hg1⟩
  cases x with
  | true =>
    go_wp2_with fail
    refine (raw_any g n cap A _ hn hc1).mono ?_
    rintro e w2 ⟨y, hy0, hy1, rfl, hc2, hg2⟩
    go_wp2_with fail
    go_ret
    exact ⟨y, hy0, by omega, rfl, hc2, grown_both hg1 hg2⟩
  | false =>
    go_wp2_with fail
    refine (num_any g n cap A _ hn hc1).mono ?_
    rintro e w2 ⟨y, hy0, hy1, rfl, hc2, hg2⟩
    go_wp2_with fail
    go_ret
    exact ⟨y, by omega, by omega, rfl, hc2, grown_both hg1 hg2⟩

/-- What is drawn out of the input's bytes, one int. -/
def Drawn (w : World) (e : Ending) (w' : World) : Prop := ∃ x : Int, -9223372036854775808 ≤ x ∧ x ≤ 9223372036854775807 ∧ e = .returned (.int .i64 x) ∧ Below w.heap.size w w'
def Drawn2 (w : World) (e : Ending) (w' : World) : Prop := ∃ x y : Int, -9223372036854775808 ≤ x ∧ x ≤ 9223372036854775807 ∧ -9223372036854775808 ≤ y ∧ y ≤ 9223372036854775807 ∧
  e = .returned (.tuple #[.int .i64 x, .int .i64 y]) ∧ Below w.heap.size w w'
def DrawnStr (w : World) (e : Ending) (w' : World) : Prop := ∃ s : ByteArray, s.size ≤ 20 ∧ e = .returned (.string s) ∧ Below w.heap.size w w'

theorem drawFormat_any (n cap : Nat) (A : Option Addr) (w : World) (hn : n ≤ 140737488355328) (hb : BytesAt w w.heap.size A n) :
    Calls Tryd.prog 12 #[.slice A n cap] w (Drawn w) := by
  have hn' : n ≤ maxLen := by unfold maxLen; omega
  go_enter Tryd.func12, Tryd.ntmps12
  go_wp2_with fail
  refine (new_any n cap A _ hn hb).mono ?_
  rintro e w1 ⟨rfl, hc1, hb1⟩
  go_wp2_with fail
  refine (one_any w.heap.size n cap A _ hn' hc1).mono ?_
  rintro e w2 ⟨y, hy0, hy1, rfl, hc2, hg2⟩
  go_wp2_with fail
  go_ret
  exact ⟨y, hy0, hy1, rfl, below_grown hb1 (Nat.le_refl _) hg2⟩

theorem drawCeil_any (n cap : Nat) (A : Option Addr) (w : World) (hn : n ≤ 140737488355328) (hb : BytesAt w w.heap.size A n) :
    Calls Tryd.prog 14 #[.slice A n cap] w (Drawn2 w) := by
  have hn' : n ≤ maxLen := by unfold maxLen; omega
  go_enter Tryd.func14, Tryd.ntmps14
  go_wp2_with fail
  refine (new_any n cap A _ hn hb).mono ?_
  rintro e w1 ⟨rfl, hc1, hb1⟩
  go_wp2_with fail
  refine (one_any w.heap.size n cap A _ hn' hc1).mono ?_
  rintro e w2 ⟨y, hy0, hy1, rfl, hc2, hg2⟩
  go_wp2_with fail
  refine (one_any w.heap.size n cap A _ hn' hc2).mono ?_
  rintro e w3 ⟨z, hz0, hz1, rfl, hc3, hg3⟩
  go_wp2_with fail
  go_ret2
  exact ⟨y, z, hy0, hy1, hz0, hz1, rfl, below_grown (below_grown hb1 (Nat.le_refl _) hg2) (Nat.le_refl _) hg3⟩

theorem drawParse_any (n cap : Nat) (A : Option Addr) (w : World) (hn : n ≤ 140737488355328) (hb : BytesAt w w.heap.size A n) :
    Calls Tryd.prog 10 #[.slice A n cap] w (DrawnStr w) := by
  have hn' : n ≤ maxLen := by unfold maxLen; omega
  go_enter Tryd.func10, Tryd.ntmps10
  go_wp2_with fail
  refine (new_any n cap A _ hn hb).mono ?_
  rintro e w1 ⟨rfl, hc1, hb1⟩
  go_wp2_with fail
  refine (once_any w.heap.size n cap A 2 _ hn' hc1 (by omega) (by omega)).mono ?_
  rintro e w2 ⟨x, rfl, hc2, hg2⟩
  have hlt := hc2.lt
  have HC := Lib.hid hc2
  clear hc2 hc1
  cases x with
  | true =>
    go_wp2_with fail
    refine (str_any w.heap.size n cap A [⟨#[]⟩, ⟨#[48]⟩, ⟨#[48, 48]⟩, ⟨#[45, 49]⟩, ⟨#[48, 49]⟩, ⟨#[55]⟩, ⟨#[49, 48, 48, 48, 48, 48, 48, 48, 48, 48, 48, 48, 48]⟩, ⟨#[49, 48, 48, 48, 48, 48, 48, 48, 48, 48, 48, 48, 49]⟩,
      ⟨#[57, 57, 57, 57, 57, 57, 57, 57, 57, 57, 57, 57, 57, 57]⟩, ⟨#[49, 120]⟩, ⟨#[32, 49]⟩] w2.heap.size 20 _ hn' (HC.out.new _) (by omega) (heap_alloc_new w2 _) (by decide) (by decide) (by decide)).mono ?_
    rintro e w3 ⟨s, hs, rfl, hc3, hg3⟩
    go_wp2_with fail
    go_ret
    exact ⟨s, hs, rfl, below_grown (below_grown hb1 (Nat.le_refl _) hg2) (Nat.le_refl _) (grown_both (grown_new w2 _ _) hg3)⟩
  | false =>
    go_wp2_with fail
    refine (num_any w.heap.size n cap A _ hn' HC.out).mono ?_
    rintro e w3 ⟨y, hy0, hy1, rfl, hc3, hg3⟩
    go_wp2_with fail
    refine (format_any y _ (by omega) (by omega)).mono ?_
    rintro e w4 ⟨rfl, hb4⟩
    go_wp2_with fail
    go_ret
    have hb3 := below_grown (below_grown hb1 (Nat.le_refl _) hg2) (Nat.le_refl _) hg3
    exact ⟨_, itoa_small y hy0 hy1, rfl, hb3.trans (hb4.mono hb3.size)⟩
end Go.Proofs.YteldjnjjdjlpnaaDoor
