/- For the law of the cipher: the draws, sameBytes, and that each stream undoes the other. -/
import Derived.Test.YteldjnjjdjlpnaaDoorCryptS
import Derived.Test.YteldjnjjdjlpnaaDoorDraw
namespace Go.Proofs.YteldjnjjdjlpnaaDoor
open Go Go.ChangeShapes Go.WideShapes Go.ChangeAt Go.RowKit Go.Lib
set_option linter.unusedVariables false
set_option maxRecDepth 100000

theorem mCry_u8 (key f : Int) (l : List Int) : U8s (mCry key f l) := by
  intro z hz
  unfold mCry at hz
  rw [List.mem_mapIdx] at hz
  obtain ⟨i, h, rfl⟩ := hz
  omega
theorem mCry_inv (key f : Int) (l : List Int) (h : U8s l) : mCry key (-f) (mCry key f l) = l := by
  unfold mCry
  apply List.ext_getElem
  · simp
  · intro i h1 h2
    have hz := h l[i] (List.getElem_mem h2)
    have h3 := hz.1
    have h4 := hz.2
    simp only [List.getElem_mapIdx]
    generalize l[i] = z at *
    generalize strm key i = s
    rw [Int.neg_mul]
    generalize f * s = t
    omega

theorem word_any (g n cap : Nat) (A : Option Addr) (w : World) (hn : n ≤ maxLen) (hc : Cur w g A n cap) :
    Calls Tryd.prog 66 #[.pointer (some ⟨g, 0, none⟩)] w (Num g A n cap (-1) 2147483648 w) := by
  go_enter Tryd.func66, Tryd.ntmps66
  go_wp2_with fail
  refine (once_any g n cap A 10 _ hn hc (by omega) (by omega)).mono ?_
  rintro e w1 ⟨x, rfl, hc1, hg1⟩
  have hlt1 := hc1.lt
  cases x
  · go_wp2_with fail
    refine (once_any g n cap A 4 _ hn hc1 (by omega) (by omega)).mono ?_
    rintro e w2 ⟨y, rfl, hc2, hg2⟩
    have hlt2 := hc2.lt
    cases y
    · go_wp2_with fail
      refine (below_any g n cap A 1000000 _ hn hc2 (by omega) (by omega)).mono ?_
      rintro e w3 ⟨y, hy0, hy1, rfl, hc3, hg3⟩
      go_wp2_with fail
      refine (below_any g n cap A 2000 _ hn hc3 (by omega) (by omega)).mono ?_
      rintro e w4 ⟨z, hz0, hz1, rfl, hc4, hg4⟩
      have h1 : 0 ≤ y * z := Int.mul_nonneg hy0 hz0
      have h2 : y * z ≤ 999999 * 1999 := Int.mul_le_mul (by omega) (by omega) hz0 (by omega)
      go_wp2_with fail
      go_ret
      exact ⟨y * z, by omega, by omega, rfl, hc4, grown_both hg1 (grown_both hg2 (grown_both hg3 hg4))⟩
    · go_wp2_with fail
      refine (int_any g n cap A [0, 1, 2147483646] w2.heap.size (-1) 2147483648 _ hn (hc2.new _) (by omega) (heap_alloc_new w2 _) (by decide) (by decide) (by decide)).mono ?_
      rintro e w3 ⟨y, hy0, hy1, rfl, hc3, hg3⟩
      go_wp2_with fail
      go_ret
      exact ⟨y, hy0, hy1, rfl, hc3, grown_both hg1 (grown_both hg2 (grown_both (grown_new w2 _ _) hg3))⟩
  · go_wp2_with fail
    refine (int_any g n cap A [-1, 2147483647, 2147483648] w1.heap.size (-1) 2147483648 _ hn (hc1.new _) (by omega) (heap_alloc_new w1 _) (by decide) (by decide) (by decide)).mono ?_
    rintro e w3 ⟨y, hy0, hy1, rfl, hc3, hg3⟩
    go_wp2_with fail
    go_ret
    exact ⟨y, hy0, hy1, rfl, hc3, grown_both hg1 (grown_both (grown_new w1 _ _) hg3)⟩

/-- What a draw of bytes does. -/
def Bys (g : Nat) (A : Option Addr) (n cap m : Nat) (w : World) (e : Ending) (w' : World) : Prop :=
  ∃ (v : Value) (l : List Int), e = .returned v ∧ l.length ≤ m ∧ U8s l ∧ w'.ownsRow w.heap.size 5 1 v l.length (u8s l) ∧ Cur w' g A n cap ∧ w.grownBy w' (some g)
theorem own_grown {B g : Nat} {e : TypeId} {k : Nat} {v : Value} {n : Nat} {xs : List Value} {w w' : World} (h : w.ownsRow B e k v n xs) (hg : g < B) (hr : w.grownBy w' (some g)) : w'.ownsRow B e k v n xs :=
  h.kept hr (by
    cases hv : v.ownBlock with
    | none => exact .inl rfl
    | some j => exact .inr (fun h' => by injection h' with h'; have := (h.lt j hv).1; omega))
theorem cur_low {w w' : World} {g B n cap : Nat} {A : Option Addr} (h : Cur w g A n cap) (hg : g < B) (hb : Below B w w') : Cur w' g A n cap := by
  obtain ⟨hB, i, x, hi, hh⟩ := h
  exact ⟨hB.keep fun b hb' => hb.block b (by omega), i, x, hi, (hb.block g hg).trans hh⟩
theorem grown_low {w w1 w2 : World} {g B : Nat} (h : w.grownBy w1 (some g)) (hw : w.heap.size ≤ B) (hb : Below B w1 w2) : w.grownBy w2 (some g) :=
  ⟨hb.os.trans h.os, hb.tape.trans h.tape, hb.output.trans h.output, Nat.le_trans h.size hb.size, fun i hi hne => (hb.block i (by omega)).trans (h.block i hi hne)⟩
/-- What the draw of a key and of bytes does. -/
def DrawnKB (m : Nat) (w : World) (e : Ending) (w' : World) : Prop :=
  ∃ (k : Int) (A : Option Addr) (c : Nat) (l : List Int), (Lit.int .i64 k).wf = true ∧ e = .returned (.tuple #[.int .i64 k, .slice A l.length c]) ∧ l.length ≤ m ∧ U8s l ∧ Rd w' w.heap.size w'.heap.size 1 A l.length (u8s l) ∧ Below w.heap.size w w'
theorem below_grown2 {w w1 w2 : World} {g : Nat} (h : Below w.heap.size w w1) (hg : w.heap.size ≤ g) (k : w1.grownBy w2 (some g)) : Below w.heap.size w w2 :=
  h.trans ⟨k.os, k.tape, k.output, k.size, fun i hi => k.block i (Nat.lt_of_lt_of_le hi h.size) (fun e => by injection e with e; omega)⟩
end Go.Proofs.YteldjnjjdjlpnaaDoor
