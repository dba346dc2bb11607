/- The draw of FnByteStrings. -/
import Derived.Test.YtblmdjdaiilmmaaVar
namespace Go.Proofs.Ytblmdjdaiilmmaa
open Go Go.ChangeShapes Go.WideShapes Go.ChangeAt Go.RowKit Go.Lib
set_option linter.unusedVariables false
set_option linter.unusedSimpArgs false
set_option maxRecDepth 100000
/-- Two lists of bytes are drawn. -/
def DrawnBB (m1 m2 : Nat) (w : World) (e : Ending) (w' : World) : Prop :=
  ∃ (A : Option Addr) (c : Nat) (l : List Int) (A2 : Option Addr) (c2 : Nat) (l2 : List Int), e = .returned (.tuple #[.slice A l.length c, .slice A2 l2.length c2]) ∧ l.length ≤ m1 ∧ l.length ≤ c ∧ U8s l ∧ Rd w' w.heap.size w'.heap.size 1 A l.length (u8s l) ∧
    l2.length ≤ m2 ∧ l2.length ≤ c2 ∧ U8s l2 ∧ Rd w' w.heap.size w'.heap.size 1 A2 l2.length (u8s l2) ∧ Below w.heap.size w w'
set_option maxHeartbeats 4000000 in
theorem drawAB_any (n cap : Nat) (A : Option Addr) (w : World) (hn : n ≤ 140737488355328) (hb : BytesAt w w.heap.size A n) :
    Calls Try.prog 16 #[.slice A n cap] w (DrawnBB 2 5 w) := by
  have hn' : n ≤ maxLen := by unfold maxLen; omega
  go_enter Try.func16, Try.ntmps16
  go_wp2_with fail
  refine (new_any n cap A _ hn hb).mono ?_
  rintro e w1 ⟨rfl, hc1, hb1⟩
  go_wp2_with fail
  refine (below_any w.heap.size n cap A 3 _ hn' hc1 (by omega) (by omega)).mono ?_
  rintro e w2 ⟨y, hy0, hy1, rfl, hc2, hg2⟩
  obtain ⟨m, rfl⟩ := Int.eq_ofNat_of_zero_le hy0
  have hm : m ≤ 2 := by omega
  have hB2 := below_grown2 hb1 (Nat.le_refl _) hg2
  go_wp2_with fail
  refine (bytes_any w.heap.size n cap m A _ hn' (by omega) hc2).mono ?_
  rintro e w3 ⟨v, l, rfl, hl, hu, ho, hc3, hg3⟩
  have hB3 := below_grown2 hB2 (Nat.le_refl _) hg3
  go_wp2_with fail
  refine (below_any w.heap.size n cap A 6 _ hn' hc3 (by omega) (by omega)).mono ?_
  rintro e w4 ⟨y2, hz0, hz1, rfl, hc4, hg4⟩
  obtain ⟨m2, rfl⟩ := Int.eq_ofNat_of_zero_le hz0
  have hm2 : m2 ≤ 5 := by omega
  have ho4 := own_grown ho hc2.lt hg4
  have hB4 := below_grown2 hB3 (Nat.le_refl _) hg4
  go_wp2_with fail
  refine (bytes_any w.heap.size n cap m2 A _ hn' (by omega) hc4).mono ?_
  rintro e w5 ⟨v2, l2, rfl, hl2, hu2, ho2, hc5, hg5⟩
  obtain ⟨A', c', rfl, hF⟩ := fr_of_own (own_grown ho4 hc2.lt hg5)
  obtain ⟨A2, c2, rfl, hF2⟩ := fr_of_own ho2
  have HR := Lib.hid (hF.rd.mono hB2.size (Nat.le_refl _))
  have HR2 := Lib.hid (hF2.rd.mono hB4.size (Nat.le_refl _))
  have HC := Lib.hid hF.cap
  have HC2 := Lib.hid hF2.cap
  have HB5 := Lib.hid (below_grown2 hB4 (Nat.le_refl _) hg5)
  have HU := Lib.hid hu
  have HU2 := Lib.hid hu2
  have hla : l.length ≤ 2 := by omega
  have hlb : l2.length ≤ 5 := by omega
  clear ho ho2 ho4 hF hF2 hc5 hg5 hc4 hg4 hc3 hg3 hc2 hg2 hc1 hb1 hB2 hB3 hB4 hu hu2
  go_wp2_with fail
  go_ret2
  exact ⟨A', c', l, A2, c2, l2, rfl, hla, HC.out, HU.out, HR.out, hlb, HC2.out, HU2.out, HR2.out, HB5.out⟩
end Go.Proofs.Ytblmdjdaiilmmaa
