/- The draws of FnKeyedHash: a key and numbers; a key and a string. -/
import Derived.Test.YteldjnjjdjlpnaaDoorCiph
namespace Go.Proofs.YteldjnjjdjlpnaaDoor
open Go Go.ChangeShapes Go.WideShapes Go.ChangeAt Go.RowKit Go.Lib
set_option linter.unusedVariables false
set_option linter.unusedSimpArgs false
set_option maxRecDepth 100000
/-- Numbers as they are drawn. -/
def W31s (l : List Int) : Prop := ∀ z ∈ l, -1 ≤ z ∧ z ≤ 2147483648
def Wrds (g : Nat) (A : Option Addr) (n cap m : Nat) (w : World) (e : Ending) (w' : World) : Prop :=
  ∃ (v : Value) (l : List Int), e = .returned v ∧ l.length ≤ m ∧ W31s l ∧ w'.ownsRow w.heap.size 3 1 v l.length (i64s l) ∧ Cur w' g A n cap ∧ w.grownBy w' (some g)
theorem info_intk : (Tryd.prog.info? 3).map (fun i => (i.zero, i.size, i.bytes)) = some (some (.int .i64 0), 1, 8) := by kernel_rfl
theorem one_intk (z : Int) : ∀ u ∈ (#[Value.int .i64 z]).toList, u.oneCell' = true := by
  intro u hu
  simp only [List.mem_singleton] at hu
  subst hu
  rfl
set_option maxHeartbeats 4000000 in
theorem words_any (g n cap : Nat) (A : Option Addr) (w : World) (hn : n ≤ maxLen) (hc : Cur w g A n cap) :
    Calls Tryd.prog 67 #[.pointer (some ⟨g, 0, none⟩)] w (Wrds g A n cap 4 w) := by
  have HC := Lib.hid (hc.new (.cells #[] 3))
  have HLT := Lib.hid hc.lt
  clear hc
  go_enter Tryd.func67, Tryd.ntmps67
  go_wp2_with fail
  refine (below_any g n cap A 5 _ hn HC.out (by omega) (by omega)).mono ?_
  rintro e w0 ⟨y, hy0, hy1, rfl, hc0, hg0⟩
  obtain ⟨m, rfl⟩ := Int.eq_ofNat_of_zero_le hy0
  have hm : m ≤ 4 := by omega
  have HO0 := Lib.hid (own_grown (World.ownsRow_lit (e := 3) (size := 1) w #[] 0 (Nat.le_refl _) (by unfold maxLen; omega) rfl) HLT.out hg0)
  have HC0 := Lib.hid hc0
  have HG0 := Lib.hid (grown_both (grown_new w (.cells #[] 3) _) hg0)
  clear hc0 hg0
  go_wp2_with fail
  go_loopw [3, 4] (fun v i wr => ∃ (k : Nat) (l : List Int), k ≤ m ∧ l.length + k = m ∧ W31s l ∧ i = .int .i64 k ∧ wr.ownsRow w.heap.size 3 1 v l.length (i64s l) ∧ Cur wr g A n cap ∧ w.grownBy wr (some g)) (fun _ i _ => (intOf i).toNat)
  case atStart => exact ⟨m, [], Nat.le_refl _, by simp, (fun _ h => by cases h), rfl, HO0.out, HC0.out, HG0.out⟩
  case round =>
    obtain ⟨k, l, hk, hl, hu, rfl, hown, hcw, hgw⟩ := hrel
    have HO := Lib.hid hown
    have HS := Lib.hid hgw.size
    have HU := Lib.hid hu
    have HCW := Lib.hid hcw
    have HGW := Lib.hid hgw
    have hll : l.length ≤ 4 := by omega
    have HLL := Lib.hid hl
    clear hown hu hcw hgw hl
    by_cases hlt : 0 < k
    · obtain ⟨k', rfl⟩ : ∃ k', k = k' + 1 := ⟨k - 1, by omega⟩
      have hwk : IntKind.i64.wrap (((k' + 1 : Nat) : Int) - 1) = (k' : Int) := by rw [IntWalk.i64_in _ (by omega)]; omega
      go_wp2_with fail
      refine (word_any g n cap A _ hn HCW.out).mono ?_
      rintro e w1 ⟨x, hx0, hx1, rfl, hc1, hg1⟩
      have HO1 := Lib.hid (own_grown HO.out HLT.out hg1)
      have HC1 := Lib.hid hc1
      have HG1 := Lib.hid (grown_both HGW.out hg1)
      have HX := Lib.hid (show i64s l ++ (#[Value.int .i64 x]).toList = i64s (l ++ [x]) by simp [i64s])
      have HXB := Lib.hid (show W31s (l ++ [x]) from fun z hz => by
        simp only [List.mem_append, List.mem_singleton] at hz
        rcases hz with hz | rfl
        · exact HU.out z hz
        · exact ⟨hx0, hx1⟩)
      clear hc1 hg1
      go_wp2_with (at_builtin; refine wp_app_lit rfl _ _ _ rfl w.heap.size 3 (.int .i64 0) 1 8 Tryd.underlying32 info_intk rfl (by decide) _ _ _ rfl HO1.out #[.int .i64 x] 1 1 _ rfl (by simp) rfl (one_intk x) (by unfold maxLen; omega) (by omega) HG1.out.size ?_; intro v1 w2 ho2 hb2; have HO2 := Lib.hid ho2; have HB2 := Lib.hid hb2; clear ho2 hb2)
      go_roundw
      case rel => exact ⟨k', l ++ [x], by omega, by have := HLL.out; simp; omega, HXB.out, by go_num, by rw [← HX.out]; simpa using HO2.out, cur_low HC1.out HLT.out HB2.out, grown_low HG1.out (Nat.le_refl _) HB2.out⟩
      case measure => simp [intOf]
    · obtain rfl : k = 0 := by omega
      go_wp2_with fail
      go_ret
      exact ⟨_, l, rfl, hll, HU.out, HO.out, HCW.out, HGW.out⟩
/-- A key and numbers are drawn. -/
def DrawnKW (w : World) (e : Ending) (w' : World) : Prop :=
  ∃ (k : Int) (A : Option Addr) (c : Nat) (l : List Int), -1 ≤ k ∧ k ≤ 2147483648 ∧ e = .returned (.tuple #[.int .i64 k, .slice A l.length c]) ∧ l.length ≤ 4 ∧ l.length ≤ c ∧ W31s l ∧ Rd w' w.heap.size w'.heap.size 1 A l.length (i64s l) ∧ Below w.heap.size w w'
set_option maxHeartbeats 4000000 in
theorem drawKH_any (n cap : Nat) (A : Option Addr) (w : World) (hn : n ≤ 140737488355328) (hb : BytesAt w w.heap.size A n) :
    Calls Tryd.prog 17 #[.slice A n cap] w (DrawnKW w) := by
  have hn' : n ≤ maxLen := by unfold maxLen; omega
  go_enter Tryd.func17, Tryd.ntmps17
  go_wp2_with fail
  refine (new_any n cap A _ hn hb).mono ?_
  rintro e w1 ⟨rfl, hc1, hb1⟩
  go_wp2_with fail
  refine (word_any w.heap.size n cap A _ hn' hc1).mono ?_
  rintro e w2 ⟨x, hx0, hx1, rfl, hc2, hg2⟩
  have hB2 := below_grown2 hb1 (Nat.le_refl _) hg2
  go_wp2_with fail
  refine (words_any w.heap.size n cap A _ hn' hc2).mono ?_
  rintro e w3 ⟨v, l, rfl, hl, hu, ho, hc3, hg3⟩
  obtain ⟨A', c', rfl, hF⟩ := fr_of_own ho
  have HR := Lib.hid (hF.rd.mono hB2.size (Nat.le_refl _))
  have HCp := Lib.hid hF.cap
  have HB3 := Lib.hid (below_grown2 hB2 (Nat.le_refl _) hg3)
  have HU := Lib.hid hu
  clear ho hF hc3 hg3 hc2 hg2 hc1 hb1 hB2 hu
  go_wp2_with fail
  go_ret2
  exact ⟨x, A', c', l, hx0, hx1, rfl, hl, HCp.out, HU.out, HR.out, HB3.out⟩
/-- A key and a string are drawn. -/
def DrawnKS (w : World) (e : Ending) (w' : World) : Prop :=
  ∃ (k : Int) (s : ByteArray), -1 ≤ k ∧ k ≤ 2147483648 ∧ e = .returned (.tuple #[.int .i64 k, .string s]) ∧ s.size ≤ 4 ∧ Below w.heap.size w w'
set_option maxHeartbeats 4000000 in
theorem drawDS_any (n cap : Nat) (A : Option Addr) (w : World) (hn : n ≤ 140737488355328) (hb : BytesAt w w.heap.size A n) :
    Calls Tryd.prog 22 #[.slice A n cap] w (DrawnKS w) := by
  have hn' : n ≤ maxLen := by unfold maxLen; omega
  go_enter Tryd.func22, Tryd.ntmps22
  go_wp2_with fail
  refine (new_any n cap A _ hn hb).mono ?_
  rintro e w1 ⟨rfl, hc1, hb1⟩
  go_wp2_with fail
  refine (word_any w.heap.size n cap A _ hn' hc1).mono ?_
  rintro e w2 ⟨x, hx0, hx1, rfl, hc2, hg2⟩
  have hB2 := below_grown2 hb1 (Nat.le_refl _) hg2
  have hlt := hc2.lt
  have HC2 := Lib.hid hc2
  clear hc2
  go_wp2_with fail
  refine (str_any w.heap.size n cap A [⟨#[]⟩, ⟨#[97]⟩, ⟨#[98]⟩, ⟨#[97, 98]⟩, ⟨#[110, 101, 119, 115]⟩, ⟨#[120]⟩] w2.heap.size 4 _ hn' (HC2.out.new _) (by omega) (heap_alloc_new w2 _) (by decide) (by decide) (by decide)).mono ?_
  rintro e w3 ⟨s, hs, rfl, hc3, hg3⟩
  have HB3 := Lib.hid (below_grown2 hB2 (Nat.le_refl _) (grown_both (grown_new w2 _ _) hg3))
  clear hc3 hg3 hB2 hb1 hc1 hg2
  go_wp2_with fail
  go_ret2
  exact ⟨x, s, hx0, hx1, rfl, hs, HB3.out⟩
end Go.Proofs.YteldjnjjdjlpnaaDoor
