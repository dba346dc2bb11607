/- The draws of FnVarints. -/
import Derived.Test.YtkakdfphhnchhabUvR
import Derived.Test.YtkakdfphhnchhabCiph
import Derived.Test.YtkakdfphhnchhabDraw1
import Derived.Test.YtkakdfphhnchhabRdL
import Derived.Deep.LoopGhost
namespace Go.Proofs.Ytkakdfphhnchhab
open Go Go.ChangeShapes Go.WideShapes Go.ChangeAt Go.RowKit Go.Lib
set_option linter.unusedVariables false
set_option linter.unusedSimpArgs false
set_option maxRecDepth 100000
theorem uv_u8 (n : Nat) : U8s (uv n) := by
  induction n using Nat.strongRecOn with
  | _ n ih =>
    by_cases h : n < 128
    · rw [uv_small h]; intro z hz; simp at hz; omega
    · rw [uv_big h]
      intro z hz
      rcases List.mem_cons.1 hz with rfl | hz
      · omega
      · exact ih (n / 128) (by omega) z hz
theorem mAppU_u8 {b : List Int} (hb : U8s b) (n : Int) : U8s (mAppU b n) := by
  unfold mAppU
  split
  · intro z hz
    rcases List.mem_append.1 hz with hz | hz
    · exact hb z hz
    · exact uv_u8 _ z hz
  · exact hb
/-- Bytes and a number are drawn. -/
def DrawnBI (m : Nat) (lo hi : Int) (w : World) (e : Ending) (w' : World) : Prop :=
  ∃ (A : Option Addr) (c : Nat) (l : List Int) (x : Int), e = .returned (.tuple #[.slice A l.length c, .int .i64 x]) ∧ lo ≤ x ∧ x ≤ hi ∧ l.length ≤ m ∧ l.length ≤ c ∧ U8s l ∧ Rd w' w.heap.size w'.heap.size 1 A l.length (u8s l) ∧ Below w.heap.size w w'
set_option maxHeartbeats 4000000 in
theorem drawAU_any (n cap : Nat) (A : Option Addr) (w : World) (hn : n ≤ 140737488355328) (hb : BytesAt w w.heap.size A n) :
    Calls Try.prog 6 #[.slice A n cap] w (DrawnBI 2 (-9223372036854775808) 9223372036854775807 w) := by
  have hn' : n ≤ maxLen := by unfold maxLen; omega
  go_enter Try.func6, Try.ntmps6
  go_wp2_with fail
  refine (new_any n cap A _ hn hb).mono ?_
  rintro e w1 ⟨rfl, hc1, hb1⟩
  go_wp2_with fail
  refine (below_any w.heap.size n cap A 3 _ hn' hc1 (by omega) (by omega)).mono ?_
  rintro e w2 ⟨y, hy0, hy1, rfl, hc2, hg2⟩
  obtain ⟨m, rfl⟩ := Int.eq_ofNat_of_zero_le hy0
  have hm : m ≤ 2 := by omega
  have hB2 := below_grown2 hb1 (Nat.le_refl _) hg2
  go_wp2_with fail
  refine (bytes_any w.heap.size n cap m A _ hn' (by omega) hc2).mono ?_
  rintro e w3 ⟨v, l, rfl, hl, hu, ho, hc3, hg3⟩
  have hB3 := below_grown2 hB2 (Nat.le_refl _) hg3
  go_wp2_with fail
  refine (one_any w.heap.size n cap A _ hn' hc3).mono ?_
  rintro e w4 ⟨x, hx0, hx1, rfl, hc4, hg4⟩
  obtain ⟨A', c', rfl, hF⟩ := fr_of_own (own_grown ho hc2.lt hg4)
  have HR := Lib.hid (hF.rd.mono hB2.size (Nat.le_refl _))
  have HC := Lib.hid hF.cap
  have HB4 := Lib.hid (below_grown2 hB3 (Nat.le_refl _) hg4)
  have HU := Lib.hid hu
  have hl7 : l.length ≤ 2 := by omega
  clear ho hF hc4 hg4 hc3 hg3 hc2 hg2 hc1 hb1 hB2 hB3 hu
  go_wp2_with fail
  go_ret2
  exact ⟨A', c', l, x, rfl, hx0, hx1, hl7, HC.out, HU.out, HR.out, HB4.out⟩
set_option maxHeartbeats 8000000 in
theorem drawRU_any (n cap : Nat) (A : Option Addr) (w : World) (hn : n ≤ 140737488355328) (hb : BytesAt w w.heap.size A n) :
    Calls Try.prog 10 #[.slice A n cap] w (DrawnBI 8 (-1) 2 w) := by
  have hn' : n ≤ maxLen := by unfold maxLen; omega
  go_enter Try.func10, Try.ntmps10
  go_wp2_with fail
  refine (new_any n cap A _ hn hb).mono ?_
  rintro e w1 ⟨rfl, hc1, hb1⟩
  go_wp2_with fail
  refine (once_any w.heap.size n cap A 2 _ hn' hc1 (by omega) (by omega)).mono ?_
  rintro e w2 ⟨q, rfl, hc2, hg2⟩
  have hB2 := below_grown2 hb1 (Nat.le_refl _) hg2
  cases q with
  | true =>
    go_wp2_with fail
    refine (bytes_any w.heap.size n cap 1 A _ hn' (by omega) hc2).mono ?_
    rintro e w3 ⟨v, l, rfl, hl, hu, ho, hc3, hg3⟩
    have hB3 := below_grown2 hB2 (Nat.le_refl _) hg3
    go_wp2_with fail
    refine (num_any w.heap.size n cap A _ hn' hc3).mono ?_
    rintro e w4 ⟨x, hx0, hx1, rfl, hc4, hg4⟩
    obtain ⟨A', c', rfl, hF⟩ := fr_of_own (own_grown ho hc2.lt hg4)
    have hB4 := below_grown2 hB3 (Nat.le_refl _) hg4
    have CA := Lib.hid (spec_AppendUvarint l A' l.length c' _ _ x _ (by omega) hF.rd (Lib.hid hu) (WalkArith.wf_i64 (by constructor <;> omega)))
    have HB4 := Lib.hid hB4
    have HU := Lib.hid (mAppU_u8 hu x)
    have hL := mAppU_len l x
    clear ho hF hc4 hg4 hc3 hg3 hc2 hg2 hc1 hb1 hB2 hB3 hB4 hu
    go_wp2_with fail
    refine CA.out.mono ?_
    rintro e w5 ⟨A2, c2, rfl, hF2, hb2⟩
    have HR := Lib.hid (hF2.rd.mono HB4.out.size (Nat.le_refl _))
    have HC := Lib.hid hF2.cap
    have HB5 := Lib.hid (below_trans HB4.out hb2 (Nat.le_refl _))
    clear hF2 hb2
    go_wp2_with fail
    go_ret2
    exact ⟨A2, c2, mAppU l x, 1, rfl, by omega, by omega, by omega, HC.out, HU.out, HR.out, HB5.out⟩
  | false =>
    have HC2 := Lib.hid (hc2.new (.cells #[] 5))
    have HG2 := Lib.hid (hB2.alloc hB2.size (.cells #[] 5))
    have HLT := Lib.hid hc2.lt
    have HS2 := Lib.hid hB2.size
    clear hc2 hg2 hc1 hb1 hB2
    go_wp2_with fail
    refine (below_any w.heap.size n cap A 8 _ hn' HC2.out (by omega) (by omega)).mono ?_
    rintro e w3 ⟨y, hy0, hy1, rfl, hc3, hg3⟩
    obtain ⟨m, rfl⟩ := Int.eq_ofNat_of_zero_le hy0
    have hm : m ≤ 7 := by omega
    have HO3 := Lib.hid (own_grown (World.ownsRow_lit w2 #[] 0 (Nat.le_refl _) (by unfold maxLen; omega) rfl : (w2.alloc (.cells #[] 5)).ownsRow w2.heap.size 5 1 (.slice (some ⟨w2.heap.size, 0, none⟩) 0 0) 0 (u8s [])) HLT.out hg3)
    have HC3 := Lib.hid hc3
    have HB3 := Lib.hid (below_grown2 HG2.out (Nat.le_refl _) hg3)
    have HS3 := Lib.hid (show w2.heap.size ≤ w3.heap.size by have := hg3.size; simp at this; omega)
    clear hc3 hg3 HC2 HG2
    go_wp2_with fail
    go_loopg [5, 6] m (fun gg v i wr => ∃ (k : Nat) (l : List Int), k ≤ gg ∧ i = .int .i64 k ∧ l.length + k ≤ 7 ∧ Hid (U8s l) ∧ Hid (wr.ownsRow w2.heap.size 5 1 v l.length (u8s l)) ∧ Hid (Cur wr w.heap.size A n cap) ∧ Hid (Below w.heap.size w wr) ∧ Hid (w2.heap.size ≤ wr.heap.size))
    case atStart => exact ⟨m, [], by omega, rfl, by simpa using hm, Lib.hid (fun _ h => by cases h), HO3, HC3, HB3, HS3⟩
    case round =>
      obtain ⟨k, l, hk, rfl, hlk, HU, HO, HC, HB, HS⟩ := hrel
      rcases Nat.eq_zero_or_pos k with hk0 | hk0
      · subst hk0
        go_wp2_with fail
        refine (below_any w.heap.size n cap A 4 _ hn' HC.out (by omega) (by omega)).mono ?_
        rintro e w4 ⟨y, hy0, hy1, rfl, hc4, hg4⟩
        obtain ⟨A', c', rfl, hF⟩ := fr_of_own (own_grown HO.out HLT.out hg4)
        have HR := Lib.hid (hF.rd.mono HS2.out (Nat.le_refl _))
        have HCp := Lib.hid hF.cap
        have HB4 := Lib.hid (below_grown2 HB.out (Nat.le_refl _) hg4)
        have hw : IntKind.i64.wrap (y - 1) = y - 1 := IntWalk.i64_in _ (by omega)
        clear hF hc4 hg4
        go_wp2_with fail
        go_ret2
        exact ⟨A', c', l, y - 1, by first | rfl | simp, by omega, by omega, by omega, HCp.out, HU.out, HR.out, HB4.out⟩
      · have hk1 : (0 : Int) < (k : Int) := by omega
        have hw : IntKind.i64.wrap ((k : Int) - 1) = (k : Int) - 1 := IntWalk.i64_in _ (by omega)
        have HCn := Lib.hid (HC.out.new (.cells #[.int .i64 128, .int .i64 255, .int .i64 0, .int .i64 1, .int .i64 127] 3))
        have HLw := Lib.hid (show wr.heap.size ≠ w.heap.size by have := HC.out.lt; omega)
        go_wp2_with fail
        refine (int_any w.heap.size n cap A [128, 255, 0, 1, 127] wr.heap.size 0 255 _ hn' HCn.out HLw.out (heap_alloc_new wr _) (by decide) (by decide) (by decide)).mono ?_
        rintro e w4 ⟨y, hy0, hy1, rfl, hc4, hg4⟩
        have hy2 : y % 256 = y := by omega
        have HO1 := Lib.hid (own_grown (HO.out.alloc _) HLT.out hg4)
        have HC4 := Lib.hid hc4
        have HB4 := Lib.hid (below_grown2 (HB.out.alloc HB.out.size _) (Nat.le_refl _) hg4)
        have HS4 := Lib.hid (show w2.heap.size ≤ w4.heap.size by have := hg4.size; have := HS.out; simp at *; omega)
        have HX := Lib.hid (show u8s l ++ (#[Value.int .u8 y]).toList = u8s (l ++ [y]) by simp)
        have HXB := Lib.hid (show U8s (l ++ [y]) from fun z hz => by
          simp only [List.mem_append, List.mem_singleton] at hz
          rcases hz with hz | rfl
          · exact HU.out z hz
          · exact ⟨hy0, hy1⟩)
        clear hc4 hg4 HCn
        go_wp2_with (at_builtin; refine wp_app_lit rfl _ _ _ rfl w2.heap.size 5 (.int .u8 0) 1 1 Try.underlying22 info_u8c rfl (by decide) _ _ _ rfl HO1.out #[.int .u8 y] 1 1 _ rfl (by simp) rfl (one_byte y) (by unfold maxLen; omega) (by omega) HS4.out ?_; intro v1 w5 ho2 hb2; have HO2 := Lib.hid ho2; have HB2 := Lib.hid hb2; clear ho2 hb2)
        go_roundg (k - 1)
        case measure => omega
        case rel => exact ⟨k - 1, l ++ [y], by omega, by rw [Int.ofNat_sub (by omega)]; rfl, by simp; omega, HXB, Lib.hid (by rw [← HX.out, List.length_append]; exact HO2.out), Lib.hid (cur_low HC4.out HLT.out HB2.out), Lib.hid (HB4.out.trans (HB2.out.mono HS2.out)), Lib.hid (Nat.le_trans HS4.out HB2.out.size)⟩
end Go.Proofs.Ytkakdfphhnchhab
