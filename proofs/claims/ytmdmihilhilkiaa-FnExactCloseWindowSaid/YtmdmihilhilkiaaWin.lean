/- CloseWindow and ReadWindow, of the program and of the model. -/
import Derived.Test.YtmdmihilhilkiaaEStored
import Derived.Test.YtmdmihilhilkiaaGetStored
import Derived.Test.YtmdmihilhilkiaaRWindow
namespace Go.Proofs.Ytmdmihilhilkiaa
open Go Go.ChangeShapes Go.WideShapes Go.ChangeAt Go.RowKit Go.Lib
set_option linter.unusedVariables false
set_option linter.unusedSimpArgs false
set_option maxRecDepth 100000
set_option maxHeartbeats 4000000
theorem impl_CloseWindow (p0 : Bool) (l1 : List TStored) (A1 : Option Addr) (n1 c1 lo1 hi1 : Nat) (l2 : List TStored) (A2 : Option Addr) (n2 c2 lo2 hi2 : Nat) (w : World) (h1 : n1 ≤ 1048576) (r1 : Rd w lo1 hi1 4 A1 n1 (cStored l1)) (b1 : Hid (cStoredOk l1)) (h2 : n2 ≤ 1048576) (r2 : Rd w lo2 hi2 4 A2 n2 (cStored l2)) (b2 : Hid (cStoredOk l2)) :
    Calls Try.prog 20 #[.agg #[.bool p0, .slice A1 n1 c1, .slice A2 n2 c2]] w (Makes 84 4 l1.length (cStored l1) w) := by
  have HL := rd_len TStored.len r1 (by decide)
  rw [HL]
  clear HL b1 b2 r2 h2
  replace r1 := Lib.hid r1
  go_enter Try.func20, Try.ntmps20
  go_wp2_with fail
  refine (clone_Stored l1 A1 n1 c1 lo1 hi1 _ h1 (r1.out.alloc _)).mono ?_
  rintro e w1 ⟨v, rfl, ho, hb⟩
  have HB := Lib.hid (((Below.refl w.heap.size w).alloc (Nat.le_refl _) _).trans (hb.mono (by simp)))
  have HO := Lib.hid (own_base (base' := w.heap.size) ho (by simp))
  clear hb ho
  go_wp2_with fail
  go_ret
  exact makes_of_own HO.out HB.out
theorem spec_CloseWindow (p0 : Bool) (l1 : List TStored) (A1 : Option Addr) (n1 c1 lo1 hi1 : Nat) (l2 : List TStored) (A2 : Option Addr) (n2 c2 lo2 hi2 : Nat) (w : World) (h1 : n1 ≤ 1048576) (r1 : Rd w lo1 hi1 4 A1 n1 (cStored l1)) (b1 : Hid (cStoredOk l1)) (h2 : n2 ≤ 1048576) (r2 : Rd w lo2 hi2 4 A2 n2 (cStored l2)) (b2 : Hid (cStoredOk l2)) :
    Calls Try.prog 18 #[.agg #[.bool p0, .slice A1 n1 c1, .slice A2 n2 c2]] w (Makes 84 4 l1.length (cStored l1) w) := by
  have HL := rd_len TStored.len r1 (by decide)
  rw [HL]
  clear HL b1 b2 r2 h2
  replace r1 := Lib.hid r1
  have HO0 := Lib.hid (show ((w.alloc (.cells #[.bool p0, .slice A1 n1 c1, .slice A2 n2 c2] 31)).alloc (.cells #[] 84)).ownsRow w.heap.size 84 4 (.slice (some ⟨w.heap.size + 1, 0, none⟩) 0 0) 0 [] by
    have h := World.ownsRow_lit (base := w.heap.size) (e := 84) (size := 4) (w.alloc (.cells #[.bool p0, .slice A1 n1 c1, .slice A2 n2 c2] 31)) #[] 0 (by simp) (by unfold maxLen; omega) rfl
    simpa using h)
  go_enter Try.func18, Try.ntmps18
  go_wp2_with (at_builtin; refine wp_app rfl _ _ _ rfl w.heap.size 84 (.agg #[.int .i64 0, .int .i64 0, .int .i64 0, .int .i64 0]) 4 32 Try.underlying28 icStored rfl (by decide) _ _ _ rfl HO0.out lo1 hi1 A1 n1 c1 (cStored l1) rfl ((r1.out.alloc _).alloc _) (ocStored l1) (by unfold maxLen; omega) (by omega) (by simp <;> omega) ?_; intro v1 w1 ho1 hb1 _ _; have HO1 := Lib.hid ho1; have HB1 := Lib.hid (((((Below.refl w.heap.size w).alloc (Nat.le_refl _) _).alloc (by simp) _)).trans hb1); clear ho1 hb1)
  go_ret
  exact makes_of_own (by simpa using HO1.out) HB1.out
def mRW (l1 l2 : List TStored) (a1 a2 : Int) : Int := if mGetOk l2 a1 a2 = true then mGetV l2 a1 a2 else mGetV l1 a1 a2
def mRWok (l1 l2 : List TStored) (a1 a2 : Int) : Bool := mGetOk l2 a1 a2 || mGetOk l1 a1 a2
theorem mRW_own (l1 : List TStored) {l2 : List TStored} {a1 a2 : Int} (h : mGetOk l2 a1 a2 = true) : mRW l1 l2 a1 a2 = mGetV l2 a1 a2 ∧ mRWok l1 l2 a1 a2 = true := by unfold mRW mRWok; simp [h]
theorem mRW_base (l1 : List TStored) {l2 : List TStored} {a1 a2 : Int} (h : mGetOk l2 a1 a2 = false) : mRW l1 l2 a1 a2 = mGetV l1 a1 a2 ∧ mRWok l1 l2 a1 a2 = mGetOk l1 a1 a2 := by unfold mRW mRWok; simp [h]
theorem impl_ReadWindow (p0 : Bool) (l1 : List TStored) (A1 : Option Addr) (n1 c1 lo1 hi1 : Nat) (l2 : List TStored) (A2 : Option Addr) (n2 c2 lo2 hi2 : Nat) (a1 a2 : Int) (w : World) (h1 : n1 ≤ 1048576) (r1 : Rd w lo1 hi1 4 A1 n1 (cStored l1)) (b1 : Hid (cStoredOk l1)) (h2 : n2 ≤ 1048576) (r2 : Rd w lo2 hi2 4 A2 n2 (cStored l2)) (b2 : Hid (cStoredOk l2)) (wfa1 : Hid ((Lit.int .i64 a1).wf = true)) (wfa2 : Hid ((Lit.int .i64 a2).wf = true)) :
    Calls Try.prog 31 #[.agg #[.bool p0, .slice A1 n1 c1, .slice A2 n2 c2], .int .i64 a1, .int .i64 a2] w (Says (.tuple #[.int .i64 (mRW l1 l2 a1 a2), .bool (mRWok l1 l2 a1 a2)]) w) := by
  replace r1 := Lib.hid r1
  replace r2 := Lib.hid r2
  have HB := Lib.hid (Below.refl w.heap.size w)
  have KB := Lib.hid (box_new w 31 #[.bool p0, .slice A1 n1 c1, .slice A2 n2 c2])
  cases hq : mGetOk l2 a1 a2 with
  | true =>
    have HV := Lib.hid (mRW_own l1 hq)
    have HQ := Lib.hid hq
    clear hq
    go_enter Try.func31, Try.ntmps31
    go_wp2_with fail
    refine (impl_GetStored l2 A2 n2 c2 lo2 hi2 a1 a2 _ h2 (r2.out.alloc _) b2 wfa1.out wfa2.out).mono ?_
    rw [HQ.out]
    rintro e w1 ⟨rfl, hb⟩
    have HB1 := Lib.hid (((Below.refl w.heap.size w).alloc (Nat.le_refl _) _).trans (hb.mono (by simp)))
    clear hb
    go_wp2_with fail
    go_ret2
    exact ⟨by rw [HV.out.1, HV.out.2]; rfl, HB1.out⟩
  | false =>
    have HV := Lib.hid (mRW_base l1 hq)
    have HQ := Lib.hid hq
    clear hq
    go_enter Try.func31, Try.ntmps31
    go_wp2_with fail
    refine (impl_GetStored l2 A2 n2 c2 lo2 hi2 a1 a2 _ h2 (r2.out.alloc _) b2 wfa1.out wfa2.out).mono ?_
    rw [HQ.out]
    rintro e w1 ⟨rfl, hb⟩
    have HB1 := Lib.hid (((Below.refl w.heap.size w).alloc (Nat.le_refl _) _).trans (hb.mono (by simp)))
    have KB1 := KB.out.new hb
    have e0 := KB1.at_ (j := 0) rfl
    have e1 := KB1.at_ (j := 1) rfl
    have e2 := KB1.at_ (j := 2) rfl
    clear hb KB1
    go_wp2_with fail
    refine (impl_GetStored l1 A1 n1 c1 lo1 hi1 a1 a2 _ h1 (r1.out.new HB1.out) b1 wfa1.out wfa2.out).mono ?_
    rintro e w2 ⟨rfl, hb⟩
    have HB2 := Lib.hid (below_trans HB1.out hb (Nat.le_refl _))
    clear hb e0 e1 e2
    go_wp2_with fail
    go_ret2
    exact ⟨by rw [HV.out.1, HV.out.2]; rfl, HB2.out⟩
theorem spec_ReadWindow (p0 : Bool) (l1 : List TStored) (A1 : Option Addr) (n1 c1 lo1 hi1 : Nat) (l2 : List TStored) (A2 : Option Addr) (n2 c2 lo2 hi2 : Nat) (a1 a2 : Int) (w : World) (h1 : n1 ≤ 1048576) (r1 : Rd w lo1 hi1 4 A1 n1 (cStored l1)) (b1 : Hid (cStoredOk l1)) (h2 : n2 ≤ 1048576) (r2 : Rd w lo2 hi2 4 A2 n2 (cStored l2)) (b2 : Hid (cStoredOk l2)) (wfa1 : Hid ((Lit.int .i64 a1).wf = true)) (wfa2 : Hid ((Lit.int .i64 a2).wf = true)) :
    Calls Try.prog 30 #[.agg #[.bool p0, .slice A1 n1 c1, .slice A2 n2 c2], .int .i64 a1, .int .i64 a2] w (Says (.tuple #[.int .i64 (mRW l1 l2 a1 a2), .bool (mRWok l1 l2 a1 a2)]) w) := by
  replace r1 := Lib.hid r1
  replace r2 := Lib.hid r2
  have HB := Lib.hid (Below.refl w.heap.size w)
  have KB := Lib.hid (box_new w 31 #[.bool p0, .slice A1 n1 c1, .slice A2 n2 c2])
  cases hq : mGetOk l2 a1 a2 with
  | true =>
    have HV := Lib.hid (mRW_own l1 hq)
    have HQ := Lib.hid hq
    clear hq
    go_enter Try.func30, Try.ntmps30
    go_wp2_with fail
    refine (spec_GetStored l2 A2 n2 c2 lo2 hi2 a1 a2 _ h2 (r2.out.alloc _) b2 wfa1.out wfa2.out).mono ?_
    rw [HQ.out]
    rintro e w1 ⟨rfl, hb⟩
    have HB1 := Lib.hid (((Below.refl w.heap.size w).alloc (Nat.le_refl _) _).trans (hb.mono (by simp)))
    clear hb
    go_wp2_with fail
    go_ret2
    exact ⟨by rw [HV.out.1, HV.out.2]; rfl, HB1.out⟩
  | false =>
    have HV := Lib.hid (mRW_base l1 hq)
    have HQ := Lib.hid hq
    clear hq
    go_enter Try.func30, Try.ntmps30
    go_wp2_with fail
    refine (spec_GetStored l2 A2 n2 c2 lo2 hi2 a1 a2 _ h2 (r2.out.alloc _) b2 wfa1.out wfa2.out).mono ?_
    rw [HQ.out]
    rintro e w1 ⟨rfl, hb⟩
    have HB1 := Lib.hid (((Below.refl w.heap.size w).alloc (Nat.le_refl _) _).trans (hb.mono (by simp)))
    have KB1 := KB.out.new hb
    have e0 := KB1.at_ (j := 0) rfl
    have e1 := KB1.at_ (j := 1) rfl
    have e2 := KB1.at_ (j := 2) rfl
    clear hb KB1
    go_wp2_with fail
    refine (spec_GetStored l1 A1 n1 c1 lo1 hi1 a1 a2 _ h1 (r1.out.new HB1.out) b1 wfa1.out wfa2.out).mono ?_
    rintro e w2 ⟨rfl, hb⟩
    have HB2 := Lib.hid (below_trans HB1.out hb (Nat.le_refl _))
    clear hb e0 e1 e2
    go_wp2_with fail
    go_ret2
    exact ⟨by rw [HV.out.1, HV.out.2]; rfl, HB2.out⟩
end Go.Proofs.Ytmdmihilhilkiaa
