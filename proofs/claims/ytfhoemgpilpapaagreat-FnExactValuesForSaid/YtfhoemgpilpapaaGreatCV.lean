/- ChangeValue, of the program and of the model. -/
import Derived.Test.YtfhoemgpilpapaaGreatIn
import Derived.Test.YtfhoemgpilpapaaGreatSlI
import Derived.Test.YtfhoemgpilpapaaGreatApp
import Derived.Handy
import Derived.Deep.LoopGhost
namespace Go.Proofs.YtfhoemgpilpapaaGreat
open Go Go.ChangeShapes Go.WideShapes Go.ChangeAt Go.RowKit Go.Lib
set_option linter.unusedVariables false
set_option linter.unusedSimpArgs false
set_option maxRecDepth 100000
theorem info_intC : (Tryz.prog.info? 3).map (fun i => (i.zero, i.size, i.bytes)) = some (some (.int .i64 0), 1, 8) := by kernel_rfl
theorem one_intC (z : Int) : ∀ u ∈ (#[Value.int .i64 z]).toList, u.oneCell' = true := by
  intro u hu
  simp only [List.mem_singleton] at hu
  subst hu
  rfl
def mVal (l : List Int) (k : Nat) : Int := match l[k]? with | some z => if inR z 0 999 then z else 0 | none => 0
def mCVat (l : List Int) (o v : Int) (k : Nat) : Int := if (o == (k : Int) + 1) && inR v 0 999 then v else mVal l k
def mCV (l : List Int) (o v : Int) : List Int := (List.range 9).map (mCVat l o v)
theorem mCV_len (l : List Int) (o v : Int) : (mCV l o v).length = 9 := by simp [mCV]
theorem mCV_get (l : List Int) (o v : Int) {k : Nat} (h : k < 9) : (mCV l o v)[k]? = some (mCVat l o v k) := by simp [mCV, h]
set_option maxHeartbeats 4000000 in
theorem spec_Val (l : List Int) (A : Option Addr) (n c lo hi k : Nat) (w : World) (hn : n ≤ 1048576) (hk : k ≤ 1048576) (hr : Rd w lo hi 1 A n (i64s l)) :
    Calls Tryz.prog 57 #[.slice A n c, .int .i64 ((k : Int) + 1)] w (fun e w' => e = .returned (.int .i64 (mVal l k)) ∧ w = w') := by
  have hL : l.length = n := by simpa using hr.1
  have e1 : (k : Int) + 1 - 1 = (k : Int) := by omega
  by_cases hlt : k < n
  · obtain ⟨b, off, z, rfl, _, _, hz, hc⟩ := rd_int hr hlt
    have HM := Lib.hid (show mVal l k = if inR z 0 999 then z else 0 by simp [mVal, hz])
    have HL := Lib.hid hL
    have HZ := Lib.hid hz
    have g1 : ¬ ((n : Int) < (k : Int) + 1) := by omega
    have C2 := fun W => spec_in z 0 999 W
    clear hr hz hL
    generalize inR z 0 999 = r at HM C2
    replace C2 := Lib.hid C2
    cases r
    · go_enter Tryz.func57, Tryz.ntmps57
      go_wp2_with fail
      refine Calls.mono (C2.out _) ?_
      rintro e w1 ⟨rfl, rfl⟩
      go_wp2_with fail
      go_ret
      exact ⟨by rw [HM.out]; rfl, rfl⟩
    · go_enter Tryz.func57, Tryz.ntmps57
      go_wp2_with fail
      refine Calls.mono (C2.out _) ?_
      rintro e w1 ⟨rfl, rfl⟩
      go_wp2_with fail
      go_ret
      exact ⟨by rw [HM.out]; rfl, rfl⟩
  · have HM := Lib.hid (show mVal l k = 0 by simp [mVal, List.getElem?_eq_none (by omega : l.length ≤ k)])
    have g1 : (n : Int) < (k : Int) + 1 := by omega
    clear hr hL
    go_enter Tryz.func57, Tryz.ntmps57
    go_wp2_with fail
    go_ret
    exact ⟨by rw [HM.out]; rfl, rfl⟩
set_option maxHeartbeats 4000000 in
theorem impl_Val (l : List Int) (A : Option Addr) (n c lo hi k : Nat) (w : World) (hn : n ≤ 1048576) (hk : k ≤ 1048576) (hr : Rd w lo hi 1 A n (i64s l)) :
    Calls Tryz.prog 88 #[.slice A n c, .int .i64 ((k : Int) + 1)] w (fun e w' => e = .returned (.int .i64 (mVal l k)) ∧ w = w') := by
  have hL : l.length = n := by simpa using hr.1
  have e1 : (k : Int) + 1 - 1 = (k : Int) := by omega
  by_cases hlt : k < n
  · obtain ⟨b, off, z, rfl, _, _, hz, hc⟩ := rd_int hr hlt
    have HM := Lib.hid (show mVal l k = if inR z 0 999 then z else 0 by simp [mVal, hz])
    have HL := Lib.hid hL
    have HZ := Lib.hid hz
    have C1 := fun W => impl_in ((k : Int) + 1) 1 n W
    simp only [show inR ((k : Int) + 1) 1 n = true by simp [inR]; omega] at C1
    replace C1 := Lib.hid C1
    have C2 := fun W => impl_in z 0 999 W
    clear hr hz hL
    generalize inR z 0 999 = r at HM C2
    replace C2 := Lib.hid C2
    cases r
    · go_enter Tryz.func88, Tryz.ntmps88
      go_wp2_with fail
      refine Calls.mono (C1.out _) ?_
      rintro e w1 ⟨rfl, rfl⟩
      go_wp2_with fail
      refine Calls.mono (C2.out _) ?_
      rintro e w1 ⟨rfl, rfl⟩
      go_wp2_with fail
      go_ret
      exact ⟨by rw [HM.out]; rfl, rfl⟩
    · go_enter Tryz.func88, Tryz.ntmps88
      go_wp2_with fail
      refine Calls.mono (C1.out _) ?_
      rintro e w1 ⟨rfl, rfl⟩
      go_wp2_with fail
      refine Calls.mono (C2.out _) ?_
      rintro e w1 ⟨rfl, rfl⟩
      go_wp2_with fail
      go_ret
      exact ⟨by rw [HM.out]; rfl, rfl⟩
  · have HM := Lib.hid (show mVal l k = 0 by simp [mVal, List.getElem?_eq_none (by omega : l.length ≤ k)])
    have C1 := fun W => impl_in ((k : Int) + 1) 1 n W
    simp only [show inR ((k : Int) + 1) 1 n = false by simp [inR]; omega] at C1
    replace C1 := Lib.hid C1
    clear hr hL
    go_enter Tryz.func88, Tryz.ntmps88
    go_wp2_with fail
    refine Calls.mono (C1.out _) ?_
    rintro e w1 ⟨rfl, rfl⟩
    go_wp2_with fail
    go_ret
    exact ⟨by rw [HM.out]; rfl, rfl⟩
theorem row_endC {wr : World} {B : Nat} {f : Nat → Value} {L : List Int} (hl : L.length = 9) (h : wr.rowIs B 3 9 f) (hf : ∀ j z, L[j]? = some z → f j = .int .i64 z) : Fr wr B wr.heap.size 3 1 (some ⟨B, 0, none⟩) 9 9 (i64s L) := by
  refine fr_of_row (by simpa using h) (Nat.le_refl _) h.lt (by unfold maxLen; omega) (by simpa using hl) fun j u hu => ?_
  obtain ⟨x, hx, rfl⟩ := map_get _ _ _ _ hu
  exact hf j x hx
set_option maxHeartbeats 8000000 in
theorem implCV (l : List Int) (A : Option Addr) (n c lo hi : Nat) (o v : Int) (w : World) (hn : n ≤ 1048576) (hr : Rd w lo hi 1 A n (i64s l)) (H : Hid (I64s l)) (wo : (Lit.int .i64 o).wf = true) (wv : (Lit.int .i64 v).wf = true) : Calls Tryz.prog 58 #[.slice A n c, .int .i64 o, .int .i64 v] w (Makes 3 1 9 (i64s (mCV l o v)) w) := by
  have hmk : ∀ W, (Instr.makeSlice 33 (.int .i64 9) (.int .i64 9)).run Tryz.prog W = .ok (.slice (some ⟨W.heap.size, 0, none⟩) 9 9) (W.alloc (.cells (madeCells #[.int .i64 0] 9) 3)) := fun W => run_make_row' (P := Tryz.prog) 33 3 (.int .i64 0) 8 Tryz.underlying33 (by kernel_rfl) rfl .i64 .i64 9 (by omega) (by omega) W
  have HR := Lib.hid hr
  have CV := Lib.hid (fun W (h : Rd W lo hi 1 A n (i64s l)) k (hk : k ≤ 1048576) => impl_Val l A n c lo hi k W hn hk h)
  have HLn := Lib.hid (mCV_len l o v)
  have HG := Lib.hid (fun (k : Nat) (h : k < 9) => mCV_get l o v h)
  have HAt := Lib.hid (fun (k : Nat) => show mCVat l o v k = if (o == (k : Int) + 1) && inR v 0 999 then v else mVal l k from rfl)
  generalize mCV l o v = L at HLn HG ⊢
  clear hr
  have C1 := Lib.hid (fun W => impl_in o 1 9 W)
  have C2 := fun W => impl_in v 0 999 W
  generalize mVal l = mv at CV HAt
  generalize mCVat l o v = at_ at HG HAt
  generalize inR v 0 999 = r at C2 HAt
  replace C2 := Lib.hid C2
  go_enter Tryz.func58, Tryz.ntmps58
  go_wp2_with fail
  go_loopg [12] 9 (fun gg i wr => ∃ k : Nat, k ≤ 9 ∧ 9 - k ≤ gg ∧ i = .int .i64 k ∧ wr.rowIs w.heap.size 3 9 (fun j => if j < k then .int .i64 (mv j) else .int .i64 0) ∧ Hid (Below w.heap.size w wr))
  case atStart => exact ⟨0, Nat.zero_le _, by omega, rfl, (World.rowIs_made w _ 9 _).congr (fun i _ => by simp), Lib.hid ((Below.refl _ _).alloc (Nat.le_refl _) _)⟩
  case round =>
    obtain ⟨k, hk, hg, rfl, hrow, HB⟩ := hrel
    by_cases hlt : k < 9
    · have hle : (k : Int) < 9 := by omega
      have c1 := hrow.cell hlt
      have f1 := hrow.frozen k
      have HW := Lib.hid hrow
      have hlw := hrow.lt
      clear hrow
      go_wp2_with fail
      refine Calls.mono (CV.out wr (HR.out.new HB.out) k (by omega)) ?_
      rintro e w1 ⟨rfl, rfl⟩
      go_wp2_with fail
      go_roundg (9 - (k + 1))
      case measure => omega
      case rel => exact ⟨k + 1, by omega, by omega, by go_num, (HW.out.set k _).congr (fun i hi => by
          by_cases e : i = k
          · subst e; simp
          · simp only [e, if_false]
            by_cases e2 : i < k
            · rw [if_pos e2, if_pos (by omega)]
            · rw [if_neg e2, if_neg (by omega)]), Lib.hid (HB.out.setCell (Nat.le_refl _) _)⟩
    · obtain rfl : k = 9 := by omega
      have HW := Lib.hid (show wr.rowIs w.heap.size 3 9 (fun j => .int .i64 (mv j)) from hrow.congr (fun i hi => by rw [if_pos hi]))
      clear hrow
      by_cases h1 : inR o 1 9 = true
      · obtain ⟨k, hk9, rfl⟩ : ∃ k : Nat, k < 9 ∧ o = (k : Int) + 1 := by
          simp [inR] at h1
          exact ⟨(o - 1).toNat, by omega, by omega⟩
        rw [h1] at C1
        have e1 : (k : Int) + 1 - 1 = (k : Int) := by omega
        have hle : (k : Int) < 9 := by omega
        have c1 := HW.out.cell hk9
        have f1 := HW.out.frozen k
        clear h1
        cases r
        · go_wp2_with fail
          refine Calls.mono (C1.out _) ?_
          rintro e w1 ⟨rfl, rfl⟩
          go_wp2_with fail
          refine Calls.mono (C2.out _) ?_
          rintro e w1 ⟨rfl, rfl⟩
          go_wp2_with fail
          go_ret
          exact ⟨_, _, rfl, row_endC HLn.out HW.out (fun j z hz => by
            have hj := (List.getElem?_eq_some_iff.1 hz).1
            rw [HLn.out] at hj
            rw [HG.out j hj, HAt.out j] at hz
            simpa using hz), HB.out⟩
        · go_wp2_with fail
          refine Calls.mono (C1.out _) ?_
          rintro e w1 ⟨rfl, rfl⟩
          go_wp2_with fail
          refine Calls.mono (C2.out _) ?_
          rintro e w1 ⟨rfl, rfl⟩
          go_wp2_with fail
          go_ret
          exact ⟨_, _, rfl, row_endC HLn.out (HW.out.set k _) (fun j z hz => by
            have hj := (List.getElem?_eq_some_iff.1 hz).1
            rw [HLn.out] at hj
            rw [HG.out j hj, HAt.out j] at hz
            by_cases e : j = k
            · subst e; simpa using hz
            · rw [if_neg e]
              rw [if_neg (by simp; omega)] at hz
              simpa using hz), HB.out.setCell (Nat.le_refl _) _⟩
      · have h1 : inR o 1 9 = false := by simpa using h1
        rw [h1] at C1
        have hno : ∀ k : Nat, k < 9 → (o == (k : Int) + 1) = false := by
          intro k hk
          simp [inR] at h1
          simp
          omega
        replace hno := Lib.hid hno
        clear h1
        go_wp2_with fail
        refine Calls.mono (C1.out _) ?_
        rintro e w1 ⟨rfl, rfl⟩
        go_wp2_with fail
        go_ret
        exact ⟨_, _, rfl, row_endC HLn.out HW.out (fun j z hz => by
            have hj := (List.getElem?_eq_some_iff.1 hz).1
            rw [HLn.out] at hj
            rw [HG.out j hj, HAt.out j, hno.out j hj] at hz
            simpa using hz), HB.out⟩
theorem impl_ChangeValue (l : List Int) (A : Option Addr) (n c lo hi : Nat) (o v : Int) (w : World) (hn : n ≤ 1048576) (hr : Rd w lo hi 1 A n (i64s l)) (H : Hid (I64s l)) (wo : (Lit.int .i64 o).wf = true) (wv : (Lit.int .i64 v).wf = true) : Calls Tryz.prog 58 #[.slice A n c, .int .i64 o, .int .i64 v] w (Makes 3 1 (mCV l o v).length (i64s (mCV l o v)) w) := by
  rw [mCV_len]
  exact implCV l A n c lo hi o v w hn hr H wo wv
end Go.Proofs.YtfhoemgpilpapaaGreat
