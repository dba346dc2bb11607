/- IsStore, of the program and of the model. -/
import Derived.Test.YthipflbjnnplaabKeys
import Derived.Test.YthipflbjnnplaabStB
import Derived.Test.YthipflbjnnplaabASt
import Derived.Deep.LoopGhost
import Derived.StillTailTactics
import Derived.IntWalk
import Derived.BigQuiet
import Derived.Deep.QuietTactic
namespace Go.Proofs.Ythipflbjnnplaab
open Go Go.ChangeShapes Go.WideShapes Go.ChangeAt Go.RowKit Go.Lib
set_option linter.unusedVariables false
set_option linter.unusedSimpArgs false
set_option maxRecDepth 100000
def ascAt (l : List TStored) (i : Nat) : Bool := match i with
  | 0 => true
  | j + 1 => match l[j]?, l[j + 1]? with | some x, some y => mStLess x y | _, _ => true
def mAsc (l : List TStored) : Bool := (List.range l.length).all (ascAt l)
def mIsStore (l : List TStored) : Bool := decide (l.length ≤ 24) && l.all mStVals && mAsc l
theorem ascAt_succ {l : List TStored} {j : Nat} {x y : TStored} (hx : l[j]? = some x) (hy : l[j + 1]? = some y) : ascAt l (j + 1) = mStLess x y := by unfold ascAt; simp only [hx, hy]
theorem asc_step {l : List TStored} {k : Nat} (h : (List.range k).all (ascAt l) = true) (hk : ascAt l k = true) : (List.range (k + 1)).all (ascAt l) = true := by
  rw [List.range_succ, List.all_append, h]; simp [hk]
theorem asc_fails {l : List TStored} {k : Nat} (hk : k < l.length) (h : ascAt l k = false) : mAsc l = false := by
  unfold mAsc
  rw [List.all_eq_false]
  exact ⟨k, by simpa using hk, by rw [h]; simp⟩
set_option maxHeartbeats 16000000 in
theorem impl_IsStoreC (l : List TStored) (A : Option Addr) (n c lo hi : Nat) (w : World) (hn : n ≤ 1048576) (hr : Rd w lo hi 4 A n (cStored l)) (hcap : n ≤ c) (H : Hid (cStoredOk l)) :
    Calls Try.prog 18 #[.slice A n c] w (Says (.bool (mIsStore l)) w) := by
  have HL := Lib.hid (rd_len TStored.len hr (by decide))
  have HR := Lib.hid hr
  by_cases h24 : n ≤ 24
  · have HC := all_St mStVals #[] l A n c lo hi w (by omega) hcap hr (fun W x _ _ => impl_stVals x W)
    clear hr
    have gt : decide (24 < (n : Int)) = false := by simp; omega
    cases hq : l.all mStVals with
    | false =>
      have HE := Lib.hid (show mIsStore l = false by unfold mIsStore; rw [hq]; simp)
      rw [hq] at HC
      replace HC := Lib.hid HC
      clear hq
      go_enter Try.func18, Try.ntmps18
      go_wp2_with fail
      refine HC.out.mono ?_
      rintro e w1 ⟨rfl, hb1⟩
      have HB1 := Lib.hid hb1
      clear hb1
      go_wp2_with fail
      go_ret
      exact ⟨by rw [HE.out]; rfl, HB1.out⟩
    | true =>
      have HV := Lib.hid (show mIsStore l = mAsc l by unfold mIsStore; rw [hq, decide_eq_true (by rw [HL.out]; exact h24)]; rfl)
      rw [hq] at HC
      replace HC := Lib.hid HC
      clear hq
      go_enter Try.func18, Try.ntmps18
      go_wp2_with fail
      refine HC.out.mono ?_
      rintro e w1 ⟨rfl, hb1⟩
      have HB1 := Lib.hid hb1
      clear hb1
      go_wp2_with fail
      go_loopg [3] n (fun gg i wr => ∃ k : Nat, (k ≤ n ∨ k = 1) ∧ 1 ≤ k ∧ n - k ≤ gg ∧ i = .int .i64 k ∧ Hid (Below w.heap.size w wr) ∧ Hid ((List.range k).all (ascAt l) = true))
      case atStart => exact ⟨1, .inr rfl, Nat.le_refl _, by omega, rfl, HB1, Lib.hid rfl⟩
      case round =>
        obtain ⟨k, hk, hk1, hg, rfl, HB, HF⟩ := hrel
        by_cases hlt : k < n
        · obtain ⟨j, rfl⟩ : ∃ j, k = j + 1 := ⟨k - 1, by omega⟩
          obtain ⟨b, off, x, hA, _, _, hz, hc⟩ := rd_elem (k := j) TStored.len (HR.out.new HB.out) HL.out (by omega)
          obtain ⟨b', off', y, hA', _, _, hz', hc'⟩ := rd_elem (k := j + 1) TStored.len (HR.out.new HB.out) HL.out hlt
          subst hA
          simp only [Option.some.injEq, Addr.mk.injEq, and_true] at hA'
          obtain ⟨rfl, rfl⟩ := hA'
          have c0 : wr.cell? ⟨b, off + j * 4, none⟩ = _ := hc 0 _ rfl
          have c1 := hc 1 _ rfl
          have c2 := hc 2 _ rfl
          have c3 := hc 3 _ rfl
          have d0 : wr.cell? ⟨b, off + (j + 1) * 4, none⟩ = _ := hc' 0 _ rfl
          have d1 := hc' 1 _ rfl
          have d2 := hc' 2 _ rfl
          have d3 := hc' 3 _ rfl
          have HAt := Lib.hid (ascAt_succ hz hz')
          have hj : j + 1 < l.length := by have := HL.out; omega
          have HLt := Lib.hid hj
          have hj0 : j < n := by omega
          have t1 : ((j : Int) + 1).toNat = j + 1 := by omega
          have t2 : (0 : Int) ≤ (j : Int) + 1 := by omega
          have t3 : (j : Int) + 1 < n := by omega
          have q1 : IntKind.i64.wrap ((j : Nat) : Int) = (j : Int) := IntWalk.i64_in _ (by omega)
          clear hz hz' hc hc' hj
          cases hs : mStLess x y with
          | true =>
            have HK : Hid (decide (0 ≤ mKeys x y) = false) := Lib.hid (by rw [mKeys_ge, hs]; rfl)
            have HE := Lib.hid (asc_step HF.out (HAt.out.trans hs))
            clear hs
            have HD := Lib.hid HB.out.drew
            go_wp2_with fail
            go_still_tail 9, (by kernel_rfl)
            change wpList _ _ _ _ _ wr.drew
            generalize wr.drew = w2 at HD ⊢
            go_wp2_with fail
            refine (impl_compareKeys x y _).mono ?_
            rintro e w3 ⟨rfl, hb3⟩
            have HB3 := Lib.hid (below_trans HD.out hb3 (Nat.le_refl _))
            clear hb3
            have hK := HK.out
            generalize mKeys x y = q at hK
            go_wp2_with fail
            go_roundg (n - (j + 1 + 1))
            case measure => omega
            case rel => exact ⟨j + 1 + 1, by omega, by omega, by omega, by go_num, HB3, HE⟩
          | false =>
            have HK : Hid (decide (0 ≤ mKeys x y) = true) := Lib.hid (by rw [mKeys_ge, hs]; rfl)
            have HE := Lib.hid (HV.out.trans (asc_fails HLt.out (HAt.out.trans hs)))
            clear hs
            have HD := Lib.hid HB.out.drew
            go_wp2_with fail
            go_still_tail 9, (by kernel_rfl)
            change wpList _ _ _ _ _ wr.drew
            generalize wr.drew = w2 at HD ⊢
            go_wp2_with fail
            refine (impl_compareKeys x y _).mono ?_
            rintro e w3 ⟨rfl, hb3⟩
            have HB3 := Lib.hid (below_trans HD.out hb3 (Nat.le_refl _))
            clear hb3
            have hK := HK.out
            generalize mKeys x y = q at hK
            go_wp2_with fail
            go_ret
            exact ⟨by rw [HE.out]; rfl, HB3.out⟩
        · have HE := Lib.hid (show mIsStore l = true by
            rw [HV.out]; unfold mAsc
            rw [List.all_eq_true]
            intro i hi
            have := HF.out
            rw [List.all_eq_true] at this
            exact this i (by simp at hi ⊢; have := HL.out; omega))
          go_wp2_with fail
          go_ret
          exact ⟨by rw [HE.out]; rfl, HB.out⟩
  · have gt : decide (24 < (n : Int)) = true := by simp; omega
    have HE := Lib.hid (show mIsStore l = false by unfold mIsStore; rw [decide_eq_false (by rw [HL.out]; exact h24)]; rfl)
    clear hr
    go_enter Try.func18, Try.ntmps18
    go_wp2_with fail
    go_ret
    exact ⟨by rw [HE.out]; rfl, Below.refl _ _⟩

theorem st_all_step {α : Type} {p : α → Bool} {l : List α} {k : Nat} {x : α} (h : (l.take k).all p = true) (hz : l[k]? = some x) (hq : p x = true) : (l.take (k + 1)).all p = true := by
  rw [List.take_add_one, hz, List.all_append, h]; simp [hq]
theorem st_all_fails {α : Type} {p : α → Bool} {l : List α} {k : Nat} {x : α} (hz : l[k]? = some x) (hq : p x = false) : l.all p = false :=
  List.all_eq_false.2 ⟨x, List.mem_of_getElem? hz, by rw [hq]; simp⟩
set_option maxHeartbeats 40000000 in
theorem spec_IsStore (l : List TStored) (A : Option Addr) (n c lo hi : Nat) (w : World) (hn : n ≤ 1048576) (hr : Rd w lo hi 4 A n (cStored l)) (hcap : n ≤ c) (H : Hid (cStoredOk l)) :
    Calls Try.prog 16 #[.slice A n c] w (Says (.bool (mIsStore l)) w) := by
  have HL := Lib.hid (rd_len TStored.len hr (by decide))
  have HR := Lib.hid hr
  clear hr
  go_enter Try.func16, Try.ntmps16
  go_wp2_with fail
  go_loopg [3] n (fun gg i wr => ∃ k : Nat, k ≤ n ∧ n - k ≤ gg ∧ i = .int .i64 k ∧ Hid (Below w.heap.size w wr) ∧ Hid ((l.take k).all mStVals = true) ∧ Hid ((List.range k).all (ascAt l) = true))
  case atStart => exact ⟨0, Nat.zero_le _, by omega, rfl, Lib.hid (Below.refl _ _), Lib.hid (by simp), Lib.hid rfl⟩
  case round =>
    obtain ⟨k, hk, hg, rfl, HB, HF, HG⟩ := hrel
    by_cases hlt : k < n
    · obtain ⟨b, off, x, rfl, _, _, hz, hc⟩ := rd_elem TStored.len (HR.out.new HB.out) HL.out hlt
      have c0 : wr.cell? ⟨b, off + k * 4, none⟩ = _ := hc 0 _ rfl
      have c1 := hc 1 _ rfl
      have c2 := hc 2 _ rfl
      have c3 := hc 3 _ rfl
      have HZ := Lib.hid hz
      clear hz hc
      by_cases v0 : (inR x.f0 1 5) = true
      · skip
        by_cases v1 : (inR x.f1 0 9) = true
        · skip
          by_cases v2 : (inR x.f2 0 999) = true
          · skip
            by_cases v3 : (inR x.f3 1 999) = true
            · skip
              have HW := Lib.hid (st_all_step HF.out HZ.out (show mStVals x = true by simp [mStVals, v0, v1, v2, v3]))
              by_cases hk0 : k = 0
              · have HG := Lib.hid (asc_step HG.out (show ascAt l k = true by rw [hk0]; rfl))
                have g0 : decide ((0 : Int) < (k : Int)) = false := by simp; omega
                have g1 : decide (0 < k) = false := by simp; omega
                have HK0 := Lib.hid hk0
                clear hk0
                go_wp2_with (first | (go_at_call 70; refine (spec_in _ _ _ _).mono ?_; rintro e w1 ⟨rfl, rfl⟩) | fail)
                go_quiet (fail)
                go_wp2_with fail
                go_roundg (n - (k + 1))
                case measure => omega
                case rel => exact ⟨k + 1, by omega, by omega, by go_num, Lib.hid (by repeat (first | exact HB.out | (refine below_dN ?_ _) | (refine Below.setCell ?_ (by have := HB.out.size; first | omega | (simp <;> omega)) _) | (refine Below.alloc ?_ (by have := HB.out.size; first | omega | (simp <;> omega)) _))), HW, HG⟩
              · obtain ⟨j, rfl⟩ : ∃ j, k = j + 1 := ⟨k - 1, by omega⟩
                obtain ⟨b', off', y, hA', _, _, hz', hc'⟩ := rd_elem (k := j) TStored.len (HR.out.new HB.out) HL.out (by omega)
                simp only [Option.some.injEq, Addr.mk.injEq, and_true] at hA'
                obtain ⟨rfl, rfl⟩ := hA'
                have d0 : wr.cell? ⟨b, off + j * 4, none⟩ = _ := hc' 0 _ rfl
                have d1 := hc' 1 _ rfl
                have d2 := hc' 2 _ rfl
                have d3 := hc' 3 _ rfl
                have HAt := Lib.hid (ascAt_succ hz' HZ.out)
                have m0 : b < wr.heap.size := World.block_lt_of_cell? _ _ c0
                have n0 : b ≠ wr.heap.size := Nat.ne_of_lt m0
                clear hz' hc'
                have hj0 : j < n := by omega
                have t1 : ((j : Int) + 1).toNat = j + 1 := by omega
                have t2 : (0 : Int) ≤ (j : Int) + 1 := by omega
                have t3 : (j : Int) + 1 < n := by omega
                have q1 : IntKind.i64.wrap ((j : Nat) : Int) = (j : Int) := IntWalk.i64_in _ (by omega)
                have HBx := Lib.hid (box_new wr 98 #[.int .i64 x.f0, .int .i64 x.f1, .int .i64 x.f2, .int .i64 x.f3])
                have HBa := Lib.hid (HB.out.alloc HB.out.size (.cells #[.int .i64 x.f0, .int .i64 x.f1, .int .i64 x.f2, .int .i64 x.f3] 98))
                cases hs : mStLess y x with
                | true =>
                  have HG := Lib.hid (asc_step HG.out (HAt.out.trans hs))
                  have HC : Hid (∀ W, Calls Try.prog 71 #[vStored y, vStored x] W (Says (.bool true) W)) := Lib.hid fun W => by have := spec_less y x W; rwa [hs] at this
                  clear hs
                  go_wp2_with (first | (go_at_call 70; refine (spec_in _ _ _ _).mono ?_; rintro e w1 ⟨rfl, rfl⟩) | fail)
                  have y0 := cell_al (o := (.cells #[.int .i64 x.f0, .int .i64 x.f1, .int .i64 x.f2, .int .i64 x.f3] 98)) d0
                  have y1 := cell_al (o := (.cells #[.int .i64 x.f0, .int .i64 x.f1, .int .i64 x.f2, .int .i64 x.f3] 98)) d1
                  have y2 := cell_al (o := (.cells #[.int .i64 x.f0, .int .i64 x.f1, .int .i64 x.f2, .int .i64 x.f3] 98)) d2
                  have y3 := cell_al (o := (.cells #[.int .i64 x.f0, .int .i64 x.f1, .int .i64 x.f2, .int .i64 x.f3] 98)) d3
                  have x0 := HBx.out.at_ (j := 0) rfl
                  have x1 := HBx.out.at_ (j := 1) rfl
                  have x2 := HBx.out.at_ (j := 2) rfl
                  have x3 := HBx.out.at_ (j := 3) rfl
                  clear d0 d1 d2 d3 c0 c1 c2 c3 HBx
                  generalize wr.alloc (.cells #[.int .i64 x.f0, .int .i64 x.f1, .int .i64 x.f2, .int .i64 x.f3] 98) = W at HBa y0 y1 y2 y3 x0 x1 x2 x3 ⊢
                  go_still_tail 9, (by kernel_rfl)
                  have HD := Lib.hid HBa.out.drew
                  change wpList _ _ _ _ _ W.drew
                  generalize W.drew = w2 at HD ⊢
                  go_wp2_with fail
                  refine (HC.out _).mono ?_
                  rintro e w3 ⟨rfl, hb3⟩
                  have HB3 := Lib.hid (below_trans HD.out hb3 (Nat.le_refl _))
                  clear hb3
                  go_wp2_with fail
                  go_roundg (n - (j + 1 + 1))
                  case measure => omega
                  case rel => exact ⟨j + 1 + 1, by omega, by omega, by go_num, HB3, HW, HG⟩
                | false =>
                  have HE := Lib.hid (show mIsStore l = false by unfold mIsStore; rw [asc_fails (by have := HL.out; omega) (HAt.out.trans hs)]; simp)
                  have HC : Hid (∀ W, Calls Try.prog 71 #[vStored y, vStored x] W (Says (.bool false) W)) := Lib.hid fun W => by have := spec_less y x W; rwa [hs] at this
                  clear hs
                  go_wp2_with (first | (go_at_call 70; refine (spec_in _ _ _ _).mono ?_; rintro e w1 ⟨rfl, rfl⟩) | fail)
                  have y0 := cell_al (o := (.cells #[.int .i64 x.f0, .int .i64 x.f1, .int .i64 x.f2, .int .i64 x.f3] 98)) d0
                  have y1 := cell_al (o := (.cells #[.int .i64 x.f0, .int .i64 x.f1, .int .i64 x.f2, .int .i64 x.f3] 98)) d1
                  have y2 := cell_al (o := (.cells #[.int .i64 x.f0, .int .i64 x.f1, .int .i64 x.f2, .int .i64 x.f3] 98)) d2
                  have y3 := cell_al (o := (.cells #[.int .i64 x.f0, .int .i64 x.f1, .int .i64 x.f2, .int .i64 x.f3] 98)) d3
                  have x0 := HBx.out.at_ (j := 0) rfl
                  have x1 := HBx.out.at_ (j := 1) rfl
                  have x2 := HBx.out.at_ (j := 2) rfl
                  have x3 := HBx.out.at_ (j := 3) rfl
                  clear d0 d1 d2 d3 c0 c1 c2 c3 HBx
                  generalize wr.alloc (.cells #[.int .i64 x.f0, .int .i64 x.f1, .int .i64 x.f2, .int .i64 x.f3] 98) = W at HBa y0 y1 y2 y3 x0 x1 x2 x3 ⊢
                  go_still_tail 9, (by kernel_rfl)
                  have HD := Lib.hid HBa.out.drew
                  change wpList _ _ _ _ _ W.drew
                  generalize W.drew = w2 at HD ⊢
                  go_wp2_with fail
                  refine (HC.out _).mono ?_
                  rintro e w3 ⟨rfl, hb3⟩
                  have HB3 := Lib.hid (below_trans HD.out hb3 (Nat.le_refl _))
                  clear hb3
                  go_wp2_with fail
                  go_ret
                  exact ⟨by rw [HE.out]; rfl, HB3.out⟩
            · have v3 : (inR x.f3 1 999) = false := by simpa using v3
              have HE := Lib.hid (show mIsStore l = false by unfold mIsStore; rw [st_all_fails HZ.out (show mStVals x = false by simp [mStVals, v0, v1, v2, v3])]; simp)
              go_wp2_with (go_at_call 70; refine (spec_in _ _ _ _).mono ?_; rintro e w1 ⟨rfl, rfl⟩)
              go_ret
              exact ⟨by rw [HE.out]; rfl, by repeat (first | exact HB.out | (refine below_dN ?_ _) | (refine Below.setCell ?_ (by have := HB.out.size; first | omega | (simp <;> omega)) _) | (refine Below.alloc ?_ (by have := HB.out.size; first | omega | (simp <;> omega)) _))⟩
          · have v2 : (inR x.f2 0 999) = false := by simpa using v2
            have HE := Lib.hid (show mIsStore l = false by unfold mIsStore; rw [st_all_fails HZ.out (show mStVals x = false by simp [mStVals, v0, v1, v2])]; simp)
            go_wp2_with (go_at_call 70; refine (spec_in _ _ _ _).mono ?_; rintro e w1 ⟨rfl, rfl⟩)
            go_ret
            exact ⟨by rw [HE.out]; rfl, by repeat (first | exact HB.out | (refine below_dN ?_ _) | (refine Below.setCell ?_ (by have := HB.out.size; first | omega | (simp <;> omega)) _) | (refine Below.alloc ?_ (by have := HB.out.size; first | omega | (simp <;> omega)) _))⟩
        · have v1 : (inR x.f1 0 9) = false := by simpa using v1
          have HE := Lib.hid (show mIsStore l = false by unfold mIsStore; rw [st_all_fails HZ.out (show mStVals x = false by simp [mStVals, v0, v1])]; simp)
          go_wp2_with (go_at_call 70; refine (spec_in _ _ _ _).mono ?_; rintro e w1 ⟨rfl, rfl⟩)
          go_ret
          exact ⟨by rw [HE.out]; rfl, by repeat (first | exact HB.out | (refine below_dN ?_ _) | (refine Below.setCell ?_ (by have := HB.out.size; first | omega | (simp <;> omega)) _) | (refine Below.alloc ?_ (by have := HB.out.size; first | omega | (simp <;> omega)) _))⟩
      · have v0 : (inR x.f0 1 5) = false := by simpa using v0
        have HE := Lib.hid (show mIsStore l = false by unfold mIsStore; rw [st_all_fails HZ.out (show mStVals x = false by simp [mStVals, v0])]; simp)
        go_wp2_with (go_at_call 70; refine (spec_in _ _ _ _).mono ?_; rintro e w1 ⟨rfl, rfl⟩)
        go_ret
        exact ⟨by rw [HE.out]; rfl, by repeat (first | exact HB.out | (refine below_dN ?_ _) | (refine Below.setCell ?_ (by have := HB.out.size; first | omega | (simp <;> omega)) _) | (refine Below.alloc ?_ (by have := HB.out.size; first | omega | (simp <;> omega)) _))⟩
    · obtain rfl : k = n := by omega
      have HE := Lib.hid (show mIsStore l = decide ((k : Int) ≤ 24) by
        have h1 := HF.out
        rw [List.take_of_length_le (by have := HL.out; omega)] at h1
        have h2 : mAsc l = true := by unfold mAsc; rw [HL.out]; exact HG.out
        unfold mIsStore
        rw [h1, h2, Bool.and_true, Bool.and_true, HL.out]
        exact decide_eq_decide.2 (by omega))
      go_wp2_with fail
      go_ret
      exact ⟨by rw [HE.out]; rfl, HB.out⟩

end Go.Proofs.Ythipflbjnnplaab
