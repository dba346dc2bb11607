/- DrPb, what is needed of it. -/
import Derived.Test.YtcankpiidjhhpaaYDrPa
namespace Go.Proofs.Ytcankpiidjhhpaa
open Go Go.ChangeShapes Go.WideShapes Go.ChangeAt Go.RowKit Go.Lib
set_option linter.unusedVariables false
set_option linter.unusedSimpArgs false
set_option maxRecDepth 100000
/-- A cell of a list of one's own is written. -/
theorem flat_set {α : Type} {c : α → List Value} {s : Nat} (hs : ∀ x, (c x).length = s) : ∀ (l : List α) (k j : Nat) (x y : α) (v : Value), l[k]? = some x → j < s → c y = (c x).set j v → (l.flatMap c).set (k * s + j) v = (l.set k y).flatMap c := by
  intro l
  induction l with
  | nil => intro k j x y v h; simp at h
  | cons z l ih =>
    intro k j x y v h hj hc
    cases k with
    | zero =>
      simp at h
      subst h
      simp only [List.flatMap_cons, List.set_cons_zero, Nat.zero_mul, Nat.zero_add]
      rw [List.set_append_left _ _ (by rw [hs]; exact hj), hc]
    | succ k =>
      simp only [List.getElem?_cons_succ] at h
      simp only [List.flatMap_cons, List.set_cons_succ]
      have e : (k + 1) * s + j = s + (k * s + j) := by rw [Nat.add_mul, Nat.one_mul]; omega
      rw [List.set_append_right _ _ (by rw [hs, e]; omega), hs, e, Nat.add_sub_cancel_left, ih k j x y v h hj hc]
theorem own_cell {w : World} {lo size n c j : Nat} {E : TypeId} {A : Option Addr} {xs : List Value} (h : w.ownsRow lo E size (.slice A n c) n xs) (hj : j < n * size) :
    ∃ g, A = some ⟨g, 0, none⟩ ∧ lo ≤ g ∧ g < w.heap.size ∧ n ≤ c ∧ (∃ u, w.cell? ⟨g, j, none⟩ = some u) ∧ w.frozen? ⟨g, j, none⟩ = false := by
  have hn : 0 < n := by
    rcases Nat.eq_zero_or_pos n with h0 | h0
    · subst h0; simp at hj
    · exact h0
  obtain ⟨A', c', e, hF⟩ := fr_of_own h
  cases e
  obtain ⟨g, cap, rfl, hlo, hhi, hnc, rfl, hcm, f, hrow, hf⟩ := hF.row hn
  exact ⟨g, rfl, hlo, hhi, hnc, ⟨_, hrow.cell (i := j) (Nat.lt_of_lt_of_le hj (Nat.mul_le_mul_right _ hnc))⟩, hrow.frozen j⟩
theorem own_setc {w : World} {lo size n c g j : Nat} {E : TypeId} {xs : List Value} (h : w.ownsRow lo E size (.slice (some ⟨g, 0, none⟩) n c) n xs) (hj : j < n * size) (v : Value) : (w.setCell ⟨g, j, none⟩ v).ownsRow lo E size (.slice (some ⟨g, 0, none⟩) n c) n (xs.set j v) := by
  have hn : 0 < n := by
    rcases Nat.eq_zero_or_pos n with h0 | h0
    · subst h0; simp at hj
    · exact h0
  obtain ⟨A', c', e, hF⟩ := fr_of_own h
  cases e
  obtain ⟨g', cap, e, hlo, hhi, hnc, rfl, hcm, f, hrow, hf⟩ := hF.row hn
  cases e
  refine ((fr_of_rowcap (hrow.set j v) hlo hhi hnc hcm (by rw [List.length_set]; exact hF.len) fun i u hu => ?_ : Fr _ lo w.heap.size E size _ n c (xs.set j v)).2 hn).1
  rw [List.getElem?_set] at hu
  by_cases e : j = i
  · subst e
    rw [if_pos rfl, if_pos (by rw [hF.len]; exact hj)] at hu
    rw [if_pos rfl]
    simpa using hu
  · rw [if_neg e] at hu
    rw [if_neg (fun e' => e e'.symm)]
    exact hf i u hu
set_option maxHeartbeats 8000000 in
theorem opsa_any (g n cap : Nat) (A : Option Addr) (w : World) (hn : n ≤ maxLen) (hc : Cur w g A n cap) :
    Calls Try.prog 70 #[.pointer (some ⟨g, 0, none⟩)] w (DrwL 49 4 17 TOp.cells TOp.fit g A n cap w) := by
  have HC0 := Lib.hid hc
  have HLT := Lib.hid hc.lt
  clear hc
  go_enter Try.func70, Try.ntmps70
  go_wp2_with fail
  refine (ops_any g n cap A _ hn HC0.out).mono ?_
  rintro e w1 ⟨v, l, rfl, hl, hu, ho, hc, hg⟩
  have HU := Lib.hid hu
  have HO := Lib.hid ho
  have HC := Lib.hid hc
  have HG := Lib.hid hg
  obtain ⟨Al, cl, rfl, hFl⟩ := fr_of_own ho
  have hcl := hFl.cap
  clear hu ho hc hg hFl HC0
  by_cases hz : l.length = 0
  · have hz0 : ((l.length : Int) == 0) = true := by simp [hz]
    have hzd : decide ((l.length : Int) = 0) = true := by simp [hz]
    have HZ := Lib.hid hz
    clear hz
    go_wp2_with fail
    go_ret
    exact ⟨_, l, rfl, by have := HZ.out; omega, HU.out, HO.out, HC.out, HG.out⟩
  · have hz0 : ((l.length : Int) == 0) = false := by rw [Bool.eq_false_iff]; intro h; rw [beq_iff_eq] at h; omega
    have hzd : decide ((l.length : Int) = 0) = false := decide_eq_false (by omega)
    go_wp2_with fail
    refine (below_any g n cap A (l.length : Int) _ hn HC.out (by omega) (by omega)).mono ?_
    rintro e w2 ⟨yi, hyi0, hyi1, rfl, hc, hg⟩
    obtain ⟨i, rfl⟩ := Int.eq_ofNat_of_zero_le hyi0
    have hi : i < l.length := by omega
    have hile : (i : Int) < (l.length : Int) := by omega
    replace HO := Lib.hid (dr_own HO.out HLT.out hg)
    replace HC := Lib.hid hc
    replace HG := Lib.hid (grown_both HG.out hg)
    clear hc hg
    obtain ⟨x, hx⟩ : ∃ x, l[i]? = some x := ⟨_, List.getElem?_eq_getElem hi⟩
    have HXI := Lib.hid hx
    clear hx
    go_wp2_with fail
    refine (below_any g n cap A 12 _ hn HC.out (by omega) (by omega)).mono ?_
    rintro e w3 ⟨y, hy0, hy1, rfl, hc, hg⟩
    replace HO := Lib.hid (dr_own HO.out HLT.out hg)
    replace HC := Lib.hid hc
    replace HG := Lib.hid (grown_both HG.out hg)
    clear hc hg
    by_cases q0 : y = 0
    · skip
      subst q0
      have LT := Lib.hid (box_new w3 3 #[.int .i64 0, .int .i64 6, .int .i64 5])
      have HO1 := Lib.hid (dr_own_al HO.out (.cells #[.int .i64 0, .int .i64 6, .int .i64 5] 3))
      have HC1 := Lib.hid (HC.out.new (.cells #[.int .i64 0, .int .i64 6, .int .i64 5] 3))
      have HG1 := Lib.hid (dr_al HG.out (.cells #[.int .i64 0, .int .i64 6, .int .i64 5] 3))
      have hlg : g < w3.heap.size := HC.out.lt
      clear HO HC HG
      go_wp2_with fail
      refine (int_any g n cap A [0, 6, 5] w3.heap.size (0) 6 _ hn HC1.out (by omega) LT.out (by decide) (by decide) (by decide)).mono ?_
      rintro e w4 ⟨z, hz0, hz1, rfl, hc, hg⟩
      have HO := Lib.hid (dr_own HO1.out HLT.out hg)
      have HC := Lib.hid hc
      have HG := Lib.hid (grown_both HG1.out hg)
      clear hc hg HO1 HC1 HG1 LT
      have hL := HLT.out
      obtain ⟨gr, e, hlo, hgr, hic, ⟨u0, d1⟩, d2⟩ := own_cell (j := i * 4) HO.out (by omega)
      cases e
      have hx' : l[i]? = some x := HXI.out
      have HS1 := Lib.hid (own_setc (j := i * 4) HO.out (by omega) (.int .i64 z))
      have HS2 := Lib.hid (show (l.flatMap TOp.cells).set (i * 4) (.int .i64 z) = (l.set i ⟨z, x.f1, x.f2, x.f3⟩).flatMap TOp.cells from flat_set TOp.len l i 0 x ⟨z, x.f1, x.f2, x.f3⟩ (.int .i64 z) hx' (by omega) rfl)
      have HFx := Lib.hid (HU.out x (List.mem_of_getElem? hx'))
      have HUU := Lib.hid (show ∀ t ∈ l.set i ⟨z, x.f1, x.f2, x.f3⟩, TOp.fit t from fun t ht => by
        rcases List.mem_or_eq_of_mem_set ht with h | rfl
        · exact HU.out t h
        · have hf := HFx.out
          unfold TOp.fit at hf ⊢
          simp only
          omega)
      have HCC := Lib.hid (dr_cur_put (p := ⟨gr, i * 4, none⟩) (u := .int .i64 z) HC.out (by show g < gr; omega))
      have HGG := Lib.hid (dr_put (p := ⟨gr, i * 4, none⟩) (u := .int .i64 z) HG.out (by show w.heap.size ≤ gr; omega))
      clear hx'
      go_wp2_with fail
      go_ret
      exact ⟨_, l.set i ⟨z, x.f1, x.f2, x.f3⟩, rfl, by rw [List.length_set]; omega, HUU.out, by rw [List.length_set, ← HS2.out]; exact HS1.out, HCC.out, HGG.out⟩
    · skip
      have r0 : (y == 0) = false := by simp [q0]
      have t0 : decide (y = 0) = false := by simp [q0]
      by_cases q1 : y = 1
      · skip
        subst q1
        have LT := Lib.hid (box_new w3 3 #[.int .i64 (-1), .int .i64 5, .int .i64 6])
        have HO1 := Lib.hid (dr_own_al HO.out (.cells #[.int .i64 (-1), .int .i64 5, .int .i64 6] 3))
        have HC1 := Lib.hid (HC.out.new (.cells #[.int .i64 (-1), .int .i64 5, .int .i64 6] 3))
        have HG1 := Lib.hid (dr_al HG.out (.cells #[.int .i64 (-1), .int .i64 5, .int .i64 6] 3))
        have hlg : g < w3.heap.size := HC.out.lt
        clear HO HC HG
        go_wp2_with fail
        refine (int_any g n cap A [-1, 5, 6] w3.heap.size (-1) 6 _ hn HC1.out (by omega) LT.out (by decide) (by decide) (by decide)).mono ?_
        rintro e w4 ⟨z, hz0, hz1, rfl, hc, hg⟩
        have HO := Lib.hid (dr_own HO1.out HLT.out hg)
        have HC := Lib.hid hc
        have HG := Lib.hid (grown_both HG1.out hg)
        clear hc hg HO1 HC1 HG1 LT
        have hL := HLT.out
        obtain ⟨gr, e, hlo, hgr, hic, ⟨u0, d1⟩, d2⟩ := own_cell (j := i * 4 + 1) HO.out (by omega)
        cases e
        have hx' : l[i]? = some x := HXI.out
        have HS1 := Lib.hid (own_setc (j := i * 4 + 1) HO.out (by omega) (.int .i64 z))
        have HS2 := Lib.hid (show (l.flatMap TOp.cells).set (i * 4 + 1) (.int .i64 z) = (l.set i ⟨x.f0, z, x.f2, x.f3⟩).flatMap TOp.cells from flat_set TOp.len l i 1 x ⟨x.f0, z, x.f2, x.f3⟩ (.int .i64 z) hx' (by omega) rfl)
        have HFx := Lib.hid (HU.out x (List.mem_of_getElem? hx'))
        have HUU := Lib.hid (show ∀ t ∈ l.set i ⟨x.f0, z, x.f2, x.f3⟩, TOp.fit t from fun t ht => by
          rcases List.mem_or_eq_of_mem_set ht with h | rfl
          · exact HU.out t h
          · have hf := HFx.out
            unfold TOp.fit at hf ⊢
            simp only
            omega)
        have HCC := Lib.hid (dr_cur_put (p := ⟨gr, i * 4 + 1, none⟩) (u := .int .i64 z) HC.out (by show g < gr; omega))
        have HGG := Lib.hid (dr_put (p := ⟨gr, i * 4 + 1, none⟩) (u := .int .i64 z) HG.out (by show w.heap.size ≤ gr; omega))
        clear hx'
        go_wp2_with fail
        go_ret
        exact ⟨_, l.set i ⟨x.f0, z, x.f2, x.f3⟩, rfl, by rw [List.length_set]; omega, HUU.out, by rw [List.length_set, ← HS2.out]; exact HS1.out, HCC.out, HGG.out⟩
      · skip
        have r1 : (y == 1) = false := by simp [q1]
        have t1 : decide (y = 1) = false := by simp [q1]
        by_cases q2 : y = 2
        · skip
          subst q2
          go_wp2_with fail
          refine (raw_any g n cap A _ hn HC.out).mono ?_
          rintro e w4 ⟨z, hz0, hz1, rfl, hc, hg⟩
          replace HO := Lib.hid (dr_own HO.out HLT.out hg)
          replace HC := Lib.hid hc
          replace HG := Lib.hid (grown_both HG.out hg)
          clear hc hg
          have hL := HLT.out
          obtain ⟨gr, e, hlo, hgr, hic, ⟨u0, d1⟩, d2⟩ := own_cell (j := i * 4 + 2) HO.out (by omega)
          cases e
          have hx' : l[i]? = some x := HXI.out
          have HS1 := Lib.hid (own_setc (j := i * 4 + 2) HO.out (by omega) (.int .i64 z))
          have HS2 := Lib.hid (show (l.flatMap TOp.cells).set (i * 4 + 2) (.int .i64 z) = (l.set i ⟨x.f0, x.f1, z, x.f3⟩).flatMap TOp.cells from flat_set TOp.len l i 2 x ⟨x.f0, x.f1, z, x.f3⟩ (.int .i64 z) hx' (by omega) rfl)
          have HFx := Lib.hid (HU.out x (List.mem_of_getElem? hx'))
          have HUU := Lib.hid (show ∀ t ∈ l.set i ⟨x.f0, x.f1, z, x.f3⟩, TOp.fit t from fun t ht => by
            rcases List.mem_or_eq_of_mem_set ht with h | rfl
            · exact HU.out t h
            · have hf := HFx.out
              unfold TOp.fit at hf ⊢
              simp only
              omega)
          have HCC := Lib.hid (dr_cur_put (p := ⟨gr, i * 4 + 2, none⟩) (u := .int .i64 z) HC.out (by show g < gr; omega))
          have HGG := Lib.hid (dr_put (p := ⟨gr, i * 4 + 2, none⟩) (u := .int .i64 z) HG.out (by show w.heap.size ≤ gr; omega))
          clear hx'
          go_wp2_with fail
          go_ret
          exact ⟨_, l.set i ⟨x.f0, x.f1, z, x.f3⟩, rfl, by rw [List.length_set]; omega, HUU.out, by rw [List.length_set, ← HS2.out]; exact HS1.out, HCC.out, HGG.out⟩
        · skip
          have r2 : (y == 2) = false := by simp [q2]
          have t2 : decide (y = 2) = false := by simp [q2]
          by_cases q3 : y = 3
          · skip
            subst q3
            have LT := Lib.hid (box_new w3 3 #[.int .i64 (-1), .int .i64 1, .int .i64 6])
            have HO1 := Lib.hid (dr_own_al HO.out (.cells #[.int .i64 (-1), .int .i64 1, .int .i64 6] 3))
            have HC1 := Lib.hid (HC.out.new (.cells #[.int .i64 (-1), .int .i64 1, .int .i64 6] 3))
            have HG1 := Lib.hid (dr_al HG.out (.cells #[.int .i64 (-1), .int .i64 1, .int .i64 6] 3))
            have hlg : g < w3.heap.size := HC.out.lt
            clear HO HC HG
            go_wp2_with fail
            refine (int_any g n cap A [-1, 1, 6] w3.heap.size (-1) 6 _ hn HC1.out (by omega) LT.out (by decide) (by decide) (by decide)).mono ?_
            rintro e w4 ⟨z, hz0, hz1, rfl, hc, hg⟩
            have HO := Lib.hid (dr_own HO1.out HLT.out hg)
            have HC := Lib.hid hc
            have HG := Lib.hid (grown_both HG1.out hg)
            clear hc hg HO1 HC1 HG1 LT
            have hL := HLT.out
            obtain ⟨gr, e, hlo, hgr, hic, ⟨u0, d1⟩, d2⟩ := own_cell (j := i * 4 + 3) HO.out (by omega)
            cases e
            have hx' : l[i]? = some x := HXI.out
            have HS1 := Lib.hid (own_setc (j := i * 4 + 3) HO.out (by omega) (.int .i64 z))
            have HS2 := Lib.hid (show (l.flatMap TOp.cells).set (i * 4 + 3) (.int .i64 z) = (l.set i ⟨x.f0, x.f1, x.f2, z⟩).flatMap TOp.cells from flat_set TOp.len l i 3 x ⟨x.f0, x.f1, x.f2, z⟩ (.int .i64 z) hx' (by omega) rfl)
            have HFx := Lib.hid (HU.out x (List.mem_of_getElem? hx'))
            have HUU := Lib.hid (show ∀ t ∈ l.set i ⟨x.f0, x.f1, x.f2, z⟩, TOp.fit t from fun t ht => by
              rcases List.mem_or_eq_of_mem_set ht with h | rfl
              · exact HU.out t h
              · have hf := HFx.out
                unfold TOp.fit at hf ⊢
                simp only
                omega)
            have HCC := Lib.hid (dr_cur_put (p := ⟨gr, i * 4 + 3, none⟩) (u := .int .i64 z) HC.out (by show g < gr; omega))
            have HGG := Lib.hid (dr_put (p := ⟨gr, i * 4 + 3, none⟩) (u := .int .i64 z) HG.out (by show w.heap.size ≤ gr; omega))
            clear hx'
            go_wp2_with fail
            go_ret
            exact ⟨_, l.set i ⟨x.f0, x.f1, x.f2, z⟩, rfl, by rw [List.length_set]; omega, HUU.out, by rw [List.length_set, ← HS2.out]; exact HS1.out, HCC.out, HGG.out⟩
          · skip
            have r3 : (y == 3) = false := by simp [q3]
            have t3 : decide (y = 3) = false := by simp [q3]
            by_cases q4 : y = 4
            · skip
              subst q4
              go_wp2_with fail
              go_loopg [3] 17 (fun gg v wr => ∃ (m : List TOp), m.length ≤ 17 ∧ 17 - m.length ≤ gg ∧ Hid (∀ t ∈ m, TOp.fit t) ∧ Hid (wr.ownsRow w.heap.size 49 4 v m.length (m.flatMap TOp.cells)) ∧ Hid (Cur wr g A n cap) ∧ Hid (w.grownBy wr (some g)))
              case atStart => exact ⟨l, by omega, by omega, HU, HO, HC, HG⟩
              case round =>
                clear HO HC HG HU
                obtain ⟨m, hm17, hgm, HU, HO, HC, HG⟩ := hrel
                obtain ⟨Am, cm, rfl, hFm⟩ := fr_of_own HO.out
                have hcm := hFm.cap
                clear hFm
                have HSZ := Lib.hid HG.out.size
                by_cases hlt : m.length < 17
                · have hlti : (m.length : Int) < 17 := by omega
                  have HX := Lib.hid (show m.flatMap TOp.cells ++ (#[.int .i64 2, .int .i64 0, .int .i64 0, .int .i64 0] : Array Value).toList = (m ++ [(⟨2, 0, 0, 0⟩ : TOp)]).flatMap TOp.cells by simp [List.flatMap_append, TOp.cells])
                  have HXB := Lib.hid (show ∀ t ∈ m ++ [(⟨2, 0, 0, 0⟩ : TOp)], TOp.fit t from fun t ht => by
                    simp only [List.mem_append, List.mem_singleton] at ht
                    rcases ht with ht | rfl
                    · exact HU.out t ht
                    · unfold TOp.fit; simp only; omega)
                  go_wp2_with (at_builtin; refine wp_app_lit rfl _ _ _ rfl w.heap.size 49 (.agg #[.int .i64 0, .int .i64 0, .int .i64 0, .int .i64 0]) 4 32 Try.underlying38 infoOp rfl (by decide) _ _ _ rfl HO.out #[.int .i64 2, .int .i64 0, .int .i64 0, .int .i64 0] 1 1 _ rfl (by simp) rfl (onesOp ⟨2, 0, 0, 0⟩) (by unfold maxLen; omega) (by omega) HSZ.out ?_; intro v1 w6 ho2 hb2; have HO2 := Lib.hid ho2; have HB2 := Lib.hid hb2; clear ho2 hb2)
                  go_roundg (17 - (m.length + 1))
                  case measure => omega
                  case rel => exact ⟨m ++ [(⟨2, 0, 0, 0⟩ : TOp)], by simp only [List.length_append, List.length_singleton]; omega, by simp only [List.length_append, List.length_singleton]; omega, HXB, Lib.hid (by rw [← HX.out]; simpa using HO2.out), Lib.hid (dr_cur_low HC.out HLT.out HB2.out), Lib.hid (dr_low HG.out (Nat.le_refl _) HB2.out)⟩
                · have hlti : ¬ (m.length : Int) < 17 := by omega
                  go_wp2_with fail
                  go_ret
                  exact ⟨_, m, rfl, hm17, HU.out, HO.out, HC.out, HG.out⟩
            · skip
              have r4 : (y == 4) = false := by simp [q4]
              have t4 : decide (y = 4) = false := by simp [q4]
              go_wp2_with fail
              go_ret
              exact ⟨_, l, rfl, by omega, HU.out, HO.out, HC.out, HG.out⟩
end Go.Proofs.Ytcankpiidjhhpaa
