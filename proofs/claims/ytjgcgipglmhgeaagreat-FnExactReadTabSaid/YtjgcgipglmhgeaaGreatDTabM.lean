/- Slices of Tab: marked. No condition of its own. -/
import Derived.Test.YtjgcgipglmhgeaaGreatDTab
namespace Go.Proofs.YtjgcgipglmhgeaaGreat
open Go Go.ChangeShapes Go.WideShapes Go.ChangeAt Go.RowKit Go.Lib
set_option linter.unusedVariables false
set_option linter.unusedSimpArgs false
set_option maxRecDepth 100000
set_option maxHeartbeats 4000000

theorem mark_tabs (xs : List DTab) (A : Option Addr) (n c lo hi k0 : Nat) (w : World) (hn : n ≤ 1048576) (hz : ∀ x ∈ xs, x.dat.sz ≤ 1048576) (hk0 : k0 + DTab.cnts xs ≤ 4294967296) (hr : FrTab w lo hi A n c xs) (hw : hi ≤ w.heap.size) :
    Calls Tryz.prog 38 #[.slice A n c, .int .i64 (k0 : Int)] w (fun e w' => e = .returned (.int .i64 ((k0 + DTab.cnts xs : Nat) : Int)) ∧ Chg lo hi w w') := by
  have HL := Lib.hid hr.rd.len
  have HZS := Lib.hid hz
  obtain ⟨_, m, hlm, hmh, hrow0, hfl⟩ := hr
  by_cases h0 : 0 < n
  · obtain ⟨g, cap, rfl, hlo, hhi, hcap, rfl, hcm, f, hrow, hf⟩ := hrow0.row h0
    have HR := Lib.hid (suf_row hrow hf)
    have HF := Lib.hid hfl
    clear hrow hf hrow0 hfl hz
    go_enter Tryz.func38, Tryz.ntmps38
    go_wp2_with fail
    go_loopw [1, 5] (fun q i wr => ∃ (k S m' : Nat), k ≤ n ∧ i = .int .i64 k ∧ q = .int .i64 (S : Int) ∧ Hid (S = k0 + DTab.cnts (xs.take k)) ∧ Suf wr g 61 (c * 6) (xs.flatMap DTab.cells) (k * 6) ∧ m ≤ m' ∧ Hid (DTab.frl wr m' hi (xs.drop k)) ∧ Chg lo hi w wr) (fun _ i _ => n - (intOf i).toNat)
    case atStart => exact ⟨0, k0, m, Nat.zero_le _, rfl, rfl, Lib.hid (by simp [DTab.cnts]), HR.out.skip (by omega), Nat.le_refl _, HF, Chg.refl _ _ _⟩
    case round =>
      obtain ⟨k, S, m', hk, rfl, rfl, hS, hrow, hmm, hfl, hb⟩ := hrel
      have HB := Lib.hid hb
      by_cases hlt : k < n
      · have hcc : k * 6 + 6 ≤ c * 6 := by omega
        have hxk : xs[k]? = some (xs[k]'(by have := HL.out; omega)) := List.getElem?_eq_getElem _
        generalize hxe : xs[k]'(by have := HL.out; omega) = x at hxk
        clear hxe
        have HG := Lib.hid (fun j u => flat_get DTab.len xs k j x u hxk)
        have HX := Lib.hid hxk
        obtain ⟨m2, h1, h2, hfr, hfl2⟩ := DTab.frl_drop hfl.out hxk
        have HF2 := Lib.hid hfl2
        have hxz := HZS.out x (List.mem_of_getElem? hxk)
        rw [DTab.rd_sz (DTab.fr_rd hfr)] at hxz
        obtain ⟨lo1, hi1, lo2, hi2, lo3, hi3, F1, F2, F3, hsep⟩ := hfr
        unfold SepTab at hsep
        replace F1 := Lib.hid F1
        replace F2 := Lib.hid F2
        replace F3 := Lib.hid F3
        have HS1 := Lib.hid (show S + x.cnt = k0 + DTab.cnts (xs.take (k + 1)) by rw [DTab.cnts_one xs k x hxk, hS.out]; omega)
        have hS1 : S + x.cnt ≤ 4294967296 := by rw [HS1.out]; exact Nat.le_trans (Nat.add_le_add_left (DTab.cnts_le xs (k + 1)) k0) hk0
        have hSb : S + ((x.n1 * 5) + (x.n2 * 6) + (x.n3) + 3) ≤ 4294967296 := hS1
        have HW := Lib.hid hrow
        clear hrow hb hfl hfl2 hxk
        obtain ⟨q0, e0⟩ := HW.out.some (j := k * 6) (by omega)
        have g0 := HW.out.frozen (k * 6)
        obtain ⟨q1, e1⟩ := HW.out.some (j := k * 6 + 1) (by omega)
        have g1 := HW.out.frozen (k * 6 + 1)
        have z2 : wr.cell? ⟨g, k * 6 + 2, none⟩ = some (.slice x.A1 x.n1 x.c1) := HW.out.cell (by omega) (by omega) (HG.out 2 _ rfl)
        go_wp2_with fail
        refine Calls.mono (mark_node (cNode x.l1) x.A1 x.n1 x.c1 lo1 hi1 (S + 1 + 1) _ (by omega) (by omega) (by repeat (first | exact F1.out.2 | refine Fr.put ?_ (by left; show g < _; omega) _))) ?_
        rintro e v1 ⟨rfl, _, hc, hz1⟩
        replace HW := Lib.hid ((show Suf _ g 61 (c * 6) (xs.flatMap DTab.cells) (k * 6 + 2) from ((((HW.out.skip (by omega)).step).skip (by omega)).step)).chg hc (by omega))
        replace F2 := Lib.hid (And.intro F2.out.1 (Fr.chg (show Fr _ lo2 hi2 157 6 x.A2 x.n2 x.c2 (cEdit x.l2) from (by repeat (first | exact F2.out.2 | refine Fr.put ?_ (by left; show g < _; omega) _))) hc (by omega)))
        replace F3 := Lib.hid (And.intro F3.out.1 (Fr.chg (show Fr _ lo3 hi3 3 1 x.A3 x.n3 x.c3 (i64s x.l3) from (by repeat (first | exact F3.out.2 | refine Fr.put ?_ (by left; show g < _; omega) _))) hc (by omega)))
        replace HF2 := Lib.hid (DTab.frl_keep HF2.out (fun b h1 h2 h3 => (hc.block b (by first | exact h3 | simpa [World.setCell] using h3) (by omega)).trans (by
          have hne : b ≠ g := by omega
          exact (Below.heap_setCell _ _ _ _ hne).trans ((Below.heap_setCell _ _ _ _ hne).trans (rfl)))))
        replace HB := Lib.hid (Chg.trans ((HB.out.set_ (.inl ⟨hlo, by show g < hi; omega⟩) _).set_ (.inl ⟨hlo, by show g < hi; omega⟩) _) (hc.mono (by omega) (.inl (by omega))))
        clear hc hz1 F1 z2 e0 g0 e1 g1
        have z3 : v1.cell? ⟨g, k * 6 + 3, none⟩ = some (.slice x.A2 x.n2 x.c2) := HW.out.cell (by omega) (by omega) (HG.out 3 _ rfl)
        go_wp2_with fail
        refine Calls.mono (mark_edit (cEdit x.l2) x.A2 x.n2 x.c2 lo2 hi2 (S + 1 + 1 + x.n1 * 5) _ (by omega) (by omega) (F2.out.2)) ?_
        rintro e v2 ⟨rfl, _, hc, hz2⟩
        replace HW := Lib.hid (HW.out.chg hc (by omega))
        replace F3 := Lib.hid (And.intro F3.out.1 ((F3.out.2).chg hc (by omega)))
        replace HF2 := Lib.hid (DTab.frl_keep HF2.out (fun b h1 h2 h3 => hc.block b h3 (by omega)))
        replace HB := Lib.hid (Chg.trans HB.out (hc.mono (by omega) (.inl (by omega))))
        clear hc hz2 F2 z3
        have z4 : v2.cell? ⟨g, k * 6 + 4, none⟩ = some (.slice x.A3 x.n3 x.c3) := HW.out.cell (by omega) (by omega) (HG.out 4 _ rfl)
        go_wp2_with fail
        refine Calls.mono (mark_int (i64s x.l3) x.A3 x.n3 x.c3 lo3 hi3 (S + 1 + 1 + x.n1 * 5 + x.n2 * 6) _ (by omega) (by omega) (F3.out.2)) ?_
        rintro e v3 ⟨rfl, _, hc, hz3⟩
        replace HW := Lib.hid (HW.out.chg hc (by omega))
        replace HF2 := Lib.hid (DTab.frl_keep HF2.out (fun b h1 h2 h3 => hc.block b h3 (by omega)))
        replace HB := Lib.hid (Chg.trans HB.out (hc.mono (by omega) (.inl (by omega))))
        clear hc hz3 F3 z4
        obtain ⟨q5, e5⟩ := HW.out.some (j := k * 6 + 5) (by omega)
        have g5 := HW.out.frozen (k * 6 + 5)
        go_wp2_with fail
        go_roundw
        case rel =>
          refine ⟨k + 1, S + x.cnt, m2, by omega, by go_num, ?_, HS1, (((HW.out.skip (i' := k * 6 + 5) (by omega)).step).skip (by omega)), by omega, ?_, (HB.out.set_ (.inl ⟨hlo, by show g < hi; omega⟩) _)⟩
          · simp only [DTab.cnt]; first | go_num | (congr 1; push_cast; omega)
          · exact Lib.hid (DTab.frl_keep HF2.out fun b h1 h2 h3 => by
              have hne : b ≠ g := by omega
              exact (Below.heap_setCell _ _ _ _ hne).trans (rfl))
        case measure => simp [intOf]; omega
      · obtain rfl : k = n := by omega
        have hh := hS.out
        rw [List.take_of_length_le (by have := HL.out; omega)] at hh
        subst hh
        clear hrow hb hS
        go_wp2_with fail
        go_ret
        exact ⟨rfl, HB.out⟩
  · obtain rfl : n = 0 := by omega
    have hx : xs = [] := List.eq_nil_of_length_eq_zero (by have := HL.out; omega)
    subst hx
    clear hrow0 hfl h0 hz
    go_enter Tryz.func38, Tryz.ntmps38
    go_wp2_with fail
    go_loopw [1, 5] (fun q i wr => q = .int .i64 (k0 : Int) ∧ i = .int .i64 0 ∧ wr = w) (fun _ i _ => 0)
    case atStart => exact ⟨rfl, rfl, rfl⟩
    case round =>
      obtain ⟨rfl, rfl, rfl⟩ := hrel
      go_wp2_with fail
      go_ret
      exact ⟨by simp [DTab.cnts], Chg.refl _ _ _⟩

end Go.Proofs.YtjgcgipglmhgeaaGreat
