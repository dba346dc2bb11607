/- Slices of Package: marked. No condition of its own. -/
import Derived.Test.YtjgcgipglmhgeaaGreatDPackage
namespace Go.Proofs.YtjgcgipglmhgeaaGreat
open Go Go.ChangeShapes Go.WideShapes Go.ChangeAt Go.RowKit Go.Lib
set_option linter.unusedVariables false
set_option linter.unusedSimpArgs false
set_option maxRecDepth 100000
set_option maxHeartbeats 4000000

theorem mark_packages (xs : List DPackage) (A : Option Addr) (n c lo hi k0 : Nat) (w : World) (hn : n ≤ 1048576) (hz : ∀ x ∈ xs, x.dat.sz ≤ 1048576) (hk0 : k0 + DPackage.cnts xs ≤ 4294967296) (hr : FrPackage w lo hi A n c xs) (hw : hi ≤ w.heap.size) :
    Calls Tryz.prog 39 #[.slice A n c, .int .i64 (k0 : Int)] w (fun e w' => e = .returned (.int .i64 ((k0 + DPackage.cnts xs : Nat) : Int)) ∧ Chg lo hi w w') := by
  have HL := Lib.hid hr.rd.len
  have HZS := Lib.hid hz
  obtain ⟨_, m, hlm, hmh, hrow0, hfl⟩ := hr
  by_cases h0 : 0 < n
  · obtain ⟨g, cap, rfl, hlo, hhi, hcap, rfl, hcm, f, hrow, hf⟩ := hrow0.row h0
    have HR := Lib.hid (suf_row hrow hf)
    have HF := Lib.hid hfl
    clear hrow hf hrow0 hfl hz
    go_enter Tryz.func39, Tryz.ntmps39
    go_wp2_with fail
    go_loopw [1, 5] (fun q i wr => ∃ (k S m' : Nat), k ≤ n ∧ i = .int .i64 k ∧ q = .int .i64 (S : Int) ∧ Hid (S = k0 + DPackage.cnts (xs.take k)) ∧ Suf wr g 104 (c * 8) (xs.flatMap DPackage.cells) (k * 8) ∧ m ≤ m' ∧ Hid (DPackage.frl wr m' hi (xs.drop k)) ∧ Chg lo hi w wr) (fun _ i _ => n - (intOf i).toNat)
    case atStart => exact ⟨0, k0, m, Nat.zero_le _, rfl, rfl, Lib.hid (by simp [DPackage.cnts]), HR.out.skip (by omega), Nat.le_refl _, HF, Chg.refl _ _ _⟩
    case round =>
      obtain ⟨k, S, m', hk, rfl, rfl, hS, hrow, hmm, hfl, hb⟩ := hrel
      have HB := Lib.hid hb
      by_cases hlt : k < n
      · have hcc : k * 8 + 8 ≤ c * 8 := by omega
        have hxk : xs[k]? = some (xs[k]'(by have := HL.out; omega)) := List.getElem?_eq_getElem _
        generalize hxe : xs[k]'(by have := HL.out; omega) = x at hxk
        clear hxe
        have HG := Lib.hid (fun j u => flat_get DPackage.len xs k j x u hxk)
        have HX := Lib.hid hxk
        obtain ⟨m2, h1, h2, hfr, hfl2⟩ := DPackage.frl_drop hfl.out hxk
        have HF2 := Lib.hid hfl2
        have hxz := HZS.out x (List.mem_of_getElem? hxk)
        rw [DPackage.rd_sz (DPackage.fr_rd hfr)] at hxz
        obtain ⟨lo3, hi3, lo4, hi4, lo5, hi5, lo6, hi6, F3, F4, F5, F6, hsep⟩ := hfr
        unfold SepPackage at hsep
        replace F3 := Lib.hid F3
        replace F4 := Lib.hid F4
        replace F5 := Lib.hid F5
        replace F6 := Lib.hid F6
        have HS1 := Lib.hid (show S + x.cnt = k0 + DPackage.cnts (xs.take (k + 1)) by rw [DPackage.cnts_one xs k x hxk, hS.out]; omega)
        have hS1 : S + x.cnt ≤ 4294967296 := by rw [HS1.out]; exact Nat.le_trans (Nat.add_le_add_left (DPackage.cnts_le xs (k + 1)) k0) hk0
        have hSb : S + ((x.n3 * 7) + (x.n4 * 3) + (x.n5 * 8) + (x.n6 * 4) + 4) ≤ 4294967296 := hS1
        have HW := Lib.hid hrow
        clear hrow hb hfl hfl2 hxk
        obtain ⟨q0, e0⟩ := HW.out.some (j := k * 8) (by omega)
        have g0 := HW.out.frozen (k * 8)
        obtain ⟨q1, e1⟩ := HW.out.some (j := k * 8 + 1) (by omega)
        have g1 := HW.out.frozen (k * 8 + 1)
        obtain ⟨q2, e2⟩ := HW.out.some (j := k * 8 + 2) (by omega)
        have g2 := HW.out.frozen (k * 8 + 2)
        have z3 : wr.cell? ⟨g, k * 8 + 3, none⟩ = some (.slice x.A3 x.n3 x.c3) := HW.out.cell (by omega) (by omega) (HG.out 3 _ rfl)
        go_wp2_with fail
        refine Calls.mono (mark_grant (cGrant x.l3) x.A3 x.n3 x.c3 lo3 hi3 (S + 1 + 1 + 1) _ (by omega) (by omega) (by repeat (first | exact F3.out.2 | refine Fr.put ?_ (by left; show g < _; omega) _))) ?_
        rintro e v1 ⟨rfl, _, hc, hz1⟩
        replace HW := Lib.hid ((show Suf _ g 104 (c * 8) (xs.flatMap DPackage.cells) (k * 8 + 3) from ((((((HW.out.skip (by omega)).step).skip (by omega)).step).skip (by omega)).step)).chg hc (by omega))
        replace F4 := Lib.hid (And.intro F4.out.1 (Fr.chg (show Fr _ lo4 hi4 180 3 x.A4 x.n4 x.c4 (cFlow x.l4) from (by repeat (first | exact F4.out.2 | refine Fr.put ?_ (by left; show g < _; omega) _))) hc (by omega)))
        replace F5 := Lib.hid (And.intro F5.out.1 (Fr.chg (show Fr _ lo5 hi5 119 8 x.A5 x.n5 x.c5 (cRule x.l5) from (by repeat (first | exact F5.out.2 | refine Fr.put ?_ (by left; show g < _; omega) _))) hc (by omega)))
        replace F6 := Lib.hid (And.intro F6.out.1 (Fr.chg (show Fr _ lo6 hi6 182 4 x.A6 x.n6 x.c6 (cOp x.l6) from (by repeat (first | exact F6.out.2 | refine Fr.put ?_ (by left; show g < _; omega) _))) hc (by omega)))
        replace HF2 := Lib.hid (DPackage.frl_keep HF2.out (fun b h1 h2 h3 => (hc.block b (by first | exact h3 | simpa [World.setCell] using h3) (by omega)).trans (by
          have hne : b ≠ g := by omega
          exact (Below.heap_setCell _ _ _ _ hne).trans ((Below.heap_setCell _ _ _ _ hne).trans ((Below.heap_setCell _ _ _ _ hne).trans (rfl))))))
        replace HB := Lib.hid (Chg.trans (((HB.out.set_ (.inl ⟨hlo, by show g < hi; omega⟩) _).set_ (.inl ⟨hlo, by show g < hi; omega⟩) _).set_ (.inl ⟨hlo, by show g < hi; omega⟩) _) (hc.mono (by omega) (.inl (by omega))))
        clear hc hz1 F3 z3 e0 g0 e1 g1 e2 g2
        have z4 : v1.cell? ⟨g, k * 8 + 4, none⟩ = some (.slice x.A4 x.n4 x.c4) := HW.out.cell (by omega) (by omega) (HG.out 4 _ rfl)
        go_wp2_with fail
        refine Calls.mono (mark_flow (cFlow x.l4) x.A4 x.n4 x.c4 lo4 hi4 (S + 1 + 1 + 1 + x.n3 * 7) _ (by omega) (by omega) (F4.out.2)) ?_
        rintro e v2 ⟨rfl, _, hc, hz2⟩
        replace HW := Lib.hid (HW.out.chg hc (by omega))
        replace F5 := Lib.hid (And.intro F5.out.1 ((F5.out.2).chg hc (by omega)))
        replace F6 := Lib.hid (And.intro F6.out.1 ((F6.out.2).chg hc (by omega)))
        replace HF2 := Lib.hid (DPackage.frl_keep HF2.out (fun b h1 h2 h3 => hc.block b h3 (by omega)))
        replace HB := Lib.hid (Chg.trans HB.out (hc.mono (by omega) (.inl (by omega))))
        clear hc hz2 F4 z4
        have z5 : v2.cell? ⟨g, k * 8 + 5, none⟩ = some (.slice x.A5 x.n5 x.c5) := HW.out.cell (by omega) (by omega) (HG.out 5 _ rfl)
        go_wp2_with fail
        refine Calls.mono (mark_rule (cRule x.l5) x.A5 x.n5 x.c5 lo5 hi5 (S + 1 + 1 + 1 + x.n3 * 7 + x.n4 * 3) _ (by omega) (by omega) (F5.out.2)) ?_
        rintro e v3 ⟨rfl, _, hc, hz3⟩
        replace HW := Lib.hid (HW.out.chg hc (by omega))
        replace F6 := Lib.hid (And.intro F6.out.1 ((F6.out.2).chg hc (by omega)))
        replace HF2 := Lib.hid (DPackage.frl_keep HF2.out (fun b h1 h2 h3 => hc.block b h3 (by omega)))
        replace HB := Lib.hid (Chg.trans HB.out (hc.mono (by omega) (.inl (by omega))))
        clear hc hz3 F5 z5
        have z6 : v3.cell? ⟨g, k * 8 + 6, none⟩ = some (.slice x.A6 x.n6 x.c6) := HW.out.cell (by omega) (by omega) (HG.out 6 _ rfl)
        go_wp2_with fail
        refine Calls.mono (mark_op (cOp x.l6) x.A6 x.n6 x.c6 lo6 hi6 (S + 1 + 1 + 1 + x.n3 * 7 + x.n4 * 3 + x.n5 * 8) _ (by omega) (by omega) (F6.out.2)) ?_
        rintro e v4 ⟨rfl, _, hc, hz4⟩
        replace HW := Lib.hid (HW.out.chg hc (by omega))
        replace HF2 := Lib.hid (DPackage.frl_keep HF2.out (fun b h1 h2 h3 => hc.block b h3 (by omega)))
        replace HB := Lib.hid (Chg.trans HB.out (hc.mono (by omega) (.inl (by omega))))
        clear hc hz4 F6 z6
        obtain ⟨q7, e7⟩ := HW.out.some (j := k * 8 + 7) (by omega)
        have g7 := HW.out.frozen (k * 8 + 7)
        go_wp2_with fail
        go_roundw
        case rel =>
          refine ⟨k + 1, S + x.cnt, m2, by omega, by go_num, ?_, HS1, (((HW.out.skip (i' := k * 8 + 7) (by omega)).step).skip (by omega)), by omega, ?_, (HB.out.set_ (.inl ⟨hlo, by show g < hi; omega⟩) _)⟩
          · simp only [DPackage.cnt]; first | go_num | (congr 1; push_cast; omega)
          · exact Lib.hid (DPackage.frl_keep HF2.out fun b h1 h2 h3 => by
              have hne : b ≠ g := by omega
              exact (Below.heap_setCell _ _ _ _ hne).trans (rfl))
        case measure => simp [intOf]; omega
      · obtain rfl : k = n := by omega
        have hh := hS.out
        rw [List.take_of_length_le (by have := HL.out; omega)] at hh
        subst hh
        clear hrow hb hS
        go_wp2_with fail
        go_ret
        exact ⟨rfl, HB.out⟩
  · obtain rfl : n = 0 := by omega
    have hx : xs = [] := List.eq_nil_of_length_eq_zero (by have := HL.out; omega)
    subst hx
    clear hrow0 hfl h0 hz
    go_enter Tryz.func39, Tryz.ntmps39
    go_wp2_with fail
    go_loopw [1, 5] (fun q i wr => q = .int .i64 (k0 : Int) ∧ i = .int .i64 0 ∧ wr = w) (fun _ i _ => 0)
    case atStart => exact ⟨rfl, rfl, rfl⟩
    case round =>
      obtain ⟨rfl, rfl, rfl⟩ := hrel
      go_wp2_with fail
      go_ret
      exact ⟨by simp [DPackage.cnts], Chg.refl _ _ _⟩

end Go.Proofs.YtjgcgipglmhgeaaGreat
