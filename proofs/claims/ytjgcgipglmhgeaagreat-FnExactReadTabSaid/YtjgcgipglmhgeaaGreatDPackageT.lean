/- Slices of Package: copied. No condition of its own. -/
import Derived.Test.YtjgcgipglmhgeaaGreatDPackage
namespace Go.Proofs.YtjgcgipglmhgeaaGreat
open Go Go.ChangeShapes Go.WideShapes Go.ChangeAt Go.RowKit Go.Lib
set_option linter.unusedVariables false
set_option linter.unusedSimpArgs false
set_option maxRecDepth 100000
set_option maxHeartbeats 4000000

theorem to_packages (xs : List DPackage) (A : Option Addr) (n c lo hi : Nat) (w : World) (hn : n ≤ 1048576) (hz : ∀ x ∈ xs, x.dat.sz ≤ 1048576) (hr : RdPackage w lo hi A n xs) :
    Calls Tryz.prog 23 #[.slice A n c] w (MakesPackages xs n w) := by
  have hmk := make_rows (P := Tryz.prog) 34 104 (.agg #[.int .i64 0, .int .i64 0, .int .i64 0, .slice none 0 0, .slice none 0 0, .slice none 0 0, .slice none 0 0, .int .i64 0]) 8 128 Tryz.underlying34 (by kernel_rfl) n (by omega) (by omega)
  have HL := Lib.hid hr.len
  have HR := Lib.hid hr
  have HZS := Lib.hid hz
  clear hr hz
  go_enter Tryz.func23, Tryz.ntmps23
  go_wp2_with fail
  go_loopw [4] (fun i wr => ∃ (k : Nat) (ys : List DPackage), k ≤ n ∧ i = .int .i64 k ∧ Hid (ys.map DPackage.dat = (xs.take k).map DPackage.dat) ∧ Pre wr w.heap.size 104 (n * 8) (ys.flatMap DPackage.cells) (k * 8) ∧ Hid (DPackage.frl wr (w.heap.size + 1) wr.heap.size ys) ∧ Below w.heap.size w wr) (fun i _ => n - (intOf i).toNat)
  case atStart => exact ⟨0, [], Nat.zero_le _, rfl, rfl, (pre_start (size_madeCells _ _)).at_ (by omega), Lib.hid (show w.heap.size + 1 ≤ _ by simp), (Below.refl _ _).alloc (Nat.le_refl _) _⟩
  case round =>
    obtain ⟨k, ys, hk, rfl, hd, hrow, hfl, hb⟩ := hrel
    have HB := Lib.hid hb
    have HYL : ys.length = k := by have := congrArg List.length hd.out; simp only [List.length_map, List.length_take] at this; have := HL.out; omega
    by_cases hlt : k < n
    · obtain ⟨b, off, x, rfl, _, _, hzz, hc⟩ := rd_elem DPackage.len (HR.out.new hb).2.1 HL.out hlt
      have HX := Lib.hid ((HR.out.new hb).at_ hzz)
      have c0 : wr.cell? ⟨b, off + k * 8, none⟩ = some (.int .i64 x.p0) := hc 0 _ rfl
      have c1 : wr.cell? ⟨b, off + k * 8 + 1, none⟩ = some (.int .i64 x.p1) := hc 1 _ rfl
      have c2 : wr.cell? ⟨b, off + k * 8 + 2, none⟩ = some (.int .i64 x.p2) := hc 2 _ rfl
      have c3 : wr.cell? ⟨b, off + k * 8 + 3, none⟩ = some (.slice x.A3 x.n3 x.c3) := hc 3 _ rfl
      have c4 : wr.cell? ⟨b, off + k * 8 + 4, none⟩ = some (.slice x.A4 x.n4 x.c4) := hc 4 _ rfl
      have c5 : wr.cell? ⟨b, off + k * 8 + 5, none⟩ = some (.slice x.A5 x.n5 x.c5) := hc 5 _ rfl
      have c6 : wr.cell? ⟨b, off + k * 8 + 6, none⟩ = some (.slice x.A6 x.n6 x.c6) := hc 6 _ rfl
      have c7 : wr.cell? ⟨b, off + k * 8 + 7, none⟩ = some (.int .i64 x.p7) := hc 7 _ rfl
      have HZ := Lib.hid hzz
      have HW := Lib.hid hrow
      have hxz := HZS.out x (List.mem_of_getElem? hzz)
      rw [DPackage.rd_sz HX.out] at hxz
      clear hrow hb hzz hc
      go_wp2_with fail
      refine (to_package x.p0 x.p1 x.p2 x.l3 x.A3 x.n3 x.c3 _ _ x.l4 x.A4 x.n4 x.c4 _ _ x.l5 x.A5 x.n5 x.c5 _ _ x.l6 x.A6 x.n6 x.c6 _ _ x.p7 _ (by omega) HX.out.1.2 (by omega) HX.out.2.1.2 (by omega) HX.out.2.2.1.2 (by omega) HX.out.2.2.2.2).mono ?_
      rintro e w1 ⟨B3, B4, B5, B6, d3, lo3, hi3, d4, lo4, hi4, d5, lo5, hi5, d6, lo6, hi6, rfl, F3, F4, F5, F6, hsep, hb1⟩
      have HYN : ∃ y : DPackage, y = ⟨x.p0, x.p1, x.p2, B3, x.n3, d3, x.l3, B4, x.n4, d4, x.l4, B5, x.n5, d5, x.l5, B6, x.n6, d6, x.l6, x.p7⟩ := ⟨_, rfl⟩
      obtain ⟨y, hy⟩ := HYN
      have HYF : Hid (y.fr w1 wr.heap.size w1.heap.size) := by
        subst hy
        exact Lib.hid ⟨lo3, hi3, lo4, hi4, lo5, hi5, lo6, hi6, ⟨by dsimp only; omega, F3⟩, ⟨by dsimp only; omega, F4⟩, ⟨by dsimp only; omega, F5⟩, ⟨by dsimp only; omega, F6⟩, hsep.out⟩
      have HYD : Hid (y.dat = x.dat) := by subst hy; exact Lib.hid rfl
      have HYC : Hid (y.cells = [.int .i64 x.p0, .int .i64 x.p1, .int .i64 x.p2, .slice B3 x.n3 d3, .slice B4 x.n4 d4, .slice B5 x.n5 d5, .slice B6 x.n6 d6, .int .i64 x.p7]) := by subst hy; exact Lib.hid rfl
      clear hy hsep F3 F4 F5 F6
      have HF1 := Lib.hid (DPackage.frl_keep hfl.out (fun b _ h2 h3 => hb1.block b h3))
      have HW1 := Lib.hid (HW.out.new hb1)
      have HB1 := Lib.hid (below_trans HB.out hb1 (Nat.le_refl _))
      have hsz1 := hb1.size
      have hgl := HW.out.lt
      have HW2 := Lib.hid (show Pre w1 w.heap.size 104 (n * 8) ((ys ++ [y]).flatMap DPackage.cells) (k * 8) by
        rw [List.flatMap_append]
        exact HW1.out.more (by rw [flat_len DPackage.len, HYL]))
      have HG : Hid (∀ (j : Nat) (u : Value), y.cells[j]? = some u → ((ys ++ [y]).flatMap DPackage.cells)[k * 8 + j]? = some u) := Lib.hid fun j u hu => flat_get DPackage.len (ys ++ [y]) k j y u (by rw [List.getElem?_append_right (by omega), HYL]; simp) hu
      rw [HYC.out] at HG
      clear HW HW1
      obtain ⟨q0, d0_⟩ := HW2.out.cell (j := k * 8) (by omega)
      have g0_ := HW2.out.frozen (k * 8)
      obtain ⟨q1, d1_⟩ := HW2.out.cell (j := k * 8 + 1) (by omega)
      have g1_ := HW2.out.frozen (k * 8 + 1)
      obtain ⟨q2, d2_⟩ := HW2.out.cell (j := k * 8 + 2) (by omega)
      have g2_ := HW2.out.frozen (k * 8 + 2)
      obtain ⟨q3, d3_⟩ := HW2.out.cell (j := k * 8 + 3) (by omega)
      have g3_ := HW2.out.frozen (k * 8 + 3)
      obtain ⟨q4, d4_⟩ := HW2.out.cell (j := k * 8 + 4) (by omega)
      have g4_ := HW2.out.frozen (k * 8 + 4)
      obtain ⟨q5, d5_⟩ := HW2.out.cell (j := k * 8 + 5) (by omega)
      have g5_ := HW2.out.frozen (k * 8 + 5)
      obtain ⟨q6, d6_⟩ := HW2.out.cell (j := k * 8 + 6) (by omega)
      have g6_ := HW2.out.frozen (k * 8 + 6)
      obtain ⟨q7, d7_⟩ := HW2.out.cell (j := k * 8 + 7) (by omega)
      have g7_ := HW2.out.frozen (k * 8 + 7)
      clear hb1 c0 c1 c2 c3 c4 c5 c6 c7
      go_wp2_with fail
      go_roundw
      case rel =>
        refine ⟨k + 1, ys ++ [y], by omega, by go_num, Lib.hid (map_take_one hd.out HZ.out HYD.out), ?_, ?_, ?_⟩
        · exact (((((((((HW2.out.step (HG.out 0 _ rfl)).step (HG.out 1 _ rfl)).step (HG.out 2 _ rfl)).step (HG.out 3 _ rfl)).step (HG.out 4 _ rfl)).step (HG.out 5 _ rfl)).step (HG.out 6 _ rfl)).step (HG.out 7 _ rfl))).at_ (by omega)
        · refine Lib.hid (DPackage.frl_up (DPackage.frl_keep (DPackage.frl_snoc HF1.out HYF.out (Nat.le_refl _) hsz1) fun b h1 _ _ => ?_) (by simp [World.setCell]))
          have h2 : b ≠ w.heap.size := by omega
          exact (Below.heap_setCell _ _ _ _ h2).trans ((Below.heap_setCell _ _ _ _ h2).trans ((Below.heap_setCell _ _ _ _ h2).trans ((Below.heap_setCell _ _ _ _ h2).trans ((Below.heap_setCell _ _ _ _ h2).trans ((Below.heap_setCell _ _ _ _ h2).trans ((Below.heap_setCell _ _ _ _ h2).trans ((Below.heap_setCell _ _ _ _ h2).trans (rfl))))))))
        · exact ((((((((HB1.out.setCell (Nat.le_refl _) _).setCell (Nat.le_refl _) _).setCell (Nat.le_refl _) _).setCell (Nat.le_refl _) _).setCell (Nat.le_refl _) _).setCell (Nat.le_refl _) _).setCell (Nat.le_refl _) _).setCell (Nat.le_refl _) _)
      case measure => simp [intOf]; omega
    · obtain rfl : k = n := by omega
      have HW := Lib.hid hrow
      have hsz1 := HB.out.size
      have hgl := hrow.lt
      clear hrow hb
      go_wp2_with fail
      go_ret
      exact ⟨_, _, ys, rfl, by rw [hd.out, List.take_of_length_le (by have := HL.out; omega)], ⟨by omega, w.heap.size + 1, by omega, by omega, HW.out.fr (Nat.le_refl _) (by omega) (by unfold maxLen; omega) (by rw [flat_len DPackage.len, HYL]), hfl.out⟩, HB.out⟩

end Go.Proofs.YtjgcgipglmhgeaaGreat
