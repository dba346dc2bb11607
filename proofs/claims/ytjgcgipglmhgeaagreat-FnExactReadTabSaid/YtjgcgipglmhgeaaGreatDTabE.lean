/- Slices of Tab: compared. No condition of its own. -/
import Derived.Test.YtjgcgipglmhgeaaGreatDTab
namespace Go.Proofs.YtjgcgipglmhgeaaGreat
open Go Go.ChangeShapes Go.WideShapes Go.ChangeAt Go.RowKit Go.Lib
set_option linter.unusedVariables false
set_option linter.unusedSimpArgs false
set_option maxRecDepth 100000
set_option maxHeartbeats 4000000

theorem eq_tabs_same (xs ys : List DTab) (A A' : Option Addr) (n n' c c' lo hi lo' hi' : Nat) (w : World) (hd : ys.map DTab.dat = xs.map DTab.dat) (hn : n ≤ 1048576) (hz : ∀ x ∈ xs, x.dat.sz ≤ 1048576) (hr : RdTab w lo hi A n xs) (hr' : RdTab w lo' hi' A' n' ys) :
    Calls Tryz.prog 32 #[.slice A n c, .slice A' n' c'] w (Says (.bool true) w) := by
  have HL := Lib.hid hr.len
  have HL' := Lib.hid hr'.len
  obtain rfl : n' = n := by have := congrArg List.length hd; simp only [List.length_map] at this; rw [← HL.out, ← HL'.out, this]
  have HD := Lib.hid hd
  have HZS := Lib.hid hz
  have HR := Lib.hid hr
  have HR' := Lib.hid hr'
  clear hr hr' hd hz
  go_enter Tryz.func32, Tryz.ntmps32
  go_wp2_with fail
  go_loopw [5] (fun i wr => ∃ k : Nat, k ≤ n' ∧ i = .int .i64 k ∧ Below w.heap.size w wr) (fun i _ => n' - (intOf i).toNat)
  case atStart => exact ⟨0, Nat.zero_le _, rfl, Below.refl _ _⟩
  case round =>
    obtain ⟨k, hk, rfl, hb⟩ := hrel
    have HB := Lib.hid hb
    by_cases hlt : k < n'
    · obtain ⟨b, off, x, rfl, _, _, hzz, hc⟩ := rd_elem DTab.len (HR.out.new hb).2.1 HL.out hlt
      obtain ⟨b', off', y, rfl, _, _, hzz', hc'⟩ := rd_elem DTab.len (HR'.out.new hb).2.1 HL'.out hlt
      have HX := Lib.hid ((HR.out.new hb).at_ hzz)
      have HY := Lib.hid ((HR'.out.new hb).at_ hzz')
      have hxz := HZS.out x (List.mem_of_getElem? hzz)
      rw [DTab.rd_sz HX.out] at hxz
      have hxy : y.dat = x.dat := map_get_eq HD.out hzz hzz'
      have HLX := DTab.rd_lens HX.out
      have HLY := DTab.rd_lens HY.out
      obtain ⟨ys0, A1_, n1_, c1_, l1_, A2_, n2_, c2_, l2_, A3_, n3_, c3_, l3_, yp4⟩ := y
      simp only [DTab.dat, MTab.mk.injEq] at hxy
      obtain ⟨rfl, rfl, rfl, rfl, rfl⟩ := hxy
      dsimp only at HLX HLY
      obtain rfl : n1_ = x.n1 := by omega
      obtain rfl : n2_ = x.n2 := by omega
      obtain rfl : n3_ = x.n3 := by omega
      clear HLX HLY
      have c0 : wr.cell? ⟨b, off + k * 6, none⟩ = _ := hc 0 _ rfl
      have c1 := hc 1 _ rfl
      have c2 := hc 2 _ rfl
      have c3 := hc 3 _ rfl
      have c4 := hc 4 _ rfl
      have c5 := hc 5 _ rfl
      have c0' : wr.cell? ⟨b', off' + k * 6, none⟩ = _ := hc' 0 _ rfl
      have c1' := hc' 1 _ rfl
      have c2' := hc' 2 _ rfl
      have c3' := hc' 3 _ rfl
      have c4' := hc' 4 _ rfl
      have c5' := hc' 5 _ rfl
      dsimp only at c0 c0' c1 c1' c2 c2' c3 c3' c4 c4' c5 c5'
      clear hb hzz hzz' hc hc'
      go_wp2_with fail
      have HB2 := Lib.hid HB.out.drew
      go_still_tail 8, (by kernel_rfl)
      change wpList _ _ _ _ _ wr.drew
      replace HX := Lib.hid (show x.rd wr.drew lo hi from DTab.rd_keep HX.out fun _ _ _ _ => rfl)
      replace HY := Lib.hid (DTab.rd_keep (w' := wr.drew) HY.out fun _ _ _ _ => rfl)
      generalize wr.drew = w2 at HB2 HX HY ⊢
      go_wp2_with fail
      refine (eq_tab_same x.s0 x.l1 x.n1 x.A1 A1_ x.c1 c1_ _ _ _ _ x.l2 x.n2 x.A2 A2_ x.c2 c2_ _ _ _ _ x.l3 x.n3 x.A3 A3_ x.c3 c3_ _ _ _ _ x.p4 _ (by omega) (by omega) (by omega) HX.out.1.2 HX.out.2.1.2 HX.out.2.2.2 HY.out.1.2 HY.out.2.1.2 HY.out.2.2.2).mono ?_
      rintro e w1 ⟨rfl, hb1⟩
      have HB1 := Lib.hid (below_trans HB2.out hb1 (Nat.le_refl _))
      clear hb1
      go_wp2_with fail
      go_roundw
      case rel => exact ⟨k + 1, by omega, by go_num, HB1.out⟩
      case measure => simp [intOf]; omega
    · clear hb
      obtain rfl : k = n' := by omega
      go_wp2_with fail
      go_ret
      exact ⟨rfl, HB.out⟩

end Go.Proofs.YtjgcgipglmhgeaaGreat
