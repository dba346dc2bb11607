/- mapped at the Ext of packages. No condition of its own. -/
import Derived.Test.YtodlahmnjadgcaaGreatDPackage
import Derived.Test.YtodlahmnjadgcaaGreatApp
import Derived.Deep.LoopGhost
namespace Go.Proofs.YtodlahmnjadgcaaGreat
open Go Go.ChangeShapes Go.WideShapes Go.ChangeAt Go.RowKit Go.Lib
set_option linter.unusedVariables false
set_option linter.unusedSimpArgs false
set_option maxRecDepth 100000
set_option maxHeartbeats 4000000
set_option maxHeartbeats 4000000 in
theorem clo_package (x : DPackage) (w : World) : Calls Tryz.prog 232 #[.agg #[.int .i64 x.p0, .int .i64 x.p1, .int .i64 x.p2, .slice x.A3 x.n3 x.c3, .slice x.A4 x.n4 x.c4, .slice x.A5 x.n5 x.c5, .slice x.A6 x.n6 x.c6, .int .i64 x.p7]] w (Says (.int .i64 x.p0) w) := by
  go_enter Tryz.func232, Tryz.ntmps232
  go_wp2_with fail
  go_ret
  exact ⟨rfl, by repeat (first | exact Below.refl _ _ | (refine Below.alloc ?_ (by simp <;> omega) _))⟩
set_option maxHeartbeats 8000000 in
theorem map_package (l : List DPackage) (A : Option Addr) (n c lo hi : Nat) (w : World) (hn : n ≤ 1048576) (hr : RdPackage w lo hi A n l) :
    Calls Tryz.prog 231 #[.slice A n c, .func (.func 232) #[] #[]] w (Makes 3 1 n (i64s (l.map fun x => x.p0)) w) := by
  have HL := Lib.hid (hr.len)
  have HLm := Lib.hid (show (l.map fun x => x.p0).length = n by rw [List.length_map, HL.out])
  have hmk : ∀ W, (Instr.makeSlice 103 (.int .i64 n) (.int .i64 n)).run Tryz.prog W = .ok (.slice (some ⟨W.heap.size, 0, none⟩) n n) (W.alloc (.cells (madeCells #[.int .i64 0] n) 3)) := fun W => run_make_row' (P := Tryz.prog) 103 3 (.int .i64 0) 8 Tryz.underlying103 (by kernel_rfl) rfl .i64 .i64 n (by omega) (by omega) W
  have HR := Lib.hid hr
  obtain ⟨ts, hts⟩ : ∃ ts, (l.map fun x => x.p0) = ts := ⟨_, rfl⟩
  have HTs := Lib.hid hts
  rw [hts] at HLm ⊢
  clear hr hts
  go_enter Tryz.func231, Tryz.ntmps231
  go_wp2_with fail
  go_loopg [13] n (fun gg i wr => ∃ k : Nat, k ≤ n ∧ n - k ≤ gg ∧ i = .int .i64 k ∧ Hid (Pre wr w.heap.size 3 n (i64s ts) k) ∧ Hid (Below w.heap.size w wr))
  case atStart => exact ⟨0, Nat.zero_le _, by omega, rfl, Lib.hid (pre_start (by rw [size_madeCells])), Lib.hid ((Below.refl _ _).alloc (Nat.le_refl _) _)⟩
  case round =>
    obtain ⟨k, hk, hg, rfl, HP, HB⟩ := hrel
    have HS := Lib.hid HB.out.size
    by_cases hlt : k < n
    · obtain ⟨b, off, x, rfl, _, _, hz, hc⟩ := rd_elem DPackage.len (HR.out.new HB.out).2.1 HL.out hlt
      have c0 : wr.cell? ⟨b, off + k * 8, none⟩ = _ := hc 0 _ rfl
      have c1 := hc 1 _ rfl
      have c2 := hc 2 _ rfl
      have c3 := hc 3 _ rfl
      have c4 := hc 4 _ rfl
      have c5 := hc 5 _ rfl
      have c6 := hc 6 _ rfl
      have c7 := hc 7 _ rfl
      have HV : Hid ((i64s ts)[k]? = some (.int .i64 x.p0)) := Lib.hid (by rw [← HTs.out]; unfold i64s; rw [List.getElem?_map, List.getElem?_map, hz]; rfl)
      have C0 := Lib.hid (fun W => clo_package x W)
      clear hz hc
      go_wp2_with (go_at_call 232; refine Calls.mono (C0.out _) ?_; rintro e w1 ⟨rfl, hb1⟩; have HP1 := Lib.hid ((HP.out.new ((Below.refl _ _).alloc (Nat.le_refl _) _)).new hb1); have HB1 := Lib.hid (below_trans (HB.out.alloc HS.out _) hb1 (by simp)); obtain ⟨q0, d0⟩ := HP1.out.cell (j := k) hlt; have g0 := HP1.out.frozen k; clear hb1 c0 c1 c2 c3 c4 c5 c6 c7)
      go_roundg (n - (k + 1))
      case measure => omega
      case rel => exact ⟨k + 1, by omega, by omega, by go_num, Lib.hid (HP1.out.step HV.out), Lib.hid (HB1.out.setCell (by simp) _)⟩
    · obtain rfl : n = k := by omega
      go_wp2_with fail
      go_ret
      exact ⟨_, _, rfl, (HP.out.at_ (by omega) |> fun h => Pre.fr (size := 1) (by simpa using h) (by omega) (by have := HP.out.lt; exact this) (by unfold maxLen; omega) (by unfold i64s; rw [List.length_map, HLm.out]; omega)), HB.out⟩

end Go.Proofs.YtodlahmnjadgcaaGreat
