/- mapped at an int field of edits. No condition of its own. -/
import Derived.Test.YtkegapaococmcaaTEdit
import Derived.Test.YtkegapaococmcaaApp
import Derived.Deep.LoopGhost
namespace Go.Proofs.Ytkegapaococmcaa
open Go Go.ChangeShapes Go.WideShapes Go.ChangeAt Go.RowKit Go.Lib
set_option linter.unusedVariables false
set_option linter.unusedSimpArgs false
set_option maxRecDepth 100000
set_option maxHeartbeats 4000000
set_option maxHeartbeats 4000000 in
theorem clo_edit (x : TEdit) (w : World) : Calls Try.prog 88 #[.agg #[.int .i64 x.f0, .int .i64 x.f1, .int .i64 x.f2, .int .i64 x.f3, .int .i64 x.f4, .int .i64 x.f5]] w (Says (.int .i64 x.f5) w) := by
  go_enter Try.func88, Try.ntmps88
  go_wp2_with fail
  go_ret
  exact ⟨rfl, by repeat (first | exact Below.refl _ _ | (refine Below.alloc ?_ (by simp <;> omega) _))⟩
set_option maxHeartbeats 8000000 in
theorem map_edit (l : List TEdit) (A : Option Addr) (n c lo hi : Nat) (w : World) (hn : n ≤ 1048576) (hr : Rd w lo hi 6 A n (cEdit l)) :
    Calls Try.prog 87 #[.slice A n c, .func (.func 88) #[] #[]] w (Makes 3 1 n (i64s (l.map fun x => x.f5)) w) := by
  have HL := Lib.hid (rd_len TEdit.len hr (by decide))
  have HLm := Lib.hid (show (l.map fun x => x.f5).length = n by rw [List.length_map, HL.out])
  have hmk : ∀ W, (Instr.makeSlice 62 (.int .i64 n) (.int .i64 n)).run Try.prog W = .ok (.slice (some ⟨W.heap.size, 0, none⟩) n n) (W.alloc (.cells (madeCells #[.int .i64 0] n) 3)) := fun W => run_make_row' (P := Try.prog) 62 3 (.int .i64 0) 8 Try.underlying62 (by kernel_rfl) rfl .i64 .i64 n (by omega) (by omega) W
  have HR := Lib.hid hr
  obtain ⟨ts, hts⟩ : ∃ ts, (l.map fun x => x.f5) = ts := ⟨_, rfl⟩
  have HTs := Lib.hid hts
  rw [hts] at HLm ⊢
  clear hr hts
  go_enter Try.func87, Try.ntmps87
  go_wp2_with fail
  go_loopg [13] n (fun gg i wr => ∃ k : Nat, k ≤ n ∧ n - k ≤ gg ∧ i = .int .i64 k ∧ Hid (Pre wr w.heap.size 3 n (i64s ts) k) ∧ Hid (Below w.heap.size w wr))
  case atStart => exact ⟨0, Nat.zero_le _, by omega, rfl, Lib.hid (pre_start (by rw [size_madeCells])), Lib.hid ((Below.refl _ _).alloc (Nat.le_refl _) _)⟩
  case round =>
    obtain ⟨k, hk, hg, rfl, HP, HB⟩ := hrel
    have HS := Lib.hid HB.out.size
    by_cases hlt : k < n
    · obtain ⟨b, off, x, rfl, _, _, hz, hc⟩ := rd_elem TEdit.len (HR.out.new HB.out) HL.out hlt
      have c0 : wr.cell? ⟨b, off + k * 6, none⟩ = _ := hc 0 _ rfl
      have c1 := hc 1 _ rfl
      have c2 := hc 2 _ rfl
      have c3 := hc 3 _ rfl
      have c4 := hc 4 _ rfl
      have c5 := hc 5 _ rfl
      have HV : Hid ((i64s ts)[k]? = some (.int .i64 x.f5)) := Lib.hid (by rw [← HTs.out]; unfold i64s; rw [List.getElem?_map, List.getElem?_map, hz]; rfl)
      have C0 := Lib.hid (fun W => clo_edit x W)
      clear hz hc
      go_wp2_with (go_at_call 88; refine Calls.mono (C0.out _) ?_; rintro e w1 ⟨rfl, hb1⟩; have HP1 := Lib.hid ((HP.out.new ((Below.refl _ _).alloc (Nat.le_refl _) _)).new hb1); have HB1 := Lib.hid (below_trans (HB.out.alloc HS.out _) hb1 (by simp)); obtain ⟨q0, d0⟩ := HP1.out.cell (j := k) hlt; have g0 := HP1.out.frozen k; clear hb1 c0 c1 c2 c3 c4 c5)
      go_roundg (n - (k + 1))
      case measure => omega
      case rel => exact ⟨k + 1, by omega, by omega, by go_num, Lib.hid (HP1.out.step HV.out), Lib.hid (HB1.out.setCell (by simp) _)⟩
    · obtain rfl : n = k := by omega
      go_wp2_with fail
      go_ret
      exact ⟨_, _, rfl, (HP.out.at_ (by omega) |> fun h => Pre.fr (size := 1) (by simpa using h) (by omega) (by have := HP.out.lt; exact this) (by unfold maxLen; omega) (by unfold i64s; rw [List.length_map, HLm.out]; omega)), HB.out⟩

end Go.Proofs.Ytkegapaococmcaa
