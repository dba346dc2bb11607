/- EGrant, ERule, EOp, what is needed of it. -/
import Derived.Test.YtkedacmpmancbaaGreatDoorVTGrant
import Derived.Test.YtkedacmpmancbaaGreatDoorVFun
import Derived.BigQuiet
import Derived.Deep.QuietTactic
import Derived.WalkSpells
import Derived.Lib.SliceRun
import Derived.Test.YtkedacmpmancbaaGreatDoorVTRule
import Derived.Test.YtkedacmpmancbaaGreatDoorVTOp
namespace Go.Proofs.YtkedacmpmancbaaGreatDoor
open Go Go.ChangeShapes Go.WideShapes Go.ChangeAt Go.RowKit Go.Lib
set_option linter.unusedVariables false
set_option linter.unusedSimpArgs false
set_option maxRecDepth 100000

theorem icGrant : (Tryz.prog.info? 106).map (fun i => (i.zero, i.size, i.bytes)) = some (some (.agg #[.int .i64 0, .int .i64 0, .int .i64 0, .int .i64 0, .int .i64 0, .int .i64 0, .bool false]), 7, 56) := by kernel_rfl
theorem ocGrant (l : List TGrant) : ∀ u ∈ cGrant l, u.oneCell' = true := by
 intro u hu
 obtain ⟨x, _, hx⟩ := List.mem_flatMap.1 hu
 simp only [TGrant.cells, List.mem_cons, List.not_mem_nil, or_false] at hx
 rcases hx with rfl | rfl | rfl | rfl | rfl | rfl | rfl <;> rfl
set_option maxHeartbeats 4000000 in
theorem clone_Grant (l : List TGrant) (A : Option Addr) (n c lo hi : Nat) (w : World) (hn : n ≤ 1048576) (hr : Rd w lo hi 7 A n (cGrant l)) :
  Calls Tryz.prog 106 #[.slice A n c] w (MakesO 106 7 n (cGrant l) w) := by
 have qT : ∀ (w : World) (a : Option Addr) (n c n' c' : Nat), (binOp .eql 30 (.slice a n c) (.slice none n' c')).run Tryz.prog w = .ok (.bool a.isNone) w := fun w a n c n' c' => Lib.run_eql_slice_nil w _ _ a n c n' c' Tryz.underlying30
 rcases A with _ | a
 ·
  have hz : n = 0 := by
   rcases Nat.eq_zero_or_pos n with h0 | h0
   ·
    exact h0
   ·
    obtain ⟨_, _, h, _⟩ := hr.2 h0
    cases h
  subst hz
  have hl : cGrant l = [] := List.eq_nil_of_length_eq_zero (by simpa using hr.1)
  rw [hl]
  clear hl hr
  go_enter Tryz.func106, Tryz.ntmps106
  go_wp2
  go_ret
  exact ⟨_, rfl, World.ownsRow_nil w _ _ _, Below.refl _ _⟩
 ·
  have HR := Lib.hid hr
  have HO := Lib.hid (World.ownsRow_lit (e := 106) (size := 7) w #[] 0 (Nat.le_refl _) (by unfold maxLen; omega) rfl)
  clear hr
  go_enter Tryz.func106, Tryz.ntmps106
  go_wp2_with (at_builtin; refine wp_app rfl _ _ _ rfl w.heap.size 106 (.agg #[.int .i64 0, .int .i64 0, .int .i64 0, .int .i64 0, .int .i64 0, .int .i64 0, .bool false]) 7 56 Tryz.underlying30 icGrant rfl (by decide) _ _ _ rfl HO.out lo hi (some a) n c (cGrant l) rfl (HR.out.alloc _) (ocGrant l) (by unfold maxLen; omega) (by omega) (by simp) ?_; intro v1 w1 ho1 hb1 _ _; have HO1 := Lib.hid ho1; have HB1 := Lib.hid (((Below.refl w.heap.size w).alloc (Nat.le_refl _) _).trans hb1); clear ho1 hb1)
  go_ret
  exact ⟨_, rfl, by simpa using HO1.out, HB1.out⟩
end Go.Proofs.YtkedacmpmancbaaGreatDoor
namespace Go.Proofs.YtkedacmpmancbaaGreatDoor
open Go Go.ChangeShapes Go.WideShapes Go.ChangeAt Go.RowKit Go.Lib
set_option linter.unusedVariables false
set_option linter.unusedSimpArgs false
set_option maxRecDepth 100000

theorem icRule : (Tryz.prog.info? 113).map (fun i => (i.zero, i.size, i.bytes)) = some (some (.agg #[.int .i64 0, .int .i64 0, .int .i64 0, .int .i64 0, .int .i64 0, .int .i64 0, .int .i64 0, .int .i64 0]), 8, 64) := by kernel_rfl
theorem ocRule (l : List TRule) : ∀ u ∈ cRule l, u.oneCell' = true := by
 intro u hu
 obtain ⟨x, _, hx⟩ := List.mem_flatMap.1 hu
 simp only [TRule.cells, List.mem_cons, List.not_mem_nil, or_false] at hx
 rcases hx with rfl | rfl | rfl | rfl | rfl | rfl | rfl | rfl <;> rfl
set_option maxHeartbeats 4000000 in
theorem clone_Rule (l : List TRule) (A : Option Addr) (n c lo hi : Nat) (w : World) (hn : n ≤ 1048576) (hr : Rd w lo hi 8 A n (cRule l)) :
  Calls Tryz.prog 108 #[.slice A n c] w (MakesO 113 8 n (cRule l) w) := by
 have qT : ∀ (w : World) (a : Option Addr) (n c n' c' : Nat), (binOp .eql 32 (.slice a n c) (.slice none n' c')).run Tryz.prog w = .ok (.bool a.isNone) w := fun w a n c n' c' => Lib.run_eql_slice_nil w _ _ a n c n' c' Tryz.underlying32
 rcases A with _ | a
 ·
  have hz : n = 0 := by
   rcases Nat.eq_zero_or_pos n with h0 | h0
   ·
    exact h0
   ·
    obtain ⟨_, _, h, _⟩ := hr.2 h0
    cases h
  subst hz
  have hl : cRule l = [] := List.eq_nil_of_length_eq_zero (by simpa using hr.1)
  rw [hl]
  clear hl hr
  go_enter Tryz.func108, Tryz.ntmps108
  go_wp2
  go_ret
  exact ⟨_, rfl, World.ownsRow_nil w _ _ _, Below.refl _ _⟩
 ·
  have HR := Lib.hid hr
  have HO := Lib.hid (World.ownsRow_lit (e := 113) (size := 8) w #[] 0 (Nat.le_refl _) (by unfold maxLen; omega) rfl)
  clear hr
  go_enter Tryz.func108, Tryz.ntmps108
  go_wp2_with (at_builtin; refine wp_app rfl _ _ _ rfl w.heap.size 113 (.agg #[.int .i64 0, .int .i64 0, .int .i64 0, .int .i64 0, .int .i64 0, .int .i64 0, .int .i64 0, .int .i64 0]) 8 64 Tryz.underlying32 icRule rfl (by decide) _ _ _ rfl HO.out lo hi (some a) n c (cRule l) rfl (HR.out.alloc _) (ocRule l) (by unfold maxLen; omega) (by omega) (by simp) ?_; intro v1 w1 ho1 hb1 _ _; have HO1 := Lib.hid ho1; have HB1 := Lib.hid (((Below.refl w.heap.size w).alloc (Nat.le_refl _) _).trans hb1); clear ho1 hb1)
  go_ret
  exact ⟨_, rfl, by simpa using HO1.out, HB1.out⟩
end Go.Proofs.YtkedacmpmancbaaGreatDoor
namespace Go.Proofs.YtkedacmpmancbaaGreatDoor
open Go Go.ChangeShapes Go.WideShapes Go.ChangeAt Go.RowKit Go.Lib
set_option linter.unusedVariables false
set_option linter.unusedSimpArgs false
set_option maxRecDepth 100000

theorem icOp : (Tryz.prog.info? 130).map (fun i => (i.zero, i.size, i.bytes)) = some (some (.agg #[.int .i64 0, .int .i64 0, .int .i64 0, .int .i64 0]), 4, 32) := by kernel_rfl
theorem ocOp (l : List TOp) : ∀ u ∈ cOp l, u.oneCell' = true := by
 intro u hu
 obtain ⟨x, _, hx⟩ := List.mem_flatMap.1 hu
 simp only [TOp.cells, List.mem_cons, List.not_mem_nil, or_false] at hx
 rcases hx with rfl | rfl | rfl | rfl <;> rfl
set_option maxHeartbeats 4000000 in
theorem clone_Op (l : List TOp) (A : Option Addr) (n c lo hi : Nat) (w : World) (hn : n ≤ 1048576) (hr : Rd w lo hi 4 A n (cOp l)) :
  Calls Tryz.prog 109 #[.slice A n c] w (MakesO 130 4 n (cOp l) w) := by
 have qT : ∀ (w : World) (a : Option Addr) (n c n' c' : Nat), (binOp .eql 33 (.slice a n c) (.slice none n' c')).run Tryz.prog w = .ok (.bool a.isNone) w := fun w a n c n' c' => Lib.run_eql_slice_nil w _ _ a n c n' c' Tryz.underlying33
 rcases A with _ | a
 ·
  have hz : n = 0 := by
   rcases Nat.eq_zero_or_pos n with h0 | h0
   ·
    exact h0
   ·
    obtain ⟨_, _, h, _⟩ := hr.2 h0
    cases h
  subst hz
  have hl : cOp l = [] := List.eq_nil_of_length_eq_zero (by simpa using hr.1)
  rw [hl]
  clear hl hr
  go_enter Tryz.func109, Tryz.ntmps109
  go_wp2
  go_ret
  exact ⟨_, rfl, World.ownsRow_nil w _ _ _, Below.refl _ _⟩
 ·
  have HR := Lib.hid hr
  have HO := Lib.hid (World.ownsRow_lit (e := 130) (size := 4) w #[] 0 (Nat.le_refl _) (by unfold maxLen; omega) rfl)
  clear hr
  go_enter Tryz.func109, Tryz.ntmps109
  go_wp2_with (at_builtin; refine wp_app rfl _ _ _ rfl w.heap.size 130 (.agg #[.int .i64 0, .int .i64 0, .int .i64 0, .int .i64 0]) 4 32 Tryz.underlying33 icOp rfl (by decide) _ _ _ rfl HO.out lo hi (some a) n c (cOp l) rfl (HR.out.alloc _) (ocOp l) (by unfold maxLen; omega) (by omega) (by simp) ?_; intro v1 w1 ho1 hb1 _ _; have HO1 := Lib.hid ho1; have HB1 := Lib.hid (((Below.refl w.heap.size w).alloc (Nat.le_refl _) _).trans hb1); clear ho1 hb1)
  go_ret
  exact ⟨_, rfl, by simpa using HO1.out, HB1.out⟩
end Go.Proofs.YtkedacmpmancbaaGreatDoor
