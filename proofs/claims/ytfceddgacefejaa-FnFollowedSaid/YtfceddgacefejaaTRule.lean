/- The laws' own helpers on slices of Rule: copied, compared, marked, and the marks looked for. -/
import Derived.Test.YtfceddgacefejaaRws
import Derived.Test.YtfceddgacefejaaTPattern
import Derived.Test.YtfceddgacefejaaTSite
import Derived.StillTailTactics
namespace Go.Proofs.Ytfceddgacefejaa
open Go Go.ChangeShapes Go.WideShapes Go.ChangeAt Go.RowKit Go.Lib
set_option linter.unusedVariables false
set_option linter.unusedSimpArgs false
set_option maxRecDepth 100000

structure TRule where
 f0 : Int
 f1 : Int
 f2 : Int
 f3 : Int
 f4 : Int
 f5 : Int
 f6 : Int
 f7 : Int
deriving DecidableEq
def TRule.cells (x : TRule) : List Value := [.int .i64 x.f0, .int .i64 x.f1, .int .i64 x.f2, .int .i64 x.f3, .int .i64 x.f4, .int .i64 x.f5, .int .i64 x.f6, .int .i64 x.f7]
abbrev cRule (d : List TRule) : List Value := d.flatMap TRule.cells
theorem TRule.len (x : TRule) : x.cells.length = 8 := rfl
def TRule.fit (x : TRule) : Prop := (-9223372036854775808 ≤ x.f0 ∧ x.f0 ≤ 9223372036854775807) ∧ (-9223372036854775808 ≤ x.f1 ∧ x.f1 ≤ 9223372036854775807) ∧ (-9223372036854775808 ≤ x.f2 ∧ x.f2 ≤ 9223372036854775807) ∧ (-9223372036854775808 ≤ x.f3 ∧ x.f3 ≤ 9223372036854775807) ∧ (-9223372036854775808 ≤ x.f4 ∧ x.f4 ≤ 9223372036854775807) ∧ (-9223372036854775808 ≤ x.f5 ∧ x.f5 ≤ 9223372036854775807) ∧ (-9223372036854775808 ≤ x.f6 ∧ x.f6 ≤ 9223372036854775807) ∧ (-9223372036854775808 ≤ x.f7 ∧ x.f7 ≤ 9223372036854775807)
def cRuleOk (d : List TRule) : Prop := ∀ x ∈ d, TRule.fit x
/-- The marks of one element, from k on. -/
def TRule.mark (k : Nat) : TRule := ⟨((k + 0 : Nat) : Int), ((k + 1 : Nat) : Int), ((k + 2 : Nat) : Int), ((k + 3 : Nat) : Int), ((k + 4 : Nat) : Int), ((k + 5 : Nat) : Int), ((k + 6 : Nat) : Int), ((k + 7 : Nat) : Int)⟩
def TRule.marks (k n : Nat) : List TRule := (List.range n).map fun i => TRule.mark (k + i * 8)
theorem TRule.marks_len (k n : Nat) : (TRule.marks k n).length = n := by simp [TRule.marks]
theorem TRule.marks_get (k n i : Nat) (h : i < n) : (TRule.marks k n)[i]? = some (TRule.mark (k + i * 8)) := by simp [TRule.marks, h]

theorem to_rule_one (x : TRule) (w : World) :
  Calls Try.prog 179 #[.agg #[.int .i64 x.f0, .int .i64 x.f1, .int .i64 x.f2, .int .i64 x.f3, .int .i64 x.f4, .int .i64 x.f5, .int .i64 x.f6, .int .i64 x.f7]] w (Says (.agg #[.int .i64 x.f0, .int .i64 x.f1, .int .i64 x.f2, .int .i64 x.f3, .int .i64 x.f4, .int .i64 x.f5, .int .i64 x.f6, .int .i64 x.f7]) w) := by
 go_enter Try.func179, Try.ntmps179
 go_wp2_with fail
 refine (to_pattern_one ⟨x.f2, x.f3⟩ _).mono ?_
 rintro e w1 ⟨rfl, hb1⟩
 obtain ⟨hc0, hf0⟩ := bcell hb1
 have HB1 := Lib.hid hb1
 have hs0 := hb1.size
 simp at hs0
 have hz0 : w.heap.size + 2 < w1.heap.size := by omega
 have ha0 : w.heap.size < w1.heap.size := by omega
 have hd0 : w.heap.size + 1 < w1.heap.size := by omega
 have he0 : w.heap.size + 1 + 1 < w1.heap.size := by omega
 clear hb1 hs0
 go_wp2_with fail
 refine (to_site_one ⟨x.f6, x.f7⟩ _).mono ?_
 rintro e w2 ⟨rfl, hb2⟩
 obtain ⟨hc1, hf1⟩ := bcell hb2
 have HB2 := Lib.hid hb2
 have hs1 := hb2.size
 simp at hs1
 have hz1 : w.heap.size + 2 < w2.heap.size := by omega
 have ha1 : w.heap.size < w2.heap.size := by omega
 have hd1 : w.heap.size + 1 < w2.heap.size := by omega
 have he1 : w.heap.size + 1 + 1 < w2.heap.size := by omega
 clear hb2 hs1
 go_wp2_with fail
 exact bodyPost_ret (v := .agg #[.int .i64 x.f0, .int .i64 x.f1, .int .i64 x.f2, .int .i64 x.f3, .int .i64 x.f4, .int .i64 x.f5, .int .i64 x.f6, .int .i64 x.f7]) (by simp [results, Try.results179, go_sem, hc0, ha0, hd0, he0, hc1, ha1, hd1, he1]) rfl
  ⟨rfl, by
      repeat (refine Below.setCell ?_ (by simp <;> omega) _)
      refine Below.trans ?_ (HB2.out.mono (by simp <;> omega))
      repeat (refine Below.setCell ?_ (by simp <;> omega) _)
      exact ((((Below.refl _ _).alloc (Nat.le_refl _) _).alloc (by simp) _).alloc (by simp <;> omega) _).trans (HB1.out.mono (by simp <;> omega))⟩

theorem to_rule (l : List TRule) (A : Option Addr) (n c lo hi : Nat) (w : World) (hn : n ≤ 17179869184) (hr : Rd w lo hi 8 A n (cRule l)) :
  Calls Try.prog 74 #[.slice A n c] w (Makes 165 8 n (cRule l) w) := by
 have hmk := make_rows (P := Try.prog) 55 165 (.agg #[.int .i64 0, .int .i64 0, .int .i64 0, .int .i64 0, .int .i64 0, .int .i64 0, .int .i64 0, .int .i64 0]) 8 64 Try.underlying55 (by kernel_rfl) n (by omega) (by omega)
 have HL := Lib.hid (rd_len TRule.len hr (by decide))
 have HR := Lib.hid hr
 clear hr
 go_enter Try.func74, Try.ntmps74
 go_wp2_with fail
 go_loopw [4] (fun i wr => ∃ k : Nat, k ≤ n ∧ i = .int .i64 k ∧ Pre wr w.heap.size 165 (n * 8) (cRule l) (k * 8) ∧ Below w.heap.size w wr) (fun i _ => n - (intOf i).toNat)
 case atStart => exact ⟨0, Nat.zero_le _, rfl, (pre_start (size_madeCells _ _)).at_ (by omega), (Below.refl _ _).alloc (Nat.le_refl _) _⟩
 case round =>
  obtain ⟨k, hk, rfl, hrow, hb⟩ := hrel
  have HB := Lib.hid hb
  by_cases hlt : k < n
  ·
   obtain ⟨b, off, x, rfl, _, _, hz, hc⟩ := rd_elem TRule.len (HR.out.new hb) HL.out hlt
   have c0 : wr.cell? ⟨b, off + k * 8, none⟩ = _ := hc 0 _ rfl
   have c1 := hc 1 _ rfl
   have c2 := hc 2 _ rfl
   have c3 := hc 3 _ rfl
   have c4 := hc 4 _ rfl
   have c5 := hc 5 _ rfl
   have c6 := hc 6 _ rfl
   have c7 := hc 7 _ rfl
   have HZ := Lib.hid hz
   have HW := Lib.hid hrow
   clear hrow hb hz hc
   go_wp2_with fail
   refine (to_rule_one x _).mono ?_
   rintro e w1 ⟨rfl, hb1⟩
   have HW1 := Lib.hid (HW.out.new hb1)
   have HB1 := Lib.hid (below_trans HB.out hb1 (Nat.le_refl _))

   obtain ⟨q0, d0⟩ := HW1.out.cell (j := k * 8) (by omega)
   obtain ⟨q1, d1⟩ := HW1.out.cell (j := k * 8 + 1) (by omega)
   obtain ⟨q2, d2⟩ := HW1.out.cell (j := k * 8 + 2) (by omega)
   obtain ⟨q3, d3⟩ := HW1.out.cell (j := k * 8 + 3) (by omega)
   obtain ⟨q4, d4⟩ := HW1.out.cell (j := k * 8 + 4) (by omega)
   obtain ⟨q5, d5⟩ := HW1.out.cell (j := k * 8 + 5) (by omega)
   obtain ⟨q6, d6⟩ := HW1.out.cell (j := k * 8 + 6) (by omega)
   obtain ⟨q7, d7⟩ := HW1.out.cell (j := k * 8 + 7) (by omega)
   have g0 := HW1.out.frozen (k * 8)
   have g1 := HW1.out.frozen (k * 8 + 1)
   have g2 := HW1.out.frozen (k * 8 + 2)
   have g3 := HW1.out.frozen (k * 8 + 3)
   have g4 := HW1.out.frozen (k * 8 + 4)
   have g5 := HW1.out.frozen (k * 8 + 5)
   have g6 := HW1.out.frozen (k * 8 + 6)
   have g7 := HW1.out.frozen (k * 8 + 7)
   have HG := Lib.hid (fun j u => flat_get TRule.len l k j x u HZ.out)
   clear hb1 c0 c1 c2 c3 c4 c5 c6 c7
   go_wp2_with fail
   go_roundw
   case rel => exact ⟨k + 1, by omega, by go_num, ((((((((HW1.out.step (HG.out 0 _ rfl)).step (HG.out 1 _ rfl)).step (HG.out 2 _ rfl)).step (HG.out 3 _ rfl)).step (HG.out 4 _ rfl)).step (HG.out 5 _ rfl)).step (HG.out 6 _ rfl)).step (HG.out 7 _ rfl)).at_ (by omega), ((((((((HB1.out.setCell (Nat.le_refl _) _).setCell (Nat.le_refl _) _).setCell (Nat.le_refl _) _).setCell (Nat.le_refl _) _).setCell (Nat.le_refl _) _).setCell (Nat.le_refl _) _).setCell (Nat.le_refl _) _).setCell (Nat.le_refl _) _)⟩
   case measure => simp [intOf]; omega
  ·
   obtain rfl : k = n := by omega
   have HW := Lib.hid hrow
   clear hrow hb
   go_wp2_with fail
   go_ret
   exact ⟨_, _, rfl, HW.out.fr (Nat.le_refl _) HW.out.lt (by unfold maxLen; omega) (by rw [flat_len TRule.len, HL.out]), HB.out⟩

theorem sz_rule (A : Option Addr) (n c : Nat) (left : Int) (w : World) (hn : n ≤ 9223372036854775807) (h : (n : Int) ≤ left) (hl : left ≤ 1048576) :
  Calls Try.prog 72 #[.slice A n c, .int .i64 left] w (Quiet (.int .i64 (left - n)) w) := by
 have hd : decide (left - n < 0) = false := by simp; omega
 go_enter Try.func72, Try.ntmps72
 go_wp2_with fail
 go_ret
 exact ⟨rfl, 0, rfl⟩
theorem szno_rule (A : Option Addr) (n c : Nat) (left : Int) (w : World) (hn : n ≤ 9223372036854775807) (h : ¬ (n : Int) ≤ left) (hl : left ≤ 1048576) (hl0 : 0 ≤ left) :
  Calls Try.prog 72 #[.slice A n c, .int .i64 left] w (Quiet (.int .i64 (-1)) w) := by
 have hd : decide (left - n < 0) = true := by simp; omega
 go_enter Try.func72, Try.ntmps72
 go_wp2_with fail
 go_ret
 exact ⟨rfl, 0, rfl⟩

theorem eq_rule_one (x : TRule) (w : World) :
  Calls Try.prog 182 #[.agg #[.int .i64 x.f0, .int .i64 x.f1, .int .i64 x.f2, .int .i64 x.f3, .int .i64 x.f4, .int .i64 x.f5, .int .i64 x.f6, .int .i64 x.f7], .agg #[.int .i64 x.f0, .int .i64 x.f1, .int .i64 x.f2, .int .i64 x.f3, .int .i64 x.f4, .int .i64 x.f5, .int .i64 x.f6, .int .i64 x.f7]] w (Says (.bool true) w) := by
 go_enter Try.func182, Try.ntmps182
 go_wp2
 go_ret
 exact ⟨rfl, by repeat (first | exact Below.refl _ _ | (refine Below.alloc ?_ (by simp <;> omega) _) | (refine below_dN ?_ _))⟩

theorem eq_rule_same (l : List TRule) (A A' : Option Addr) (n n' c c' lo hi lo' hi' : Nat) (w : World) (hn : n ≤ 17592186044416) (hn' : n' ≤ 17592186044416) (hr : Rd w lo hi 8 A n (cRule l)) (hr' : Rd w lo' hi' 8 A' n' (cRule l)) :
  Calls Try.prog 76 #[.slice A n c, .slice A' n' c'] w (Says (.bool true) w) := by
 have HL := Lib.hid (rd_len TRule.len hr (by decide))
 have HL' := Lib.hid (rd_len TRule.len hr' (by decide))
 obtain rfl : n' = n := by rw [← HL.out, ← HL'.out]
 have HR := Lib.hid hr
 have HR' := Lib.hid hr'
 clear hr hr' hn'
 go_enter Try.func76, Try.ntmps76
 go_wp2_with fail
 go_loopw [5] (fun i wr => ∃ k : Nat, k ≤ n' ∧ i = .int .i64 k ∧ Below w.heap.size w wr) (fun i _ => n' - (intOf i).toNat)
 case atStart => exact ⟨0, Nat.zero_le _, rfl, Below.refl _ _⟩
 case round =>
  obtain ⟨k, hk, rfl, hb⟩ := hrel
  have HB := Lib.hid hb
  by_cases hlt : k < n'
  ·
   obtain ⟨b, off, x, rfl, _, _, hz, hc⟩ := rd_elem TRule.len (HR.out.new hb) HL.out hlt
   obtain ⟨b', off', x', rfl, _, _, hz', hc'⟩ := rd_elem TRule.len (HR'.out.new hb) HL'.out hlt
   obtain rfl : x = x' := Option.some.inj (hz.symm.trans hz')
   have c0 : wr.cell? ⟨b, off + k * 8, none⟩ = _ := hc 0 _ rfl
   have c1 := hc 1 _ rfl
   have c2 := hc 2 _ rfl
   have c3 := hc 3 _ rfl
   have c4 := hc 4 _ rfl
   have c5 := hc 5 _ rfl
   have c6 := hc 6 _ rfl
   have c7 := hc 7 _ rfl
   have c0' : wr.cell? ⟨b', off' + k * 8, none⟩ = _ := hc' 0 _ rfl
   have c1' := hc' 1 _ rfl
   have c2' := hc' 2 _ rfl
   have c3' := hc' 3 _ rfl
   have c4' := hc' 4 _ rfl
   have c5' := hc' 5 _ rfl
   have c6' := hc' 6 _ rfl
   have c7' := hc' 7 _ rfl
   clear hb hz hz' hc hc'
   go_wp2_with fail
   have HB2 := Lib.hid HB.out.drew
   go_still_tail 8, (by kernel_rfl)
   change wpList _ _ _ _ _ wr.drew
   generalize wr.drew = w2 at HB2 ⊢
   go_wp2_with fail
   refine (eq_rule_one x _).mono ?_
   rintro e w1 ⟨rfl, hb1⟩
   have HB1 := Lib.hid (below_trans HB2.out hb1 (Nat.le_refl _))
   clear hb1
   go_wp2_with fail
   go_roundw
   case rel => exact ⟨k + 1, by omega, by go_num, HB1.out⟩
   case measure => simp [intOf]; omega
  ·
   clear hb
   obtain rfl : k = n' := by omega
   go_wp2_with fail
   go_ret
   exact ⟨rfl, HB.out⟩

theorem mark_rule (xs : List Value) (A : Option Addr) (n c lo hi k0 : Nat) (w : World) (hn : n ≤ 17179869184) (hk0 : k0 ≤ 17592186044416) (hr : Fr w lo hi 165 8 A n c xs) :
  Calls Try.prog 77 #[.slice A n c, .int .i64 (k0 : Int)] w (fun e w' => e = .returned (.int .i64 ((k0 + n * 8 : Nat) : Int)) ∧ Fr w' lo hi 165 8 A n c (cRule (TRule.marks k0 n)) ∧ Chg lo hi w w' ∧ w'.heap.size = w.heap.size) := by
 by_cases h0 : 0 < n
 ·
  obtain ⟨g, cap, rfl, hlo, hhi, hcap, rfl, hcm, f, hrow, hf⟩ := hr.row h0
  have HR := Lib.hid hrow
  clear hrow hf hr
  go_enter Try.func77, Try.ntmps77
  go_wp2_with fail
  go_loopw [1, 5] (fun q i wr => ∃ k : Nat, k ≤ n ∧ i = .int .i64 k ∧ q = .int .i64 ((k0 + k * 8 : Nat) : Int) ∧ Pre wr g 165 (c * 8) (cRule (TRule.marks k0 n)) (k * 8) ∧ Chg lo hi w wr ∧ wr.heap.size = w.heap.size) (fun _ i _ => n - (intOf i).toNat)
  case atStart => exact ⟨0, Nat.zero_le _, rfl, by simp, (pre_row HR.out).at_ (by omega), Chg.refl _ _ _, rfl⟩
  case round =>
   obtain ⟨k, hk, rfl, rfl, hrow, hb, hs⟩ := hrel
   have HB := Lib.hid hb
   have HS := Lib.hid hs
   by_cases hlt : k < n
   ·
    have hcc : k * 8 + 8 ≤ c * 8 := by omega
    obtain ⟨q0, d0⟩ := hrow.cell (j := k * 8) (by omega)
    obtain ⟨q1, d1⟩ := hrow.cell (j := k * 8 + 1) (by omega)
    obtain ⟨q2, d2⟩ := hrow.cell (j := k * 8 + 2) (by omega)
    obtain ⟨q3, d3⟩ := hrow.cell (j := k * 8 + 3) (by omega)
    obtain ⟨q4, d4⟩ := hrow.cell (j := k * 8 + 4) (by omega)
    obtain ⟨q5, d5⟩ := hrow.cell (j := k * 8 + 5) (by omega)
    obtain ⟨q6, d6⟩ := hrow.cell (j := k * 8 + 6) (by omega)
    obtain ⟨q7, d7⟩ := hrow.cell (j := k * 8 + 7) (by omega)
    have g0 := hrow.frozen (k * 8)
    have g1 := hrow.frozen (k * 8 + 1)
    have g2 := hrow.frozen (k * 8 + 2)
    have g3 := hrow.frozen (k * 8 + 3)
    have g4 := hrow.frozen (k * 8 + 4)
    have g5 := hrow.frozen (k * 8 + 5)
    have g6 := hrow.frozen (k * 8 + 6)
    have g7 := hrow.frozen (k * 8 + 7)
    have HW := Lib.hid hrow
    have HG := Lib.hid (fun j u => flat_get TRule.len (TRule.marks k0 n) k j _ u (TRule.marks_get k0 n k hlt))
    clear hrow hb hs
    go_wp2_with fail
    go_roundw
    case rel =>
     refine ⟨k + 1, by omega, by go_num, by go_num, ?_, ?_, ?_⟩
     ·
      exact ((((((((HW.out.step (HG.out 0 _ rfl)).step (HG.out 1 _ rfl)).step (HG.out 2 _ rfl)).step (HG.out 3 _ rfl)).step (HG.out 4 _ rfl)).step (HG.out 5 _ rfl)).step (HG.out 6 _ rfl)).step (HG.out 7 _ rfl)).at_ (by omega)
     ·
      exact ((((((((HB.out.set_ (.inl ⟨hlo, hhi⟩) _).set_ (.inl ⟨hlo, hhi⟩) _).set_ (.inl ⟨hlo, hhi⟩) _).set_ (.inl ⟨hlo, hhi⟩) _).set_ (.inl ⟨hlo, hhi⟩) _).set_ (.inl ⟨hlo, hhi⟩) _).set_ (.inl ⟨hlo, hhi⟩) _).set_ (.inl ⟨hlo, hhi⟩) _)
     ·
      simpa [World.setCell] using HS.out
    case measure => simp [intOf]; omega
   ·
    obtain rfl : k = n := by omega
    have HW := Lib.hid hrow
    clear hrow hb hs
    go_wp2_with fail
    go_ret
    exact ⟨rfl, HW.out.frcap hlo hhi hcap hcm (by rw [flat_len TRule.len, TRule.marks_len]), HB.out, HS.out⟩
 ·
  obtain rfl : n = 0 := by omega
  have HR := Lib.hid hr
  clear hr h0
  go_enter Try.func77, Try.ntmps77
  go_wp2_with fail
  go_loopw [1, 5] (fun q i wr => q = .int .i64 (k0 : Int) ∧ i = .int .i64 0 ∧ wr = w) (fun _ i _ => 0)
  case atStart => exact ⟨rfl, rfl, rfl⟩
  case round =>
   obtain ⟨rfl, rfl, rfl⟩ := hrel
   go_wp2_with fail
   go_ret
   exact ⟨by simp, by
    have hx : xs = [] := List.eq_nil_of_length_eq_zero (by simpa using HR.out.len)
    subst hx
    simpa [TRule.marks] using HR.out, Chg.refl _ _ _, rfl⟩

theorem TRule.mark_eq (k0 k : Nat) : TRule.mark (k0 + k * 8) = ⟨(k0 : Int) + k * 8, (k0 : Int) + k * 8 + 1, (k0 : Int) + k * 8 + 2, (k0 : Int) + k * 8 + 3, (k0 : Int) + k * 8 + 4, (k0 : Int) + k * 8 + 5, (k0 : Int) + k * 8 + 6, (k0 : Int) + k * 8 + 7⟩ := by
 unfold TRule.mark
 congr 1 <;> (first | omega | (congr 2; omega) | skip)
theorem held_rule (A : Option Addr) (n c lo hi k0 : Nat) (w : World) (hn : n ≤ 17179869184) (hk0 : k0 ≤ 17592186044416) (hr : Rd w lo hi 8 A n (cRule (TRule.marks k0 n))) :
  Calls Try.prog 78 #[.slice A n c, .int .i64 (k0 : Int)] w (Quiet (.int .i64 ((k0 + n * 8 : Nat) : Int)) w) := by
 have HR := Lib.hid hr
 clear hr
 go_enter Try.func78, Try.ntmps78
 go_wp2_with fail
 go_loopw [1, 5] (fun q i wr => ∃ k : Nat, k ≤ n ∧ i = .int .i64 k ∧ q = .int .i64 ((k0 + k * 8 : Nat) : Int) ∧ ∃ d, wr = w.drewN d) (fun _ i _ => n - (intOf i).toNat)
 case atStart => exact ⟨0, Nat.zero_le _, rfl, by simp, 0, rfl⟩
 case round =>
  obtain ⟨k, hk, rfl, rfl, d, rfl⟩ := hrel
  by_cases hlt : k < n
  ·
   obtain ⟨b, off, x, rfl, _, _, hz, hc⟩ := rd_elem TRule.len HR.out (TRule.marks_len k0 n) hlt
   rw [TRule.marks_get _ _ _ hlt, TRule.mark_eq] at hz
   injection hz with hz
   subst hz
   have c0 : w.cell? ⟨b, off + k * 8, none⟩ = some (.int .i64 ((k0 : Int) + k * 8)) := hc 0 _ rfl
   have c1 : w.cell? ⟨b, off + k * 8 + 1, none⟩ = some (.int .i64 ((k0 : Int) + k * 8 + 1)) := hc 1 _ rfl
   have c2 : w.cell? ⟨b, off + k * 8 + 2, none⟩ = some (.int .i64 ((k0 : Int) + k * 8 + 2)) := hc 2 _ rfl
   have c3 : w.cell? ⟨b, off + k * 8 + 3, none⟩ = some (.int .i64 ((k0 : Int) + k * 8 + 3)) := hc 3 _ rfl
   have c4 : w.cell? ⟨b, off + k * 8 + 4, none⟩ = some (.int .i64 ((k0 : Int) + k * 8 + 4)) := hc 4 _ rfl
   have c5 : w.cell? ⟨b, off + k * 8 + 5, none⟩ = some (.int .i64 ((k0 : Int) + k * 8 + 5)) := hc 5 _ rfl
   have c6 : w.cell? ⟨b, off + k * 8 + 6, none⟩ = some (.int .i64 ((k0 : Int) + k * 8 + 6)) := hc 6 _ rfl
   have c7 : w.cell? ⟨b, off + k * 8 + 7, none⟩ = some (.int .i64 ((k0 : Int) + k * 8 + 7)) := hc 7 _ rfl
   clear hc
   go_wp2_with fail
   go_roundw
   case rel => exact ⟨k + 1, by omega, by go_num, by go_num, _, rfl⟩
   case measure => simp [intOf]; omega
  ·
   obtain rfl : k = n := by omega
   go_wp2_with fail
   go_ret
   exact ⟨rfl, _, rfl⟩

section
variable {H : Type} {enc : TypeId × Value → H} {w : World} {base fuel : Nat} {spare : Nat → Bool} {held : Bool}
theorem read_rule {cs : List Value} {y : DataW H × List MemPlace} (h : DataW.trod enc Try.prog w base spare held fuel 209 cs = some y) : ∃ x : TRule, cs = x.cells ∧ x.fit := by
 obtain ⟨ys, n, _, _, hlen, hyl, hf⟩ := DataW.trod_struct Try.underlying209 h
 have hlen : cs.length = 8 := hlen.trans (by kernel_rfl)
 have hyl : ys.length = 6 := hyl
 have ci : Try.prog.cellsOf 3 = 1 := by kernel_rfl
 have cPattern : Try.prog.cellsOf 206 = 2 := by kernel_rfl
 have cSite : Try.prog.cellsOf 207 = 2 := by kernel_rfl
 match cs, hlen with
 | [z0, z1, z2, z3, z4, z5, z6, z7], _ =>
  have h0 : DataW.trod enc Try.prog w base spare held n 3 (([z0, z1, z2, z3, z4, z5, z6, z7].drop 0).take (Try.prog.cellsOf 3)) = ys[0]? := hf 0 _ rfl
  rw [ci] at h0
  have h0' : DataW.trod enc Try.prog w base spare held n 3 [z0] = some (ys[0]'(by omega)) := h0.trans (List.getElem?_eq_getElem (by omega))
  obtain ⟨x0, e0, _, w0⟩ := DataW.trod_int Try.underlying3 h0'
  have h1 : DataW.trod enc Try.prog w base spare held n 3 (([z0, z1, z2, z3, z4, z5, z6, z7].drop 1).take (Try.prog.cellsOf 3)) = ys[1]? := hf 1 _ rfl
  rw [ci] at h1
  have h1' : DataW.trod enc Try.prog w base spare held n 3 [z1] = some (ys[1]'(by omega)) := h1.trans (List.getElem?_eq_getElem (by omega))
  obtain ⟨x1, e1, _, w1⟩ := DataW.trod_int Try.underlying3 h1'
  have h2 : DataW.trod enc Try.prog w base spare held n 206 (([z0, z1, z2, z3, z4, z5, z6, z7].drop 2).take (Try.prog.cellsOf 206)) = ys[2]? := hf 2 _ rfl
  rw [cPattern] at h2
  have h2' : DataW.trod enc Try.prog w base spare held n 206 [z2, z3] = some (ys[2]'(by omega)) := h2.trans (List.getElem?_eq_getElem (by omega))
  obtain ⟨p2, e2, g2⟩ := read_pattern h2'
  simp only [TPattern.cells, List.cons.injEq, and_true] at e2
  have h3 : DataW.trod enc Try.prog w base spare held n 3 (([z0, z1, z2, z3, z4, z5, z6, z7].drop 4).take (Try.prog.cellsOf 3)) = ys[3]? := hf 3 _ rfl
  rw [ci] at h3
  have h3' : DataW.trod enc Try.prog w base spare held n 3 [z4] = some (ys[3]'(by omega)) := h3.trans (List.getElem?_eq_getElem (by omega))
  obtain ⟨x4, e3, _, w3⟩ := DataW.trod_int Try.underlying3 h3'
  have h4 : DataW.trod enc Try.prog w base spare held n 3 (([z0, z1, z2, z3, z4, z5, z6, z7].drop 5).take (Try.prog.cellsOf 3)) = ys[4]? := hf 4 _ rfl
  rw [ci] at h4
  have h4' : DataW.trod enc Try.prog w base spare held n 3 [z5] = some (ys[4]'(by omega)) := h4.trans (List.getElem?_eq_getElem (by omega))
  obtain ⟨x5, e4, _, w4⟩ := DataW.trod_int Try.underlying3 h4'
  have h5 : DataW.trod enc Try.prog w base spare held n 207 (([z0, z1, z2, z3, z4, z5, z6, z7].drop 6).take (Try.prog.cellsOf 207)) = ys[5]? := hf 5 _ rfl
  rw [cSite] at h5
  have h5' : DataW.trod enc Try.prog w base spare held n 207 [z6, z7] = some (ys[5]'(by omega)) := h5.trans (List.getElem?_eq_getElem (by omega))
  obtain ⟨p5, e5, g5⟩ := read_site h5'
  simp only [TSite.cells, List.cons.injEq, and_true] at e5
  exact ⟨⟨x0, x1, p2.f0, p2.f1, x4, x5, p5.f0, p5.f1⟩, by simp_all [TRule.cells], bounds_i64 w0, bounds_i64 w1, g2.1, g2.2, bounds_i64 w3, bounds_i64 w4, g5.1, g5.2⟩
theorem open_rule_list {W : World} {base' : Nat} {v : Value} {d : DataW H} {p : List MemPlace} (hv : Value.okWide Try.prog W .any base' 88 v)
  (h : DataW.Trod enc Try.prog W 0 (fun _ => true) true 88 v d p) (hlt : ∀ x ∈ p, x.block < W.heap.size) :
  ∃ (A : Option Addr) (n cap : Nat) (l : List TRule), v = .slice A n cap ∧ n ≤ maxLen ∧ Rd W 0 W.heap.size 8 A n (cRule l) ∧ Hid (cRuleOk l) := by
 refine open_rows_list (c := TRule.cells) (fit := TRule.fit) Try.underlying88 (by kernel_rfl) TRule.len (by decide) (fun h => read_rule h) hv h hlt
end

section
variable {H : Type} {enc : TypeId × Value → H}
theorem open_rule {W : World} {base : Nat} {v : Value} {d : DataW H} {p : List MemPlace} (hv : Value.okWide Try.prog W .any base 209 v)
  (h : DataW.Trod enc Try.prog W 0 (fun _ => true) true 209 v d p) : ∃ x : TRule, v = .agg #[.int .i64 x.f0, .int .i64 x.f1, .int .i64 x.f2, .int .i64 x.f3, .int .i64 x.f4, .int .i64 x.f5, .int .i64 x.f6, .int .i64 x.f7] ∧ Hid x.fit := by
 obtain ⟨cs, rfl, hsz⟩ := okWide_struct Try.underlying209 hv
 obtain ⟨fuel, hf⟩ := h
 obtain ⟨x, hx, hfit⟩ := read_rule hf
 refine ⟨x, ?_, hfit⟩
 have hx' : cs.toList = x.cells := hx
 rw [show cs = x.cells.toArray by rw [← hx']]
 rfl
end

end Go.Proofs.Ytfceddgacefejaa
