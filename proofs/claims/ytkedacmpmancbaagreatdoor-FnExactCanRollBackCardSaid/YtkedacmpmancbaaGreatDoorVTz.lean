/- TStored, TLetter, TRequest, what is needed of it. -/
import Derived.Test.YtkedacmpmancbaaGreatDoorVFrame
import Derived.Test.YtkedacmpmancbaaGreatDoorVRws
import Derived.StillTailTactics
import Derived.Test.YtkedacmpmancbaaGreatDoorVTSite
namespace Go.Proofs.YtkedacmpmancbaaGreatDoor
open Go Go.ChangeShapes Go.WideShapes Go.ChangeAt Go.RowKit Go.Lib
set_option linter.unusedVariables false
set_option linter.unusedSimpArgs false
set_option maxRecDepth 100000

structure TStored where
  f0 : Int
  f1 : Int
  f2 : Int
  f3 : Int
deriving DecidableEq
def TStored.cells (x : TStored) : List Value := [.int .i64 x.f0, .int .i64 x.f1, .int .i64 x.f2, .int .i64 x.f3]
abbrev cStored (d : List TStored) : List Value := d.flatMap TStored.cells
theorem TStored.len (x : TStored) : x.cells.length = 4 := rfl
def TStored.fit (x : TStored) : Prop := (-9223372036854775808 ≤ x.f0 ∧ x.f0 ≤ 9223372036854775807) ∧ (-9223372036854775808 ≤ x.f1 ∧ x.f1 ≤ 9223372036854775807) ∧ (-9223372036854775808 ≤ x.f2 ∧ x.f2 ≤ 9223372036854775807) ∧ (-9223372036854775808 ≤ x.f3 ∧ x.f3 ≤ 9223372036854775807)
def cStoredOk (d : List TStored) : Prop := ∀ x ∈ d, TStored.fit x
/-- The marks of one element, from k on. -/
def TStored.mark (k : Nat) : TStored := ⟨((k + 0 : Nat) : Int), ((k + 1 : Nat) : Int), ((k + 2 : Nat) : Int), ((k + 3 : Nat) : Int)⟩
def TStored.marks (k n : Nat) : List TStored := (List.range n).map fun i => TStored.mark (k + i * 4)
theorem to_stored_one (x : TStored) (w : World) :
    Calls Tryz.prog 104 #[.agg #[.int .i64 x.f0, .int .i64 x.f1, .int .i64 x.f2, .int .i64 x.f3]] w (Says (.agg #[.int .i64 x.f0, .int .i64 x.f1, .int .i64 x.f2, .int .i64 x.f3]) w) := by
  go_enter Tryz.func104, Tryz.ntmps104
  go_wp2
  exact bodyPost_ret (v := .agg #[.int .i64 x.f0, .int .i64 x.f1, .int .i64 x.f2, .int .i64 x.f3]) (by simp [results, Tryz.results104, go_sem]) rfl
    ⟨rfl, aU15⟩

theorem to_stored (l : List TStored) (A : Option Addr) (n c lo hi : Nat) (w : World) (hn : n ≤ 17179869184) (hr : Rd w lo hi 4 A n (cStored l)) :
    Calls Tryz.prog 45 #[.slice A n c] w (Makes 148 4 n (cStored l) w) := by
  have hmk := make_rows (P := Tryz.prog) 44 148 (.agg #[.int .i64 0, .int .i64 0, .int .i64 0, .int .i64 0]) 4 32 Tryz.underlying44 (by kernel_rfl) n (by omega) (by omega)
  have HL := Lib.hid (rd_len TStored.len hr (by decide))
  have HR := Lib.hid hr
  clear hr
  go_enter Tryz.func45, Tryz.ntmps45
  go_wp2_with fail
  go_loopw [4] (fun i wr => ∃ k : Nat, k ≤ n ∧ i = .int .i64 k ∧ Pre wr w.heap.size 148 (n * 4) (cStored l) (k * 4) ∧ Below w.heap.size w wr) (fun i _ => n - (intOf i).toNat)
  case atStart => exact ⟨0, Nat.zero_le _, rfl, (pre_start (size_madeCells _ _)).at_ (by omega), (Below.refl _ _).alloc (Nat.le_refl _) _⟩
  case round =>
    obtain ⟨k, hk, rfl, hrow, hb⟩ := hrel
    have HB := Lib.hid hb
    by_cases hlt : k < n
    · obtain ⟨b, off, x, rfl, _, _, hz, hc⟩ := rd_elem TStored.len (HR.out.new hb) HL.out hlt
      have c0 : wr.cell? ⟨b, off + k * 4, none⟩ = _ := hc 0 _ rfl
      have c1 := hc 1 _ rfl
      have c2 := hc 2 _ rfl
      have c3 := hc 3 _ rfl
      have HZ := Lib.hid hz
      have HW := Lib.hid hrow
      clear hrow hb hz hc
      go_wp2_with fail
      refine (to_stored_one x _).mono ?_
      rintro e w1 ⟨rfl, hb1⟩
      have HW1 := Lib.hid (HW.out.new hb1)
      have HB1 := Lib.hid (below_trans HB.out hb1 (Nat.le_refl _))

      obtain ⟨q0, d0⟩ := HW1.out.cell (j := k * 4) (by omega)
      obtain ⟨q1, d1⟩ := HW1.out.cell (j := k * 4 + 1) (by omega)
      obtain ⟨q2, d2⟩ := HW1.out.cell (j := k * 4 + 2) (by omega)
      obtain ⟨q3, d3⟩ := HW1.out.cell (j := k * 4 + 3) (by omega)
      have g0 := HW1.out.frozen (k * 4)
      have g1 := HW1.out.frozen (k * 4 + 1)
      have g2 := HW1.out.frozen (k * 4 + 2)
      have g3 := HW1.out.frozen (k * 4 + 3)
      have HG := Lib.hid (fun j u => flat_get TStored.len l k j x u HZ.out)
      clear hb1 c0 c1 c2 c3
      go_wp2_with fail
      go_roundw
      case rel => exact ⟨k + 1, by omega, by go_num, ((((HW1.out.step (HG.out 0 _ rfl)).step (HG.out 1 _ rfl)).step (HG.out 2 _ rfl)).step (HG.out 3 _ rfl)).at_ (by omega), ((((HB1.out.setCell (Nat.le_refl _) _).setCell (Nat.le_refl _) _).setCell (Nat.le_refl _) _).setCell (Nat.le_refl _) _)⟩
      case measure => simp [intOf]; omega
    · obtain rfl : k = n := by omega
      have HW := Lib.hid hrow
      clear hrow hb
      go_wp2_with fail
      go_ret
      exact ⟨_, _, rfl, HW.out.fr (Nat.le_refl _) HW.out.lt (by unfold maxLen; omega) (by rw [flat_len TStored.len, HL.out]), HB.out⟩

theorem sz_stored (A : Option Addr) (n c : Nat) (left : Int) (w : World) (hn : n ≤ 9223372036854775807) (h : (n : Int) ≤ left) (hl : left ≤ 1048576) :
    Calls Tryz.prog 44 #[.slice A n c, .int .i64 left] w (Quiet (.int .i64 (left - n)) w) := by
  have hd : decide (left - n < 0) = false := by simp; omega
  go_enter Tryz.func44, Tryz.ntmps44
  go_wp2_with fail
  go_ret
  exact ⟨rfl, 0, rfl⟩
theorem szno_stored (A : Option Addr) (n c : Nat) (left : Int) (w : World) (hn : n ≤ 9223372036854775807) (h : ¬ (n : Int) ≤ left) (hl : left ≤ 1048576) (hl0 : 0 ≤ left) :
    Calls Tryz.prog 44 #[.slice A n c, .int .i64 left] w (Quiet (.int .i64 (-1)) w) := by
  have hd : decide (left - n < 0) = true := by simp; omega
  go_enter Tryz.func44, Tryz.ntmps44
  go_wp2_with fail
  go_ret
  exact ⟨rfl, 0, rfl⟩

theorem eq_stored_one (x : TStored) (w : World) :
    Calls Tryz.prog 105 #[.agg #[.int .i64 x.f0, .int .i64 x.f1, .int .i64 x.f2, .int .i64 x.f3], .agg #[.int .i64 x.f0, .int .i64 x.f1, .int .i64 x.f2, .int .i64 x.f3]] w (Says (.bool true) w) := by
  go_enter Tryz.func105, Tryz.ntmps105
  go_wp2
  go_ret
  exact ⟨rfl, aU13⟩

theorem eq_stored_same (l : List TStored) (A A' : Option Addr) (n n' c c' lo hi lo' hi' : Nat) (w : World) (hn : n ≤ 17592186044416) (hn' : n' ≤ 17592186044416) (hr : Rd w lo hi 4 A n (cStored l)) (hr' : Rd w lo' hi' 4 A' n' (cStored l)) :
    Calls Tryz.prog 46 #[.slice A n c, .slice A' n' c'] w (Says (.bool true) w) := by
  have HL := Lib.hid (rd_len TStored.len hr (by decide))
  have HL' := Lib.hid (rd_len TStored.len hr' (by decide))
  obtain rfl : n' = n := by rw [← HL.out, ← HL'.out]
  have HR := Lib.hid hr
  have HR' := Lib.hid hr'
  clear hr hr' hn'
  go_enter Tryz.func46, Tryz.ntmps46
  go_wp2_with fail
  go_loopw [5] (fun i wr => ∃ k : Nat, k ≤ n' ∧ i = .int .i64 k ∧ Below w.heap.size w wr) (fun i _ => n' - (intOf i).toNat)
  case atStart => exact ⟨0, Nat.zero_le _, rfl, Below.refl _ _⟩
  case round =>
    obtain ⟨k, hk, rfl, hb⟩ := hrel
    have HB := Lib.hid hb
    by_cases hlt : k < n'
    · obtain ⟨b, off, x, rfl, _, _, hz, hc⟩ := rd_elem TStored.len (HR.out.new hb) HL.out hlt
      obtain ⟨b', off', x', rfl, _, _, hz', hc'⟩ := rd_elem TStored.len (HR'.out.new hb) HL'.out hlt
      obtain rfl : x = x' := Option.some.inj (hz.symm.trans hz')
      have c0 : wr.cell? ⟨b, off + k * 4, none⟩ = _ := hc 0 _ rfl
      have c1 := hc 1 _ rfl
      have c2 := hc 2 _ rfl
      have c3 := hc 3 _ rfl
      have c0' : wr.cell? ⟨b', off' + k * 4, none⟩ = _ := hc' 0 _ rfl
      have c1' := hc' 1 _ rfl
      have c2' := hc' 2 _ rfl
      have c3' := hc' 3 _ rfl
      clear hb hz hz' hc hc'
      go_wp2_with fail
      have HB2 := Lib.hid HB.out.drew
      go_still_tail 8, (by kernel_rfl)
      change wpList _ _ _ _ _ wr.drew
      generalize wr.drew = w2 at HB2 ⊢
      go_wp2_with fail
      refine (eq_stored_one x _).mono ?_
      rintro e w1 ⟨rfl, hb1⟩
      have HB1 := Lib.hid (below_trans HB2.out hb1 (Nat.le_refl _))
      clear hb1
      go_wp2_with fail
      go_roundw
      case rel => exact ⟨k + 1, by omega, by go_num, HB1.out⟩
      case measure => simp [intOf]; omega
    · clear hb
      obtain rfl : k = n' := by omega
      go_wp2_with fail
      go_ret
      exact ⟨rfl, HB.out⟩

section
variable {H : Type} {enc : TypeId × Value → H} {w : World} {base fuel : Nat} {spare : Nat → Bool} {held : Bool}
theorem read_stored {cs : List Value} {y : DataW H × List MemPlace} (h : DataW.trod enc Tryz.prog w base spare held fuel 150 cs = some y) : ∃ x : TStored, cs = x.cells ∧ x.fit := by
  obtain ⟨ys, n, _, _, hlen, hyl, hf⟩ := DataW.trod_struct Tryz.underlying150 h
  have hlen : cs.length = 4 := hlen.trans (by kernel_rfl)
  have hyl : ys.length = 4 := hyl
  have ci : Tryz.prog.cellsOf 3 = 1 := by kernel_rfl
  match cs, hlen with
  | [z0, z1, z2, z3], _ =>
    have h0 : DataW.trod enc Tryz.prog w base spare held n 3 (([z0, z1, z2, z3].drop 0).take (Tryz.prog.cellsOf 3)) = ys[0]? := hf 0 _ rfl
    rw [ci] at h0
    have h0' : DataW.trod enc Tryz.prog w base spare held n 3 [z0] = some (ys[0]'(by omega)) := h0.trans (List.getElem?_eq_getElem (by omega))
    obtain ⟨x0, e0, _, w0⟩ := DataW.trod_int Tryz.underlying3 h0'
    have h1 : DataW.trod enc Tryz.prog w base spare held n 3 (([z0, z1, z2, z3].drop 1).take (Tryz.prog.cellsOf 3)) = ys[1]? := hf 1 _ rfl
    rw [ci] at h1
    have h1' : DataW.trod enc Tryz.prog w base spare held n 3 [z1] = some (ys[1]'(by omega)) := h1.trans (List.getElem?_eq_getElem (by omega))
    obtain ⟨x1, e1, _, w1⟩ := DataW.trod_int Tryz.underlying3 h1'
    have h2 : DataW.trod enc Tryz.prog w base spare held n 3 (([z0, z1, z2, z3].drop 2).take (Tryz.prog.cellsOf 3)) = ys[2]? := hf 2 _ rfl
    rw [ci] at h2
    have h2' : DataW.trod enc Tryz.prog w base spare held n 3 [z2] = some (ys[2]'(by omega)) := h2.trans (List.getElem?_eq_getElem (by omega))
    obtain ⟨x2, e2, _, w2⟩ := DataW.trod_int Tryz.underlying3 h2'
    have h3 : DataW.trod enc Tryz.prog w base spare held n 3 (([z0, z1, z2, z3].drop 3).take (Tryz.prog.cellsOf 3)) = ys[3]? := hf 3 _ rfl
    rw [ci] at h3
    have h3' : DataW.trod enc Tryz.prog w base spare held n 3 [z3] = some (ys[3]'(by omega)) := h3.trans (List.getElem?_eq_getElem (by omega))
    obtain ⟨x3, e3, _, w3⟩ := DataW.trod_int Tryz.underlying3 h3'
    exact ⟨⟨x0, x1, x2, x3⟩, by simp_all [TStored.cells], bounds_i64 w0, bounds_i64 w1, bounds_i64 w2, bounds_i64 w3⟩
end


end Go.Proofs.YtkedacmpmancbaaGreatDoor
namespace Go.Proofs.YtkedacmpmancbaaGreatDoor
open Go Go.ChangeShapes Go.WideShapes Go.ChangeAt Go.RowKit Go.Lib
set_option linter.unusedVariables false
set_option linter.unusedSimpArgs false
set_option maxRecDepth 100000

structure TLetter where
 f0 : Int
 f1 : Int
 f2 : Int
 f3 : Int
deriving DecidableEq
def TLetter.cells (x : TLetter) : List Value := [.int .i64 x.f0, .int .i64 x.f1, .int .i64 x.f2, .int .i64 x.f3]
theorem TLetter.len (x : TLetter) : x.cells.length = 4 := rfl
def TLetter.fit (x : TLetter) : Prop := (-9223372036854775808 ≤ x.f0 ∧ x.f0 ≤ 9223372036854775807) ∧ (-9223372036854775808 ≤ x.f1 ∧ x.f1 ≤ 9223372036854775807) ∧ (-9223372036854775808 ≤ x.f2 ∧ x.f2 ≤ 9223372036854775807) ∧ (-9223372036854775808 ≤ x.f3 ∧ x.f3 ≤ 9223372036854775807)
/-- The marks of one element, from k on. -/
def TLetter.mark (k : Nat) : TLetter := ⟨((k + 0 : Nat) : Int), ((k + 1 : Nat) : Int), ((k + 2 : Nat) : Int), ((k + 3 : Nat) : Int)⟩
def TLetter.marks (k n : Nat) : List TLetter := (List.range n).map fun i => TLetter.mark (k + i * 4)


end Go.Proofs.YtkedacmpmancbaaGreatDoor
namespace Go.Proofs.YtkedacmpmancbaaGreatDoor
open Go Go.ChangeShapes Go.WideShapes Go.ChangeAt Go.RowKit Go.Lib
set_option linter.unusedVariables false
set_option linter.unusedSimpArgs false
set_option maxRecDepth 100000

structure TRequest where
 f0 : Int
 f1 : Int
 f2 : Int
deriving DecidableEq
def TRequest.cells (x : TRequest) : List Value := [.int .i64 x.f0, .int .i64 x.f1, .int .i64 x.f2]
theorem TRequest.len (x : TRequest) : x.cells.length = 3 := rfl
def TRequest.fit (x : TRequest) : Prop := (-9223372036854775808 ≤ x.f0 ∧ x.f0 ≤ 9223372036854775807) ∧ (-9223372036854775808 ≤ x.f1 ∧ x.f1 ≤ 9223372036854775807) ∧ (-9223372036854775808 ≤ x.f2 ∧ x.f2 ≤ 9223372036854775807)
/-- The marks of one element, from k on. -/
def TRequest.mark (k : Nat) : TRequest := ⟨((k + 0 : Nat) : Int), ((k + 1 : Nat) : Int), ((k + 2 : Nat) : Int)⟩
def TRequest.marks (k n : Nat) : List TRequest := (List.range n).map fun i => TRequest.mark (k + i * 3)


end Go.Proofs.YtkedacmpmancbaaGreatDoor
