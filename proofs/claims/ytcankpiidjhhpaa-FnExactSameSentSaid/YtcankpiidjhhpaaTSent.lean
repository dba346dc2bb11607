/- The laws' own helpers on slices of Sent: copied, compared, marked, and the marks looked for. -/
import Derived.Test.YtcankpiidjhhpaaRws
import Derived.StillTailTactics
namespace Go.Proofs.Ytcankpiidjhhpaa
open Go Go.ChangeShapes Go.WideShapes Go.ChangeAt Go.RowKit Go.Lib
set_option linter.unusedVariables false
set_option linter.unusedSimpArgs false
set_option maxRecDepth 100000

structure TSent where
 f0 : Int
 f1 : Int
 f2 : Int
deriving DecidableEq
def TSent.cells (x : TSent) : List Value := [.int .i64 x.f0, .int .i64 x.f1, .int .i64 x.f2]
abbrev cSent (d : List TSent) : List Value := d.flatMap TSent.cells
theorem TSent.len (x : TSent) : x.cells.length = 3 := rfl
def TSent.fit (x : TSent) : Prop := (-9223372036854775808 ≤ x.f0 ∧ x.f0 ≤ 9223372036854775807) ∧ (-9223372036854775808 ≤ x.f1 ∧ x.f1 ≤ 9223372036854775807) ∧ (-9223372036854775808 ≤ x.f2 ∧ x.f2 ≤ 9223372036854775807)
def cSentOk (d : List TSent) : Prop := ∀ x ∈ d, TSent.fit x
/-- The marks of one element, from k on. -/
def TSent.mark (k : Nat) : TSent := ⟨((k + 0 : Nat) : Int), ((k + 1 : Nat) : Int), ((k + 2 : Nat) : Int)⟩
def TSent.marks (k n : Nat) : List TSent := (List.range n).map fun i => TSent.mark (k + i * 3)
theorem TSent.marks_len (k n : Nat) : (TSent.marks k n).length = n := by simp [TSent.marks]
theorem TSent.marks_get (k n i : Nat) (h : i < n) : (TSent.marks k n)[i]? = some (TSent.mark (k + i * 3)) := by simp [TSent.marks, h]

theorem to_sent_one (x : TSent) (w : World) :
  Calls Try.prog 88 #[.agg #[.int .i64 x.f0, .int .i64 x.f1, .int .i64 x.f2]] w (Says (.agg #[.int .i64 x.f0, .int .i64 x.f1, .int .i64 x.f2]) w) := by
 go_enter Try.func88, Try.ntmps88
 go_wp2
 exact bodyPost_ret (v := .agg #[.int .i64 x.f0, .int .i64 x.f1, .int .i64 x.f2]) (by simp [results, Try.results88, go_sem]) rfl
  ⟨rfl, by repeat (first | exact Below.refl _ _ | (refine Below.alloc ?_ (by simp <;> omega) _))⟩

theorem to_sent (l : List TSent) (A : Option Addr) (n c lo hi : Nat) (w : World) (hn : n ≤ 17179869184) (hr : Rd w lo hi 3 A n (cSent l)) :
  Calls Try.prog 43 #[.slice A n c] w (Makes 47 3 n (cSent l) w) := by
 have hmk := make_rows (P := Try.prog) 41 47 (.agg #[.int .i64 0, .int .i64 0, .int .i64 0]) 3 24 Try.underlying41 (by kernel_rfl) n (by omega) (by omega)
 have HL := Lib.hid (rd_len TSent.len hr (by decide))
 have HR := Lib.hid hr
 clear hr
 go_enter Try.func43, Try.ntmps43
 go_wp2_with fail
 go_loopw [4] (fun i wr => ∃ k : Nat, k ≤ n ∧ i = .int .i64 k ∧ Pre wr w.heap.size 47 (n * 3) (cSent l) (k * 3) ∧ Below w.heap.size w wr) (fun i _ => n - (intOf i).toNat)
 case atStart => exact ⟨0, Nat.zero_le _, rfl, (pre_start (size_madeCells _ _)).at_ (by omega), (Below.refl _ _).alloc (Nat.le_refl _) _⟩
 case round =>
  obtain ⟨k, hk, rfl, hrow, hb⟩ := hrel
  have HB := Lib.hid hb
  by_cases hlt : k < n
  ·
   obtain ⟨b, off, x, rfl, _, _, hz, hc⟩ := rd_elem TSent.len (HR.out.new hb) HL.out hlt
   have c0 : wr.cell? ⟨b, off + k * 3, none⟩ = _ := hc 0 _ rfl
   have c1 := hc 1 _ rfl
   have c2 := hc 2 _ rfl
   have HZ := Lib.hid hz
   have HW := Lib.hid hrow
   clear hrow hb hz hc
   go_wp2_with fail
   refine (to_sent_one x _).mono ?_
   rintro e w1 ⟨rfl, hb1⟩
   have HW1 := Lib.hid (HW.out.new hb1)
   have HB1 := Lib.hid (below_trans HB.out hb1 (Nat.le_refl _))

   obtain ⟨q0, d0⟩ := HW1.out.cell (j := k * 3) (by omega)
   obtain ⟨q1, d1⟩ := HW1.out.cell (j := k * 3 + 1) (by omega)
   obtain ⟨q2, d2⟩ := HW1.out.cell (j := k * 3 + 2) (by omega)
   have g0 := HW1.out.frozen (k * 3)
   have g1 := HW1.out.frozen (k * 3 + 1)
   have g2 := HW1.out.frozen (k * 3 + 2)
   have HG := Lib.hid (fun j u => flat_get TSent.len l k j x u HZ.out)
   clear hb1 c0 c1 c2
   go_wp2_with fail
   go_roundw
   case rel => exact ⟨k + 1, by omega, by go_num, (((HW1.out.step (HG.out 0 _ rfl)).step (HG.out 1 _ rfl)).step (HG.out 2 _ rfl)).at_ (by omega), (((HB1.out.setCell (Nat.le_refl _) _).setCell (Nat.le_refl _) _).setCell (Nat.le_refl _) _)⟩
   case measure => simp [intOf]; omega
  ·
   obtain rfl : k = n := by omega
   have HW := Lib.hid hrow
   clear hrow hb
   go_wp2_with fail
   go_ret
   exact ⟨_, _, rfl, HW.out.fr (Nat.le_refl _) HW.out.lt (by unfold maxLen; omega) (by rw [flat_len TSent.len, HL.out]), HB.out⟩

theorem sz_sent (A : Option Addr) (n c : Nat) (left : Int) (w : World) (hn : n ≤ 9223372036854775807) (h : (n : Int) ≤ left) (hl : left ≤ 1048576) :
  Calls Try.prog 41 #[.slice A n c, .int .i64 left] w (Quiet (.int .i64 (left - n)) w) := by
 have hd : decide (left - n < 0) = false := by simp; omega
 go_enter Try.func41, Try.ntmps41
 go_wp2_with fail
 go_ret
 exact ⟨rfl, 0, rfl⟩
theorem szno_sent (A : Option Addr) (n c : Nat) (left : Int) (w : World) (hn : n ≤ 9223372036854775807) (h : ¬ (n : Int) ≤ left) (hl : left ≤ 1048576) (hl0 : 0 ≤ left) :
  Calls Try.prog 41 #[.slice A n c, .int .i64 left] w (Quiet (.int .i64 (-1)) w) := by
 have hd : decide (left - n < 0) = true := by simp; omega
 go_enter Try.func41, Try.ntmps41
 go_wp2_with fail
 go_ret
 exact ⟨rfl, 0, rfl⟩

theorem eq_sent_one (x : TSent) (w : World) :
  Calls Try.prog 84 #[.agg #[.int .i64 x.f0, .int .i64 x.f1, .int .i64 x.f2], .agg #[.int .i64 x.f0, .int .i64 x.f1, .int .i64 x.f2]] w (Says (.bool true) w) := by
 go_enter Try.func84, Try.ntmps84
 go_wp2
 go_ret
 exact ⟨rfl, by repeat (first | exact Below.refl _ _ | (refine Below.alloc ?_ (by simp <;> omega) _) | (refine below_dN ?_ _))⟩

theorem eq_sent_same (l : List TSent) (A A' : Option Addr) (n n' c c' lo hi lo' hi' : Nat) (w : World) (hn : n ≤ 17592186044416) (hn' : n' ≤ 17592186044416) (hr : Rd w lo hi 3 A n (cSent l)) (hr' : Rd w lo' hi' 3 A' n' (cSent l)) :
  Calls Try.prog 32 #[.slice A n c, .slice A' n' c'] w (Says (.bool true) w) := by
 have HL := Lib.hid (rd_len TSent.len hr (by decide))
 have HL' := Lib.hid (rd_len TSent.len hr' (by decide))
 obtain rfl : n' = n := by rw [← HL.out, ← HL'.out]
 have HR := Lib.hid hr
 have HR' := Lib.hid hr'
 clear hr hr' hn'
 go_enter Try.func32, Try.ntmps32
 go_wp2_with fail
 go_loopw [5] (fun i wr => ∃ k : Nat, k ≤ n' ∧ i = .int .i64 k ∧ Below w.heap.size w wr) (fun i _ => n' - (intOf i).toNat)
 case atStart => exact ⟨0, Nat.zero_le _, rfl, Below.refl _ _⟩
 case round =>
  obtain ⟨k, hk, rfl, hb⟩ := hrel
  have HB := Lib.hid hb
  by_cases hlt : k < n'
  ·
   obtain ⟨b, off, x, rfl, _, _, hz, hc⟩ := rd_elem TSent.len (HR.out.new hb) HL.out hlt
   obtain ⟨b', off', x', rfl, _, _, hz', hc'⟩ := rd_elem TSent.len (HR'.out.new hb) HL'.out hlt
   obtain rfl : x = x' := Option.some.inj (hz.symm.trans hz')
   have c0 : wr.cell? ⟨b, off + k * 3, none⟩ = _ := hc 0 _ rfl
   have c1 := hc 1 _ rfl
   have c2 := hc 2 _ rfl
   have c0' : wr.cell? ⟨b', off' + k * 3, none⟩ = _ := hc' 0 _ rfl
   have c1' := hc' 1 _ rfl
   have c2' := hc' 2 _ rfl
   clear hb hz hz' hc hc'
   go_wp2_with fail
   have HB2 := Lib.hid HB.out.drew
   go_still_tail 8, (by kernel_rfl)
   change wpList _ _ _ _ _ wr.drew
   generalize wr.drew = w2 at HB2 ⊢
   go_wp2_with fail
   refine (eq_sent_one x _).mono ?_
   rintro e w1 ⟨rfl, hb1⟩
   have HB1 := Lib.hid (below_trans HB2.out hb1 (Nat.le_refl _))
   clear hb1
   go_wp2_with fail
   go_roundw
   case rel => exact ⟨k + 1, by omega, by go_num, HB1.out⟩
   case measure => simp [intOf]; omega
  ·
   clear hb
   obtain rfl : k = n' := by omega
   go_wp2_with fail
   go_ret
   exact ⟨rfl, HB.out⟩

theorem mark_sent (xs : List Value) (A : Option Addr) (n c lo hi k0 : Nat) (w : World) (hn : n ≤ 17179869184) (hk0 : k0 ≤ 17592186044416) (hr : Fr w lo hi 47 3 A n c xs) :
  Calls Try.prog 39 #[.slice A n c, .int .i64 (k0 : Int)] w (fun e w' => e = .returned (.int .i64 ((k0 + n * 3 : Nat) : Int)) ∧ Fr w' lo hi 47 3 A n c (cSent (TSent.marks k0 n)) ∧ Chg lo hi w w' ∧ w'.heap.size = w.heap.size) := by
 by_cases h0 : 0 < n
 ·
  obtain ⟨g, cap, rfl, hlo, hhi, hcap, rfl, hcm, f, hrow, hf⟩ := hr.row h0
  have HR := Lib.hid hrow
  clear hrow hf hr
  go_enter Try.func39, Try.ntmps39
  go_wp2_with fail
  go_loopw [1, 5] (fun q i wr => ∃ k : Nat, k ≤ n ∧ i = .int .i64 k ∧ q = .int .i64 ((k0 + k * 3 : Nat) : Int) ∧ Pre wr g 47 (c * 3) (cSent (TSent.marks k0 n)) (k * 3) ∧ Chg lo hi w wr ∧ wr.heap.size = w.heap.size) (fun _ i _ => n - (intOf i).toNat)
  case atStart => exact ⟨0, Nat.zero_le _, rfl, by simp, (pre_row HR.out).at_ (by omega), Chg.refl _ _ _, rfl⟩
  case round =>
   obtain ⟨k, hk, rfl, rfl, hrow, hb, hs⟩ := hrel
   have HB := Lib.hid hb
   have HS := Lib.hid hs
   by_cases hlt : k < n
   ·
    have hcc : k * 3 + 3 ≤ c * 3 := by omega
    obtain ⟨q0, d0⟩ := hrow.cell (j := k * 3) (by omega)
    obtain ⟨q1, d1⟩ := hrow.cell (j := k * 3 + 1) (by omega)
    obtain ⟨q2, d2⟩ := hrow.cell (j := k * 3 + 2) (by omega)
    have g0 := hrow.frozen (k * 3)
    have g1 := hrow.frozen (k * 3 + 1)
    have g2 := hrow.frozen (k * 3 + 2)
    have HW := Lib.hid hrow
    have HG := Lib.hid (fun j u => flat_get TSent.len (TSent.marks k0 n) k j _ u (TSent.marks_get k0 n k hlt))
    clear hrow hb hs
    go_wp2_with fail
    go_roundw
    case rel =>
     refine ⟨k + 1, by omega, by go_num, by go_num, ?_, ?_, ?_⟩
     ·
      exact (((HW.out.step (HG.out 0 _ rfl)).step (HG.out 1 _ rfl)).step (HG.out 2 _ rfl)).at_ (by omega)
     ·
      exact (((HB.out.set_ (.inl ⟨hlo, hhi⟩) _).set_ (.inl ⟨hlo, hhi⟩) _).set_ (.inl ⟨hlo, hhi⟩) _)
     ·
      simpa [World.setCell] using HS.out
    case measure => simp [intOf]; omega
   ·
    obtain rfl : k = n := by omega
    have HW := Lib.hid hrow
    clear hrow hb hs
    go_wp2_with fail
    go_ret
    exact ⟨rfl, HW.out.frcap hlo hhi hcap hcm (by rw [flat_len TSent.len, TSent.marks_len]), HB.out, HS.out⟩
 ·
  obtain rfl : n = 0 := by omega
  have HR := Lib.hid hr
  clear hr h0
  go_enter Try.func39, Try.ntmps39
  go_wp2_with fail
  go_loopw [1, 5] (fun q i wr => q = .int .i64 (k0 : Int) ∧ i = .int .i64 0 ∧ wr = w) (fun _ i _ => 0)
  case atStart => exact ⟨rfl, rfl, rfl⟩
  case round =>
   obtain ⟨rfl, rfl, rfl⟩ := hrel
   go_wp2_with fail
   go_ret
   exact ⟨by simp, by
    have hx : xs = [] := List.eq_nil_of_length_eq_zero (by simpa using HR.out.len)
    subst hx
    simpa [TSent.marks] using HR.out, Chg.refl _ _ _, rfl⟩

theorem TSent.mark_eq (k0 k : Nat) : TSent.mark (k0 + k * 3) = ⟨(k0 : Int) + k * 3, (k0 : Int) + k * 3 + 1, (k0 : Int) + k * 3 + 2⟩ := by
 unfold TSent.mark
 congr 1 <;> (first | omega | (congr 2; omega) | skip)
theorem held_sent (A : Option Addr) (n c lo hi k0 : Nat) (w : World) (hn : n ≤ 17179869184) (hk0 : k0 ≤ 17592186044416) (hr : Rd w lo hi 3 A n (cSent (TSent.marks k0 n))) :
  Calls Try.prog 40 #[.slice A n c, .int .i64 (k0 : Int)] w (Quiet (.int .i64 ((k0 + n * 3 : Nat) : Int)) w) := by
 have HR := Lib.hid hr
 clear hr
 go_enter Try.func40, Try.ntmps40
 go_wp2_with fail
 go_loopw [1, 5] (fun q i wr => ∃ k : Nat, k ≤ n ∧ i = .int .i64 k ∧ q = .int .i64 ((k0 + k * 3 : Nat) : Int) ∧ ∃ d, wr = w.drewN d) (fun _ i _ => n - (intOf i).toNat)
 case atStart => exact ⟨0, Nat.zero_le _, rfl, by simp, 0, rfl⟩
 case round =>
  obtain ⟨k, hk, rfl, rfl, d, rfl⟩ := hrel
  by_cases hlt : k < n
  ·
   obtain ⟨b, off, x, rfl, _, _, hz, hc⟩ := rd_elem TSent.len HR.out (TSent.marks_len k0 n) hlt
   rw [TSent.marks_get _ _ _ hlt, TSent.mark_eq] at hz
   injection hz with hz
   subst hz
   have c0 : w.cell? ⟨b, off + k * 3, none⟩ = some (.int .i64 ((k0 : Int) + k * 3)) := hc 0 _ rfl
   have c1 : w.cell? ⟨b, off + k * 3 + 1, none⟩ = some (.int .i64 ((k0 : Int) + k * 3 + 1)) := hc 1 _ rfl
   have c2 : w.cell? ⟨b, off + k * 3 + 2, none⟩ = some (.int .i64 ((k0 : Int) + k * 3 + 2)) := hc 2 _ rfl
   clear hc
   go_wp2_with fail
   go_roundw
   case rel => exact ⟨k + 1, by omega, by go_num, by go_num, _, rfl⟩
   case measure => simp [intOf]; omega
  ·
   obtain rfl : k = n := by omega
   go_wp2_with fail
   go_ret
   exact ⟨rfl, _, rfl⟩

section
variable {H : Type} {enc : TypeId × Value → H} {w : World} {base fuel : Nat} {spare : Nat → Bool} {held : Bool}
theorem read_sent {cs : List Value} {y : DataW H × List MemPlace} (h : DataW.trod enc Try.prog w base spare held fuel 118 cs = some y) : ∃ x : TSent, cs = x.cells ∧ x.fit := by
 obtain ⟨ys, n, _, _, hlen, hyl, hf⟩ := DataW.trod_struct Try.underlying118 h
 have hlen : cs.length = 3 := hlen.trans (by kernel_rfl)
 have hyl : ys.length = 3 := hyl
 have ci : Try.prog.cellsOf 3 = 1 := by kernel_rfl
 match cs, hlen with
 | [z0, z1, z2], _ =>
  have h0 : DataW.trod enc Try.prog w base spare held n 3 (([z0, z1, z2].drop 0).take (Try.prog.cellsOf 3)) = ys[0]? := hf 0 _ rfl
  rw [ci] at h0
  have h0' : DataW.trod enc Try.prog w base spare held n 3 [z0] = some (ys[0]'(by omega)) := h0.trans (List.getElem?_eq_getElem (by omega))
  obtain ⟨x0, e0, _, w0⟩ := DataW.trod_int Try.underlying3 h0'
  have h1 : DataW.trod enc Try.prog w base spare held n 3 (([z0, z1, z2].drop 1).take (Try.prog.cellsOf 3)) = ys[1]? := hf 1 _ rfl
  rw [ci] at h1
  have h1' : DataW.trod enc Try.prog w base spare held n 3 [z1] = some (ys[1]'(by omega)) := h1.trans (List.getElem?_eq_getElem (by omega))
  obtain ⟨x1, e1, _, w1⟩ := DataW.trod_int Try.underlying3 h1'
  have h2 : DataW.trod enc Try.prog w base spare held n 3 (([z0, z1, z2].drop 2).take (Try.prog.cellsOf 3)) = ys[2]? := hf 2 _ rfl
  rw [ci] at h2
  have h2' : DataW.trod enc Try.prog w base spare held n 3 [z2] = some (ys[2]'(by omega)) := h2.trans (List.getElem?_eq_getElem (by omega))
  obtain ⟨x2, e2, _, w2⟩ := DataW.trod_int Try.underlying3 h2'
  exact ⟨⟨x0, x1, x2⟩, by simp_all [TSent.cells], bounds_i64 w0, bounds_i64 w1, bounds_i64 w2⟩
theorem open_sent_list {W : World} {base' : Nat} {v : Value} {d : DataW H} {p : List MemPlace} (hv : Value.okWide Try.prog W .any base' 65 v)
  (h : DataW.Trod enc Try.prog W 0 (fun _ => true) true 65 v d p) (hlt : ∀ x ∈ p, x.block < W.heap.size) :
  ∃ (A : Option Addr) (n cap : Nat) (l : List TSent), v = .slice A n cap ∧ n ≤ maxLen ∧ Rd W 0 W.heap.size 3 A n (cSent l) ∧ Hid (cSentOk l) := by
 refine open_rows_list (c := TSent.cells) (fit := TSent.fit) Try.underlying65 (by kernel_rfl) TSent.len (by decide) (fun h => read_sent h) hv h hlt
end

section
variable {H : Type} {enc : TypeId × Value → H}
theorem open_sent {W : World} {base : Nat} {v : Value} {d : DataW H} {p : List MemPlace} (hv : Value.okWide Try.prog W .any base 118 v)
  (h : DataW.Trod enc Try.prog W 0 (fun _ => true) true 118 v d p) : ∃ x : TSent, v = .agg #[.int .i64 x.f0, .int .i64 x.f1, .int .i64 x.f2] ∧ Hid x.fit := by
 obtain ⟨cs, rfl, hsz⟩ := okWide_struct Try.underlying118 hv
 obtain ⟨fuel, hf⟩ := h
 obtain ⟨x, hx, hfit⟩ := read_sent hf
 refine ⟨x, ?_, hfit⟩
 have hx' : cs.toList = x.cells := hx
 rw [show cs = x.cells.toArray by rw [← hx']]
 rfl
end

theorem equalIn_Sent (x y : TSent) (d : Nat) (w : World) :
  (Op.equalIn (d + 2) 47 (.agg #[.int .i64 x.f0, .int .i64 x.f1, .int .i64 x.f2]) (.agg #[.int .i64 y.f0, .int .i64 y.f1, .int .i64 y.f2])).run Try.prog w = .ok (decide (x = y)) w := by
 rw [run_equalIn_agg w (d + 1) 47 _ _ (by kernel_rfl) (by kernel_rfl)]
 simp only [Program.fieldsOf, Try.underlying47]
 rw [eqf_int (by decide) rfl rfl rfl, eqf_int (by decide) rfl rfl rfl, eqf_int (by decide) rfl rfl rfl]
 simp only [Op.eqFields, Sem.run_pure]
 have he : decide (x = y) = (x.f0 == y.f0 && (x.f1 == y.f1 && (x.f2 == y.f2))) := by
  cases x; cases y
  simp
  rw [Bool.eq_iff_iff]; simp
 rw [he]
 cases x.f0 == y.f0 <;> cases x.f1 == y.f1 <;> cases x.f2 == y.f2 <;> rfl
theorem neq_Sent (x y : TSent) (w : World) : (binOp .neq 47 (.agg #[.int .i64 x.f0, .int .i64 x.f1, .int .i64 x.f2]) (.agg #[.int .i64 y.f0, .int .i64 y.f1, .int .i64 y.f2])).run Try.prog w = .ok (.bool (!decide (x = y))) w := by
 rw [run_neq_struct, equalIn_Sent x y 9998 w]; rfl
theorem eql_Sent (x y : TSent) (w : World) : (binOp .eql 47 (.agg #[.int .i64 x.f0, .int .i64 x.f1, .int .i64 x.f2]) (.agg #[.int .i64 y.f0, .int .i64 y.f1, .int .i64 y.f2])).run Try.prog w = .ok (.bool (decide (x = y))) w := by
 rw [run_eql_struct, equalIn_Sent x y 9998 w]; rfl

end Go.Proofs.Ytcankpiidjhhpaa
