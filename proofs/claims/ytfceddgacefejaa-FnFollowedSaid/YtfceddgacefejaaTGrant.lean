/- The laws' own helpers on slices of Grant: copied, compared, marked, and the marks looked for. -/
import Derived.Test.YtfceddgacefejaaRws
import Derived.Test.YtfceddgacefejaaTPattern
import Derived.StillTailTactics
namespace Go.Proofs.Ytfceddgacefejaa
open Go Go.ChangeShapes Go.WideShapes Go.ChangeAt Go.RowKit Go.Lib
set_option linter.unusedVariables false
set_option maxRecDepth 100000

structure TGrant where
 f0 : Int
 f1 : Int
 f2 : Int
 f3 : Int
 f4 : Int
 f5 : Int
 f6 : Bool
deriving DecidableEq
def TGrant.cells (x : TGrant) : List Value := [.int .i64 x.f0, .int .i64 x.f1, .int .i64 x.f2, .int .i64 x.f3, .int .i64 x.f4, .int .i64 x.f5, .bool x.f6]
abbrev cGrant (d : List TGrant) : List Value := d.flatMap TGrant.cells
theorem TGrant.len (x : TGrant) : x.cells.length = 7 := rfl
def TGrant.fit (x : TGrant) : Prop := (-9223372036854775808 ≤ x.f0 ∧ x.f0 ≤ 9223372036854775807) ∧ (-9223372036854775808 ≤ x.f1 ∧ x.f1 ≤ 9223372036854775807) ∧ (-9223372036854775808 ≤ x.f2 ∧ x.f2 ≤ 9223372036854775807) ∧ (-9223372036854775808 ≤ x.f3 ∧ x.f3 ≤ 9223372036854775807) ∧ (-9223372036854775808 ≤ x.f4 ∧ x.f4 ≤ 9223372036854775807) ∧ (-9223372036854775808 ≤ x.f5 ∧ x.f5 ≤ 9223372036854775807)
def cGrantOk (d : List TGrant) : Prop := ∀ x ∈ d, TGrant.fit x
/-- The marks of one element, from k on. -/
def TGrant.mark (k : Nat) : TGrant := ⟨((k + 0 : Nat) : Int), ((k + 1 : Nat) : Int), ((k + 2 : Nat) : Int), ((k + 3 : Nat) : Int), ((k + 4 : Nat) : Int), ((k + 5 : Nat) : Int), ((((k + 6 : Nat) : Int) % 3) == 0)⟩
def TGrant.marks (k n : Nat) : List TGrant := (List.range n).map fun i => TGrant.mark (k + i * 7)
theorem TGrant.marks_len (k n : Nat) : (TGrant.marks k n).length = n := by simp [TGrant.marks]
theorem TGrant.marks_get (k n i : Nat) (h : i < n) : (TGrant.marks k n)[i]? = some (TGrant.mark (k + i * 7)) := by simp [TGrant.marks, h]

theorem to_grant_one (x : TGrant) (w : World) :
  Calls Try.prog 268 #[.agg #[.int .i64 x.f0, .int .i64 x.f1, .int .i64 x.f2, .int .i64 x.f3, .int .i64 x.f4, .int .i64 x.f5, .bool x.f6]] w (Says (.agg #[.int .i64 x.f0, .int .i64 x.f1, .int .i64 x.f2, .int .i64 x.f3, .int .i64 x.f4, .int .i64 x.f5, .bool x.f6]) w) := by
 go_enter Try.func268, Try.ntmps268
 go_wp2_with fail
 refine (to_pattern_one ⟨x.f1, x.f2⟩ _).mono ?_
 rintro e w1 ⟨rfl, hb1⟩
 obtain ⟨hc0, hf0⟩ := bcell hb1
 have HB1 := Lib.hid hb1
 have hs0 := hb1.size
 simp at hs0
 have hz0 : w.heap.size + 2 < w1.heap.size := by omega
 clear hb1 hs0
 go_wp2_with fail
 exact bodyPost_ret (v := .agg #[.int .i64 x.f0, .int .i64 x.f1, .int .i64 x.f2, .int .i64 x.f3, .int .i64 x.f4, .int .i64 x.f5, .bool x.f6]) (by simp [results, Try.results268, go_sem, hc0]) rfl
  ⟨rfl, by
      repeat (refine Below.setCell ?_ (by simp <;> omega) _)
      exact ((((Below.refl _ _).alloc (Nat.le_refl _) _).alloc (by simp) _).alloc (by simp <;> omega) _).trans (HB1.out.mono (by simp <;> omega))⟩

theorem to_grant (l : List TGrant) (A : Option Addr) (n c lo hi : Nat) (w : World) (hn : n ≤ 17179869184) (hr : Rd w lo hi 7 A n (cGrant l)) :
  Calls Try.prog 261 #[.slice A n c] w (Makes 35 7 n (cGrant l) w) := by
 have hmk := make_rows (P := Try.prog) 24 35 (.agg #[.int .i64 0, .int .i64 0, .int .i64 0, .int .i64 0, .int .i64 0, .int .i64 0, .bool false]) 7 56 Try.underlying24 (by kernel_rfl) n (by omega) (by omega)
 have HL := Lib.hid (rd_len TGrant.len hr (by decide))
 have HR := Lib.hid hr
 clear hr
 go_enter Try.func261, Try.ntmps261
 go_wp2_with fail
 go_loopw [4] (fun i wr => ∃ k : Nat, k ≤ n ∧ i = .int .i64 k ∧ Pre wr w.heap.size 35 (n * 7) (cGrant l) (k * 7) ∧ Below w.heap.size w wr) (fun i _ => n - (intOf i).toNat)
 case atStart => exact ⟨0, Nat.zero_le _, rfl, (pre_start (size_madeCells _ _)).at_ (by omega), (Below.refl _ _).alloc (Nat.le_refl _) _⟩
 case round =>
  obtain ⟨k, hk, rfl, hrow, hb⟩ := hrel
  have HB := Lib.hid hb
  by_cases hlt : k < n
  ·
   obtain ⟨b, off, x, rfl, _, _, hz, hc⟩ := rd_elem TGrant.len (HR.out.new hb) HL.out hlt
   have c0 : wr.cell? ⟨b, off + k * 7, none⟩ = _ := hc 0 _ rfl
   have c1 := hc 1 _ rfl
   have c2 := hc 2 _ rfl
   have c3 := hc 3 _ rfl
   have c4 := hc 4 _ rfl
   have c5 := hc 5 _ rfl
   have c6 := hc 6 _ rfl
   have HZ := Lib.hid hz
   have HW := Lib.hid hrow
   clear hrow hb hz hc
   go_wp2_with fail
   refine (to_grant_one x _).mono ?_
   rintro e w1 ⟨rfl, hb1⟩
   have HW1 := Lib.hid (HW.out.new hb1)
   have HB1 := Lib.hid (below_trans HB.out hb1 (Nat.le_refl _))

   obtain ⟨q0, d0⟩ := HW1.out.cell (j := k * 7) (by omega)
   obtain ⟨q1, d1⟩ := HW1.out.cell (j := k * 7 + 1) (by omega)
   obtain ⟨q2, d2⟩ := HW1.out.cell (j := k * 7 + 2) (by omega)
   obtain ⟨q3, d3⟩ := HW1.out.cell (j := k * 7 + 3) (by omega)
   obtain ⟨q4, d4⟩ := HW1.out.cell (j := k * 7 + 4) (by omega)
   obtain ⟨q5, d5⟩ := HW1.out.cell (j := k * 7 + 5) (by omega)
   obtain ⟨q6, d6⟩ := HW1.out.cell (j := k * 7 + 6) (by omega)
   have g0 := HW1.out.frozen (k * 7)
   have g1 := HW1.out.frozen (k * 7 + 1)
   have g2 := HW1.out.frozen (k * 7 + 2)
   have g3 := HW1.out.frozen (k * 7 + 3)
   have g4 := HW1.out.frozen (k * 7 + 4)
   have g5 := HW1.out.frozen (k * 7 + 5)
   have g6 := HW1.out.frozen (k * 7 + 6)
   have HG := Lib.hid (fun j u => flat_get TGrant.len l k j x u HZ.out)
   clear hb1 c0 c1 c2 c3 c4 c5 c6
   go_wp2_with fail
   go_roundw
   case rel => exact ⟨k + 1, by omega, by go_num, (((((((HW1.out.step (HG.out 0 _ rfl)).step (HG.out 1 _ rfl)).step (HG.out 2 _ rfl)).step (HG.out 3 _ rfl)).step (HG.out 4 _ rfl)).step (HG.out 5 _ rfl)).step (HG.out 6 _ rfl)).at_ (by omega), (((((((HB1.out.setCell (Nat.le_refl _) _).setCell (Nat.le_refl _) _).setCell (Nat.le_refl _) _).setCell (Nat.le_refl _) _).setCell (Nat.le_refl _) _).setCell (Nat.le_refl _) _).setCell (Nat.le_refl _) _)⟩
   case measure => simp [intOf]; omega
  ·
   obtain rfl : k = n := by omega
   have HW := Lib.hid hrow
   clear hrow hb
   go_wp2_with fail
   go_ret
   exact ⟨_, _, rfl, HW.out.fr (Nat.le_refl _) HW.out.lt (by unfold maxLen; omega) (by rw [flat_len TGrant.len, HL.out]), HB.out⟩

theorem sz_grant (A : Option Addr) (n c : Nat) (left : Int) (w : World) (hn : n ≤ 9223372036854775807) (h : (n : Int) ≤ left) (hl : left ≤ 1048576) :
  Calls Try.prog 259 #[.slice A n c, .int .i64 left] w (Quiet (.int .i64 (left - n)) w) := by
 have hd : decide (left - n < 0) = false := by simp; omega
 go_enter Try.func259, Try.ntmps259
 go_wp2_with fail
 go_ret
 exact ⟨rfl, 0, rfl⟩
theorem szno_grant (A : Option Addr) (n c : Nat) (left : Int) (w : World) (hn : n ≤ 9223372036854775807) (h : ¬ (n : Int) ≤ left) (hl : left ≤ 1048576) (hl0 : 0 ≤ left) :
  Calls Try.prog 259 #[.slice A n c, .int .i64 left] w (Quiet (.int .i64 (-1)) w) := by
 have hd : decide (left - n < 0) = true := by simp; omega
 go_enter Try.func259, Try.ntmps259
 go_wp2_with fail
 go_ret
 exact ⟨rfl, 0, rfl⟩

theorem eq_grant_one (x : TGrant) (w : World) :
  Calls Try.prog 270 #[.agg #[.int .i64 x.f0, .int .i64 x.f1, .int .i64 x.f2, .int .i64 x.f3, .int .i64 x.f4, .int .i64 x.f5, .bool x.f6], .agg #[.int .i64 x.f0, .int .i64 x.f1, .int .i64 x.f2, .int .i64 x.f3, .int .i64 x.f4, .int .i64 x.f5, .bool x.f6]] w (Says (.bool true) w) := by
 go_enter Try.func270, Try.ntmps270
 go_wp2
 go_ret
 exact ⟨rfl, by repeat (first | exact Below.refl _ _ | (refine Below.alloc ?_ (by simp <;> omega) _) | (refine below_dN ?_ _))⟩

theorem eq_grant_same (l : List TGrant) (A A' : Option Addr) (n n' c c' lo hi lo' hi' : Nat) (w : World) (hn : n ≤ 17592186044416) (hn' : n' ≤ 17592186044416) (hr : Rd w lo hi 7 A n (cGrant l)) (hr' : Rd w lo' hi' 7 A' n' (cGrant l)) :
  Calls Try.prog 264 #[.slice A n c, .slice A' n' c'] w (Says (.bool true) w) := by
 have HL := Lib.hid (rd_len TGrant.len hr (by decide))
 have HL' := Lib.hid (rd_len TGrant.len hr' (by decide))
 obtain rfl : n' = n := by rw [← HL.out, ← HL'.out]
 have HR := Lib.hid hr
 have HR' := Lib.hid hr'
 clear hr hr' hn'
 go_enter Try.func264, Try.ntmps264
 go_wp2_with fail
 go_loopw [5] (fun i wr => ∃ k : Nat, k ≤ n' ∧ i = .int .i64 k ∧ Below w.heap.size w wr) (fun i _ => n' - (intOf i).toNat)
 case atStart => exact ⟨0, Nat.zero_le _, rfl, Below.refl _ _⟩
 case round =>
  obtain ⟨k, hk, rfl, hb⟩ := hrel
  have HB := Lib.hid hb
  by_cases hlt : k < n'
  ·
   obtain ⟨b, off, x, rfl, _, _, hz, hc⟩ := rd_elem TGrant.len (HR.out.new hb) HL.out hlt
   obtain ⟨b', off', x', rfl, _, _, hz', hc'⟩ := rd_elem TGrant.len (HR'.out.new hb) HL'.out hlt
   obtain rfl : x = x' := Option.some.inj (hz.symm.trans hz')
   have c0 : wr.cell? ⟨b, off + k * 7, none⟩ = _ := hc 0 _ rfl
   have c1 := hc 1 _ rfl
   have c2 := hc 2 _ rfl
   have c3 := hc 3 _ rfl
   have c4 := hc 4 _ rfl
   have c5 := hc 5 _ rfl
   have c6 := hc 6 _ rfl
   have c0' : wr.cell? ⟨b', off' + k * 7, none⟩ = _ := hc' 0 _ rfl
   have c1' := hc' 1 _ rfl
   have c2' := hc' 2 _ rfl
   have c3' := hc' 3 _ rfl
   have c4' := hc' 4 _ rfl
   have c5' := hc' 5 _ rfl
   have c6' := hc' 6 _ rfl
   clear hb hz hz' hc hc'
   go_wp2_with fail
   have HB2 := Lib.hid HB.out.drew
   go_still_tail 8, (by kernel_rfl)
   change wpList _ _ _ _ _ wr.drew
   generalize wr.drew = w2 at HB2 ⊢
   go_wp2_with fail
   refine (eq_grant_one x _).mono ?_
   rintro e w1 ⟨rfl, hb1⟩
   have HB1 := Lib.hid (below_trans HB2.out hb1 (Nat.le_refl _))
   clear hb1
   go_wp2_with fail
   go_roundw
   case rel => exact ⟨k + 1, by omega, by go_num, HB1.out⟩
   case measure => simp [intOf]; omega
  ·
   clear hb
   obtain rfl : k = n' := by omega
   go_wp2_with fail
   go_ret
   exact ⟨rfl, HB.out⟩

theorem TGrant.mark_eq (k0 k : Nat) : TGrant.mark (k0 + k * 7) = ⟨(k0 : Int) + k * 7, (k0 : Int) + k * 7 + 1, (k0 : Int) + k * 7 + 2, (k0 : Int) + k * 7 + 3, (k0 : Int) + k * 7 + 4, (k0 : Int) + k * 7 + 5, ((((k0 : Int) + k * 7 + 6) % 3) == 0)⟩ := by
 unfold TGrant.mark
 congr 1 <;> (first | omega | (congr 2; omega) | skip)
section
variable {H : Type} {enc : TypeId × Value → H} {w : World} {base fuel : Nat} {spare : Nat → Bool} {held : Bool}
theorem read_grant {cs : List Value} {y : DataW H × List MemPlace} (h : DataW.trod enc Try.prog w base spare held fuel 301 cs = some y) : ∃ x : TGrant, cs = x.cells ∧ x.fit := by
 obtain ⟨ys, n, _, _, hlen, hyl, hf⟩ := DataW.trod_struct Try.underlying301 h
 have hlen : cs.length = 7 := hlen.trans (by kernel_rfl)
 have hyl : ys.length = 6 := hyl
 have ci : Try.prog.cellsOf 3 = 1 := by kernel_rfl
 have cb : Try.prog.cellsOf 4 = 1 := by kernel_rfl
 have cPattern : Try.prog.cellsOf 206 = 2 := by kernel_rfl
 match cs, hlen with
 | [z0, z1, z2, z3, z4, z5, z6], _ =>
  have h0 : DataW.trod enc Try.prog w base spare held n 3 (([z0, z1, z2, z3, z4, z5, z6].drop 0).take (Try.prog.cellsOf 3)) = ys[0]? := hf 0 _ rfl
  rw [ci] at h0
  have h0' : DataW.trod enc Try.prog w base spare held n 3 [z0] = some (ys[0]'(by omega)) := h0.trans (List.getElem?_eq_getElem (by omega))
  obtain ⟨x0, e0, _, w0⟩ := DataW.trod_int Try.underlying3 h0'
  have h1 : DataW.trod enc Try.prog w base spare held n 206 (([z0, z1, z2, z3, z4, z5, z6].drop 1).take (Try.prog.cellsOf 206)) = ys[1]? := hf 1 _ rfl
  rw [cPattern] at h1
  have h1' : DataW.trod enc Try.prog w base spare held n 206 [z1, z2] = some (ys[1]'(by omega)) := h1.trans (List.getElem?_eq_getElem (by omega))
  obtain ⟨p1, e1, g1⟩ := read_pattern h1'
  simp only [TPattern.cells, List.cons.injEq, and_true] at e1
  have h2 : DataW.trod enc Try.prog w base spare held n 3 (([z0, z1, z2, z3, z4, z5, z6].drop 3).take (Try.prog.cellsOf 3)) = ys[2]? := hf 2 _ rfl
  rw [ci] at h2
  have h2' : DataW.trod enc Try.prog w base spare held n 3 [z3] = some (ys[2]'(by omega)) := h2.trans (List.getElem?_eq_getElem (by omega))
  obtain ⟨x3, e2, _, w2⟩ := DataW.trod_int Try.underlying3 h2'
  have h3 : DataW.trod enc Try.prog w base spare held n 3 (([z0, z1, z2, z3, z4, z5, z6].drop 4).take (Try.prog.cellsOf 3)) = ys[3]? := hf 3 _ rfl
  rw [ci] at h3
  have h3' : DataW.trod enc Try.prog w base spare held n 3 [z4] = some (ys[3]'(by omega)) := h3.trans (List.getElem?_eq_getElem (by omega))
  obtain ⟨x4, e3, _, w3⟩ := DataW.trod_int Try.underlying3 h3'
  have h4 : DataW.trod enc Try.prog w base spare held n 3 (([z0, z1, z2, z3, z4, z5, z6].drop 5).take (Try.prog.cellsOf 3)) = ys[4]? := hf 4 _ rfl
  rw [ci] at h4
  have h4' : DataW.trod enc Try.prog w base spare held n 3 [z5] = some (ys[4]'(by omega)) := h4.trans (List.getElem?_eq_getElem (by omega))
  obtain ⟨x5, e4, _, w4⟩ := DataW.trod_int Try.underlying3 h4'
  have h5 : DataW.trod enc Try.prog w base spare held n 4 (([z0, z1, z2, z3, z4, z5, z6].drop 6).take (Try.prog.cellsOf 4)) = ys[5]? := hf 5 _ rfl
  rw [cb] at h5
  have h5' : DataW.trod enc Try.prog w base spare held n 4 [z6] = some (ys[5]'(by omega)) := h5.trans (List.getElem?_eq_getElem (by omega))
  obtain ⟨x6, e5, _⟩ := DataW.trod_bool Try.underlying4 h5'
  exact ⟨⟨x0, p1.f0, p1.f1, x3, x4, x5, x6⟩, by simp_all [TGrant.cells], bounds_i64 w0, g1.1, g1.2, bounds_i64 w2, bounds_i64 w3, bounds_i64 w4⟩
theorem open_grant_list {W : World} {base' : Nat} {v : Value} {d : DataW H} {p : List MemPlace} (hv : Value.okWide Try.prog W .any base' 231 v)
  (h : DataW.Trod enc Try.prog W 0 (fun _ => true) true 231 v d p) (hlt : ∀ x ∈ p, x.block < W.heap.size) :
  ∃ (A : Option Addr) (n cap : Nat) (l : List TGrant), v = .slice A n cap ∧ n ≤ maxLen ∧ Rd W 0 W.heap.size 7 A n (cGrant l) ∧ Hid (cGrantOk l) := by
 refine open_rows_list (c := TGrant.cells) (fit := TGrant.fit) Try.underlying231 (by kernel_rfl) TGrant.len (by decide) (fun h => read_grant h) hv h hlt
end

section
variable {H : Type} {enc : TypeId × Value → H}
theorem open_grant {W : World} {base : Nat} {v : Value} {d : DataW H} {p : List MemPlace} (hv : Value.okWide Try.prog W .any base 301 v)
  (h : DataW.Trod enc Try.prog W 0 (fun _ => true) true 301 v d p) : ∃ x : TGrant, v = .agg #[.int .i64 x.f0, .int .i64 x.f1, .int .i64 x.f2, .int .i64 x.f3, .int .i64 x.f4, .int .i64 x.f5, .bool x.f6] ∧ Hid x.fit := by
 obtain ⟨cs, rfl, hsz⟩ := okWide_struct Try.underlying301 hv
 obtain ⟨fuel, hf⟩ := h
 obtain ⟨x, hx, hfit⟩ := read_grant hf
 refine ⟨x, ?_, hfit⟩
 have hx' : cs.toList = x.cells := hx
 rw [show cs = x.cells.toArray by rw [← hx']]
 rfl
end

end Go.Proofs.Ytfceddgacefejaa
