/- The laws' own helpers on slices of Site: copied, compared, marked, and the marks looked for. -/
import Derived.Test.YtafekceggpbnlaaGreatRws
import Derived.StillTailTactics
namespace Go.Proofs.YtafekceggpbnlaaGreat
open Go Go.ChangeShapes Go.WideShapes Go.ChangeAt Go.RowKit Go.Lib
set_option linter.unusedVariables false
set_option maxRecDepth 100000

structure TSite where
  f0 : Int
  f1 : Int
deriving DecidableEq
def TSite.cells (x : TSite) : List Value := [.int .i64 x.f0, .int .i64 x.f1]
abbrev cSite (d : List TSite) : List Value := d.flatMap TSite.cells
theorem TSite.len (x : TSite) : x.cells.length = 2 := rfl
def TSite.fit (x : TSite) : Prop := (-9223372036854775808 ≤ x.f0 ∧ x.f0 ≤ 9223372036854775807) ∧ (-9223372036854775808 ≤ x.f1 ∧ x.f1 ≤ 9223372036854775807)
def cSiteOk (d : List TSite) : Prop := ∀ x ∈ d, TSite.fit x
/-- The marks of one element, from k on. -/
def TSite.mark (k : Nat) : TSite := ⟨((k + 0 : Nat) : Int), ((k + 1 : Nat) : Int)⟩
def TSite.marks (k n : Nat) : List TSite := (List.range n).map fun i => TSite.mark (k + i * 2)
theorem TSite.marks_len (k n : Nat) : (TSite.marks k n).length = n := by simp [TSite.marks]
theorem TSite.marks_get (k n i : Nat) (h : i < n) : (TSite.marks k n)[i]? = some (TSite.mark (k + i * 2)) := by simp [TSite.marks, h]

theorem to_site_one (x : TSite) (w : World) :
    Calls Tryz.prog 28 #[.agg #[.int .i64 x.f0, .int .i64 x.f1]] w (Says (.agg #[.int .i64 x.f0, .int .i64 x.f1]) w) := by
  go_enter Tryz.func28, Tryz.ntmps28
  go_wp2
  exact bodyPost_ret (v := .agg #[.int .i64 x.f0, .int .i64 x.f1]) (by simp [results, Tryz.results28, go_sem]) rfl
    ⟨rfl, by repeat (first | exact Below.refl _ _ | (refine Below.alloc ?_ (by simp <;> omega) _))⟩

theorem eq_site_one (x : TSite) (w : World) :
    Calls Tryz.prog 31 #[.agg #[.int .i64 x.f0, .int .i64 x.f1], .agg #[.int .i64 x.f0, .int .i64 x.f1]] w (Says (.bool true) w) := by
  go_enter Tryz.func31, Tryz.ntmps31
  go_wp2
  go_ret
  exact ⟨rfl, by repeat (first | exact Below.refl _ _ | (refine Below.alloc ?_ (by simp <;> omega) _) | (refine below_dN ?_ _))⟩

theorem eq_site_same (l : List TSite) (A A' : Option Addr) (n n' c c' lo hi lo' hi' : Nat) (w : World) (hn : n ≤ 17592186044416) (hn' : n' ≤ 17592186044416) (hr : Rd w lo hi 2 A n (cSite l)) (hr' : Rd w lo' hi' 2 A' n' (cSite l)) :
    Calls Tryz.prog 32 #[.slice A n c, .slice A' n' c'] w (Says (.bool true) w) := by
  have HL := Lib.hid (rd_len TSite.len hr (by decide))
  have HL' := Lib.hid (rd_len TSite.len hr' (by decide))
  obtain rfl : n' = n := by rw [← HL.out, ← HL'.out]
  have HR := Lib.hid hr
  have HR' := Lib.hid hr'
  clear hr hr' hn'
  go_enter Tryz.func32, Tryz.ntmps32
  go_wp2_with fail
  go_loopw [5] (fun i wr => ∃ k : Nat, k ≤ n' ∧ i = .int .i64 k ∧ Below w.heap.size w wr) (fun i _ => n' - (intOf i).toNat)
  case atStart => exact ⟨0, Nat.zero_le _, rfl, Below.refl _ _⟩
  case round =>
    obtain ⟨k, hk, rfl, hb⟩ := hrel
    have HB := Lib.hid hb
    by_cases hlt : k < n'
    · obtain ⟨b, off, x, rfl, _, _, hz, hc⟩ := rd_elem TSite.len (HR.out.new hb) HL.out hlt
      obtain ⟨b', off', x', rfl, _, _, hz', hc'⟩ := rd_elem TSite.len (HR'.out.new hb) HL'.out hlt
      obtain rfl : x = x' := Option.some.inj (hz.symm.trans hz')
      have c0 : wr.cell? ⟨b, off + k * 2, none⟩ = _ := hc 0 _ rfl
      have c1 := hc 1 _ rfl
      have c0' : wr.cell? ⟨b', off' + k * 2, none⟩ = _ := hc' 0 _ rfl
      have c1' := hc' 1 _ rfl
      clear hb hz hz' hc hc'
      go_wp2_with fail
      have HB2 := Lib.hid HB.out.drew
      go_still_tail 8, (by kernel_rfl)
      change wpList _ _ _ _ _ wr.drew
      generalize wr.drew = w2 at HB2 ⊢
      go_wp2_with fail
      refine (eq_site_one x _).mono ?_
      rintro e w1 ⟨rfl, hb1⟩
      have HB1 := Lib.hid (below_trans HB2.out hb1 (Nat.le_refl _))
      clear hb1
      go_wp2_with fail
      go_roundw
      case rel => exact ⟨k + 1, by omega, by go_num, HB1.out⟩
      case measure => simp [intOf]; omega
    · clear hb
      obtain rfl : k = n' := by omega
      go_wp2_with fail
      go_ret
      exact ⟨rfl, HB.out⟩

theorem mark_site (xs : List Value) (A : Option Addr) (n c lo hi k0 : Nat) (w : World) (hn : n ≤ 17179869184) (hk0 : k0 ≤ 17592186044416) (hr : Fr w lo hi 35 2 A n c xs) :
    Calls Tryz.prog 45 #[.slice A n c, .int .i64 (k0 : Int)] w (fun e w' => e = .returned (.int .i64 ((k0 + n * 2 : Nat) : Int)) ∧ Fr w' lo hi 35 2 A n c (cSite (TSite.marks k0 n)) ∧ Chg lo hi w w' ∧ w'.heap.size = w.heap.size) := by
  by_cases h0 : 0 < n
  · obtain ⟨g, cap, rfl, hlo, hhi, hcap, rfl, hcm, f, hrow, hf⟩ := hr.row h0
    have HR := Lib.hid hrow
    clear hrow hf hr
    go_enter Tryz.func45, Tryz.ntmps45
    go_wp2_with fail
    go_loopw [1, 5] (fun q i wr => ∃ k : Nat, k ≤ n ∧ i = .int .i64 k ∧ q = .int .i64 ((k0 + k * 2 : Nat) : Int) ∧ Pre wr g 35 (c * 2) (cSite (TSite.marks k0 n)) (k * 2) ∧ Chg lo hi w wr ∧ wr.heap.size = w.heap.size) (fun _ i _ => n - (intOf i).toNat)
    case atStart => exact ⟨0, Nat.zero_le _, rfl, by simp, (pre_row HR.out).at_ (by omega), Chg.refl _ _ _, rfl⟩
    case round =>
      obtain ⟨k, hk, rfl, rfl, hrow, hb, hs⟩ := hrel
      have HB := Lib.hid hb
      have HS := Lib.hid hs
      by_cases hlt : k < n
      · have hcc : k * 2 + 2 ≤ c * 2 := by omega
        obtain ⟨q0, d0⟩ := hrow.cell (j := k * 2) (by omega)
        obtain ⟨q1, d1⟩ := hrow.cell (j := k * 2 + 1) (by omega)
        have g0 := hrow.frozen (k * 2)
        have g1 := hrow.frozen (k * 2 + 1)
        have HW := Lib.hid hrow
        have HG := Lib.hid (fun j u => flat_get TSite.len (TSite.marks k0 n) k j _ u (TSite.marks_get k0 n k hlt))
        clear hrow hb hs
        go_wp2_with fail
        go_roundw
        case rel =>
          refine ⟨k + 1, by omega, by go_num, by go_num, ?_, ?_, ?_⟩
          · exact ((HW.out.step (HG.out 0 _ rfl)).step (HG.out 1 _ rfl)).at_ (by omega)
          · exact ((HB.out.set_ (.inl ⟨hlo, hhi⟩) _).set_ (.inl ⟨hlo, hhi⟩) _)
          · simpa [World.setCell] using HS.out
        case measure => simp [intOf]; omega
      · obtain rfl : k = n := by omega
        have HW := Lib.hid hrow
        clear hrow hb hs
        go_wp2_with fail
        go_ret
        exact ⟨rfl, HW.out.frcap hlo hhi hcap hcm (by rw [flat_len TSite.len, TSite.marks_len]), HB.out, HS.out⟩
  · obtain rfl : n = 0 := by omega
    have HR := Lib.hid hr
    clear hr h0
    go_enter Tryz.func45, Tryz.ntmps45
    go_wp2_with fail
    go_loopw [1, 5] (fun q i wr => q = .int .i64 (k0 : Int) ∧ i = .int .i64 0 ∧ wr = w) (fun _ i _ => 0)
    case atStart => exact ⟨rfl, rfl, rfl⟩
    case round =>
      obtain ⟨rfl, rfl, rfl⟩ := hrel
      go_wp2_with fail
      go_ret
      exact ⟨by simp, by
        have hx : xs = [] := List.eq_nil_of_length_eq_zero (by simpa using HR.out.len)
        subst hx
        simpa [TSite.marks] using HR.out, Chg.refl _ _ _, rfl⟩

theorem TSite.mark_eq (k0 k : Nat) : TSite.mark (k0 + k * 2) = ⟨(k0 : Int) + k * 2, (k0 : Int) + k * 2 + 1⟩ := by
  unfold TSite.mark
  congr 1 <;> (first | omega | (congr 2; omega) | skip)
theorem held_site (A : Option Addr) (n c lo hi k0 : Nat) (w : World) (hn : n ≤ 17179869184) (hk0 : k0 ≤ 17592186044416) (hr : Rd w lo hi 2 A n (cSite (TSite.marks k0 n))) :
    Calls Tryz.prog 46 #[.slice A n c, .int .i64 (k0 : Int)] w (Quiet (.int .i64 ((k0 + n * 2 : Nat) : Int)) w) := by
  have HR := Lib.hid hr
  clear hr
  go_enter Tryz.func46, Tryz.ntmps46
  go_wp2_with fail
  go_loopw [1, 5] (fun q i wr => ∃ k : Nat, k ≤ n ∧ i = .int .i64 k ∧ q = .int .i64 ((k0 + k * 2 : Nat) : Int) ∧ ∃ d, wr = w.drewN d) (fun _ i _ => n - (intOf i).toNat)
  case atStart => exact ⟨0, Nat.zero_le _, rfl, by simp, 0, rfl⟩
  case round =>
    obtain ⟨k, hk, rfl, rfl, d, rfl⟩ := hrel
    by_cases hlt : k < n
    · obtain ⟨b, off, x, rfl, _, _, hz, hc⟩ := rd_elem TSite.len HR.out (TSite.marks_len k0 n) hlt
      rw [TSite.marks_get _ _ _ hlt, TSite.mark_eq] at hz
      injection hz with hz
      subst hz
      have c0 : w.cell? ⟨b, off + k * 2, none⟩ = some (.int .i64 ((k0 : Int) + k * 2)) := hc 0 _ rfl
      have c1 : w.cell? ⟨b, off + k * 2 + 1, none⟩ = some (.int .i64 ((k0 : Int) + k * 2 + 1)) := hc 1 _ rfl
      clear hc
      go_wp2_with fail
      go_roundw
      case rel => exact ⟨k + 1, by omega, by go_num, by go_num, _, rfl⟩
      case measure => simp [intOf]; omega
    · obtain rfl : k = n := by omega
      go_wp2_with fail
      go_ret
      exact ⟨rfl, _, rfl⟩

section
variable {H : Type} {enc : TypeId × Value → H} {w : World} {base fuel : Nat} {spare : Nat → Bool} {held : Bool}
theorem read_site {cs : List Value} {y : DataW H × List MemPlace} (h : DataW.trod enc Tryz.prog w base spare held fuel 31 cs = some y) : ∃ x : TSite, cs = x.cells ∧ x.fit := by
  obtain ⟨ys, n, _, _, hlen, hyl, hf⟩ := DataW.trod_struct Tryz.underlying31 h
  have hlen : cs.length = 2 := hlen.trans (by kernel_rfl)
  have hyl : ys.length = 2 := hyl
  have ci : Tryz.prog.cellsOf 3 = 1 := by kernel_rfl
  match cs, hlen with
  | [z0, z1], _ =>
    have h0 : DataW.trod enc Tryz.prog w base spare held n 3 (([z0, z1].drop 0).take (Tryz.prog.cellsOf 3)) = ys[0]? := hf 0 _ rfl
    rw [ci] at h0
    have h0' : DataW.trod enc Tryz.prog w base spare held n 3 [z0] = some (ys[0]'(by omega)) := h0.trans (List.getElem?_eq_getElem (by omega))
    obtain ⟨x0, e0, _, w0⟩ := DataW.trod_int Tryz.underlying3 h0'
    have h1 : DataW.trod enc Tryz.prog w base spare held n 3 (([z0, z1].drop 1).take (Tryz.prog.cellsOf 3)) = ys[1]? := hf 1 _ rfl
    rw [ci] at h1
    have h1' : DataW.trod enc Tryz.prog w base spare held n 3 [z1] = some (ys[1]'(by omega)) := h1.trans (List.getElem?_eq_getElem (by omega))
    obtain ⟨x1, e1, _, w1⟩ := DataW.trod_int Tryz.underlying3 h1'
    exact ⟨⟨x0, x1⟩, by simp_all [TSite.cells], bounds_i64 w0, bounds_i64 w1⟩
end

section
variable {H : Type} {enc : TypeId × Value → H}
theorem open_site {W : World} {base : Nat} {v : Value} {d : DataW H} {p : List MemPlace} (hv : Value.okWide Tryz.prog W .any base 31 v)
    (h : DataW.Trod enc Tryz.prog W 0 (fun _ => true) true 31 v d p) : ∃ x : TSite, v = .agg #[.int .i64 x.f0, .int .i64 x.f1] ∧ Hid x.fit := by
  obtain ⟨cs, rfl, hsz⟩ := okWide_struct Tryz.underlying31 hv
  obtain ⟨fuel, hf⟩ := h
  obtain ⟨x, hx, hfit⟩ := read_site hf
  refine ⟨x, ?_, hfit⟩
  have hx' : cs.toList = x.cells := hx
  rw [show cs = x.cells.toArray by rw [← hx']]
  rfl
end

theorem equalIn_Site (x y : TSite) (d : Nat) (w : World) :
    (Op.equalIn (d + 2) 35 (.agg #[.int .i64 x.f0, .int .i64 x.f1]) (.agg #[.int .i64 y.f0, .int .i64 y.f1])).run Tryz.prog w = .ok (decide (x = y)) w := by
  rw [run_equalIn_agg w (d + 1) 35 _ _ (by kernel_rfl) (by kernel_rfl)]
  simp only [Program.fieldsOf, Tryz.underlying35]
  rw [eqf_int (by decide) rfl rfl rfl, eqf_int (by decide) rfl rfl rfl]
  simp only [Op.eqFields, Sem.run_pure]
  have he : decide (x = y) = (x.f0 == y.f0 && (x.f1 == y.f1)) := by
    cases x; cases y
    simp
    rw [Bool.eq_iff_iff]; simp
  rw [he]
  cases x.f0 == y.f0 <;> cases x.f1 == y.f1 <;> rfl
theorem neq_Site (x y : TSite) (w : World) : (binOp .neq 35 (.agg #[.int .i64 x.f0, .int .i64 x.f1]) (.agg #[.int .i64 y.f0, .int .i64 y.f1])).run Tryz.prog w = .ok (.bool (!decide (x = y))) w := by
  rw [run_neq_struct, equalIn_Site x y 9998 w]; rfl
theorem eql_Site (x y : TSite) (w : World) : (binOp .eql 35 (.agg #[.int .i64 x.f0, .int .i64 x.f1]) (.agg #[.int .i64 y.f0, .int .i64 y.f1])).run Tryz.prog w = .ok (.bool (decide (x = y))) w := by
  rw [run_eql_struct, equalIn_Site x y 9998 w]; rfl

end Go.Proofs.YtafekceggpbnlaaGreat
