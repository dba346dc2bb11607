/- slices.EqualFunc at tabs and packages. No condition of its own. -/
import Derived.Test.YtfhoemgpilpapaaDTab
import Derived.Test.YtfhoemgpilpapaaDPackage
import Derived.Test.YtfhoemgpilpapaaEqTab
import Derived.Test.YtfhoemgpilpapaaEqPackage
import Derived.Deep.LoopGhost
namespace Go.Proofs.Ytfhoemgpilpapaa
open Go Go.ChangeShapes Go.WideShapes Go.ChangeAt Go.RowKit Go.Lib
set_option linter.unusedVariables false
set_option linter.unusedSimpArgs false
set_option maxRecDepth 100000
set_option maxHeartbeats 4000000
def eqL {α : Type} (f : α → α → Bool) (l l' : List α) : Bool := decide (l.length = l'.length) && (l.zip l').all fun p => f p.1 p.2
theorem eqL_len {α : Type} {f : α → α → Bool} {l l' : List α} (h : l.length ≠ l'.length) : eqL f l l' = false := by unfold eqL; rw [decide_eq_false h]; rfl
theorem eqL_no {α : Type} {f : α → α → Bool} {l l' : List α} {k : Nat} {x y : α} (hx : l[k]? = some x) (hy : l'[k]? = some y) (h : f x y = false) : eqL f l l' = false := by
  unfold eqL
  rw [Bool.and_eq_false_iff]
  right
  rw [List.all_eq_false]
  refine ⟨(x, y), List.mem_of_getElem? (i := k) ?_, by simp [h]⟩
  rw [List.getElem?_zip_eq_some]
  exact ⟨hx, hy⟩
theorem eqL_yes {α : Type} {f : α → α → Bool} {l l' : List α} (hl : l.length = l'.length) (h : ∀ (k : Nat) (x y : α), l[k]? = some x → l'[k]? = some y → f x y = true) : eqL f l l' = true := by
  unfold eqL
  rw [decide_eq_true hl, Bool.true_and, List.all_eq_true]
  intro p hp
  obtain ⟨k, hk, he⟩ := List.mem_iff_getElem.1 hp
  have h2 : (l.zip l')[k]? = some p := by rw [List.getElem?_eq_getElem hk, he]
  rw [List.getElem?_zip_eq_some] at h2
  exact h k p.1 p.2 h2.1 h2.2
def mEqTabD (t u : MTab) : Bool := mEqTab t.s0 t.l1 t.l2 t.l3 t.p4 u.s0 u.l1 u.l2 u.l3 u.p4
set_option maxHeartbeats 8000000 in
theorem eqf_tab (xs ys : List DTab) (A A' : Option Addr) (n n' c c' lo hi lo' hi' : Nat) (w : World) (hn : n ≤ 1048576) (hn' : n' ≤ 1048576) (hz : ∀ x ∈ xs, x.dat.sz ≤ 1048576) (hz' : ∀ x ∈ ys, x.dat.sz ≤ 1048576) (ho : ∀ x ∈ xs, x.dat.ok) (ho' : ∀ x ∈ ys, x.dat.ok) (hr : RdTab w lo hi A n xs) (hr' : RdTab w lo' hi' A' n' ys) :
    Calls Try.prog 85 #[.slice A n c, .slice A' n' c', .func (.func 86) #[] #[]] w (Says (.bool (eqL mEqTabD (xs.map DTab.dat) (ys.map DTab.dat))) w) := by
  have HL := Lib.hid hr.len
  have HL' := Lib.hid hr'.len
  by_cases hnn : n = n'
  · subst hnn
    have HR := Lib.hid hr
    have HR' := Lib.hid hr'
    have HZ := Lib.hid (fun x hx => And.intro (hz x hx) (ho x hx))
    have HZ' := Lib.hid (fun x hx => And.intro (hz' x hx) (ho' x hx))
    have HY := Lib.hid (fun (h : ∀ (k : Nat) (x y : MTab), (xs.map DTab.dat)[k]? = some x → (ys.map DTab.dat)[k]? = some y → mEqTabD x y = true) => eqL_yes (f := mEqTabD) (l := xs.map DTab.dat) (l' := ys.map DTab.dat) (by simp [HL.out, HL'.out]) h)
    have HNo := Lib.hid (fun (k : Nat) (x y : DTab) (h1 : xs[k]? = some x) (h2 : ys[k]? = some y) (h : mEqTabD x.dat y.dat = false) => eqL_no (f := mEqTabD) (l := xs.map DTab.dat) (l' := ys.map DTab.dat) (by rw [List.getElem?_map, h1]; rfl) (by rw [List.getElem?_map, h2]; rfl) h)
    clear hr hr' hz hz' ho ho'
    generalize hE : eqL mEqTabD (xs.map DTab.dat) (ys.map DTab.dat) = E at HY HNo ⊢
    clear hE
    go_enter Try.func85, Try.ntmps85
    go_wp2_with fail
    go_loopg [17] n (fun gg i wr => ∃ k : Nat, k ≤ n ∧ n - k ≤ gg ∧ i = .int .i64 k ∧ Hid (∀ (j : Nat) (x y : DTab), j < k → xs[j]? = some x → ys[j]? = some y → mEqTabD x.dat y.dat = true) ∧ Hid (Below w.heap.size w wr))
    case atStart => exact ⟨0, Nat.zero_le _, by omega, rfl, Lib.hid (fun j _ _ h => absurd h (by omega)), Lib.hid (Below.refl _ _)⟩
    case round =>
      obtain ⟨k, hk, hg, rfl, HF, HB⟩ := hrel
      have HS := Lib.hid HB.out.size
      by_cases hlt : k < n
      · obtain ⟨b, off, x, rfl, _, _, hzz, hc⟩ := rd_elem DTab.len (HR.out.new HB.out).2.1 HL.out hlt
        obtain ⟨b', off', y, rfl, _, _, hzz', hc'⟩ := rd_elem DTab.len (HR'.out.new HB.out).2.1 HL'.out hlt
        have hx := (HR.out.new HB.out).at_ hzz
        have hy := (HR'.out.new HB.out).at_ hzz'
        have hxz := HZ.out x (List.mem_of_getElem? hzz)
        have hyz := HZ'.out y (List.mem_of_getElem? hzz')
        have hxs := hxz.1
        have hys := hyz.1
        rw [DTab.rd_sz hx] at hxs
        rw [DTab.rd_sz hy] at hys
        have HC := Lib.hid (fun W (hb : Below wr.heap.size wr W) => impl_EqualTabs x.s0 x.l1 x.A1 x.n1 x.c1 _ _ x.l2 x.A2 x.n2 x.c2 _ _ x.l3 x.A3 x.n3 x.c3 _ _ x.p4 y.s0 y.l1 y.A1 y.n1 y.c1 _ _ y.l2 y.A2 y.n2 y.c2 _ _ y.l3 y.A3 y.n3 y.c3 _ _ y.p4 W (show x.n1 ≤ 1048576 by omega) ((DTab.rd_keep hx fun b _ _ h3 => hb.block b h3).1.2) (Lib.hid hxz.2.2.1) (show x.n2 ≤ 1048576 by omega) ((DTab.rd_keep hx fun b _ _ h3 => hb.block b h3).2.1.2) (Lib.hid hxz.2.2.2.1) (show x.n3 ≤ 1048576 by omega) ((DTab.rd_keep hx fun b _ _ h3 => hb.block b h3).2.2.2) (Lib.hid hxz.2.2.2.2.1) (show y.n1 ≤ 1048576 by omega) ((DTab.rd_keep hy fun b _ _ h3 => hb.block b h3).1.2) (Lib.hid hyz.2.2.1) (show y.n2 ≤ 1048576 by omega) ((DTab.rd_keep hy fun b _ _ h3 => hb.block b h3).2.1.2) (Lib.hid hyz.2.2.2.1) (show y.n3 ≤ 1048576 by omega) ((DTab.rd_keep hy fun b _ _ h3 => hb.block b h3).2.2.2) (Lib.hid hyz.2.2.2.2.1))
        have HX := Lib.hid hzz
        have HX' := Lib.hid hzz'
        have c0 : wr.cell? ⟨b, off + k * 6, none⟩ = some (.int .i64 x.s0.f0) := hc 0 _ rfl
        have c1 : wr.cell? ⟨b, off + k * 6 + 1, none⟩ = some (.int .i64 x.s0.f1) := hc 1 _ rfl
        have c2 : wr.cell? ⟨b, off + k * 6 + 2, none⟩ = some (.slice x.A1 x.n1 x.c1) := hc 2 _ rfl
        have c3 : wr.cell? ⟨b, off + k * 6 + 3, none⟩ = some (.slice x.A2 x.n2 x.c2) := hc 3 _ rfl
        have c4 : wr.cell? ⟨b, off + k * 6 + 4, none⟩ = some (.slice x.A3 x.n3 x.c3) := hc 4 _ rfl
        have c5 : wr.cell? ⟨b, off + k * 6 + 5, none⟩ = some (.int .i64 x.p4) := hc 5 _ rfl
        have e0 : wr.cell? ⟨b', off' + k * 6, none⟩ = some (.int .i64 y.s0.f0) := hc' 0 _ rfl
        have e1 : wr.cell? ⟨b', off' + k * 6 + 1, none⟩ = some (.int .i64 y.s0.f1) := hc' 1 _ rfl
        have e2 : wr.cell? ⟨b', off' + k * 6 + 2, none⟩ = some (.slice y.A1 y.n1 y.c1) := hc' 2 _ rfl
        have e3 : wr.cell? ⟨b', off' + k * 6 + 3, none⟩ = some (.slice y.A2 y.n2 y.c2) := hc' 3 _ rfl
        have e4 : wr.cell? ⟨b', off' + k * 6 + 4, none⟩ = some (.slice y.A3 y.n3 y.c3) := hc' 4 _ rfl
        have e5 : wr.cell? ⟨b', off' + k * 6 + 5, none⟩ = some (.int .i64 y.p4) := hc' 5 _ rfl
        have hbl : b < wr.heap.size := World.block_lt_of_cell? _ _ c0
        have hbl' : b' < wr.heap.size := World.block_lt_of_cell? _ _ e0
        change Hid (∀ W, Below wr.heap.size wr W → Calls _ _ _ W (Says (.bool (mEqTabD x.dat y.dat)) W)) at HC
        have HNk := Lib.hid (HNo.out k x y hzz hzz')
        have HFk := Lib.hid (fun (h : mEqTabD x.dat y.dat = true) => (fun j x' y' (hj : j < k + 1) (h1 : xs[j]? = some x') (h2 : ys[j]? = some y') => show mEqTabD x'.dat y'.dat = true from by
          by_cases e : j = k
          · subst e
            rw [hzz] at h1; rw [hzz'] at h2
            rw [← Option.some.inj h1, ← Option.some.inj h2]; exact h
          · exact HF.out j x' y' (by omega) h1 h2))
        clear hzz hzz' hc hc' hx hy hxz hyz hxs hys
        generalize mEqTabD x.dat y.dat = q at HC HNk HFk
        go_wp2_with fail
        refine (HC.out _ (((Below.refl wr.heap.size wr).alloc (Nat.le_refl _) _).alloc (by simp) _)).mono ?_
        rintro e w1 ⟨rfl, hb1⟩
        have HB1 := Lib.hid (below_trans ((HB.out.alloc HS.out _).alloc (by have := HS.out; simp; omega) _) hb1 (Nat.le_refl _))
        clear hb1 c0 e0 c1 e1 c2 e2 c3 e3 c4 e4 c5 e5
        cases q
        · have HE := Lib.hid (HNk.out rfl)
          go_wp2_with fail
          go_ret
          exact ⟨by rw [HE.out]; rfl, HB1.out⟩
        · have HE := Lib.hid (HFk.out rfl)
          go_wp2_with fail
          go_roundg (n - (k + 1))
          case measure => omega
          case rel => exact ⟨k + 1, by omega, by omega, by go_num, HE, HB1⟩
      · obtain rfl : k = n := by omega
        have HE := Lib.hid (HY.out (fun j x y h1 h2 => by
          rw [List.getElem?_map] at h1 h2
          obtain ⟨x', h3, rfl⟩ := Option.map_eq_some_iff.1 h1
          obtain ⟨y', h4, rfl⟩ := Option.map_eq_some_iff.1 h2
          exact HF.out j x' y' (by have := (List.getElem?_eq_some_iff.1 h3).1; have := HL.out; omega) h3 h4))
        go_wp2_with fail
        go_ret
        exact ⟨by rw [HE.out]; rfl, HB.out⟩
  · rw [eqL_len (by simp only [List.length_map]; rw [HL.out, HL'.out]; exact hnn)]
    have hne : ((n : Int) != (n' : Int)) = true := by simp; omega
    clear hr hr' hz hz' ho ho'
    go_enter Try.func85, Try.ntmps85
    go_wp2_with fail
    go_ret
    exact ⟨rfl, Below.refl _ _⟩
def mEqPackageD (t u : MPackage) : Bool := mEqPackage t.p0 t.p1 t.p2 t.l3 t.l4 t.l5 t.l6 t.p7 u.p0 u.p1 u.p2 u.l3 u.l4 u.l5 u.l6 u.p7
set_option maxHeartbeats 8000000 in
theorem eqf_package (xs ys : List DPackage) (A A' : Option Addr) (n n' c c' lo hi lo' hi' : Nat) (w : World) (hn : n ≤ 1048576) (hn' : n' ≤ 1048576) (hz : ∀ x ∈ xs, x.dat.sz ≤ 1048576) (hz' : ∀ x ∈ ys, x.dat.sz ≤ 1048576) (ho : ∀ x ∈ xs, x.dat.ok) (ho' : ∀ x ∈ ys, x.dat.ok) (hr : RdPackage w lo hi A n xs) (hr' : RdPackage w lo' hi' A' n' ys) :
    Calls Try.prog 87 #[.slice A n c, .slice A' n' c', .func (.func 88) #[] #[]] w (Says (.bool (eqL mEqPackageD (xs.map DPackage.dat) (ys.map DPackage.dat))) w) := by
  have HL := Lib.hid hr.len
  have HL' := Lib.hid hr'.len
  by_cases hnn : n = n'
  · subst hnn
    have HR := Lib.hid hr
    have HR' := Lib.hid hr'
    have HZ := Lib.hid (fun x hx => And.intro (hz x hx) (ho x hx))
    have HZ' := Lib.hid (fun x hx => And.intro (hz' x hx) (ho' x hx))
    have HY := Lib.hid (fun (h : ∀ (k : Nat) (x y : MPackage), (xs.map DPackage.dat)[k]? = some x → (ys.map DPackage.dat)[k]? = some y → mEqPackageD x y = true) => eqL_yes (f := mEqPackageD) (l := xs.map DPackage.dat) (l' := ys.map DPackage.dat) (by simp [HL.out, HL'.out]) h)
    have HNo := Lib.hid (fun (k : Nat) (x y : DPackage) (h1 : xs[k]? = some x) (h2 : ys[k]? = some y) (h : mEqPackageD x.dat y.dat = false) => eqL_no (f := mEqPackageD) (l := xs.map DPackage.dat) (l' := ys.map DPackage.dat) (by rw [List.getElem?_map, h1]; rfl) (by rw [List.getElem?_map, h2]; rfl) h)
    clear hr hr' hz hz' ho ho'
    generalize hE : eqL mEqPackageD (xs.map DPackage.dat) (ys.map DPackage.dat) = E at HY HNo ⊢
    clear hE
    go_enter Try.func87, Try.ntmps87
    go_wp2_with fail
    go_loopg [17] n (fun gg i wr => ∃ k : Nat, k ≤ n ∧ n - k ≤ gg ∧ i = .int .i64 k ∧ Hid (∀ (j : Nat) (x y : DPackage), j < k → xs[j]? = some x → ys[j]? = some y → mEqPackageD x.dat y.dat = true) ∧ Hid (Below w.heap.size w wr))
    case atStart => exact ⟨0, Nat.zero_le _, by omega, rfl, Lib.hid (fun j _ _ h => absurd h (by omega)), Lib.hid (Below.refl _ _)⟩
    case round =>
      obtain ⟨k, hk, hg, rfl, HF, HB⟩ := hrel
      have HS := Lib.hid HB.out.size
      by_cases hlt : k < n
      · obtain ⟨b, off, x, rfl, _, _, hzz, hc⟩ := rd_elem DPackage.len (HR.out.new HB.out).2.1 HL.out hlt
        obtain ⟨b', off', y, rfl, _, _, hzz', hc'⟩ := rd_elem DPackage.len (HR'.out.new HB.out).2.1 HL'.out hlt
        have hx := (HR.out.new HB.out).at_ hzz
        have hy := (HR'.out.new HB.out).at_ hzz'
        have hxz := HZ.out x (List.mem_of_getElem? hzz)
        have hyz := HZ'.out y (List.mem_of_getElem? hzz')
        have hxs := hxz.1
        have hys := hyz.1
        rw [DPackage.rd_sz hx] at hxs
        rw [DPackage.rd_sz hy] at hys
        have HC := Lib.hid (fun W (hb : Below wr.heap.size wr W) => impl_EqualPackages x.p0 x.p1 x.p2 x.l3 x.A3 x.n3 x.c3 _ _ x.l4 x.A4 x.n4 x.c4 _ _ x.l5 x.A5 x.n5 x.c5 _ _ x.l6 x.A6 x.n6 x.c6 _ _ x.p7 y.p0 y.p1 y.p2 y.l3 y.A3 y.n3 y.c3 _ _ y.l4 y.A4 y.n4 y.c4 _ _ y.l5 y.A5 y.n5 y.c5 _ _ y.l6 y.A6 y.n6 y.c6 _ _ y.p7 W (show x.n3 ≤ 1048576 by omega) ((DPackage.rd_keep hx fun b _ _ h3 => hb.block b h3).1.2) (Lib.hid hxz.2.2.2.2.1) (show x.n4 ≤ 1048576 by omega) ((DPackage.rd_keep hx fun b _ _ h3 => hb.block b h3).2.1.2) (Lib.hid hxz.2.2.2.2.2.1) (show x.n5 ≤ 1048576 by omega) ((DPackage.rd_keep hx fun b _ _ h3 => hb.block b h3).2.2.1.2) (Lib.hid hxz.2.2.2.2.2.2.1) (show x.n6 ≤ 1048576 by omega) ((DPackage.rd_keep hx fun b _ _ h3 => hb.block b h3).2.2.2.2) (Lib.hid hxz.2.2.2.2.2.2.2.1) (show y.n3 ≤ 1048576 by omega) ((DPackage.rd_keep hy fun b _ _ h3 => hb.block b h3).1.2) (Lib.hid hyz.2.2.2.2.1) (show y.n4 ≤ 1048576 by omega) ((DPackage.rd_keep hy fun b _ _ h3 => hb.block b h3).2.1.2) (Lib.hid hyz.2.2.2.2.2.1) (show y.n5 ≤ 1048576 by omega) ((DPackage.rd_keep hy fun b _ _ h3 => hb.block b h3).2.2.1.2) (Lib.hid hyz.2.2.2.2.2.2.1) (show y.n6 ≤ 1048576 by omega) ((DPackage.rd_keep hy fun b _ _ h3 => hb.block b h3).2.2.2.2) (Lib.hid hyz.2.2.2.2.2.2.2.1))
        have HX := Lib.hid hzz
        have HX' := Lib.hid hzz'
        have c0 : wr.cell? ⟨b, off + k * 8, none⟩ = some (.int .i64 x.p0) := hc 0 _ rfl
        have c1 : wr.cell? ⟨b, off + k * 8 + 1, none⟩ = some (.int .i64 x.p1) := hc 1 _ rfl
        have c2 : wr.cell? ⟨b, off + k * 8 + 2, none⟩ = some (.int .i64 x.p2) := hc 2 _ rfl
        have c3 : wr.cell? ⟨b, off + k * 8 + 3, none⟩ = some (.slice x.A3 x.n3 x.c3) := hc 3 _ rfl
        have c4 : wr.cell? ⟨b, off + k * 8 + 4, none⟩ = some (.slice x.A4 x.n4 x.c4) := hc 4 _ rfl
        have c5 : wr.cell? ⟨b, off + k * 8 + 5, none⟩ = some (.slice x.A5 x.n5 x.c5) := hc 5 _ rfl
        have c6 : wr.cell? ⟨b, off + k * 8 + 6, none⟩ = some (.slice x.A6 x.n6 x.c6) := hc 6 _ rfl
        have c7 : wr.cell? ⟨b, off + k * 8 + 7, none⟩ = some (.int .i64 x.p7) := hc 7 _ rfl
        have e0 : wr.cell? ⟨b', off' + k * 8, none⟩ = some (.int .i64 y.p0) := hc' 0 _ rfl
        have e1 : wr.cell? ⟨b', off' + k * 8 + 1, none⟩ = some (.int .i64 y.p1) := hc' 1 _ rfl
        have e2 : wr.cell? ⟨b', off' + k * 8 + 2, none⟩ = some (.int .i64 y.p2) := hc' 2 _ rfl
        have e3 : wr.cell? ⟨b', off' + k * 8 + 3, none⟩ = some (.slice y.A3 y.n3 y.c3) := hc' 3 _ rfl
        have e4 : wr.cell? ⟨b', off' + k * 8 + 4, none⟩ = some (.slice y.A4 y.n4 y.c4) := hc' 4 _ rfl
        have e5 : wr.cell? ⟨b', off' + k * 8 + 5, none⟩ = some (.slice y.A5 y.n5 y.c5) := hc' 5 _ rfl
        have e6 : wr.cell? ⟨b', off' + k * 8 + 6, none⟩ = some (.slice y.A6 y.n6 y.c6) := hc' 6 _ rfl
        have e7 : wr.cell? ⟨b', off' + k * 8 + 7, none⟩ = some (.int .i64 y.p7) := hc' 7 _ rfl
        have hbl : b < wr.heap.size := World.block_lt_of_cell? _ _ c0
        have hbl' : b' < wr.heap.size := World.block_lt_of_cell? _ _ e0
        change Hid (∀ W, Below wr.heap.size wr W → Calls _ _ _ W (Says (.bool (mEqPackageD x.dat y.dat)) W)) at HC
        have HNk := Lib.hid (HNo.out k x y hzz hzz')
        have HFk := Lib.hid (fun (h : mEqPackageD x.dat y.dat = true) => (fun j x' y' (hj : j < k + 1) (h1 : xs[j]? = some x') (h2 : ys[j]? = some y') => show mEqPackageD x'.dat y'.dat = true from by
          by_cases e : j = k
          · subst e
            rw [hzz] at h1; rw [hzz'] at h2
            rw [← Option.some.inj h1, ← Option.some.inj h2]; exact h
          · exact HF.out j x' y' (by omega) h1 h2))
        clear hzz hzz' hc hc' hx hy hxz hyz hxs hys
        generalize mEqPackageD x.dat y.dat = q at HC HNk HFk
        go_wp2_with fail
        refine (HC.out _ (((Below.refl wr.heap.size wr).alloc (Nat.le_refl _) _).alloc (by simp) _)).mono ?_
        rintro e w1 ⟨rfl, hb1⟩
        have HB1 := Lib.hid (below_trans ((HB.out.alloc HS.out _).alloc (by have := HS.out; simp; omega) _) hb1 (Nat.le_refl _))
        clear hb1 c0 e0 c1 e1 c2 e2 c3 e3 c4 e4 c5 e5 c6 e6 c7 e7
        cases q
        · have HE := Lib.hid (HNk.out rfl)
          go_wp2_with fail
          go_ret
          exact ⟨by rw [HE.out]; rfl, HB1.out⟩
        · have HE := Lib.hid (HFk.out rfl)
          go_wp2_with fail
          go_roundg (n - (k + 1))
          case measure => omega
          case rel => exact ⟨k + 1, by omega, by omega, by go_num, HE, HB1⟩
      · obtain rfl : k = n := by omega
        have HE := Lib.hid (HY.out (fun j x y h1 h2 => by
          rw [List.getElem?_map] at h1 h2
          obtain ⟨x', h3, rfl⟩ := Option.map_eq_some_iff.1 h1
          obtain ⟨y', h4, rfl⟩ := Option.map_eq_some_iff.1 h2
          exact HF.out j x' y' (by have := (List.getElem?_eq_some_iff.1 h3).1; have := HL.out; omega) h3 h4))
        go_wp2_with fail
        go_ret
        exact ⟨by rw [HE.out]; rfl, HB.out⟩
  · rw [eqL_len (by simp only [List.length_map]; rw [HL.out, HL'.out]; exact hnn)]
    have hne : ((n : Int) != (n' : Int)) = true := by simp; omega
    clear hr hr' hz hz' ho ho'
    go_enter Try.func87, Try.ntmps87
    go_wp2_with fail
    go_ret
    exact ⟨rfl, Below.refl _ _⟩

end Go.Proofs.Ytfhoemgpilpapaa
